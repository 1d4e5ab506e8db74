import PyProof.Rows.All
import Wide.All
import OpenK.AllK
import Wide.FinOn
import HandS.ForMost
import HandS.Flow
import HandS.More
import HandS.IsInst
import HandS.Wide
import HandS.Style
import HandS.FStr
import HandS.Exc
import HandS.ExcInit
import HandS.ExcOwn
import HandS.ExcField
import HandS.ExcIs
import HandS.ClsMeth
import HandS.Codes
import HandS.TryOnly
import HandS.WordsExc
import KE.KExcIs
import KE.KIsAll
import KE.KExcSuper
import HandS.Small
import PySem.Challenge.RW_hangbridge_k07_sessions_step_by_step
set_option Elab.async false
set_option maxRecDepth 100000
set_option maxHeartbeats 4000000
/-! A heap as what stood and what is our own; steps of readings over it. -/
namespace Hb
open PySem L2

/-- B stood and is kept; L are our own objects, each once -/
structure Hs (B : Hp) (L : List (Addr × HO)) (H : Hp) : Prop where
  same : Same B H
  nd : (L.map (·.1)).Nodup
  out : ∀ e ∈ L, B e.1 = none
  at_ : ∀ e ∈ L, H e.1 = some e.2

section
variable {B H H' : Hp} {L R A : List (Addr × HO)} {p l : Addr} {o o' : HO} {i : Nat}
theorem Hs.start (H : Hp) : Hs H [] H := ⟨Same.refl H, List.nodup_nil, (fun _ h => nomatch h), (fun _ h => nomatch h)⟩
theorem Hs.of_same (h : Same B H) : Hs B [] H := ⟨h, List.nodup_nil, (fun _ h => nomatch h), (fun _ h => nomatch h)⟩
theorem Hs.get (hs : Hs B L H) (h : L[i]? = some (p, o)) : H p = some o := hs.at_ (p, o) (List.mem_of_getElem? h)
theorem Hs.mem (hs : Hs B L H) (h : (p, o) ∈ L) : H p = some o := hs.at_ (p, o) h
theorem Hs.g0 (hs : Hs B ((p, o) :: L) H) : H p = some o := hs.get (i := 0) rfl
theorem Hs.g1 {x} (hs : Hs B (x :: (p, o) :: L) H) : H p = some o := hs.get (i := 1) rfl
theorem Hs.g2 {x y} (hs : Hs B (x :: y :: (p, o) :: L) H) : H p = some o := hs.get (i := 2) rfl
theorem Hs.g3 {x y z} (hs : Hs B (x :: y :: z :: (p, o) :: L) H) : H p = some o := hs.get (i := 3) rfl
theorem Hs.g4 {x y z w} (hs : Hs B (x :: y :: z :: w :: (p, o) :: L) H) : H p = some o := hs.get (i := 4) rfl
theorem Hs.g5 {x y z w v} (hs : Hs B (x :: y :: z :: w :: v :: (p, o) :: L) H) : H p = some o := hs.get (i := 5) rfl
theorem Hs.g6 {x y z w v u} (hs : Hs B (x :: y :: z :: w :: v :: u :: (p, o) :: L) H) : H p = some o := hs.get (i := 6) rfl
theorem Hs.g7 {x y z w v u t} (hs : Hs B (x :: y :: z :: w :: v :: u :: t :: (p, o) :: L) H) : H p = some o := hs.get (i := 7) rfl
theorem Hs.g8 {x y z w v u t s} (hs : Hs B (x :: y :: z :: w :: v :: u :: t :: s :: (p, o) :: L) H) : H p = some o := hs.get (i := 8) rfl
theorem Hs.g9 {x y z w v u t s r} (hs : Hs B (x :: y :: z :: w :: v :: u :: t :: s :: r :: (p, o) :: L) H) : H p = some o := hs.get (i := 9) rfl
theorem Hs.g10 {x y z w v u t s r q} (hs : Hs B (x :: y :: z :: w :: v :: u :: t :: s :: r :: q :: (p, o) :: L) H) : H p = some o := hs.get (i := 10) rfl
theorem Hs.g11 {x y z w v u t s r q n} (hs : Hs B (x :: y :: z :: w :: v :: u :: t :: s :: r :: q :: n :: (p, o) :: L) H) : H p = some o := hs.get (i := 11) rfl
theorem Hs.g12 {x y z w v u t s r q n m} (hs : Hs B (x :: y :: z :: w :: v :: u :: t :: s :: r :: q :: n :: m :: (p, o) :: L) H) : H p = some o := hs.get (i := 12) rfl
theorem Hs.g13 {x y z w v u t s r q n m k} (hs : Hs B (x :: y :: z :: w :: v :: u :: t :: s :: r :: q :: n :: m :: k :: (p, o) :: L) H) : H p = some o := hs.get (i := 13) rfl
theorem Hs.g14 {x y z w v u t s r q n m k j} (hs : Hs B (x :: y :: z :: w :: v :: u :: t :: s :: r :: q :: n :: m :: k :: j :: (p, o) :: L) H) : H p = some o := hs.get (i := 14) rfl
theorem Hs.g15 {x y z w v u t s r q n m k j h} (hs : Hs B (x :: y :: z :: w :: v :: u :: t :: s :: r :: q :: n :: m :: k :: j :: h :: (p, o) :: L) H) : H p = some o := hs.get (i := 15) rfl
theorem Hs.sql {K : PySem.W.Frag} {xs : List V} (hs : Hs B L H) (h : SqL K B p xs) : SqL K H p xs := hs.same.seq h
theorem Hs.old (hs : Hs B L H) (h : B p = some o) : H p = some o := hs.same _ _ h
theorem Hs.fresh (hs : Hs B L H) (h : H p = none) : p ∉ L.map (·.1) := fun m => by
  obtain ⟨e, he, rfl⟩ := List.mem_map.mp m
  rw [hs.at_ e he] at h
  cases h
/-- a new object -/
theorem Hs.new (hs : Hs B L H) (h : H p = none) : Hs B ((p, o) :: L) (upd H p o) := by
  have hf := hs.fresh h
  refine ⟨fun b u e => ?_, ?_, fun e he => ?_, fun e he => ?_⟩
  · rw [upd_ne (ne_of_none (hs.same b u e) h)]
    exact hs.same b u e
  · rw [List.map_cons, List.nodup_cons]
    exact ⟨hf, hs.nd⟩
  · rcases List.mem_cons.mp he with rfl | he
    · exact hs.same.free h
    · exact hs.out e he
  · rcases List.mem_cons.mp he with rfl | he
    · exact upd_same
    · rw [upd_ne (ne_of_none (hs.at_ e he) h)]
      exact hs.at_ e he
theorem set_fst : ∀ {L : List (Addr × HO)} {i : Nat} {p : Addr} {o o' : HO}, L[i]? = some (p, o) → (L.set i (p, o')).map (·.1) = L.map (·.1)
  | [], _, _, _, _, h => by simp at h
  | x :: L, 0, p, o, o', h => by
    have e : x = (p, o) := by simpa using h
    subst e
    rfl
  | x :: L, i + 1, p, o, o', h => by
    have := set_fst (L := L) (i := i) (o' := o') (by simpa using h)
    show _ :: ((L.set i (p, o')).map (·.1)) = _ :: L.map (·.1)
    rw [this]
theorem nd_only : ∀ {L : List (Addr × HO)} {e : Addr × HO} {i : Nat} {p : Addr} {o o' : HO}, (L.map (·.1)).Nodup → L[i]? = some (p, o) → e ∈ L.set i (p, o') → e = (p, o') ∨ (e ∈ L ∧ e.1 ≠ p)
  | [], _, _, _, _, _, _, h, _ => by simp at h
  | x :: L, e, 0, p, o, o', nd, h, m => by
    have ex : x = (p, o) := by simpa using h
    subst ex
    rcases List.mem_cons.mp m with rfl | m
    · exact .inl rfl
    · refine .inr ⟨List.mem_cons_of_mem _ m, fun q => ?_⟩
      rw [List.map_cons, List.nodup_cons] at nd
      exact nd.1 (List.mem_map.mpr ⟨e, m, q⟩)
  | x :: L, e, i + 1, p, o, o', nd, h, m => by
    rw [List.map_cons, List.nodup_cons] at nd
    have h' : L[i]? = some (p, o) := by simpa using h
    rcases List.mem_cons.mp m with rfl | m
    · refine .inr ⟨List.mem_cons_self, fun q => ?_⟩
      exact nd.1 (List.mem_map.mpr ⟨(p, o), List.mem_of_getElem? h', q.symm⟩)
    · rcases nd_only nd.2 h' m with r | ⟨r, q⟩
      · exact .inl r
      · exact .inr ⟨List.mem_cons_of_mem _ r, q⟩
/-- a store to one's own object -/
theorem Hs.put (hs : Hs B L H) (h : L[i]? = some (p, o)) : Hs B (L.set i (p, o')) (upd H p o') := by
  have hp : B p = none := hs.out (p, o) (List.mem_of_getElem? h)
  refine ⟨fun b u e => ?_, ?_, fun e he => ?_, fun e he => ?_⟩
  · have n : b ≠ p := fun q => by
      rw [q, hp] at e
      cases e
    rw [upd_ne n]
    exact hs.same b u e
  · rw [set_fst h]
    exact hs.nd
  · rcases nd_only hs.nd h he with rfl | ⟨m, _⟩
    · exact hp
    · exact hs.out e m
  · rcases nd_only hs.nd h he with rfl | ⟨m, q⟩
    · exact upd_same
    · rw [upd_ne q]
      exact hs.at_ e m
theorem Hs.p0 (o' : HO) (hs : Hs B ((p, o) :: L) H) : Hs B ((p, o') :: L) (upd H p o') := hs.put (i := 0) rfl
theorem Hs.p1 (o' : HO) {x} (hs : Hs B (x :: (p, o) :: L) H) : Hs B (x :: (p, o') :: L) (upd H p o') := hs.put (i := 1) rfl
theorem Hs.p2 (o' : HO) {x y} (hs : Hs B (x :: y :: (p, o) :: L) H) : Hs B (x :: y :: (p, o') :: L) (upd H p o') := hs.put (i := 2) rfl
theorem Hs.p3 (o' : HO) {x y z} (hs : Hs B (x :: y :: z :: (p, o) :: L) H) : Hs B (x :: y :: z :: (p, o') :: L) (upd H p o') := hs.put (i := 3) rfl
theorem Hs.p4 (o' : HO) {x y z w} (hs : Hs B (x :: y :: z :: w :: (p, o) :: L) H) : Hs B (x :: y :: z :: w :: (p, o') :: L) (upd H p o') := hs.put (i := 4) rfl
theorem Hs.p5 (o' : HO) {x y z w v} (hs : Hs B (x :: y :: z :: w :: v :: (p, o) :: L) H) : Hs B (x :: y :: z :: w :: v :: (p, o') :: L) (upd H p o') := hs.put (i := 5) rfl
theorem Hs.p6 (o' : HO) {x y z w v u} (hs : Hs B (x :: y :: z :: w :: v :: u :: (p, o) :: L) H) : Hs B (x :: y :: z :: w :: v :: u :: (p, o') :: L) (upd H p o') := hs.put (i := 6) rfl
theorem Hs.p7 (o' : HO) {x y z w v u t} (hs : Hs B (x :: y :: z :: w :: v :: u :: t :: (p, o) :: L) H) : Hs B (x :: y :: z :: w :: v :: u :: t :: (p, o') :: L) (upd H p o') := hs.put (i := 7) rfl
/-- L with o' in the place of o at p -/
inductive Put : List (Addr × HO) → Addr → HO → HO → List (Addr × HO) → Prop
  | here {p : Addr} {o o' : HO} {L : List (Addr × HO)} : Put ((p, o) :: L) p o o' ((p, o') :: L)
  | there {p : Addr} {o o' : HO} {x : Addr × HO} {L L' : List (Addr × HO)} : Put L p o o' L' → Put (x :: L) p o o' (x :: L')
theorem Put.ix {L' : List (Addr × HO)} (h : Put L p o o' L') : ∃ i : Nat, L[i]? = some (p, o) ∧ L' = L.set i (p, o') := by
  induction h with
  | here => exact ⟨0, rfl, rfl⟩
  | there _ ih =>
    obtain ⟨i, h1, h2⟩ := ih
    exact ⟨i + 1, by simpa using h1, by rw [h2]; rfl⟩
theorem Hs.puts {L' : List (Addr × HO)} (hs : Hs B L H) (h : Put L p o o' L') : Hs B L' (upd H p o') := by
  obtain ⟨i, h1, rfl⟩ := h.ix
  exact hs.put h1
theorem Hs.gets {L' : List (Addr × HO)} (hs : Hs B L H) (h : Put L p o o' L') : H p = some o := by
  obtain ⟨i, h1, _⟩ := h.ix
  exact hs.get h1
/-- any part of our own, in any order -/
theorem Hs.sub (hs : Hs B L H) (h : R.Sublist L) : Hs B R H :=
  ⟨hs.same, hs.nd.sublist (h.map _), fun e he => hs.out e (h.subset he), fun e he => hs.at_ e (h.subset he)⟩
theorem Hs.perm (hs : Hs B L H) (h : R.Perm L) : Hs B R H :=
  ⟨hs.same, (h.map (·.1)).nodup_iff.mpr hs.nd, fun e he => hs.out e (h.subset he), fun e he => hs.at_ e (h.subset he)⟩
theorem Hs.tl {x} (hs : Hs B (x :: L) H) : Hs B L H := hs.sub (List.sublist_cons_self _ _)
/-- the i-th ahead -/
theorem up_perm : ∀ {L : List (Addr × HO)} {i : Nat} {x : Addr × HO}, L[i]? = some x → (x :: L.eraseIdx i).Perm L
  | [], _, _, h => by simp at h
  | y :: L, 0, x, h => by
    have e : y = x := by simpa using h
    subst e
    exact .refl _
  | y :: L, i + 1, x, h => (List.Perm.swap y x _).trans ((up_perm (L := L) (i := i) (by simpa using h)).cons y)
theorem Hs.up (i : Nat) (hs : Hs B L H) {x} (h : L[i]? = some x := by rfl) : Hs B (x :: L.eraseIdx i) H := by
  exact hs.perm (up_perm h)
theorem Hs.del (i : Nat) (hs : Hs B L H) : Hs B (L.eraseIdx i) H := hs.sub (List.eraseIdx_sublist _ _)
theorem Hs.m1 {a b} (hs : Hs B (a :: b :: L) H) : Hs B (b :: a :: L) H := hs.up 1
theorem Hs.m2 {a b c} (hs : Hs B (a :: b :: c :: L) H) : Hs B (c :: a :: b :: L) H := hs.up 2
theorem Hs.m3 {a b c d} (hs : Hs B (a :: b :: c :: d :: L) H) : Hs B (d :: a :: b :: c :: L) H := hs.up 3
theorem Hs.m4 {a b c d e} (hs : Hs B (a :: b :: c :: d :: e :: L) H) : Hs B (e :: a :: b :: c :: d :: L) H := hs.up 4
theorem Hs.m5 {a b c d e f} (hs : Hs B (a :: b :: c :: d :: e :: f :: L) H) : Hs B (f :: a :: b :: c :: d :: e :: L) H := hs.up 5
theorem Hs.m6 {a b c d e f g} (hs : Hs B (a :: b :: c :: d :: e :: f :: g :: L) H) : Hs B (g :: a :: b :: c :: d :: e :: f :: L) H := hs.up 6
theorem Hs.m7 {a b c d e f g h} (hs : Hs B (a :: b :: c :: d :: e :: f :: g :: h :: L) H) : Hs B (h :: a :: b :: c :: d :: e :: f :: g :: L) H := hs.up 7
theorem Hs.d1 {a b} (hs : Hs B (a :: b :: L) H) : Hs B (a :: L) H := hs.del 1
theorem Hs.d2 {a b c} (hs : Hs B (a :: b :: c :: L) H) : Hs B (a :: b :: L) H := hs.del 2
theorem Hs.d3 {a b c d} (hs : Hs B (a :: b :: c :: d :: L) H) : Hs B (a :: b :: c :: L) H := hs.del 3
theorem Hs.d4 {a b c d e} (hs : Hs B (a :: b :: c :: d :: e :: L) H) : Hs B (a :: b :: c :: d :: L) H := hs.del 4
theorem Hs.d5 {a b c d e f} (hs : Hs B (a :: b :: c :: d :: e :: f :: L) H) : Hs B (a :: b :: c :: d :: e :: L) H := hs.del 5
theorem Hs.d6 {a b c d e f g} (hs : Hs B (a :: b :: c :: d :: e :: f :: g :: L) H) : Hs B (a :: b :: c :: d :: e :: f :: L) H := hs.del 6
theorem sel_mem {idx : List Nat} {e : Addr × HO} (h : e ∈ idx.filterMap (fun i => L[i]?)) : ∃ i ∈ idx, L[i]? = some e := by
  obtain ⟨i, hi, e⟩ := List.mem_filterMap.mp h
  exact ⟨i, hi, e⟩
theorem sel_nd (nd : (L.map (·.1)).Nodup) : ∀ {idx : List Nat}, idx.Nodup → ((idx.filterMap (fun i => L[i]?)).map (·.1)).Nodup
  | [], _ => List.nodup_nil
  | i :: idx, h => by
    rw [List.nodup_cons] at h
    rw [List.filterMap_cons]
    cases e : L[i]? with
    | none => exact sel_nd nd h.2
    | some x =>
      rw [List.map_cons, List.nodup_cons]
      refine ⟨fun m => ?_, sel_nd nd h.2⟩
      obtain ⟨y, hy, q⟩ := List.mem_map.mp m
      obtain ⟨j, hj, ej⟩ := sel_mem hy
      have a : (L.map (·.1))[i]? = some x.1 := by rw [List.getElem?_map, e]; rfl
      have b : (L.map (·.1))[j]? = some x.1 := by rw [List.getElem?_map, ej]; exact congrArg some q
      rw [nd_ix nd a b] at h
      exact h.1 hj
/-- some of our own, by places -/
theorem Hs.sel (hs : Hs B L H) (idx : List Nat) (h : idx.Nodup := by decide) : Hs B (idx.filterMap (fun i => L[i]?)) H :=
  ⟨hs.same, sel_nd hs.nd h, fun e he => by
    obtain ⟨i, _, q⟩ := sel_mem he
    exact hs.out e (List.mem_of_getElem? q), fun e he => by
    obtain ⟨i, _, q⟩ := sel_mem he
    exact hs.at_ e (List.mem_of_getElem? q)⟩
/-- a callee that owns A; what else is ours stands for it -/
def around (A : List (Addr × HO)) (H : Hp) : Hp := fun a => if a ∈ A.map (·.1) then none else H a
theorem around_out {a : Addr} (h : a ∉ A.map (·.1)) : around A H a = H a := if_neg h
theorem Hs.frame (A : List (Addr × HO)) (hs : Hs B (A ++ R) H) : Same B (around A H) ∧ Hs (around A H) A H ∧ ∀ A' H', Hs (around A H) A' H' → Hs B (A' ++ R) H' := by
  have nd := hs.nd
  rw [List.map_append, List.nodup_append] at nd
  obtain ⟨n1, n2, n3⟩ := nd
  have sb : Same B (around A H) := fun b u e => by
    rw [around_out fun m => ?_]
    · exact hs.same b u e
    · obtain ⟨z, hz, rfl⟩ := List.mem_map.mp m
      rw [hs.out z (List.mem_append_left _ hz)] at e
      cases e
  refine ⟨sb, ⟨fun b u e => ?_, n1, fun e he => if_pos (List.mem_map.mpr ⟨e, he, rfl⟩), fun e he => hs.at_ e (List.mem_append_left _ he)⟩, fun A' H' h => ?_⟩
  · unfold around at e
    split at e
    · cases e
    · exact e
  · have fr : ∀ e ∈ R, around A H e.1 = some e.2 := fun e he => by
      rw [around_out fun m => n3 _ m _ (List.mem_map.mpr ⟨e, he, rfl⟩) rfl]
      exact hs.at_ e (List.mem_append_right _ he)
    refine ⟨fun b u e => h.same b u (sb b u e), ?_, fun e he => ?_, fun e he => ?_⟩
    · rw [List.map_append, List.nodup_append]
      refine ⟨h.nd, n2, fun a ha b hb q => ?_⟩
      subst q
      obtain ⟨x, hx, rfl⟩ := List.mem_map.mp ha
      obtain ⟨y, hy, q⟩ := List.mem_map.mp hb
      have h1 := h.out x hx
      have h2 := fr y hy
      rw [q, h1] at h2
      cases h2
    · rcases List.mem_append.mp he with he | he
      · exact sb.free (h.out e he)
      · exact hs.out e (List.mem_append_right _ he)
    · rcases List.mem_append.mp he with he | he
      · exact h.at_ e he
      · exact h.same _ _ (fr e he)
theorem Hs.frame1 {x} (hs : Hs B (x :: R) H) : ∃ B', Same B B' ∧ Hs B' [x] H ∧ ∀ A' H', Hs B' A' H' → Hs B (A' ++ R) H' := ⟨_, hs.frame [x]⟩
theorem Hs.frame2 {x y} (hs : Hs B (x :: y :: R) H) : ∃ B', Same B B' ∧ Hs B' [x, y] H ∧ ∀ A' H', Hs B' A' H' → Hs B (A' ++ R) H' := ⟨_, hs.frame [x, y]⟩
theorem Hs.frame3 {x y z} (hs : Hs B (x :: y :: z :: R) H) : ∃ B', Same B B' ∧ Hs B' [x, y, z] H ∧ ∀ A' H', Hs B' A' H' → Hs B (A' ++ R) H' := ⟨_, hs.frame [x, y, z]⟩
theorem Hs.frame4 {x y z w} (hs : Hs B (x :: y :: z :: w :: R) H) : ∃ B', Same B B' ∧ Hs B' [x, y, z, w] H ∧ ∀ A' H', Hs B' A' H' → Hs B (A' ++ R) H' := ⟨_, hs.frame [x, y, z, w]⟩
theorem Hs.frame5 {x y z w v} (hs : Hs B (x :: y :: z :: w :: v :: R) H) : ∃ B', Same B B' ∧ Hs B' [x, y, z, w, v] H ∧ ∀ A' H', Hs B' A' H' → Hs B (A' ++ R) H' := ⟨_, hs.frame [x, y, z, w, v]⟩
theorem Hs.frame6 {x y z w v u} (hs : Hs B (x :: y :: z :: w :: v :: u :: R) H) : ∃ B', Same B B' ∧ Hs B' [x, y, z, w, v, u] H ∧ ∀ A' H', Hs B' A' H' → Hs B (A' ++ R) H' := ⟨_, hs.frame [x, y, z, w, v, u]⟩
/-- a callee that only makes objects -/
theorem Hs.add {N : List (Addr × HO)} (hs : Hs B L H) (h : Hs H N H') : Hs B (N ++ L) H' := by
  refine ⟨fun b u e => h.same b u (hs.same b u e), ?_, fun e he => ?_, fun e he => ?_⟩
  · rw [List.map_append, List.nodup_append]
    refine ⟨h.nd, hs.nd, fun a ha b hb q => ?_⟩
    subst q
    obtain ⟨x, hx, rfl⟩ := List.mem_map.mp ha
    obtain ⟨y, hy, q⟩ := List.mem_map.mp hb
    have h1 := h.out x hx
    have h2 := hs.at_ y hy
    rw [q, h1] at h2
    cases h2
  · rcases List.mem_append.mp he with he | he
    · exact hs.same.free (h.out e he)
    · exact hs.out e he
  · rcases List.mem_append.mp he with he | he
    · exact h.at_ e he
    · exact h.same _ _ (hs.at_ e he)
/-- a new object that nobody changes any more: it stands -/
theorem Hs.freeze (hs : Hs B ((p, o) :: L) H) : Same B (upd B p o) ∧ Hs (upd B p o) L H := by
  have hp := hs.out (p, o) List.mem_cons_self
  have nd := hs.nd
  rw [List.map_cons, List.nodup_cons] at nd
  refine ⟨fun b u e => ?_, ⟨fun b u e => ?_, nd.2, fun e he => ?_, fun e he => hs.at_ e (List.mem_cons_of_mem _ he)⟩⟩
  · rw [upd_ne (ne_of_none e hp)]
    exact e
  · unfold upd at e
    split at e
    · next q =>
      subst q
      cases e
      exact hs.g0
    · exact hs.same b u e
  · have n : e.1 ≠ p := fun q => nd.1 (by rw [← q]; exact List.mem_map.mpr ⟨e, he, rfl⟩)
    rw [upd_ne n]
    exact hs.out e (List.mem_cons_of_mem _ he)
end

/-! ### steps: a reading's head, what is left -/
section
variable {K : PySem.W.Frag} {σ : St} {H : Hp} {Q : VK} {D : Ends} {ta tb tc te tv to ti : TE} {t u tr : TS} {c d : TT} {r r' : R2} {g : TG} {i : Nat} {v x y : V} {E : XK} {ts : TA} {f m : Str} {p : Addr}
theorem w_var (h : σ[i]? = some (some v)) (q : Q v H) : tVar i σ H Q := ⟨v, h, q⟩
theorem w_c (q : Q v H) : tC v σ H Q := q
theorem w_seq (q : t { D with nx := u D } σ H) : tSeq t u D σ H := q
theorem w_next (q : D.nx σ H) : tNext D σ H := q
theorem w_brk (q : D.bk σ H) : tBreak D σ H := q
theorem w_cont (q : D.ct σ H) : tCont D σ H := q
theorem w_drop (q : te σ H fun _ H1 => D.nx σ H1) : tDrop te D σ H := q
theorem w_ret (q : te σ H D.rt) : tRet te D σ H := q
theorem w_retN (q : D.rt .non H) : tRetN D σ H := q
theorem w_asg (q : te σ H fun x H1 => g x σ H1 D.nx) : tAsg te g D σ H := q
theorem w_name {Q : St → Hp → Prop} (q : Q (σ.set i (some v)) H) : gName i v σ H Q := q
theorem w_if (q : c σ H fun b H1 => if b = true then t D σ H1 else u D σ H1) : tIfS c t u D σ H := q
theorem w_test {Q : Bool → Hp → Prop} (q : te σ H fun x H1 => ∃ k, x = .bl k ∧ Q k H1) : tTest te σ H Q := q
theorem w_B {Q : Bool → Hp → Prop} (q : te σ H fun x H1 => ∃ k, x = .bl k ∧ Q k H1) : tB te σ H Q := q
theorem w_exb {b : Bool} {P : Bool → Prop} (q : P b) : ∃ k, V.bl b = .bl k ∧ P k := ⟨b, rfl, q⟩
theorem w_not {Q : Bool → Hp → Prop} (q : c σ H fun b H1 => Q (!b) H1) : tNot c σ H Q := q
theorem w_and {Q : Bool → Hp → Prop} (q : c σ H fun b H1 => if b = true then d σ H1 Q else Q false H1) : tAnd c d σ H Q := q
theorem w_or {Q : Bool → Hp → Prop} (q : c σ H fun b H1 => if b = true then Q true H1 else d σ H1 Q) : tOr c d σ H Q := q
theorem w_andV (q : ta σ H fun x H1 => ∃ k, x = .bl k ∧ if k = true then tb σ H1 Q else Q (.bl false) H1) : tAndV ta tb σ H Q := q
theorem w_orV (q : ta σ H fun x H1 => ∃ k, x = .bl k ∧ if k = true then Q (.bl true) H1 else tb σ H1 Q) : tOrV ta tb σ H Q := q
theorem w_notV (q : ta σ H fun x H1 => ∃ k, x = .bl k ∧ Q (.bl (!k)) H1) : tNotV ta σ H Q := q
theorem w_ifE (q : c σ H fun b H1 => if b = true then ta σ H1 Q else tb σ H1 Q) : tIf c ta tb σ H Q := q
theorem w_op (q : ta σ H fun x H1 => tb σ H1 fun y H2 => r x y H2 Q) : tOp r ta tb σ H Q := q
theorem w_un {r : V → Hp → VK → Prop} (q : ta σ H fun x H1 => r x H1 Q) : tUn r ta σ H Q := q
theorem w_chain (q : ta σ H fun x H1 => tb σ H1 fun y H2 => r x y H2 fun z H3 => ∃ k, z = .bl k ∧ if k = true then tc σ H3 fun w H4 => r' y w H4 Q else Q (.bl false) H3) : tChain r r' ta tb tc σ H Q := q
theorem w_I0 {g : Int → Int → V} {a b : Int} (q : Q (g a b) H) : rI0 g (.int a) (.int b) H Q := ⟨a, b, rfl, rfl, q⟩
theorem w_I {C : Int → Int → Prop} {g : Int → Int → V} {a b : Int} (h : C a b) (q : Q (g a b) H) : rI C g (.int a) (.int b) H Q := ⟨a, b, rfl, rfl, h, q⟩
theorem w_U {g : Int → V} {a : Int} (q : Q (g a) H) : rU g (.int a) H Q := ⟨a, rfl, q⟩
theorem w_eqI {a b : Int} (q : Q (.bl (decide (a = b))) H) : rEq (.int a) (.int b) H Q := ⟨rfl, by
  have e : decide (V.int a = V.int b) = decide (a = b) := by
    rw [dec_int]
    by_cases h : a = b
    · rw [decide_eq_true h]
      exact beq_iff_eq.mpr h
    · rw [decide_eq_false h]
      exact beq_eq_false_iff_ne.mpr h
  rw [e]
  exact q⟩
theorem w_neI {a b : Int} (q : Q (.bl (!decide (a = b))) H) : rNe (.int a) (.int b) H Q := ⟨rfl, by
  have e : decide (V.int a = V.int b) = decide (a = b) := by
    rw [dec_int]
    by_cases h : a = b
    · rw [decide_eq_true h]
      exact beq_iff_eq.mpr h
    · rw [decide_eq_false h]
      exact beq_eq_false_iff_ne.mpr h
  rw [e]
  exact q⟩
theorem w_eq (h : scal x y = true) (q : Q (.bl (decide (x = y))) H) : rEq x y H Q := ⟨h, q⟩
theorem w_ne (h : scal x y = true) (q : Q (.bl (!decide (x = y))) H) : rNe x y H Q := ⟨h, q⟩
theorem w_ixL {xs : List V} {j : Int} (h : SqL K H p xs) (a : atI xs j = some v) (q : Q v H) : rIxL K (.ref p) (.int j) H Q := ⟨p, xs, j, v, rfl, rfl, h, a, q⟩
theorem w_ixT {xs : List V} {j : Int} (h : SqT K H p xs) (a : atI xs j = some v) (q : Q v H) : rIxT K (.ref p) (.int j) H Q := ⟨p, xs, j, v, rfl, rfl, h, a, q⟩
theorem at0 {x : V} {xs : List V} : atI (x :: xs) 0 = some x := at_of (j := 0) rfl rfl
theorem at1 {x y : V} {xs : List V} : atI (x :: y :: xs) 1 = some y := at_of (j := 1) rfl rfl
theorem at2 {x y z : V} {xs : List V} : atI (x :: y :: z :: xs) 2 = some z := at_of (j := 2) rfl rfl
theorem at3 {x y z u : V} {xs : List V} : atI (x :: y :: z :: u :: xs) 3 = some u := at_of (j := 3) rfl rfl
/-- a field's value -/
def Fl (K : PySem.W.Frag) (f : Str) (x : V) (H : Hp) (Q : VK) : Prop := ∃ a C dx fs v, x = .ref a ∧ H a = some (.ins C dx fs) ∧ Cls K C ∧ NoAttr K C f ∧ fs.lookup f = some v ∧ Q v H
theorem w_fld (q : ta σ H fun x H1 => Fl K f x H1 Q) : tFld K ta f σ H Q := q
theorem w_fl {C dx : Addr} {fs : List (Str × V)} (h : H p = some (.ins C dx fs)) (hc : Cls K C) (hn : NoAttr K C f) (hl : fs.lookup f = some v) (q : Q v H) : Fl K f (.ref p) H Q := ⟨p, C, dx, fs, v, rfl, h, hc, hn, hl, q⟩
/-- a field's store -/
def Fs (K : PySem.W.Frag) (f : Str) (y x : V) (H : Hp) (R : Hp → Prop) : Prop := ∃ a C dx fs, x = .ref a ∧ H a = some (.ins C dx fs) ∧ Cls K C ∧ NoAttr K C f ∧ fs.length < 1000 ∧ R (upd H a (.ins C dx (putF f y fs)))
theorem w_sfld (q : tv σ H fun y H1 => ta σ H1 fun x H2 => Fs K f y x H2 (D.nx σ)) : sFld K ta tv f D σ H := q
theorem w_fs {R : Hp → Prop} {C dx : Addr} {fs : List (Str × V)} (h : H p = some (.ins C dx fs)) (hc : Cls K C) (hn : NoAttr K C f) (hl : fs.length < 1000) (q : R (upd H p (.ins C dx (putF f y fs)))) : Fs K f y (.ref p) H R := ⟨p, C, dx, fs, rfl, h, hc, hn, hl, q⟩
theorem lk0 {k : Str} {v : V} {r : List (Str × V)} : ((k, v) :: r).lookup k = some v := by simp [List.lookup]
theorem lk1 {k k' : Str} {v w : V} {r : List (Str × V)} (h : ¬ k = k') (q : r.lookup k = some w) : ((k', v) :: r).lookup k = some w := by
  have e : (k == k') = false := beq_eq_false_iff_ne.mpr h
  show (match k == k' with | true => some v | false => List.lookup k r) = some w
  rw [e]
  exact q
theorem lkn {k k' : Str} {v : V} {r : List (Str × V)} (h : ¬ k = k') (q : r.lookup k = none) : ((k', v) :: r).lookup k = none := by
  have e : (k == k') = false := beq_eq_false_iff_ne.mpr h
  show (match k == k' with | true => some v | false => List.lookup k r) = none
  rw [e]
  exact q
theorem lke {k : Str} : ([] : List (Str × V)).lookup k = none := rfl
theorem pu0 {k : Str} {v w : V} {r : List (Str × V)} : putF k w ((k, v) :: r) = (k, w) :: r := by
  show (if k = k then _ else _) = _
  rw [if_pos rfl]
theorem pu1 {k k' : Str} {v w : V} {r : List (Str × V)} (h : ¬ k' = k) : putF k w ((k', v) :: r) = (k', v) :: putF k w r := by
  show (if k' = k then _ else _) = _
  rw [if_neg h]
theorem pu2 {k k' : Str} {v w : V} {r r' : List (Str × V)} (h : ¬ k' = k) (q : putF k w r = r') : putF k w ((k', v) :: r) = (k', v) :: r' := by
  rw [pu1 h, q]
theorem pue {k : Str} {w : V} : putF k w [] = [(k, w)] := rfl
theorem w_yes {Q : Bool → Hp → Prop} (q : Q true H) : tYes σ H Q := q
theorem w_nil {Q : List V → Hp → Prop} (q : Q [] H) : tNil σ H Q := q
theorem w_cons {Q : List V → Hp → Prop} (q : ta σ H fun x H1 => ts σ H1 fun xs H2 => Q (x :: xs) H2) : tCons ta ts σ H Q := q
theorem w_cb {r : List V → Hp → VK → Prop} (q : ts σ H fun vs H1 => r vs H1 Q) : tCB r ts σ H Q := q
theorem w_call {sp : Sp} {dvs : List V} (q : ts σ H fun vs H1 => sp (vs ++ dvs) H1 Q E) : tCall sp dvs E ts σ H Q := q
/-- a new instance -/
def Mkr (C : Addr) (sp : Sp) (vs : List V) (E : XK) (Q : VK) (H : Hp) : Prop := ∀ x dx, H x = none → H dx = none → dx ≠ x → sp (.ref x :: vs) (upd (upd H dx (.own x)) x (.ins C dx [])) (fun v H2 => v = .non ∧ Q (.ref x) H2) E
theorem w_make {C : Addr} {sp : Sp} {dvs : List V} (q : ts σ H fun vs H1 => Mkr C sp (vs ++ dvs) E Q H1) : tMake C sp dvs E ts σ H Q := q
theorem w_mkr {C : Addr} {sp : Sp} {vs : List V} {B : Hp} {L : List (Addr × HO)} (hs : Hs B L H) (q : ∀ x dx H', Hs B ((x, .ins C dx []) :: L) H' → sp (.ref x :: vs) H' (fun v H2 => v = .non ∧ Q (.ref x) H2) E) : Mkr C sp vs E Q H := fun x dx hx hd ne =>
  q x dx _ ((hs.new hd).new (p := x) (by rw [upd_ne ne.symm]; exact hx)).d1
/-- an own method's receiver -/
def Rc (m : Str) (C : Addr) (x : V) (H : Hp) (R : Prop) : Prop := ∃ a dx fs, x = .ref a ∧ H a = some (.ins C dx fs) ∧ fs.lookup m = none ∧ R
theorem w_meth {C : Addr} {sp : Sp} {dvs : List V} (q : ta σ H fun x H1 => Rc m C x H1 (ts σ H1 fun vs H2 => sp (x :: (vs ++ dvs)) H2 Q E)) : tMeth C m sp dvs E ta ts σ H Q := by
  revert q
  unfold tMeth Rc
  exact id
theorem w_rc {C dx : Addr} {fs : List (Str × V)} {R : Prop} (h : H p = some (.ins C dx fs)) (hl : fs.lookup m = none) (q : R) : Rc m C (.ref p) H R := ⟨p, dx, fs, rfl, h, hl, q⟩
theorem w_bm {T : String} {r : V → List V → Hp → VK → Prop} (q : to σ H fun x H1 => tyV K T x H1 ∧ ts σ H1 fun xs H2 => r x xs H2 Q) : tBM K T r to ts σ H Q := q
theorem w_bm0 {T : String} {r : V → List V → Hp → VK → Prop} (q : to σ H fun x H1 => tyV K T x H1 ∧ r x [] H1 Q) : tBM0 K T r to σ H Q := q
theorem w_tyL {xs : List V} {R : Prop} (h : SqL K H p xs) (q : R) : tyV K "list" (.ref p) H ∧ R := ⟨.inl ⟨rfl, _, h⟩, q⟩
theorem w_tyS {s : Str} {R : Prop} (q : R) : tyV K "str" (.str s) H ∧ R := ⟨rfl, q⟩
/-- a new list, a new tuple -/
def NewL (Q : VK) (xs : List V) (H : Hp) : Prop := xs.length ≤ sizeLine ∧ ∀ p, H p = none → Q (.ref p) (upd H p (.lst xs))
def NewT (Q : VK) (xs : List V) (H : Hp) : Prop := xs.length ≤ sizeLine ∧ ∀ p, H p = none → Q (.ref p) (upd H p (.tup xs))
theorem w_tup (q : ts σ H fun xs H1 => NewT Q xs H1) : tTup ts σ H Q := q
theorem w_lst (q : ts σ H fun xs H1 => NewL Q xs H1) : tLst ts σ H Q := q
theorem w_new {B : Hp} {L : List (Addr × HO)} {o : HO} (hs : Hs B L H) (q : ∀ p H', Hs B ((p, o) :: L) H' → Q (.ref p) H') : ∀ p, H p = none → Q (.ref p) (upd H p o) := fun p hp => q p _ (hs.new hp)
theorem w_newL {B : Hp} {L : List (Addr × HO)} {xs : List V} (hs : Hs B L H) (hl : xs.length ≤ sizeLine) (q : ∀ p H', Hs B ((p, .lst xs) :: L) H' → Q (.ref p) H') : NewL Q xs H := ⟨hl, w_new hs q⟩
theorem w_newT {B : Hp} {L : List (Addr × HO)} {xs : List V} (hs : Hs B L H) (hl : xs.length ≤ sizeLine) (q : ∀ p H', Hs B ((p, .tup xs) :: L) H' → Q (.ref p) H') : NewT Q xs H := ⟨hl, w_new hs q⟩
theorem w_sl {r : V → Option Int → Option Int → Hp → VK → Prop} {tl th : TO} (q : te σ H fun x H1 => tl σ H1 fun l H2 => th σ H2 fun u H3 => r x l u H3 Q) : tSl r te tl th σ H Q := q
theorem w_noPart {Q : Option Int → Hp → Prop} (q : Q none H) : tNoPart σ H Q := q
theorem w_part {Q : Option Int → Hp → Prop} (q : te σ H fun x H1 => ∃ i, x = .int i ∧ Q (some i) H1) : tPart te σ H Q := q
theorem w_exi {b : Int} {P : Int → Prop} (q : P b) : ∃ k, V.int b = .int k ∧ P k := ⟨b, rfl, q⟩
theorem w_slL {B : Hp} {L : List (Addr × HO)} {xs : List V} {lo hi : Option Int} (hs : Hs B L H) (h : SqL K H p xs) (q : ∀ l H', Hs B ((l, .lst (cutV xs lo hi)) :: L) H' → Q (.ref l) H') : rSlL K (.ref p) lo hi H Q := ⟨p, xs, rfl, h, w_new hs q⟩
theorem w_cat {B : Hp} {L : List (Addr × HO)} {a b : Addr} {xs ys : List V} (hs : Hs B L H) (ha : H a = some (.lst xs)) (hb : H b = some (.lst ys)) (hl : xs.length + ys.length ≤ sizeLine) (q : ∀ l H', Hs B ((l, .lst (xs ++ ys)) :: L) H' → Q (.ref l) H') : rCat (.ref a) (.ref b) H Q :=
  ⟨a, b, xs, ys, rfl, rfl, ha, hb, hl, w_new hs q⟩
/-! #### calls of built-ins -/
def rLen (K : PySem.W.Frag) : List V → Hp → VK → Prop := fun xs H Q => ∃ p ys, xs = [.ref p] ∧ (SqL K H p ys ∨ SqT K H p ys) ∧ Q (.int ys.length) H
theorem call_lenQ {X : Cx} : CallR X (.builtin "len") (rLen X.K) := call_len_seq
theorem w_len {xs : List V} (h : SqL K H p xs) (q : Q (.int xs.length) H) : rLen K [.ref p] H Q := ⟨p, xs, rfl, .inl h, q⟩
theorem w_lenT {xs : List V} (h : SqT K H p xs) (q : Q (.int xs.length) H) : rLen K [.ref p] H Q := ⟨p, xs, rfl, .inr h, q⟩
def rAbs : List V → Hp → VK → Prop := fun xs H Q => ∃ i, xs = [.int i] ∧ Q (.int (if i < 0 then -i else i)) H
theorem call_absQ {X : Cx} : CallR X (.builtin "abs") rAbs := call_abs
theorem w_abs {a : Int} (q : Q (.int (if a < 0 then -a else a)) H) : rAbs [.int a] H Q := ⟨a, rfl, q⟩
def rInt : List V → Hp → VK → Prop := fun xs H Q => (∃ i, xs = [.int i] ∧ Q (.int i) H) ∨ ∃ k, xs = [.bl k] ∧ Q (.int (if k then 1 else 0)) H
theorem call_intQ {X : Cx} : CallR X (.type "int") rInt := call_int1
theorem w_int {a : Int} (q : Q (.int a) H) : rInt [.int a] H Q := .inl ⟨a, rfl, q⟩
theorem w_intB {b : Bool} (q : Q (.int (if b then 1 else 0)) H) : rInt [.bl b] H Q := .inr ⟨b, rfl, q⟩
def rStr : List V → Hp → VK → Prop := fun xs H Q => ∃ i, xs = [.int i] ∧ i.natAbs.log2 < 1920 ∧ Q (.str (toString i)) H
theorem call_strQ {X : Cx} : CallR X (.type "str") rStr := call_str_int
theorem w_str {a : Int} (h : a.natAbs < 2 ^ 64) (q : Q (.str (toString a)) H) : rStr [.int a] H Q := ⟨a, rfl, Nat.lt_of_lt_of_le (PySem.Flt.log2_lt_of (by decide) h) (by decide), q⟩
def rAddS : R2 := fun x y H Q => ∃ i j, x = .str i ∧ y = .str j ∧ i.length + j.length ≤ sizeLine ∧ Q (.str (i ++ j)) H
theorem op_addS {X : Cx} : OpR X (binaryOp .Add) rAddS := op_add_str
theorem w_addS {a b : Str} (h : a.length + b.length ≤ sizeLine) (q : Q (.str (a ++ b)) H) : rAddS (.str a) (.str b) H Q := ⟨a, b, rfl, rfl, h, q⟩
/-! #### methods of lists -/
section
variable {B : Hp} {L L' : List (Addr × HO)} {l : Addr} {xs : List V}
theorem w_app (hs : Hs B L H) (h : Put L l (.lst xs) (.lst (xs ++ [y])) L') (hl : xs.length < sizeLine) (q : ∀ H', Hs B L' H' → Q .non H') : rAppend (.ref l) [y] H Q := ⟨l, xs, y, rfl, rfl, hs.gets h, hl, q _ (hs.puts h)⟩
theorem w_clear (hs : Hs B L H) (h : Put L l (.lst xs) (.lst []) L') (q : ∀ H', Hs B L' H' → Q .non H') : rClear (.ref l) [] H Q := ⟨l, xs, rfl, rfl, hs.gets h, q _ (hs.puts h)⟩
theorem six_nat {n k : Nat} {j : Int} (e : j = (k : Int)) (h : k < n) : seqIndex? j n = some k := by
  subst e
  unfold seqIndex?
  have h1 : ¬ (k : Int) < 0 := by omega
  have h2 : (k : Int) < (n : Int) := by omega
  simp only [if_neg h1]
  simp [h2]
theorem w_popAt {k : Nat} {j : Int} (hs : Hs B L H) (h : Put L l (.lst xs) (.lst (xs.eraseIdx k)) L') (e : j = (k : Int)) (hk : xs[k]? = some y) (hz : xs.length ≤ sizeLine) (q : ∀ H', Hs B L' H' → Q y H') : rPopAt (.ref l) [.int j] H Q := by
  have hk' := (List.getElem?_eq_some_iff.mp hk).1
  have h63 := line63
  refine ⟨l, xs, j, k, y, rfl, rfl, hs.gets h, by omega, ?_, six_nat e hk', hk, q _ (hs.puts h)⟩
  have : xs.length < 2 ^ 63 := Nat.lt_of_le_of_lt hz h63
  omega
def rInsert : V → List V → Hp → VK → Prop := fun x vs H Q => ∃ (l : Addr) (xs : List V) (i : Int) (y : V), x = .ref l ∧ vs = [.int i, y] ∧ H l = some (.lst xs) ∧ xs.length < sizeLine ∧ 0 ≤ i ∧ i < 2 ^ 63 ∧ Q .non (upd H l (.lst (xs.take i.toNat ++ [y] ++ xs.drop i.toNat)))
theorem mt_insertQ {X : Cx} : MtR X "list.insert" rInsert := mt_insert
theorem w_insert0 (hs : Hs B L H) (h : Put L l (.lst xs) (.lst (y :: xs)) L') (hl : xs.length < sizeLine) (q : ∀ H', Hs B L' H' → Q .non H') : rInsert (.ref l) [.int 0, y] H Q :=
  ⟨l, xs, 0, y, rfl, rfl, hs.gets h, hl, by decide, by decide, q _ (hs.puts h)⟩
def rDelL (x y : V) (H : Hp) (R : Hp → Prop) : Prop := ∃ (l : Addr) (xs : List V) (i : Int) (k : Nat), x = .ref l ∧ y = .int i ∧ H l = some (.lst xs) ∧ -(2 ^ 63) ≤ i ∧ i < 2 ^ 63 ∧ seqIndex? i xs.length = some k ∧ R (upd H l (.lst (xs.eraseIdx k)))
theorem w_delL0 (q : to σ H fun x H1 => ti σ H1 fun y H2 => rDelL x y H2 (D.nx σ)) : tDelL to ti D σ H := q
theorem w_delL {k : Nat} {j : Int} {R : Hp → Prop} (hs : Hs B L H) (h : Put L l (.lst xs) (.lst (xs.eraseIdx k)) L') (e : j = (k : Int)) (hk : k < xs.length) (hz : xs.length ≤ sizeLine) (q : ∀ H', Hs B L' H' → R H') : rDelL (.ref l) (.int j) H R := by
  have h63 := line63
  refine ⟨l, xs, j, k, rfl, rfl, hs.gets h, by omega, ?_, six_nat e hk, q _ (hs.puts h)⟩
  have : xs.length < 2 ^ 63 := Nat.lt_of_le_of_lt hz h63
  omega
theorem w_setL {k : Nat} {j : Int} {R : Hp → Prop} (hs : Hs B L H) (h : Put L l (.lst xs) (.lst (xs.set k y)) L') (e : j = (k : Int)) (hk : k < xs.length) (q : ∀ H', Hs B L' H' → R H') : rSetL (.ref l) (.int j) y H R := by
  refine ⟨l, xs, j, k, rfl, rfl, hs.gets h, ?_, q _ (hs.puts h)⟩
  subst e
  unfold ixN
  rw [if_pos (by omega), if_pos (by omega)]
  simp
/-- a field's store -/
theorem w_fsP {R : Hp → Prop} {C dx : Addr} {fs gs : List (Str × V)} (hs : Hs B L H) (h : Put L p (.ins C dx fs) (.ins C dx gs) L') (hc : Cls K C) (hn : NoAttr K C f) (hl : fs.length < 1000) (hg : putF f y fs = gs) (q : ∀ H', Hs B L' H' → R H') : Fs K f y (.ref p) H R := by
  subst hg
  exact w_fs (hs.gets h) hc hn hl (q _ (hs.puts h))
/-! #### loops -/
theorem w_forL {tl : TE} {a : Addr} {tb : TS} (hx : SqL K H a xs) (Pv : Nat → St → Hp → Prop) (htl : ∀ Q : VK, Q (.ref a) H → tl σ H Q) (h0 : Pv 0 σ H) (hl : ∀ i σ H, i ≤ xs.length → Pv i σ H → SqL K H a xs)
    (hs : ∀ i x σ H, xs[i]? = some x → Pv i σ H → g x σ H fun σ2 H2 => tb { D with nx := Pv (i + 1), ct := Pv (i + 1), bk := D.nx } σ2 H2) (hd : ∀ σ H, Pv xs.length σ H → D.nx σ H) : tFor (iList K tl) g tb D σ H :=
  htl _ ⟨a, rfl, ⟨xs, hx⟩, for_list Pv h0 hl hs hd⟩
theorem w_forR {ta : TA} {tb : TS} {n : Int} (hn : n < 2 ^ 62) (Pv : Nat → St → Hp → Prop) (hta : ∀ Q : List V → Hp → Prop, Q [.int n] H → ta σ H Q) (hm : -(2 ^ 62) ≤ n) (h0 : Pv 0 σ H)
    (hs : ∀ (i : Nat) σ H, (i : Int) < n → Pv i σ H → g (.int (i : Int)) σ H fun σ2 H2 => tb { D with nx := Pv (i + 1), ct := Pv (i + 1), bk := D.nx } σ2 H2) (hd : ∀ σ H, Pv n.toNat σ H → D.nx σ H) : tFor (iRng1 ta) g tb D σ H :=
  hta _ ⟨n, rfl, hm, hn, for_range (lo := 0) (n := n.toNat) Pv h0 (fun i σ' H' hi p => by
    have e0 : (0 : Int) + (i : Int) = (i : Int) := Int.zero_add _
    rw [e0]
    exact hs i σ' H' (by omega) p) hd⟩
/-- [e for x in xs] over a list -/
theorem w_lc {tl : TE} {a : Addr} {vs : List Nat} {tt : TT} (hx : SqL K H a xs) (Pv : Addr → Nat → Hp → Prop) (htl : ∀ Q : VK, Q (.ref a) H → tl σ H Q) (h0 : ∀ D, H D = none → Pv D 0 (upd H D (.lst []))) (hl : ∀ D i H, i ≤ xs.length → Pv D i H → SqL K H a xs)
    (hs : ∀ D i x H, xs[i]? = some x → Pv D i H → g x (wipe σ vs) H fun σ2 H2 => wipe σ2 vs = wipe σ vs ∧ tt σ2 H2 fun b H3 =>
      if b = true then te σ2 H3 fun y H4 => ∃ acc, H4 D = some (.lst acc) ∧ acc.length < sizeLine ∧ Pv D (i + 1) (upd H4 D (.lst (acc ++ [y]))) else Pv D (i + 1) H3) (hd : ∀ D H, Pv D xs.length H → Q (.ref D) H) : tLc (iList K tl) g tt te vs σ H Q :=
  htl _ ⟨a, rfl, ⟨xs, hx⟩, fun D hD => lc_list (Pv D) (h0 D hD) (hl D) (hs D) (hd D)⟩
end
theorem w_sub {R : St → Hp → Prop} {tset : TSet} (q : to σ H fun o H1 => ti σ H1 fun i H2 => tset o i v H2 fun H3 => R σ H3) : gSub to ti tset v σ H R := q
/-- a while's body, at the measure m -/
def LpB (W : Nat → St → Hp → Prop) (m : Nat) (D : Ends) (tb : TS) (σ : St) (H1 : Hp) : Prop := ∃ N : St → Hp → Prop, (∀ σ' H', N σ' H' → ∃ m', m' < m ∧ W m' σ' H') ∧ tb { D with nx := N, ct := N, bk := D.nx } σ H1
theorem w_while {c : TT} {tb : TS} {D : Ends} {σ : St} {H : Hp} (W : Nat → St → Hp → Prop) (m : Nat) (h0 : W m σ H)
    (hs : ∀ m σ H, W m σ H → c σ H fun b H1 => if b = true then LpB W m D tb σ H1 else D.nx σ H1) : tWhile c tb D σ H := ⟨W, ⟨m, h0⟩, hs⟩
theorem w_lpb {W : Nat → St → Hp → Prop} {m : Nat} {D : Ends} {tb : TS} {σ : St} {H : Hp} (q : tb { D with nx := fun σ' H' => ∃ m', m' < m ∧ W m' σ' H', ct := fun σ' H' => ∃ m', m' < m ∧ W m' σ' H', bk := D.nx } σ H) : LpB W m D tb σ H := ⟨_, fun _ _ h => h, q⟩
end
theorem ifd {p A B : Prop} [Decidable p] (h1 : p → A) (h2 : ¬ p → B) : if decide p = true then A else B := by
  by_cases h : p
  · rw [decide_eq_true h]
    exact iteT (h1 h)
  · rw [decide_eq_false h]
    exact iteF (h2 h)
theorem ifn {p A B : Prop} [Decidable p] (h1 : ¬ p → A) (h2 : p → B) : if (!decide p) = true then A else B := by
  by_cases h : p
  · rw [decide_eq_true h]
    exact iteF (h2 h)
  · rw [decide_eq_false h]
    exact iteT (h1 h)
theorem ifb {b : Bool} {A B : Prop} (h1 : b = true → A) (h2 : b = false → B) : if b = true then A else B := by
  cases b with
  | true => exact iteT (h1 rfl)
  | false => exact iteF (h2 rfl)
theorem eraseIdx_map {α β : Type} (f : α → β) : ∀ (l : List α) (k : Nat), (l.map f).eraseIdx k = (l.eraseIdx k).map f
  | [], _ => rfl
  | _ :: _, 0 => rfl
  | x :: l, k + 1 => congrArg (f x :: ·) (eraseIdx_map f l k)
theorem sz {n : Nat} (h : n ≤ 1000000) : n ≤ sizeLine := Nat.le_trans h (by decide)
theorem szl {n : Nat} (h : n ≤ 1000000) : n < sizeLine := Nat.lt_of_le_of_lt h (by decide)
theorem take_min {α : Type} (xs : List α) (n : Nat) : xs.take (min n xs.length) = xs.take n := by
  by_cases h : n ≤ xs.length
  · rw [Nat.min_eq_left h]
  · rw [Nat.min_eq_right (by omega), List.take_length, List.take_of_length_le (by omega)]
theorem drop_min {α : Type} (xs : List α) (n : Nat) : xs.drop (min n xs.length) = xs.drop n := by
  by_cases h : n ≤ xs.length
  · rw [Nat.min_eq_left h]
  · rw [Nat.min_eq_right (by omega), List.drop_length, List.drop_of_length_le (by omega)]
theorem cut_to {xs : List V} {j : Int} (n : Nat) (e : j = (n : Int)) : cutV xs none (some j) = xs.take n := by
  subst e
  unfold cutV
  rw [HT.sIx_none, HT.sIx_nat, List.drop_zero, Nat.sub_zero, take_min]
theorem cut_from {xs : List V} {j : Int} (n : Nat) (e : j = (n : Int)) : cutV xs (some j) none = xs.drop n := by
  subst e
  unfold cutV
  rw [HT.sIx_none, HT.sIx_nat, drop_min, List.take_of_length_le]
  rw [List.length_drop]
  omega
theorem cut_len {xs : List V} {lo hi : Option Int} : (cutV xs lo hi).length ≤ xs.length := by
  unfold cutV
  rw [List.length_take, List.length_drop]
  omega
theorem cut_all {xs : List V} : cutV xs none none = xs := by
  unfold cutV HT.sIx
  simp
/-! ### lists of texts, of ints, as data -/
theorem dpa_str {K : PySem.W.Frag} {H : Hp} : ∀ xs : List Str, DpAll K H (xs.map V.str) (xs.map PyData.str)
  | [] => .nil
  | x :: xs => .cons (.str x) (dpa_str xs)
theorem dpa_int {K : PySem.W.Frag} {H : Hp} : ∀ xs : List Int, DpAll K H (xs.map V.int) (xs.map PyData.int)
  | [] => .nil
  | x :: xs => .cons (.int x) (dpa_int xs)
theorem depth_str : ∀ xs : List Str, PyData.depthAll (xs.map PyData.str) ≤ 1
  | [] => by simp [PyData.depthAll]
  | x :: xs => by
    have := depth_str xs
    simp [PyData.depthAll, PyData.depth] at this ⊢
    omega
theorem lay_str : ∀ xs : List Str, (∀ x ∈ xs, PyData.strOk x = true) → PyData.canLayAll0 (xs.map PyData.str) = true
  | [], _ => by simp [PyData.canLayAll0]
  | x :: xs, h => by
    have h1 := h x List.mem_cons_self
    have h2 := lay_str xs fun y hy => h y (List.mem_cons_of_mem _ hy)
    simp only [List.map_cons, PyData.canLayAll0, PyData.canLay0, h1, h2, Bool.and_self]
theorem shp_str {xs : List Str} (h : ∀ x ∈ xs, PyData.strOk x = true) : SeqAt.shaped (.list (xs.map PyData.str)) = true := by
  have e := depth_str xs
  have l := lay_str xs h
  unfold SeqAt.shaped PyData.canLay0 PyData.depth
  rw [l]
  simp only [Bool.true_and, decide_eq_true_eq]
  omega
theorem w_neS {K : PySem.W.Frag} {H : Hp} {Q : VK} {p q : Addr} {xs : List Str} (h1 : SqL K H p (xs.map V.str)) (h2 : SqL K H q (xs.map V.str)) (hk : ∀ x ∈ xs, PyData.strOk x = true) (k : Q (.bl false) H) : rNeD K (.ref p) (.ref q) H Q :=
  ⟨_, _, .lst h1 (dpa_str xs), .lst h2 (dpa_str xs), shp_str hk, shp_str hk, by
    rw [SeqAt.eqv_refl _ (by have := shp_str hk; unfold SeqAt.shaped at this; exact (Bool.and_eq_true_iff.mp this).1)]
    exact k⟩
theorem w_isi {K : PySem.W.Frag} {H : Hp} {Q : VK} {b : Bool} (k : Q (.bl true) H) : rIsi K [.bl b, .ty "bool"] H Q :=
  ⟨_, _, _, _, true, rfl, .ty "bool", .base (.bl b), kit_ty (by decide +kernel), k⟩
theorem w_neB {a b : Bool} {H : Hp} {Q : VK} (q : Q (.bl (!decide (a = b))) H) : rNe (.bl a) (.bl b) H Q := ⟨rfl, by
  have e : decide (V.bl a = V.bl b) = decide (a = b) := by cases a <;> cases b <;> decide
  rw [e]
  exact q⟩
end Hb

set_option Elab.async false
set_option maxRecDepth 100000
set_option maxHeartbeats 4000000
/-! More steps: dicts, fields changed by an operator, ranges, and an own exception with a field. -/
namespace Hb
open PySem L2 ClX

section
variable {K : PySem.W.Frag} {σ : St} {H : Hp} {Q : VK} {D : Ends} {ta tb td tc te tv ty to ti : TE} {t u tr : TS} {g : TG} {i : Nat} {v x y : V} {E : XK} {ts : TA} {f m : Str} {p : Addr} {B : Hp} {L L' : List (Addr × HO)}
/-! ### dicts with keys that are ints -/
def RDin (x y : V) (H : Hp) (Q : VK) : Prop := ∃ a o, x = .ref a ∧ DGet H a y o ∧ Q (.bl o.isSome) H
def RDni (x y : V) (H : Hp) (Q : VK) : Prop := ∃ a o, x = .ref a ∧ DGet H a y o ∧ Q (.bl (!o.isSome)) H
theorem w_din (q : ty σ H fun y H1 => td σ H1 fun x H2 => RDin x y H2 Q) : tDIn ty td σ H Q := q
theorem w_dni (q : ty σ H fun y H1 => td σ H1 fun x H2 => RDni x y H2 Q) : tDNotIn ty td σ H Q := q
theorem w_dinI {kvs : List (Key × V)} {n : Int} (h : H p = some (.dK kvs)) (q : Q (.bl (valV kvs (Sum.inl n)).isSome) H) : RDin (.ref p) (.int n) H Q := ⟨p, _, rfl, DGet.k (k := Sum.inl n) h, q⟩
theorem w_dniI {kvs : List (Key × V)} {n : Int} (h : H p = some (.dK kvs)) (q : Q (.bl (!(valV kvs (Sum.inl n)).isSome)) H) : RDni (.ref p) (.int n) H Q := ⟨p, _, rfl, DGet.k (k := Sum.inl n) h, q⟩
def RDput (x y v : V) (H : Hp) (R : Hp → Prop) : Prop := ∃ a H4, x = .ref a ∧ DPut H a y v H4 ∧ R H4
theorem w_dput (q : tv σ H fun v H1 => td σ H1 fun x H2 => ty σ H2 fun y H3 => RDput x y v H3 (D.nx σ)) : sDPut td ty tv D σ H := q
theorem w_dputI {kvs : List (Key × V)} {n : Int} {R : Hp → Prop} (hs : Hs B L H) (h : Put L p (.dK kvs) (.dK (putK kvs (Sum.inl n) v)) L') (hl : kvs.length < sizeLine) (q : ∀ H', Hs B L' H' → R H') : RDput (.ref p) (.int n) v H R :=
  ⟨p, _, rfl, DPut.k (k := Sum.inl n) (hs.gets h) hl, q _ (hs.puts h)⟩
def RPopA (x : V) (H : Hp) (R : Addr → Prop) : Prop := ∃ a, x = .ref a ∧ IsD H a ∧ R a
def RPopB (a : Addr) (y : V) (H : Hp) (Q : VK) : Prop := ∃ kvs k v, H a = some (.dK kvs) ∧ y = kV k ∧ valV kvs k = some v ∧ Q v (upd H a (.dK (dropK kvs k)))
theorem w_dpop (q : td σ H fun x H1 => RPopA x H1 fun a => ty σ H1 fun y H2 => RPopB a y H2 Q) : tDPop1 td ty σ H Q := q
theorem w_dpopA {kvs : List (Key × V)} {R : Addr → Prop} (h : H p = some (.dK kvs)) (q : R p) : RPopA (.ref p) H R := ⟨p, rfl, .inl ⟨kvs, .inl h⟩, q⟩
theorem w_dpopB {kvs : List (Key × V)} {n : Int} (hs : Hs B L H) (h : Put L p (.dK kvs) (.dK (dropK kvs (Sum.inl n))) L') (hv : valV kvs (Sum.inl n) = some v) (q : ∀ H', Hs B L' H' → Q v H') : RPopB p (.int n) H Q :=
  ⟨kvs, Sum.inl n, v, hs.gets h, rfl, hv, q _ (hs.puts h)⟩
def NewD (Q : VK) (H : Hp) : Prop := ∀ p, H p = none → Q (.ref p) (upd H p (.dK []))
theorem w_dnew (q : NewD Q H) : tDNewK σ H Q := q
theorem w_newD (hs : Hs B L H) (q : ∀ p H', Hs B ((p, .dK []) :: L) H' → Q (.ref p) H') : NewD Q H := w_new hs q
/-! ### o.f op= e -/
def FA1 (K : PySem.W.Frag) (f : Str) (x : V) (H : Hp) (R : Addr → Addr → V → Prop) : Prop := ∃ a C dx fs v, x = .ref a ∧ H a = some (.ins C dx fs) ∧ Cls K C ∧ NoAttr K C f ∧ fs.lookup f = some v ∧ R a C v
def FA2 (f : Str) (a C : Addr) (z : V) (H : Hp) (R : Hp → Prop) : Prop := ∃ dx' fs', H a = some (.ins C dx' fs') ∧ fs'.length < 1000 ∧ R (upd H a (.ins C dx' (putF f z fs')))
theorem w_faug {rd : V → V → Hp → VK → Prop} (q : ta σ H fun x H1 => FA1 K f x H1 fun a C v => tv σ H1 fun y H2 => rd v y H2 fun z H3 => FA2 f a C z H3 (D.nx σ)) : sFldAug K ta tv rd f D σ H := by
  revert q
  unfold sFldAug FA1 FA2
  exact id
theorem w_fa1 {C dx : Addr} {fs : List (Str × V)} {R : Addr → Addr → V → Prop} (h : H p = some (.ins C dx fs)) (hc : Cls K C) (hn : NoAttr K C f) (hl : fs.lookup f = some v) (q : R p C v) : FA1 K f (.ref p) H R := ⟨p, C, dx, fs, v, rfl, h, hc, hn, hl, q⟩
theorem w_fa2 {R : Hp → Prop} {C dx : Addr} {fs gs : List (Str × V)} (hs : Hs B L H) (h : Put L p (.ins C dx fs) (.ins C dx gs) L') (hl : fs.length < 1000) (hg : putF f v fs = gs) (q : ∀ H', Hs B L' H' → R H') : FA2 f p C v H R := by
  subst hg
  exact ⟨dx, fs, hs.gets h, hl, q _ (hs.puts h)⟩
theorem w_rAdd {a b : Int} (q : Q (.int (a + b)) H) : rAdd (.int a) (.int b) H Q := ⟨a, b, rfl, rfl, q⟩
theorem w_rSub {a b : Int} (q : Q (.int (a - b)) H) : rSub (.int a) (.int b) H Q := ⟨a, b, rfl, rfl, q⟩
/-! ### built-ins -/
def rMax2 : List V → Hp → VK → Prop := fun xs H Q => ∃ i j, xs = [.int i, .int j] ∧ Q (.int (if j > i then j else i)) H
def rMin2 : List V → Hp → VK → Prop := fun xs H Q => ∃ i j, xs = [.int i, .int j] ∧ Q (.int (if j < i then j else i)) H
theorem call_maxQ {X : Cx} (hc : X.calm = true) : CallR X (.builtin "max") rMax2 := call_max2 hc
theorem call_minQ {X : Cx} (hc : X.calm = true) : CallR X (.builtin "min") rMin2 := call_min2 hc
theorem w_max {a b : Int} (q : Q (.int (if b > a then b else a)) H) : rMax2 [.int a, .int b] H Q := ⟨a, b, rfl, q⟩
theorem w_min {a b : Int} (q : Q (.int (if b < a then b else a)) H) : rMin2 [.int a, .int b] H Q := ⟨a, b, rfl, q⟩
def rIsN : R2 := fun x y H Q => y = .non ∧ Q (.bl (decide (x = .non))) H
def rNotN : R2 := fun x y H Q => y = .non ∧ Q (.bl (!decide (x = .non))) H
theorem op_isNQ {X : Cx} : OpR X (compareOp .Is) rIsN := op_isN
theorem op_notNQ {X : Cx} : OpR X (compareOp .IsNot) rNotN := op_notN
theorem w_isN (q : Q (.bl (decide (x = .non))) H) : rIsN x .non H Q := ⟨rfl, q⟩
theorem w_notN (q : Q (.bl (!decide (x = .non))) H) : rNotN x .non H Q := ⟨rfl, q⟩
theorem w_eqD {a b : Addr} {d e : PyData} (h1 : Dp K H (.ref a) d) (h2 : Dp K H (.ref b) e) (s1 : SeqAt.shaped d = true) (s2 : SeqAt.shaped e = true) (q : Q (.bl (PyData.eqv d e)) H) : rEqD K (.ref a) (.ref b) H Q := ⟨d, e, h1, h2, s1, s2, q⟩
/-! ### targets -/
theorem w_gtup {n : Nat} {t : TGs} {xs : List V} {R : St → Hp → Prop} (h : SqT K H p xs) (hl : xs.length = n) (q : t xs σ H R) : gTup K n t (.ref p) σ H R := ⟨p, xs, rfl, h, hl, q⟩
theorem w_gnil {R : St → Hp → Prop} (q : R σ H) : gNil [] σ H R := ⟨rfl, q⟩
theorem w_gcons {t : TG} {u : TGs} {r : List V} {R : St → Hp → Prop} (q : t v σ H fun σ' H' => u r σ' H' R) : gCons t u (v :: r) σ H R := ⟨v, r, rfl, q⟩
theorem w_par3 {j l : Nat} (q : ts σ H fun vs H1 => ∃ u v w, vs = [u, v, w] ∧ D.nx (((σ.set i (some u)).set j (some v)).set l (some w)) H1) : tPar3 i j l ts D σ H := q
theorem w_ex3 {a b c : V} {P : V → V → V → Prop} (q : P a b c) : ∃ u v w, [a, b, c] = [u, v, w] ∧ P u v w := ⟨a, b, c, rfl, q⟩
theorem w_par2 {j : Nat} (q : ts σ H fun vs H1 => ∃ u v, vs = [u, v] ∧ D.nx ((σ.set i (some u)).set j (some v)) H1) : tPar i j ts D σ H := q
theorem w_ex2 {a b : V} {P : V → V → Prop} (q : P a b) : ∃ u v, [a, b] = [u, v] ∧ P u v := ⟨a, b, rfl, q⟩
/-! ### [e for i in range(a, b)] -/
theorem w_lcR {vs : List Nat} {tt : TT} {lo hi : Int} (b1 : -(2 ^ 62) ≤ lo ∧ lo < 2 ^ 62 ∧ -(2 ^ 62) ≤ hi ∧ hi < 2 ^ 62) (Pv : Addr → Nat → Hp → Prop) (hta : ∀ Q : List V → Hp → Prop, Q [.int lo, .int hi] H → ts σ H Q) (h0 : ∀ D, H D = none → Pv D 0 (upd H D (.lst [])))
    (hs : ∀ D (i : Nat) H, lo + (i : Int) < hi → Pv D i H → g (.int (lo + (i : Int))) (wipe σ vs) H fun σ2 H2 => wipe σ2 vs = wipe σ vs ∧ tt σ2 H2 fun b H3 =>
      if b = true then te σ2 H3 fun y H4 => ∃ acc, H4 D = some (.lst acc) ∧ acc.length < sizeLine ∧ Pv D (i + 1) (upd H4 D (.lst (acc ++ [y]))) else Pv D (i + 1) H3) (hd : ∀ D H, Pv D (hi - lo).toNat H → Q (.ref D) H) : tLc (iRng2 ts) g tt te vs σ H Q :=
  hta _ ⟨lo, hi, rfl, b1, fun D hD => lc_range (Pv D) (h0 D hD) (fun i H' hi' p => hs D i H' (by omega) p) (hd D)⟩
theorem w_lcR1 {vs : List Nat} {tt : TT} {hi : Int} (b1 : -(2 ^ 62) ≤ hi ∧ hi < 2 ^ 62) (Pv : Addr → Nat → Hp → Prop) (hta : ∀ Q : List V → Hp → Prop, Q [.int hi] H → ts σ H Q) (h0 : ∀ D, H D = none → Pv D 0 (upd H D (.lst [])))
    (hs : ∀ D (i : Nat) H, (i : Int) < hi → Pv D i H → g (.int (i : Int)) (wipe σ vs) H fun σ2 H2 => wipe σ2 vs = wipe σ vs ∧ tt σ2 H2 fun b H3 =>
      if b = true then te σ2 H3 fun y H4 => ∃ acc, H4 D = some (.lst acc) ∧ acc.length < sizeLine ∧ Pv D (i + 1) (upd H4 D (.lst (acc ++ [y]))) else Pv D (i + 1) H3) (hd : ∀ D H, Pv D hi.toNat H → Q (.ref D) H) : tLc (iRng1 ts) g tt te vs σ H Q :=
  hta _ ⟨hi, rfl, b1.1, b1.2, fun D hD => lc_range (Pv D) (h0 D hD) (fun i H' hi' p => by
    have e0 : (0 : Int) + (i : Int) = (i : Int) := Int.zero_add _
    rw [e0]
    exact hs D i H' (by omega) p) (hd D)⟩
end

/-- a statement, then the rest: what stands between is said once -/
theorem w_cut {σ : St} {H : Hp} {D : Ends} {t u : TS} (Mid : St → Hp → Prop) (h1 : t { D with nx := Mid } σ H) (h2 : ∀ σ' H', Mid σ' H' → u D σ' H') : C8.tCut t u D σ H := ⟨Mid, h1, h2⟩
/-! ### rules whose reading names the written part itself -/
section
variable {X : Cx} {K : PySem.W.Frag}
theorem pe_fldK {e : Expr} {f : Str} {ta : TE} {pos : Pos} (he : PE X e ta) (hb : attributeBase e f X.env (eval e X.env) = eval e X.env := by rfl) (hK : X.K = K := by rfl) : PE X (.Attribute e f pos) (tFld K ta f) := by
  subst hK
  exact pe_fld he hb
theorem ps_fldK {o value : Expr} {f : Str} {ta tv : TE} {pos pos' : Pos} (ha : PE X o ta) (hv : PE X value tv) (hs : swapsWith value (some (.Attribute o f pos')) pos.line X.env = pure false := by rfl) (hK : X.K = K := by rfl) : PS X (.Assign [.Attribute o f pos'] value pos) (sFld K ta tv f) := by
  subst hK
  exact ps_fld ha hv hs
theorem ps_fldaugK {o value : Expr} {f : Str} {ta tv : TE} {pos tpos : Pos} {op : Operator} {rd : V → V → Hp → VK → Prop} (ha : PE X o ta) (hv : PE X value tv) (hop : InOp X op rd) (hK : X.K = K := by rfl) : PS X (.AugAssign (.Attribute o f tpos) op value pos) (sFldAug K ta tv rd f) := by
  subst hK
  exact ps_fldaug ha hv hop
theorem ix_listK (hK : X.K = K := by rfl) : IxR X (rIxL K) := by
  subst hK
  exact ix_list
theorem ix_tupK (hK : X.K = K := by rfl) : IxR X (rIxT K) := by
  subst hK
  exact ix_tup
theorem sl_listK (hK : X.K = K := by rfl) : SlR X (rSlL K) := by
  subst hK
  exact sl_list
theorem sl_tupK (hK : X.K = K := by rfl) : SlR X (rSlT K) := by
  subst hK
  exact sl_tup
theorem call_lenK (hK : X.K = K := by rfl) : CallR X (.builtin "len") (rLen K) := by
  subst hK
  exact call_lenQ
theorem op_eqDK (hu : X.A.units + 64 < cLine) (hK : X.K = K := by rfl) : OpR X (compareOp .Eq) (rEqD K) := by
  subst hK
  exact op_eqD hu
theorem op_neDK (hu : X.A.units + 64 < cLine) (hK : X.K = K := by rfl) : OpR X (compareOp .NotEq) (rNeD K) := by
  subst hK
  exact op_neD hu
theorem op_inK (hK : X.K = K := by rfl) : OpR X (compareOp .In) (rIn K false) := by
  subst hK
  exact op_in_seq
theorem op_niK (hK : X.K = K := by rfl) : OpR X (compareOp .NotIn) (rIn K true) := by
  subst hK
  exact op_notIn_seq
theorem pi_listK {tg l : Expr} {tl : TE} (hl : PE X l tl) (hK : X.K = K := by rfl) : PI X tg l (iList K tl) := by
  subst hK
  exact pi_list hl
theorem pi_tupK {tg l : Expr} {tl : TE} (hl : PE X l tl) (hK : X.K = K := by rfl) : PI X tg l (iTup K tl) := by
  subst hK
  exact pi_tup hl
theorem pg_tupK {es : List Expr} {k : Nat} {t : TGs} {n : Nat} {pos : Pos} (hc : X.calm = true) (h : PGs X es t) (hn : (assignEach es X.env).length = n := by rfl) (hst : (assignEach es X.env).findIdx? (·.1) = none := by rfl) (hK : X.K = K := by rfl) : PG X (.Tuple es k pos) (gTup K n t) := by
  subst hK
  exact pg_tup hc h hn hst
theorem pt_truthK {a : Expr} {ta : TE} (ha : PE X a ta) (he : ∀ whole, isTrue a X.env whole = (do let v ← whole; standAt a.pos; holding [v] (truthy v)) := by intro _; rfl) (hK : X.K = K := by rfl) : PT X a (fun σ H Q => ta σ H fun x H' => ∃ k, TruV K x H' k ∧ Q k H') := by
  subst hK
  exact pt_truth ha he
theorem call_isiK (hK : X.K = K := by rfl) : CallR X (.builtin "isinstance") (rIsi K) := by
  subst hK
  exact call_isi
variable {o e : Expr} {es : List Expr} {to : TE} {t : TA} {name : Str} {apos cpos : Pos} {T id : String} {r : V → List V → Hp → VK → Prop}
theorem pe_bm0K (pa : PlainAttrs T) (slot : Slot T name id) (hty : typeOf (.builtin id) = pure (.type "method_descriptor")) (hm : MtR X id r) (ho : PE X o to)
    (hbase : attributeBase o name X.env (eval o X.env) = eval o X.env := by rfl) (hline : (apos.endLine == cpos.line) = true := by rfl) (hK : X.K = K := by rfl) : PE X (.Call (.Attribute o name apos) [] [] cpos) (tBM0 K T r to) := by
  subst hK
  exact pe_bm0 pa slot hty hm ho hbase hline
theorem pe_bmK (pa : PlainAttrs T) (slot : Slot T name id) (hty : typeOf (.builtin id) = pure (.type "method_descriptor")) (hm : MtR X id r) (ho : PE X o to) (ha : PA X (e :: es) t)
    (hb : attributeBase o name X.env (eval o X.env) = eval o X.env := by rfl)
    (hf : ((backTo cpos (starEach (e :: es) X.env)).all (fun x => !x.1) && (backToKw cpos (keywordEach [] X.env)).all (fun x => x.1.isSome) && decide ((e :: es).length + ([] : List Keyword).length + (if ([] : List Keyword).isEmpty then 0 else 1) < 30)) = true := by rfl)
    (hl : (apos.endLine == cpos.line) = true := by rfl) (h1 : starEach (e :: es) X.env = (false, eval e X.env) :: starEach es X.env := by rfl) (h2 : (backTo cpos (starEach es X.env)).any (·.1) = false := by rfl) (hK : X.K = K := by rfl) :
    PE X (.Call (.Attribute o name apos) (e :: es) [] cpos) (tBM K T r to t) := by
  subst hK
  exact pe_bm pa slot hty hm ho ha hb hf hl h1 h2
end
section
variable {H B : Hp} {L L' : List (Addr × HO)} {l : Addr} {y a b c d e : V} {r : List V} {R : Hp → Prop}
theorem w_set0 (hs : Hs B L H) (h : Put L l (.lst (a :: r)) (.lst (y :: r)) L') (q : ∀ H', Hs B L' H' → R H') : rSetL (.ref l) (.int 0) y H R := w_setL (k := 0) hs h rfl (by simp) q
theorem w_set1 (hs : Hs B L H) (h : Put L l (.lst (a :: b :: r)) (.lst (a :: y :: r)) L') (q : ∀ H', Hs B L' H' → R H') : rSetL (.ref l) (.int 1) y H R := w_setL (k := 1) hs h rfl (by simp) q
theorem w_set2 (hs : Hs B L H) (h : Put L l (.lst (a :: b :: c :: r)) (.lst (a :: b :: y :: r)) L') (q : ∀ H', Hs B L' H' → R H') : rSetL (.ref l) (.int 2) y H R := w_setL (k := 2) hs h rfl (by simp) q
theorem w_set3 (hs : Hs B L H) (h : Put L l (.lst (a :: b :: c :: d :: r)) (.lst (a :: b :: c :: y :: r)) L') (q : ∀ H', Hs B L' H' → R H') : rSetL (.ref l) (.int 3) y H R := w_setL (k := 3) hs h rfl (by simp) q
theorem w_set4 (hs : Hs B L H) (h : Put L l (.lst (a :: b :: c :: d :: e :: r)) (.lst (a :: b :: c :: d :: y :: r)) L') (q : ∀ H', Hs B L' H' → R H') : rSetL (.ref l) (.int 4) y H R := w_setL (k := 4) hs h rfl (by simp) q
end
theorem w_eqB {a b : Bool} {H : Hp} {Q : VK} (q : Q (.bl (decide (a = b))) H) : rEq (.bl a) (.bl b) H Q := ⟨rfl, by
  have e : decide (V.bl a = V.bl b) = decide (a = b) := by cases a <;> cases b <;> decide
  rw [e]
  exact q⟩
/-- arguments that are known -/
def kTA (vs : List V) : TA := fun _ H Q => Q vs H
theorem w_for1 {σ : St} {H : Hp} {D : Ends} {ta : TA} {tb : TS} {g : TG} (q : ta σ H fun vs H1 => tFor (iRng1 (kTA vs)) g tb D σ H1) : tFor (iRng1 ta) g tb D σ H := q
theorem w_for2 {σ : St} {H : Hp} {D : Ends} {ta : TA} {tb : TS} {g : TG} (q : ta σ H fun vs H1 => tFor (iRng2 (kTA vs)) g tb D σ H1) : tFor (iRng2 ta) g tb D σ H := q
/-! ### an own exception -/
section
variable {X : Cx} {C a : Addr}
/-- X.__init__(self, ..) of an own class that has its __init__ from ValueError -/
theorem pe_ownInit {x : Str} {e : Expr} {es : List Expr} {ta : TA} {p1 p2 pos : Pos} {pl : Sem Bool} (hg : Gl X x) (hm : X.mg x = some (.ref C)) (r : CRead X.K C (.type "type")) (cv : PySem.W.findCls X.K (.ref C) (.type "type") "__init__" = some (.val (.builtin "ValueError.__init__"))) (ha : PA X (e :: es) ta)
    (hdb : (x == ("__debug__" : Str)) = false := by decide)
    (hc : eval (.Call (.Attribute (.Name x p1) "__init__" p2) (e :: es) [] pos) X.env = (do
      let ov ← eval (.Name x p1) X.env
      standAt p2.atName
      let (f, first) ← holding [ov] (getMethod ov "__init__" pl)
      callWith pos f first (backTo pos (starEach (e :: es) X.env)) (backToKw pos (keywordEach [] X.env))) := by rfl)
    (he : starEach (e :: es) X.env = (false, eval e X.env) :: starEach es X.env := by rfl) (hpl : (backTo pos (starEach es X.env)).any (·.1) = false := by rfl) :
    PE X (.Call (.Attribute (.Name x p1) "__init__" p2) (e :: es) [] pos) (tVeI X.K ta) := by
  constructor
  intro pins s σ H Q I h
  refine PySem.W.methodCall_KW ?_ hc
  refine ld_glob I hg hm ?_ hdb
  refine PySem.W.method_cls I.kIn r.ga (PySem.W.cls_value I.kIn r.rd cv rfl ?_)
  have fin : ∀ (us : List Value) (s1 : Shared), AP X pins σ (fun vs H1 => ∃ (a C : Addr) (ws : List V), vs = .ref a :: ws ∧ ws.length ≤ 1000 ∧ OexC X.K C ∧ H1 a = some (exo a C none) ∧ Q .non H1) us s1 → wpAny (model X.prog X.w) X.A (call (.builtin "ValueError.__init__") us) (EP X pins σ Q) X.xe s1 := by
    rintro us s1 ⟨vs, H1, I1, r1, a', C', ws, rfl, hw, hT, hE, q1⟩
    match us, r1 with
    | u0 :: ur, .cons r0 rr =>
      cases (show u0 = Value.ref a' from r0)
      have hn : ur.length ≤ sizeLine := by
        rw [← Paired.length rr, sizeLine_eq]
        omega
      exact oinit_ok hT I1 hE hn fun _ J => ⟨.non, _, J, rfl, q1⟩
  exact PyProof.Rows.callWith_method1 (thn (ha.run pos pins _ σ H _ (I.tok _) h) fin) he hpl
/-- o.m(e), what it lets out by the slots -/
def tMethQ (C : Addr) (m : Str) (sp : Sp) (E : St → XK) (ta : TE) (t : TA) : TE := fun σ H Q => ta σ H fun x H1 => ∃ a dx fs, x = .ref a ∧ H1 a = some (.ins C dx fs) ∧ fs.lookup m = none ∧ t σ H1 fun vs H2 => sp (x :: vs) H2 Q (E σ)
theorem pe_methQ {CX : CXT} {k : Nat} {f : Addr} {fd : FuncData} {ps : List Str} {sp : Sp} {E : St → XK} {m : Str} {pos apos : Pos} {e o : Expr} {es : List Expr} {ta : TE} {t : TA} {pl : Sem Bool} (ho : PE X o ta) (c : Cls X.K C) (hm : Meth X.K C m f) (F : FnOk X.prog X.w X.K X.mg X.base CX k f fd ps sp)
    (hr : Room k X.A) (hb : Binds X.K fd ps []) (hx : ∀ σ, PassesAt CX X σ (E σ)) (ha : PA X (e :: es) t) (h1 : starEach (e :: es) X.env = (false, eval e X.env) :: starEach es X.env := by rfl) (h2 : (backTo pos (starEach es X.env)).any (·.1) = false := by rfl)
    (h3 : eval (.Call (.Attribute o m apos) (e :: es) [] pos) X.env = (do
      let ov ← eval o X.env
      standAt apos.atName
      let (f, first) ← holding [ov] (getMethod ov m pl)
      callWith pos f first (backTo pos (starEach (e :: es) X.env)) (backToKw pos (keywordEach [] X.env))) := by rfl) :
    PE X (.Call (.Attribute o m apos) (e :: es) [] pos) (tMethQ C m sp E ta t) := by
  constructor
  intro pins s σ H Q I h
  refine PySem.W.methodCall_KW (pl := pl) (thn (ho.run pins s σ H _ I h) ?_) h3
  rintro u s1 ⟨x, H1, I1, rx, a, dx, fs, rfl, ea, l, q⟩
  cases (show u = Value.ref a from rx)
  refine getmeth_ok I1 ea c hm l (PySem.W.callWith_K (first := [.ref a]) (h₀ := X.base) I.ok.mod.kin hm.kp (thn (ha.run pos pins s1 σ H1 _ I1 q) ?_) h1 h2)
  rintro us s2 ⟨vs, H2, I2, r, q2⟩
  exact ⟨I2.kIn, run_fnS (us := .ref a :: us) (vs := .ref a :: vs) F hr hb (hx σ) I2 (.cons rfl r) q2⟩
/-- what an own exception's class D must have for isinstance -/
structure XcC (K : PySem.W.Frag) (D : Addr) : Prop where
  cl : (PySem.W.clsIn K D).isSome = true
  ga : PySem.W.findIn K (.ref D) "__getattribute__" = some (some (.builtin "BaseException.__getattribute__"))
  gt : PySem.W.findIn K (.ref D) "__getattr__" = some none
  ex : PySem.W.subIn K (.ref D) (.type "BaseException") = some true
  cs : PySem.W.findIn K (.ref D) "__class__" = some (some (.builtin "object.__class__"))
  gd : PySem.W.specialIn K (.builtin "object.__class__") "__get__" = some (some (.builtin "getset_descriptor.__get__"))
  tk : PySem.W.takesIn K (.builtin "object.__class__") = some true
  mo : PySem.W.mroIn K D (.type "object") = some true
theorem kit_own {K : PySem.W.Frag} {D C : Addr} {b : Bool} (n : D ≠ C) (hc : PySem.W.isClsIn K C = true) (ht : PySem.W.typeIn K (.ref C) = some (.type "type")) (h : PySem.W.subIn K (.ref D) (.ref C) = some b) : PySem.W.kitOne K (.ref D) (.ref C) = some b := by
  have e : (Value.ref D == Value.ref C) = false := beq_eq_false_iff_ne.mpr fun q => n (Value.ref.inj q)
  have hc' : (PySem.W.clsIn K C).isSome = true := hc
  unfold PySem.W.kitOne PySem.W.kitCls
  simp [e, hc', ht, h]
theorem kit_ownT {K : PySem.W.Frag} {D C : Addr} (hc : PySem.W.isClsIn K C = true) (ht : PySem.W.typeIn K (.ref C) = some (.type "type")) (h : PySem.W.subIn K (.ref D) (.ref C) = some true) : PySem.W.kitOne K (.ref D) (.ref C) = some true := by
  by_cases e : D = C
  · subst e
    unfold PySem.W.kitOne
    rw [if_pos (beq_self_eq_true _)]
  · exact kit_own e hc ht h
/-- isinstance(e, c) of an exception that the suite holds, with its dict -/
def rIsX (K : PySem.W.Frag) (a : Addr) (cls : Value) (d : Option Addr) : List V → Hp → VK → Prop := fun xs H Q => ∃ (D C dd : Addr) (fs : List (Str × V)) (b : Bool), cls = .ref D ∧ d = some dd ∧ H dd = some (.xd fs) ∧ xs = [.ref a, .ref C] ∧ XcC K D ∧ PySem.W.kitOne K (.ref D) (.ref C) = some b ∧ Q (.bl b) H
theorem call_isX {oe : Obj} {cls : Value} {d : Option Addr} {pn : List (Addr × Obj)} (hz : Zc cls d oe) (hf : ∃ vs, oe.data = .fields vs) : CallR (X.suite a ((a, oe) :: pn)) (.builtin "isinstance") (rIsX X.K a cls d) := by
  rintro pins s σ H xs us Q I r ⟨D, C, dd, fs, b, rfl, rfl, hd, rfl, hD, hk, q⟩
  obtain ⟨u1, u2, rfl, r1, r2⟩ := vals2 r
  cases (show u1 = Value.ref a from r1)
  cases (show u2 = Value.ref C from r2)
  obtain ⟨ha, _⟩ := I.pin (a, oe) (List.mem_append_left _ List.mem_cons_self)
  obtain ⟨vs, hv⟩ := hf
  obtain ⟨mA, hns, _⟩ := (show ObjOk X.prog X.w H s.heap dd (.xd fs) from I.hok dd _ hd)
  obtain ⟨od, ho, _⟩ := lookIn_ns hns
  have J : PySem.W.InstAt s.heap a oe D (some od) := ⟨ha, hz.1, by unfold PySem.W.notCls; rw [hv] <;> rfl, by rw [hz.2]; exact ho⟩
  exact PySem.W.kia_one (PySem.W.kitx_exc hD.cl hD.ga hD.gt hD.ex hD.cs hD.gd hD.tk hD.mo) I.kIn J hk (fun z => nomatch z) fun tk => ⟨.bl b, H, I.kept (t' := tk) fun _ _ z => z, rfl, q⟩
end
section
variable {K : PySem.W.Frag} {σ : St} {H : Hp} {Q : VK} {D : Ends} {te tv to : TE} {ts : TA} {f : Str} {v x y : V} {C a : Addr} {B : Hp} {L L' : List (Addr × HO)}
def RVe (K : PySem.W.Frag) (vs : List V) (H : Hp) (Q : VK) : Prop := ∃ (a C : Addr) (ws : List V), vs = .ref a :: ws ∧ ws.length ≤ 1000 ∧ OexC K C ∧ H a = some (exo a C none) ∧ Q .non H
theorem w_vei (q : ts σ H fun vs H1 => RVe K vs H1 Q) : tVeI K ts σ H Q := q
theorem w_ve {ws : List V} (hl : ws.length ≤ 1000) (hT : OexC K C) (h : H a = some (exo a C none)) (q : Q .non H) : RVe K (.ref a :: ws) H Q := ⟨a, C, ws, rfl, hl, hT, h, q⟩
def ROst (K : PySem.W.Frag) (f : Str) (y x : V) (H : Hp) (R : Hp → Prop) : Prop := ∃ a C : Addr, x = .ref a ∧ OexC K C ∧ PySem.W.findIn K (.ref C) f = some none ∧
  ((H a = some (exo a C none) ∧ ∀ dx, H dx = none → dx ≠ a → R (upd (upd H dx (exd dx [(f, y)])) a (exo a C (some dx)))) ∨
    ∃ (dx : Addr) (fs : List (Str × V)), H a = some (exo a C (some dx)) ∧ H dx = some (exd dx fs) ∧ fs.length ≤ 900 ∧ R (upd H dx (exd dx ((f, y) :: fs))))
theorem w_ost0 (q : te σ H fun y H1 => to σ H1 fun x H2 => ROst K f y x H2 (D.nx σ)) : tOst K f to te D σ H := q
theorem w_ost {R : Hp → Prop} (hs : Hs B ((a, exo a C none) :: L) H) (hT : OexC K C) (hn : PySem.W.findIn K (.ref C) f = some none) (q : ∀ dx H', Hs B ((dx, exd dx [(f, y)]) :: (a, exo a C (some dx)) :: L) H' → R H') : ROst K f y (.ref a) H R :=
  ⟨a, C, rfl, hT, hn, .inl ⟨hs.g0, fun dx hd _ => q dx _ ((hs.new hd).p1 _)⟩⟩
/-- the making of an own exception -/
def MkO (C : Addr) (sp : Sp) (vs dvs : List V) (H1 : Hp) (Q : XK) : Prop := vs.length ≤ 1000 ∧ ∀ a, H1 a = none → sp (.ref a :: (vs ++ dvs)) (upd H1 a (exo a C none))
  (fun v H2 => v = .non ∧ ∃ (d : Addr) (fs : List (Str × V)), H2 a = some (exo a C (some d)) ∧ H2 d = some (exd d fs) ∧ H1 d = none ∧ Q (.ref C) (some d) (upd (del H2 a) d (.xd fs))) (fun _ _ _ => False)
theorem w_mko {sp : Sp} {dvs : List V} {Q : XK} (q : ts σ H fun vs H1 => MkO C sp vs dvs H1 Q) : tMkO C sp dvs ts σ H Q := by
  revert q
  unfold tMkO MkO
  exact id
/-- what an own __init__ with one field promises -/
def spXinit (C : Addr) (f : Str) (ok : V → Prop) : Sp := fun vs H Q _ => ∃ (B : Hp) (e : Addr) (v : V), vs = [.ref e, v] ∧ Hs B [(e, exo e C none)] H ∧ ok v ∧ ∀ dx H', Hs B [(dx, exd dx [(f, v)]), (e, exo e C (some dx))] H' → Q .non H'
theorem w_mkX {ok : V → Prop} {Q : XK} (hs : Hs B L H) (hv : ok v) (q : ∀ d H', Hs B ((d, .xd [(f, v)]) :: L) H' → Q (.ref C) (some d) H') : MkO C (spXinit C f ok) [v] [] H Q := by
  refine ⟨by simp, fun a ha => ?_⟩
  have h1 := hs.new (o := exo a C none) ha
  obtain ⟨_, h2, back⟩ := h1.frame [(a, exo a C none)]
  refine ⟨_, a, v, rfl, h2, hv, fun dx H2 h3 => ⟨rfl, dx, [(f, v)], h3.g1, h3.g0, ?_, ?_⟩⟩
  · have n : dx ≠ a := fun e => by
      have := h3.nd
      rw [e] at this
      simp at this
    have z := h3.out _ List.mem_cons_self
    have nm : dx ∉ [(a, exo a C none)].map (·.1) := by
      simp only [List.map_cons, List.map_nil, List.mem_singleton]
      exact n
    have z2 : upd H a (exo a C none) dx = none := (around_out nm).symm.trans z
    rwa [upd_ne n] at z2
  · have h4 := back _ _ h3
    have nd := h4.nd
    have hda : dx ≠ a := fun e => by
      rw [e] at nd
      simp at nd
    have nL : ∀ e ∈ L, e.1 ≠ dx ∧ e.1 ≠ a := fun e he => by
      simp only [List.cons_append, List.nil_append, List.map_cons, List.nodup_cons, List.mem_cons, not_or] at nd
      refine ⟨fun z => nd.1.2 ?_, fun z => nd.2.1 ?_⟩
      · rw [← z]
        exact List.mem_map.mpr ⟨e, he, rfl⟩
      · rw [← z]
        exact List.mem_map.mpr ⟨e, he, rfl⟩
    have ba : B a = none := hs.same.free ha
    have bd : B dx = none := h4.out _ List.mem_cons_self
    refine q dx _ ⟨fun b o e => ?_, ?_, fun e he => ?_, fun e he => ?_⟩
    · have n1 : b ≠ dx := fun z => by
        rw [z, bd] at e
        cases e
      have n2 : b ≠ a := fun z => by
        rw [z, ba] at e
        cases e
      rw [upd_ne n1, del_ne n2]
      exact h4.same b o e
    · simp only [List.cons_append, List.nil_append, List.map_cons, List.nodup_cons, List.mem_cons, not_or] at nd ⊢
      exact ⟨nd.1.2, nd.2.2⟩
    · rcases List.mem_cons.mp he with rfl | he
      · exact bd
      · exact hs.out e he
    · rcases List.mem_cons.mp he with rfl | he
      · exact upd_same
      · obtain ⟨n1, n2⟩ := nL e he
        rw [upd_ne n1, del_ne n2]
        exact h4.at_ e (List.mem_cons_of_mem _ (List.mem_cons_of_mem _ he))
theorem w_methQ {sp : Sp} {E : St → XK} {m : Str} {ta : TE} (q : ta σ H fun x H1 => Rc m C x H1 (ts σ H1 fun vs H2 => sp (x :: vs) H2 Q (E σ))) : tMethQ C m sp E ta ts σ H Q := by
  revert q
  unfold tMethQ Rc
  exact id
theorem w_isX {d : Addr} {fs : List (Str × V)} {C' : Addr} {b : Bool} (h : H d = some (.xd fs)) (hx : XcC K C) (hk : PySem.W.kitOne K (.ref C) (.ref C') = some b) (q : Q (.bl b) H) : rIsX K a (.ref C) (some d) [.ref a, .ref C'] H Q := ⟨C, C', d, fs, b, rfl, rfl, h, rfl, hx, hk, q⟩
def RXf (a : Addr) (cls : Value) (d : Option Addr) (C : Addr) (f : Str) (x : V) (H : Hp) (Q : VK) : Prop := x = .ref a ∧ cls = .ref C ∧ ∃ (dd : Addr) (fs : List (Str × V)) (v : V), d = some dd ∧ H dd = some (.xd fs) ∧ fs.lookup f = some v ∧ Q v H
theorem w_xf0 {cls : Value} {d : Option Addr} (q : te σ H fun x H1 => RXf a cls d C f x H1 Q) : tXf a cls d C f te σ H Q := q
theorem w_xf {d : Addr} {fs : List (Str × V)} (h : H d = some (.xd fs)) (hl : fs.lookup f = some v) (q : Q v H) : RXf a (.ref C) (some d) C f (.ref a) H Q := ⟨rfl, rfl, d, fs, v, rfl, h, hl, q⟩
theorem w_was {i : Nat} {ts : Addr → Value → Option Addr → TS} {Wout : WX} {d : Addr} (he : PySem.W.exmOne K (.ref C) (.ref C) = some true)
    (q : ∀ e, H e = none → ts e (.ref C) (some d) { nx := fun σ' H' => D.nx (σ'.set i none) H', rt := D.rt, bk := fun σ' H' => D.bk (σ'.set i none) H', ct := fun σ' H' => D.ct (σ'.set i none) H' } (σ.set i (some (.ref e))) H) :
    wAs K (.ref C) i ts Wout D (.ref C) (some d) σ H := ⟨true, he, fun _ e h => q e h, fun z => Bool.noConfusion z⟩
theorem w_eqSt {a b : Str} (q : Q (.bl (decide (a = b))) H) : rEq (.str a) (.str b) H Q := ⟨rfl, by
  have e : decide (V.str a = V.str b) = decide (a = b) := by
    by_cases h : a = b
    · rw [decide_eq_true h, decide_eq_true (congrArg V.str h)]
    · rw [decide_eq_false h, decide_eq_false fun q => h (V.str.inj q)]
  rw [e]
  exact q⟩
/-- texts of an f-string -/
theorem w_js {t : TE} {us : List TE} {acc : Str} {Q : Str → Hp → Prop} (q : t σ H fun x H1 => ∃ y : Str, x = .str y ∧ (acc ++ y).length ≤ sizeLine ∧ tJs us (acc ++ y) σ H1 Q) : tJs (t :: us) acc σ H Q := q
theorem w_js0 {acc : Str} {Q : Str → Hp → Prop} (q : Q acc H) : tJs [] acc σ H Q := q
theorem w_js1 {s acc : Str} {R : Str → Prop} (h : (acc ++ s).length ≤ sizeLine) (q : R s) : ∃ y : Str, V.str s = .str y ∧ (acc ++ y).length ≤ sizeLine ∧ R y := ⟨s, rfl, h, q⟩
def RFmt (x : V) (H : Hp) (Q : VK) : Prop := (∃ y : Str, x = .str y ∧ y.length ≤ sizeLine ∧ Q (.str y) H) ∨ ∃ i : Int, x = .int i ∧ i.natAbs.log2 < 1920 ∧ Q (.str (toString i)) H
theorem w_fmt (q : te σ H fun x H1 => RFmt x H1 Q) : tFmt te σ H Q := q
theorem w_fmtS {s : Str} (h : s.length ≤ sizeLine) (q : Q (.str s) H) : RFmt (.str s) H Q := .inl ⟨s, rfl, h, q⟩
theorem w_fmtI {n : Int} (h : n.natAbs < 2 ^ 64) (q : Q (.str (toString n)) H) : RFmt (.int n) H Q := .inr ⟨n, rfl, Nat.lt_of_lt_of_le (PySem.Flt.log2_lt_of (by decide) h) (by decide), q⟩
def tRaiseX (W : WX) (t : St → Hp → XK → Prop) : TS := fun _ σ H => t σ H fun cls d H' => W cls d σ H'
theorem ps_raiseQ {X : Cx} {W : WX} {e : Expr} {t : St → Hp → XK → Prop} {pos : Pos} (hc : X.calm = true) (tk : Takes X W) (he : PMk X e t) : PS X (.Raise (some e) none pos) (tRaiseX W t) := ps_raise hc tk he
theorem w_raise {W : WX} {t : St → Hp → XK → Prop} (q : t σ H fun cls d H' => W cls d σ H') : tRaiseX W t D σ H := q
end

/-! ### data that nobody changes: scalars and tuples -/
mutual
inductive Im (K : PySem.W.Frag) (H : Hp) : V → PyData → Prop
  | non : Im K H .non .none
  | bl (b : Bool) : Im K H (.bl b) (.bool b)
  | int (i : Int) : Im K H (.int i) (.int i)
  | str (x : Str) : Im K H (.str x) (.str x)
  | tup {a : Addr} {xs : List V} {ds : List PyData} : H a = some (.tup xs) → ImAll K H xs ds → Im K H (.ref a) (.tuple ds)
inductive ImAll (K : PySem.W.Frag) (H : Hp) : List V → List PyData → Prop
  | nil : ImAll K H [] []
  | cons {v : V} {vs : List V} {d : PyData} {ds : List PyData} : Im K H v d → ImAll K H vs ds → ImAll K H (v :: vs) (d :: ds)
end
section
variable {K : PySem.W.Frag} {H H' : Hp}
mutual
theorem Im.dp : ∀ {d : PyData} {v : V}, Im K H v d → Dp K H v d
  | .none, _, h => by cases h; exact .non
  | .bool _, _, h => by cases h; exact .bl _
  | .int _, _, h => by cases h; exact .int _
  | .str _, _, h => by cases h; exact .str _
  | .tuple _, _, h => by
    cases h with
    | tup h1 h2 => exact .tup (SqT.of h1) h2.dp
  | .list _, _, h => nomatch h
  | .dict _, _, h => nomatch h
theorem ImAll.dp : ∀ {ds : List PyData} {vs : List V}, ImAll K H vs ds → DpAll K H vs ds
  | [], _, h => by cases h; exact .nil
  | _ :: _, _, h => by
    cases h with
    | cons h1 h2 => exact .cons h1.dp h2.dp
end
mutual
theorem Im.mono (e : ∀ a xs, H a = some (.tup xs) → H' a = some (.tup xs)) : ∀ {d : PyData} {v : V}, Im K H v d → Im K H' v d
  | .none, _, h => by cases h; exact .non
  | .bool _, _, h => by cases h; exact .bl _
  | .int _, _, h => by cases h; exact .int _
  | .str _, _, h => by cases h; exact .str _
  | .tuple _, _, h => by
    cases h with
    | tup h1 h2 => exact .tup (e _ _ h1) (h2.mono e)
  | .list _, _, h => nomatch h
  | .dict _, _, h => nomatch h
theorem ImAll.mono (e : ∀ a xs, H a = some (.tup xs) → H' a = some (.tup xs)) : ∀ {ds : List PyData} {vs : List V}, ImAll K H vs ds → ImAll K H' vs ds
  | [], _, h => by cases h; exact .nil
  | _ :: _, _, h => by
    cases h with
    | cons h1 h2 => exact .cons (h1.mono e) (h2.mono e)
end
theorem Im.same (e : Same H H') {d : PyData} {v : V} (h : Im K H v d) : Im K H' v d := h.mono fun _ _ => e _ _
theorem ImAll.same (e : Same H H') {ds : List PyData} {vs : List V} (h : ImAll K H vs ds) : ImAll K H' vs ds := h.mono fun _ _ => e _ _
theorem ImAll.snoc {ds : List PyData} {vs : List V} {d : PyData} {v : V} (h : ImAll K H vs ds) (h1 : Im K H v d) : ImAll K H (vs ++ [v]) (ds ++ [d]) := by
  induction vs generalizing ds with
  | nil =>
    cases h
    exact .cons h1 .nil
  | cons w ws ih =>
    cases h with
    | cons a b => exact .cons a (ih b)
theorem ImAll.len : ∀ {ds : List PyData} {vs : List V}, ImAll K H vs ds → vs.length = ds.length
  | [], _, h => by cases h; rfl
  | _ :: _, _, h => by
    cases h with
    | cons _ b => exact congrArg (· + 1) b.len
/-- what is data stays data where a list changes -/
theorem tup_but {p : Addr} {o o' : HO} (h : H p = some o) (n : ∀ xs, o ≠ .tup xs) (a : Addr) (xs : List V) (e : H a = some (.tup xs)) : upd H p o' a = some (.tup xs) := by
  have d : a ≠ p := fun z => by
    rw [z, h] at e
    exact n xs (Option.some.inj e)
  rw [upd_ne d]
  exact e
theorem Hs.base {B B2 : Hp} {L : List (Addr × HO)} (e : Same B B2) (h : Hs B2 L H) : Hs B L H := ⟨e.trans h.same, h.nd, fun x hx => e.free (h.out x hx), h.at_⟩
end
section
variable {K : PySem.W.Frag} {σ : St} {H : Hp} {Q : VK} {te : TE} {ts : TA}
/-- [e for i in range(lo, hi)], each e data that is made anew -/
theorem w_lcI {vs : List Nat} {j : Nat} {lo hi : Int} (b1 : -(2 ^ 62) ≤ lo ∧ lo < 2 ^ 62 ∧ -(2 ^ 62) ≤ hi ∧ hi < 2 ^ 62) (hz : hi - lo ≤ 1000000) (ds : Nat → PyData) (hta : ∀ Q : List V → Hp → Prop, Q [.int lo, .int hi] H → ts σ H Q)
    (hw : ∀ v, wipe ((wipe σ vs).set j (some v)) vs = wipe σ vs)
    (he : ∀ (i : Nat) (H' : Hp) (Q' : VK), lo + (i : Int) < hi → Same H H' → (∀ y H3, Same H' H3 → Im K H3 y (ds i) → Q' y H3) → te ((wipe σ vs).set j (some (.int (lo + (i : Int))))) H' Q')
    (hq : ∀ D acc H', Hs H [(D, .lst acc)] H' → ImAll K H' acc ((List.range (hi - lo).toNat).map ds) → Q (.ref D) H') : tLc (iRng2 ts) (gName j) tYes te vs σ H Q := by
  refine w_lcR b1 (fun D i H' => ∃ acc, Hs H [(D, .lst acc)] H' ∧ ImAll K H' acc ((List.range i).map ds)) hta (fun D hD => ⟨[], (Hs.start H).new hD, .nil⟩) ?_ ?_
  · rintro D i H' hi' ⟨acc, h1, h2⟩
    refine ⟨hw _, ?_⟩
    refine w_yes (iteT ?_)
    refine he i H' _ hi' h1.same fun y H3 s3 hy => ?_
    have hD : H3 D = some (.lst acc) := s3 _ _ h1.g0
    have hl := h2.len
    rw [List.length_map, List.length_range] at hl
    refine ⟨acc, hD, szl (by omega), acc ++ [y], ?_, ?_⟩
    · have h3 : Hs H [(D, .lst acc)] H3 := ⟨h1.same.trans s3, h1.nd, h1.out, fun e he => s3 _ _ (h1.at_ e he)⟩
      exact h3.p0 _
    · rw [List.range_succ, List.map_append]
      exact ((h2.same s3).snoc hy).mono fun a xs => tup_but hD (fun _ z => by cases z) a xs
  · rintro D H' ⟨acc, h1, h2⟩
    exact hq D acc H' h1 h2
theorem w_lcI1 {vs : List Nat} {j : Nat} {hi : Int} (b1 : -(2 ^ 62) ≤ hi ∧ hi < 2 ^ 62) (hz : hi ≤ 1000000) (ds : Nat → PyData) (hta : ∀ Q : List V → Hp → Prop, Q [.int hi] H → ts σ H Q)
    (hw : ∀ v, wipe ((wipe σ vs).set j (some v)) vs = wipe σ vs)
    (he : ∀ (i : Nat) (H' : Hp) (Q' : VK), (i : Int) < hi → Same H H' → (∀ y H3, Same H' H3 → Im K H3 y (ds i) → Q' y H3) → te ((wipe σ vs).set j (some (.int (i : Int)))) H' Q')
    (hq : ∀ D acc H', Hs H [(D, .lst acc)] H' → ImAll K H' acc ((List.range hi.toNat).map ds) → Q (.ref D) H') : tLc (iRng1 ts) (gName j) tYes te vs σ H Q := by
  refine w_lcR1 b1 (fun D i H' => ∃ acc, Hs H [(D, .lst acc)] H' ∧ ImAll K H' acc ((List.range i).map ds)) hta (fun D hD => ⟨[], (Hs.start H).new hD, .nil⟩) ?_ ?_
  · rintro D i H' hi' ⟨acc, h1, h2⟩
    refine ⟨hw _, ?_⟩
    refine w_yes (iteT ?_)
    refine he i H' _ hi' h1.same fun y H3 s3 hy => ?_
    have hD : H3 D = some (.lst acc) := s3 _ _ h1.g0
    have hl := h2.len
    rw [List.length_map, List.length_range] at hl
    refine ⟨acc, hD, szl (by omega), acc ++ [y], ?_, ?_⟩
    · have h3 : Hs H [(D, .lst acc)] H3 := ⟨h1.same.trans s3, h1.nd, h1.out, fun e he => s3 _ _ (h1.at_ e he)⟩
      exact h3.p0 _
    · rw [List.range_succ, List.map_append]
      exact ((h2.same s3).snoc hy).mono fun a xs => tup_but hD (fun _ z => by cases z) a xs
  · rintro D H' ⟨acc, h1, h2⟩
    exact hq D acc H' h1 h2
theorem depth_all {n : Nat} : ∀ ds : List PyData, (∀ d ∈ ds, d.depth ≤ n) → PyData.depthAll ds ≤ n
  | [], _ => by simp [PyData.depthAll]
  | d :: ds, h => by
    have h1 := h d List.mem_cons_self
    have h2 := depth_all ds fun x hx => h x (List.mem_cons_of_mem _ hx)
    simp only [PyData.depthAll]
    omega
theorem lay_all : ∀ ds : List PyData, (∀ d ∈ ds, d.canLay0 = true) → PyData.canLayAll0 ds = true
  | [], _ => by simp [PyData.canLayAll0]
  | d :: ds, h => by
    have h1 := h d List.mem_cons_self
    have h2 := lay_all ds fun x hx => h x (List.mem_cons_of_mem _ hx)
    simp only [PyData.canLayAll0, h1, h2, Bool.and_self]
theorem shp_list {ds : List PyData} (h : ∀ d ∈ ds, d.canLay0 = true ∧ d.depth ≤ 60) : SeqAt.shaped (.list ds) = true := by
  have e := depth_all ds fun d hd => (h d hd).2
  have l := lay_all ds fun d hd => (h d hd).1
  unfold SeqAt.shaped PyData.canLay0 PyData.depth
  rw [l]
  simp only [Bool.true_and, decide_eq_true_eq]
  omega
/-- two lists of like data are equal -/
theorem w_eqL {p q : Addr} {xs ys : List V} {ds : List PyData} (hp : H p = some (.lst xs)) (hq : H q = some (.lst ys)) (h1 : ImAll K H xs ds) (h2 : ImAll K H ys ds) (h : ∀ d ∈ ds, d.canLay0 = true ∧ d.depth ≤ 60) (k : Q (.bl true) H) : rEqD K (.ref p) (.ref q) H Q :=
  ⟨_, _, .lst (SqL.of hp) h1.dp, .lst (SqL.of hq) h2.dp, shp_list h, shp_list h, by
    rw [SeqAt.eqv_refl _ (by have := shp_list h; unfold SeqAt.shaped at this; exact (Bool.and_eq_true_iff.mp this).1)]
    exact k⟩
theorem w_neL {p q : Addr} {xs ys : List V} {ds : List PyData} (hp : H p = some (.lst xs)) (hq : H q = some (.lst ys)) (h1 : ImAll K H xs ds) (h2 : ImAll K H ys ds) (h : ∀ d ∈ ds, d.canLay0 = true ∧ d.depth ≤ 60) (k : Q (.bl false) H) : rNeD K (.ref p) (.ref q) H Q :=
  ⟨_, _, .lst (SqL.of hp) h1.dp, .lst (SqL.of hq) h2.dp, shp_list h, shp_list h, by
    rw [SeqAt.eqv_refl _ (by have := shp_list h; unfold SeqAt.shaped at this; exact (Bool.and_eq_true_iff.mp this).1)]
    exact k⟩
theorem ima_str : ∀ xs : List Str, ImAll K H (xs.map V.str) (xs.map PyData.str)
  | [] => .nil
  | x :: xs => .cons (.str x) (ima_str xs)
end
end Hb

set_option Elab.async false
set_option maxRecDepth 100000
set_option maxHeartbeats 4000000
/-! An own exception's __init__ that says super().__init__(..): the def closes over its class. -/
namespace Hb
open PySem L2 ClX PySem.W PyProof.Rows

section
variable {X : Cx} {pins : List (Addr × Obj)} {σ : L2.St} {H : Hp} {s : Shared} {a C u : Addr} {A : Around} {E : Value → Shared → Prop}
theorem exo_upd {H : Hp} {a : Addr} {o : HO} (e : H a = some o) : upd H a o = H := by
  funext b
  by_cases hb : b = a
  · rw [hb, upd_same, e]
  · rw [upd_ne hb]
/-- ValueError's __init__ bound to the exception, called -/
theorem call_mw {us : List Value} {Q : Value → Shared → Prop} (T : OexC X.K C) (I : Inv X pins σ H s) (e : H a = some (exo a C none)) (hu : s.heap.get? u = some (kxs_mw "ValueError.__init__" a)) (hl : us.length ≤ sizeLine)
    (h : ∀ s', Inv X pins σ H s' → Q .none s') : wpAny (model X.prog X.w) A (call (.ref u) us) Q E s := by
  obtain ⟨nm, q, N, bs, bm, sn, sub, ab, col, dd, k0, k1, k2, k3, k5, hC, hbm⟩ := T.cls
  obtain ⟨t1, ho⟩ := exo_at I.hok e
  have hC' := I.kIn _ _ hC
  have FB := F.excBase_ValueError
  obtain ⟨hp, g, d, t, os⟩ := s
  refine wpAny_call (codeAny_of_tree ?_)
  show wpAny _ A.in1 (callAny (.ref u) ⟨us, []⟩) _ _ _
  simp only [callAny]
  refine wpAny_bind (wpAny_load hu ?_)
  simp only [show (Value.type "method-wrapper" == Value.type "method" || Value.type "method-wrapper" == Value.type "builtin_function_or_method" || Value.type "method-wrapper" == Value.type "method-wrapper") = true by decide, if_true]
  refine KFB.if_so (by decide) ?_
  refine wpAny_bind (check_bound_init FB.toExcCallFacts hC' ho rfl ?_)
  refine wpAny_bind (wpAny_pure (wpAny_pure ?_))
  refine ⟨plainId_quiet FB.init.plain _, codeAny_builtin FB.initEntry ?_⟩
  refine exc_init_tree (cls := .ref C) (t0 := t1) (dv := none) (c2 := .none) (c3 := .none) (b4 := .bool false) ho hl fun h' k hx _ => ?_
  have J := I.write (t' := t) (x := a) (e := a) (o := exo a C none) (by rw [e]; exact True.intro) (.inl rfl) k ⟨_, hx⟩ (exo_ok hx)
  rw [exo_upd e] at J
  exact h _ J
end

/-- what stands of a def that closes over its class -/
structure FunS (P : Program) (K : PySem.W.Frag) (mg : Str → Option Value) (x qual : Str) (st : Stmt) (f : Addr) (fd : FuncData) (C : Addr) : Prop where
  ex : ∃ (oc : Value) (od : Option Addr) (kV doc pm : Value) (an : Option Addr) (cda : Addr) (ct : Value) (cc : Addr) (osl : Array (Option Value)) (ccl : Value) (cdd : Option Addr) (vs : Array Value) (ccs : Array (Option Value)) (file : Str) (tf : Tok) (cl : Value) (cld : Option Addr) (csl : Array (Option Value)),
    fd = fnX x qual (defArgs st) (defBody st) (defScope st) [("__class__", cc)] .none kV doc pm an (.ref cda) ct ∧ K.lookup f = some ⟨oc, od, .func fd, osl⟩ ∧ codeIn K (.ref cda) qual = true ∧
    K.lookup cda = some ⟨ccl, cdd, .fields vs, ccs⟩ ∧ vs[2]? = some (.str file tf) ∧ ((P.main.file : Str) == file) = true ∧ K.lookup cc = some ⟨cl, cld, .cell (some (.ref C)), csl⟩
  cls : ∃ cd, clsIn K C = some cd
  sub : mroIn K C (.ref C) = some true
  nsup : mg "super" = none
  nany : nsIn K cStatics "thirdparty.any" = some none
  sup : ks_superIn K C C "__init__" = some (some (.builtin "ValueError.__init__"))
  isV : subIn K (.ref C) (.type "ValueError") = some true
  top : (P.main.scope.names.lookup ("super" : Str)).isSome = false

/-- .. and of its names -/
structure ScS (N ps : List Str) (ar : Arg) (st : Stmt) : Prop where
  kind : (defScope st).kind = .function
  co : (defScope st).isCoroutine = false
  gen : (defScope st).isGenerator = false
  nd : N.Nodup
  pre : N.take ps.length = ps
  par : ∀ x ∈ ps, (defScope st).names.lookup x = some .local
  nocell : ∀ y ∈ (defScope st).names, y.2 ≠ .cell
  free : ∀ y, (defScope st).names.lookup y = some .free → y = ("__class__" : Str)
  sup : (defScope st).names.lookup ("super" : Str) = some .globalImplicit
  cls : (defScope st).names.lookup ("__class__" : Str) = some .free
  head : ((defArgs st).posonlyargs ++ (defArgs st).args).head? = some ar
  self : N[0]? = some ar.arg
  selfL : (defScope st).names.lookup ar.arg = some .local

theorem scS_by {N ps : List Str} {ar : Arg} {st : Stmt} (h : (decide ((defScope st).kind = .function) && !(defScope st).isCoroutine && !(defScope st).isGenerator && decide N.Nodup && decide (N.take ps.length = ps)) = true)
    (hn : (ps.all (fun x => decide ((defScope st).names.lookup x = some .local)) && (defScope st).names.all (fun y => !decide (y.2 = .cell)) && (defScope st).names.all (fun y => !decide (y.2 = .free) || decide (y.1 = ("__class__" : Str))) &&
      decide ((defScope st).names.lookup ("super" : Str) = some .globalImplicit) && decide ((defScope st).names.lookup ("__class__" : Str) = some .free)) = true)
    (head : ((defArgs st).posonlyargs ++ (defArgs st).args).head? = some ar) (hp : (decide (0 < ps.length)) = true) (self : N[0]? = some ar.arg) (selfL : (decide ((defScope st).names.lookup ar.arg = some .local)) = true) : ScS N ps ar st := by
  simp only [Bool.and_eq_true, Bool.not_eq_true', decide_eq_true_eq, List.all_eq_true, Bool.or_eq_true, decide_eq_false_iff_not] at h hn selfL
  obtain ⟨⟨⟨⟨h1, h2⟩, h3⟩, h4⟩, h5⟩ := h
  obtain ⟨⟨⟨⟨n1, n2⟩, n3⟩, n4⟩, n5⟩ := hn
  exact ⟨h1, h2, h3, h4, h5, n1, n2, fun y hy => (n3 _ (PySem.mem_of_lookup hy)).resolve_left (fun z => z rfl), n4, n5, head, self, selfL⟩

/-- the context of its body -/
def sxOf (P : Program) (w : World) (K : PySem.W.Frag) (mg : Str → Option Value) (base : Heap) (N : List Str) (qual : Str) (scope : Scope) (f cda cc : Addr) (A : Around) (outer : List Env) (s : Shared) (H : Hp) : Cx where
  prog := P
  w := w
  K := K
  mg := mg
  base := base
  A := A.deeper (ksEnv qual scope s.heap.objs.size f (.ref cda) cc)
  N := N
  s_0 := s
  H_0 := H
  env := ksEnv qual scope s.heap.objs.size f (.ref cda) cc
  outer := outer
  stack := ksEnv qual scope s.heap.objs.size f (.ref cda) cc :: outer
  ex := []
  calm := true
  fn := fun x => x != ("__class__" : Str)
  pn := []
  xe := fun _ _ => False

theorem rev_zip_get : ∀ {ps : List Str} {us : List Value} {i : Nat} {y : Str} {u : Value}, ps.Nodup → ps[i]? = some y → us[i]? = some u → (ps.zip us).reverse.lookup y = some u
  | [], _, _, _, _, _, h, _ => by cases h
  | _ :: _, [], _, _, _, _, _, h => by simp at h
  | p :: ps, v :: us, 0, y, u, nd, h1, h2 => by
    obtain rfl : p = y := Option.some.inj h1
    obtain rfl : v = u := Option.some.inj h2
    rw [List.zip_cons_cons, List.reverse_cons, List.lookup_append]
    have n : (ps.zip us).reverse.lookup p = none := by
      rw [List.lookup_eq_none_iff]
      intro q hq
      have := (List.of_mem_zip (List.mem_reverse.mp hq)).1
      simp only [bne_iff_ne, ne_eq]
      exact fun e => (List.nodup_cons.mp nd).1 (by rw [e]; exact this)
    rw [n]
    simp [List.lookup]
  | p :: ps, v :: us, i + 1, y, u, nd, h1, h2 => by
    rw [List.zip_cons_cons, List.reverse_cons, List.lookup_append, rev_zip_get (i := i) (List.nodup_cons.mp nd).2 (by simpa using h1) (by simpa using h2)]
    rfl

section
variable {P : Program} {w : World} {K : PySem.W.Frag} {mg : Str → Option Value} {base : Heap} {N ps : List Str} {qual : Str} {f cda cc C : Addr} {A : Around} {outer : List Env} {s : Shared} {H : Hp} {st : Stmt} {ar : Arg}
theorem inv_startS {us : List Value} {vs : List V} {h₀ : Heap} {t' : Nat} {oC : Obj} (S : ScS N ps ar st) (hd : A.handled = none) (e0 : Env0 P w K mg base A outer s H) (hl : vs.length = ps.length) (r : Vals vs us)
    (hcc : base.get? cc = some oC) (hco : ∃ v, oC.data = .cell v) (hns : h₀.Ns s.heap.objs.size (fun x => (ps.zip us).reverse.lookup x)) (hk : ∀ b o, s.heap.get? b = some o → h₀.get? b = some o) :
    Inv (sxOf P w K mg base N qual (defScope st) f cda cc A outer s H) [] (L2.start N vs) H { s with heap := h₀, toks := t' } := by
  have hpl : ps.length ≤ N.length := by have := congrArg List.length S.pre; rw [List.length_take] at this; omega
  have noA : ∀ b : Addr, b ∉ (sxOf P w K mg base N qual (defScope st) f cda cc A outer s H).ex := fun b z => absurd (show b ∈ ([] : List Addr) from z) (by simp)
  have cell1 : ∀ {x : Str} {c : Addr}, (sxOf P w K mg base N qual (defScope st) f cda cc A outer s H).env.cells.lookup x = some c → x = "__class__" ∧ c = cc := fun {x c} e => by
    have e' : List.lookup x [(("__class__" : Str), cc)] = some c := e
    by_cases hx : x = "__class__"
    · subst hx
      refine ⟨rfl, ?_⟩
      simp [List.lookup] at e'
      exact e'.symm
    · have hb : (x == ("__class__" : Str)) = false := by simpa using hx
      simp [List.lookup, hb] at e'
  have hcs := (e0.bs cc oC hcc)
  refine ⟨⟨e0.mod, S.kind, rfl, rfl, Nat.le_refl _, fun y z c h1 h2 => ?_, fun y hy => ?_, fun y c hf h => ?_, fun _ => hd, Around.frames_deeper e0.frames, .inr ⟨rfl, rfl⟩, fun b z => absurd z (noA b), e0.bs, e0.bsz, fun b _ _ => noA b, fun b z => absurd z (noA b), e0.funs, e0.frf⟩,
    rfl, e0.bare, Un.kept hk, ⟨_, hns, fun i y v h1 h2 h3 => ?_⟩, fun y c h => ?_, e0.hok.fresh (Nat.le_refl _), fun y c h => ?_, fun p hp => absurd (show p ∈ ([] : List (Addr × Obj)) from hp) (by simp), e0.hok.kept hk, ?_⟩
  · rw [(cell1 h1).1, (cell1 h2).1]
  · have hy : (defScope st).names.lookup y = some .cell ∨ (defScope st).names.lookup y = some .free := hy
    rcases hy with hy | hy
    · exact absurd rfl (S.nocell _ (PySem.mem_of_lookup hy))
    · rw [S.free y hy]
      exact ⟨cc, rfl⟩
  · rw [(cell1 h).1] at hf
    exact absurd (show (("__class__" : Str) != ("__class__" : Str)) = true from hf) (by decide)
  · have hi : i < vs.length := by
      unfold L2.start at h2
      by_cases hi : i < vs.length
      · exact hi
      · rw [List.getElem?_append_right (by simpa using hi)] at h2
        rw [List.getElem?_replicate] at h2
        split at h2 <;> cases h2
    have ha : vs[i]? = some v := by
      unfold L2.start at h2
      rw [List.getElem?_append_left (by simpa using hi), List.getElem?_map] at h2
      cases e : vs[i]? with
      | none => rw [e] at h2; cases h2
      | some a => rw [e] at h2; cases h2; rfl
    obtain ⟨u, hu, rv⟩ := r.get ha
    have hp : ps[i]? = some y := by
      rw [← S.pre, List.getElem?_take_of_lt (by omega)]; exact h1
    have ndP : ps.Nodup := by rw [← S.pre]; exact S.nd.sublist (List.take_sublist _ _)
    exact ⟨u, rv, .inl ⟨S.par y (List.mem_of_getElem? hp), rev_zip_get ndP hp hu⟩⟩
  · obtain ⟨v, hv⟩ := hco
    rw [(cell1 h).2]
    exact ⟨v, oC, hk _ _ hcs.1, hv⟩
  · rw [(cell1 h).2]
    exact hcs.2
  · unfold L2.start
    show _ = N.length
    rw [List.length_append, List.length_map, List.length_replicate]
    omega

/-- the line super().__init__(..) -/
theorem super_line {fd : FuncData} {x : Str} {body : List Stmt} {a L : Addr} {e : Expr} {es : List Expr} {p0 p1 p2 p3 p4 : Pos} {ta : TA} {σ : L2.St} {s1 : Shared} {H1 : Hp} {D : Hp → Prop} {X : Cx} {oc : Value} {od : Option Addr} {kV doc pm : Value} {an : Option Addr} {ct : Value} {osl : Array (Option Value)}
    {ccl : Value} {cdd : Option Addr} {vs : Array Value} {ccs : Array (Option Value)} {file : Str} {tf : Tok} {cl : Value} {cld : Option Addr} {csl : Array (Option Value)}
    (S : ScS N ps ar st) (F : FunS X.prog X.K X.mg x qual st f fd C) (henv : X.env = ksEnv qual (defScope st) L f (.ref cda) cc) (hN : X.N = N)
    (h1 : fd = fnX x qual (defArgs st) (defBody st) (defScope st) [("__class__", cc)] .none kV doc pm an (.ref cda) ct) (h2 : X.K.lookup f = some ⟨oc, od, .func fd, osl⟩)
    (h4 : X.K.lookup cda = some ⟨ccl, cdd, .fields vs, ccs⟩) (h5 : vs[2]? = some (.str file tf)) (h6 : ((X.prog.main.file : Str) == file) = true) (h7 : X.K.lookup cc = some ⟨cl, cld, .cell (some (.ref C)), csl⟩)
    (T : OexC X.K C) (I : Inv X [] σ H1 s1) (h0 : σ[0]? = some (some (.ref a))) (ea : H1 a = some (exo a C none)) (ha : PA X (e :: es) ta)
    (ht : ta σ H1 fun us H2 => us.length ≤ 1000 ∧ H2 a = some (exo a C none) ∧ D H2)
    {pl : Sem Bool} (hc : eval (.Call (.Attribute (.Call (.Name "super" p0) [] [] p1) "__init__" p2) (e :: es) [] p3) X.env = (do
      let ov ← attributeBase (.Call (.Name "super" p0) [] [] p1) "__init__" X.env (eval (.Call (.Name "super" p0) [] [] p1) X.env)
      standAt p2.atName
      let (f, first) ← holding [ov] (getMethod ov "__init__" pl)
      callWith p3 f first (backTo p3 (starEach (e :: es) X.env)) []))
    (he : starEach (e :: es) X.env = (false, eval e X.env) :: starEach es X.env) (hpl : (backTo p3 (starEach es X.env)).any (·.1) = false) (hi : interactive X.env = false) :
    PySem.wpAt (model X.prog X.w) X.A (.func body X.env) (exec (.Expr (.Call (.Attribute (.Call (.Name "super" p0) [] [] p1) "__init__" p2) (e :: es) [] p3) p4) X.env)
      (fun fl s' => fl = .next ∧ ∃ H2, Inv X [] σ H2 s' ∧ D H2) X.xe s1 := by
  obtain ⟨cdD, hD⟩ := F.cls
  obtain ⟨m, hns, hlook⟩ := I.loc
  obtain ⟨ux, rux, hlx⟩ := hlook 0 ar.arg (.ref a) (by rw [hN]; exact S.self) h0 (by rw [henv]; exact .inl S.selfL)
  obtain rfl : ux = Value.ref a := rux
  have hv : m ar.arg = some (.ref a) := by
    rcases hlx with hlx | ⟨hk, _⟩
    · exact hlx.2
    · have e' : (defScope st).names.lookup ar.arg = some .cell ∨ (defScope st).names.lookup ar.arg = some .free := by rw [henv] at hk; exact hk
      rw [S.selfL] at e'
      rcases e' with e' | e' <;> cases e'
  have X1 : X.K.In s1.heap := I.kIn
  obtain ⟨t1, ho⟩ := exo_at I.hok ea
  have Ia : InstAt s1.heap a _ C none := ⟨ho, rfl, rfl, trivial⟩
  obtain ⟨oD, hD1, hD2⟩ : ∃ oD, s1.heap.get? C = some oD ∧ oD.data = .cls cdD := by
    unfold clsIn at hD
    split at hD
    · rename_i c d cd' sl ho
      cases hD
      exact ⟨_, X1 _ _ ho, rfl⟩
    · cases hD
  obtain ⟨mb, hb1, hb2⟩ := I.mod.blt
  have hks : X.env.kindOf "super" = some .globalImplicit := by rw [henv]; exact S.sup
  have hkc : X.env.kindOf "__class__" = some .free := by rw [henv]; exact S.cls
  have hka : X.env.kindOf ar.arg = some .local := by rw [henv]; exact S.selfL
  have hcells : X.env.cells.lookup ("__class__" : Str) = some cc := by rw [henv]; rfl
  have hfun : X.env.func = some f := by rw [henv]
  have hcod : X.env.code = .ref cda := by rw [henv]
  have hns' : s1.heap.Ns X.env.locals m := hns
  have hgl : s1.heap.Ns X.env.globals X.mg := by rw [I.ok.glob]; exact I.mod.glob.keeps I.bk
  have hbl : s1.heap.Ns X.env.builtins mb := by rw [I.ok.blt]; exact hb1.keeps I.bk
  have hsz := I.lt
  obtain ⟨hh, g, d, t, os⟩ := s1
  refine ks_wpAt_Expr_any (hi := hi) (ks_wpAt_MethodCall ?_ hc)
  refine ks_wpAt_super_base (fd := fd) (ar := ar) hks hkc (by decide) hfun (X1 _ _ h2) rfl (by rw [h1]; exact S.head) hcod (X1 _ _ h4) rfl h5 h6 F.top ?_
  refine ks_loadName_global I.ok.kind hks (Calls.loadGlobal_builtin hgl F.nsup hbl ((hb2 _ (by decide)).trans (by first | boot_by_name | rfl | kernel_rfl)) ⟨rfl, ?_⟩)
  refine wpAny_loadName_free I.ok.kind hkc hcells ⟨_, X1 _ _ h7, rfl⟩ ?_
  refine wpAny_loadName_local I.ok.kind hka hns' hv ?_
  refine ks_wpAny_isType_cls hD1 hD2 ⟨rfl, ?_⟩
  refine ks_wpAny_call_super hD1 hD2 Ia.at_ Ia.cls (fun c z => ?_) (looks_mroIn X1 F.sub) (fun h' e' k => ?_)
  · have := Ia.no
    unfold notCls at this
    rw [z] at this
    exact Bool.noConfusion this
  -- the super object
  have I2 : Inv X [] σ H1 ⟨h', g, d, t, os⟩ := I.kept (t' := t) k
  have X2 : X.K.In h' := I2.kIn
  have Ia2 : InstAt h' a _ C none := ⟨k _ _ ho, rfl, rfl, trivial⟩
  have hI : Looks (model X.prog X.w) h' (isInstance (.ref a) (.type "ValueError")) true := Ia2.type.andThen (looks_subIn X2 F.isV)
  have hsup := F.sup
  unfold ks_superIn at hsup
  rw [hD] at hsup
  refine kxs_getMethod kxs_ValueError e' (looks_opaque X2 F.nany) (l₀ := cdD.mro) (fun A Q E s k q => wpAny_bind ((looks_clsIn X2 hD) A _ E s k (wpAny_pure q))) rfl X2 hsup hI (ks_ne X2 Ia2 hD) (by decide) ?_
  -- the bound __init__
  have k3 : ∀ b o, h'.get? b = some o → (h'.push (kxs_mw "ValueError.__init__" a)).get? b = some o := fun b o z => Heap.get?_push_of_some _ z
  have hu : (h'.push (kxs_mw "ValueError.__init__" a)).get? h'.objs.size = some (kxs_mw "ValueError.__init__" a) := Heap.get?_push_at rfl rfl
  have I3 : Inv X [] σ H1 ⟨h'.push (kxs_mw "ValueError.__init__" a), g, d, t + 1, os⟩ := I2.kept (t' := t + 1) k3
  have I4 : Inv X [(h'.objs.size, kxs_mw "ValueError.__init__" a)] σ H1 ⟨h'.push (kxs_mw "ValueError.__init__" a), g, d, t + 1, os⟩ := by
    refine I3.pins_of fun p hp => ?_
    have hp' : p ∈ X.pn ++ [(h'.objs.size, kxs_mw "ValueError.__init__" a)] ∨ p ∈ [(h'.objs.size, kxs_mw "ValueError.__init__" a)] := .inr hp
    obtain rfl : p = (h'.objs.size, kxs_mw "ValueError.__init__" a) := by simpa using hp
    have lt := I2.lt
    refine ⟨hu, I2.hok.fresh (Nat.le_refl _), fun z => ?_, I2.nofs (Nat.le_refl _), fun v z => ?_⟩
    · exact absurd (show X.env.locals < h'.objs.size from lt) (by rw [← z]; exact Nat.lt_irrefl _)
    · cases z
  refine kxs_callWith (i := "ValueError.__init__") (x := a) (u := h'.objs.size) ?_ ?_
  · rw [he]
    show (false || (backTo p3 (starEach es X.env)).any (·.1)) = false
    rw [hpl]
    rfl
  · rw [he]
    refine Calls.evalArgs_plain ?_
    have run := ha.run p3 _ _ σ H1 _ I4 ht
    rw [he] at run
    refine wpAny_mono run (fun us s2 ⟨ws, H2, I5, r, hw, ea2, q⟩ => ?_) fun _ _ z => z
    have hu2 := (I5.pin (h'.objs.size, kxs_mw "ValueError.__init__" a) (by simp)).1
    refine ⟨hu2, ?_⟩
    have hz : us.length ≤ sizeLine := by
      rw [← r.length, sizeLine_eq]
      omega
    refine call_mw T I5 ea2 hu2 hz fun s3 J => ⟨rfl, H2, ?_, q⟩
    exact J.pins_of fun p hp => absurd hp (by simp)

/-- THE RULE: an __init__ whose first line is super().__init__(..) -/
theorem FunS.ok {fd : FuncData} {x : Str} {e : Expr} {es : List Expr} {rest : List Stmt} {p0 p1 p2 p3 p4 : Pos} {k : Nat} {sp : Sp} (F : FunS P K mg x qual st f fd C) (T : OexC K C) (S : ScS N ps ar st) (len : ∀ vs H Q E, sp vs H Q E → vs.length = ps.length)
    (hb : defBody st = .Expr (.Call (.Attribute (.Call (.Name "super" p0) [] [] p1) "__init__" p2) (e :: es) [] p3) p4 :: rest)
    (hbody : ∀ (cda cc : Addr) (A : Around) (outer : List Env) (s : Shared) (H : Hp) (vs : List V) (Q : VK) (E : XK), Room k (A.deeper (ksEnv qual (defScope st) s.heap.objs.size f (.ref cda) cc)) → sp vs H Q E →
      ∃ (a : Addr) (ta : TA) (t : TS), (L2.start N vs)[0]? = some (some (.ref a)) ∧ H a = some (exo a C none) ∧ PA (sxOf P w K mg base N qual (defScope st) f cda cc A outer s H) (e :: es) ta ∧ PSs (sxOf P w K mg base N qual (defScope st) f cda cc A outer s H) rest t ∧
        ta (L2.start N vs) H fun us H2 => us.length ≤ 1000 ∧ H2 a = some (exo a C none) ∧ t { nx := fun _ H' => Q .non H', rt := Q } (L2.start N vs) H2)
    {pl : Addr → Addr → Addr → Sem Bool} (hc : ∀ L cda cc : Addr, eval (.Call (.Attribute (.Call (.Name "super" p0) [] [] p1) "__init__" p2) (e :: es) [] p3) (ksEnv qual (defScope st) L f (.ref cda) cc) = (do
      let ov ← attributeBase (.Call (.Name "super" p0) [] [] p1) "__init__" (ksEnv qual (defScope st) L f (.ref cda) cc) (eval (.Call (.Name "super" p0) [] [] p1) (ksEnv qual (defScope st) L f (.ref cda) cc))
      standAt p2.atName
      let (f', first) ← holding [ov] (getMethod ov "__init__" (pl L cda cc))
      callWith p3 f' first (backTo p3 (starEach (e :: es) (ksEnv qual (defScope st) L f (.ref cda) cc))) []) := by intros; rfl)
    (he : ∀ env : Env, starEach (e :: es) env = (false, eval e env) :: starEach es env := by intros; rfl) (hpl : ∀ env : Env, (backTo p3 (starEach es env)).any (·.1) = false := by intros; rfl)
    (hi : ∀ L cda cc : Addr, interactive (ksEnv qual (defScope st) L f (.ref cda) cc) = false := by intros; rfl) : FnOk P w K mg base L2.CX0 (k + 1) f fd ps sp := by
  obtain ⟨oc, od, kV, doc, pm, an, cda, ct, cc, osl, ccl, cdd, vs4, ccs, file, tf, cl, cld, csl, rfl, lk, hcd, h4, h5, h6, h7⟩ := F.ex
  refine ⟨len, fun A outer s H args us vs Q E hr e0 hbi r hsp => ?_⟩
  have hl := len _ _ _ _ hsp
  have KX : K.In s.heap := e0.mod.kin.keeps fun b o e => (e0.bs b o e).1
  have lim : s.heap.NoLimit := e0.mod.nolimit.keeps fun b o e => (e0.bs b o e).1
  have hloc : ∀ y ∈ ps.zip us, (defScope st).names.lookup y.1 = some .local := fun ⟨n, v⟩ hy => S.par n (List.of_mem_zip hy).1
  refine ks_codeAny_call_defAt (fd := fnX x qual (defArgs st) (defBody st) (defScope st) [("__class__", cc)] .none kV doc pm an (.ref cda) ct) (body := defBody st) (binds := ps.zip us) hr.depth (KX _ _ lk) rfl lim (codeRec_of KX hcd) rfl hbi S.nocell hloc (fun h₀ hns hk => ?_) S.co S.gen S.kind
  obtain ⟨a, ta, t, h0, ea, ha, hrest, ht⟩ := hbody cda cc A outer s H vs Q E (hr.deeper _) hsp
  have I : Inv (sxOf P w K mg base N qual (defScope st) f cda cc A outer s H) [] (L2.start N vs) H { s with heap := h₀, toks := s.toks + (ps.zip us).length } :=
    inv_startS S hr.hd e0 hl r (e0.mod.kin _ _ h7) ⟨_, rfl⟩ hns hk
  show _root_.PySem.wpAt (model P w) (A.deeper (ksEnv qual (defScope st) s.heap.objs.size f (.ref cda) cc)) (.func (defBody st) (ksEnv qual (defScope st) s.heap.objs.size f (.ref cda) cc)) (execs (defBody st) (ksEnv qual (defScope st) s.heap.objs.size f (.ref cda) cc)) _ _ _
  have fin : ∀ {σ' : L2.St} {H' : Hp} {v : V} {u : Value} {s' : Shared}, Inv (sxOf P w K mg base N qual (defScope st) f cda cc A outer s H) [] σ' H' s' → RelV v u → Q v H' → CE outer P w H s Q u s' :=
    fun {σ' H' v u s'} J rv q => ⟨v, H', J.os, J.bare, J.base, J.hok, rv, q⟩
  have line := super_line (X := sxOf P w K mg base N qual (defScope st) f cda cc A outer s H) (body := defBody st) (L := s.heap.objs.size) (p0 := p0) (p1 := p1) (p2 := p2) (p3 := p3) (p4 := p4) S F rfl rfl rfl lk h4 h5 h6 h7 T I h0 ea ha ht (hc _ _ _) (he _) (hpl _) (hi _ _ _)
  have all : _root_.PySem.wpAt (model P w) (A.deeper (ksEnv qual (defScope st) s.heap.objs.size f (.ref cda) cc)) (.func (defBody st) (ksEnv qual (defScope st) s.heap.objs.size f (.ref cda) cc))
      (execs (.Expr (.Call (.Attribute (.Call (.Name "super" p0) [] [] p1) "__init__" p2) (e :: es) [] p3) p4 :: rest) (ksEnv qual (defScope st) s.heap.objs.size f (.ref cda) cc))
      (fun fl s' => CE outer P w H s Q (match fl with | .ret v => v | _ => .none) s') (fun _ _ => False) { s with heap := h₀, toks := s.toks + (ps.zip us).length } := by
    refine ks_wpAt_execs_cons (ks_wpAt_mono line (fun fl s' hs => ?_) fun _ _ z => z.elim)
    obtain ⟨rfl, H2, J, q⟩ := hs
    refine wpAt_of_wpAny (wpAny_mono (hrest.run [] s' _ H2 _ J q) (fun fl s'' hs => ?_) fun _ _ z => z)
    cases fl with
    | ret u =>
      obtain ⟨v, σ', H', J', rv, q'⟩ := hs
      exact fin J' rv q'
    | next =>
      obtain ⟨σ', H', J', q'⟩ := hs
      exact fin (v := V.non) (u := Value.none) J' rfl q'
    | brk =>
      obtain ⟨_, _, _, q'⟩ := hs
      exact False.elim q'
    | cont =>
      obtain ⟨_, _, _, q'⟩ := hs
      exact False.elim q'
  rw [← hb] at all
  exact ks_wpAt_mono all (fun fl s' hs => hs) fun _ _ z => z.elim
/-- how its arguments bind -/
theorem FunS.binds {fd : FuncData} {x : Str} (F : FunS P K mg x qual st f fd C)
    (h : ∀ (cc : Addr) (kV doc pm : Value) (an : Option Addr) (cdv ct : Value) (us : List Value), us.length = ps.length → bindArgs (fnX x qual (defArgs st) (defBody st) (defScope st) [("__class__", cc)] .none kV doc pm an cdv ct) ⟨us, []⟩ = pure (ps.zip us)) : Binds K fd ps [] := by
  obtain ⟨oc, od, kV, doc, pm, an, cda, ct, cc, osl, ccl, cdd, vs4, ccs, file, tf, cl, cld, csl, rfl, lk, hcd, h4, h5, h6, h7⟩ := F.ex
  exact .all (h cc kV doc pm an _ ct)
end
end Hb

set_option Elab.async false
set_option maxRecDepth 100000
set_option maxHeartbeats 4000000
/-! Still more steps: truth of lists, texts in a tuple, slices of tuples, comprehensions over lists of tuples. -/
namespace Hb
open PySem L2
/-- the truth of a list -/
theorem w_truL {K : PySem.W.Frag} {H : Hp} {p : Addr} {xs : List V} {R : Bool → Prop} (h : SqL K H p xs) (q : R (!xs.isEmpty)) : ∃ k, TruV K (.ref p) H k ∧ R k := ⟨_, .inl ⟨xs, h, rfl⟩, q⟩
/-- a text in a new tuple of texts -/
theorem w_inT {K : PySem.W.Frag} {H : Hp} {Q : VK} {x : V} {p : Addr} {neg : Bool} {xs : List V} (h : SqT K H p xs) (hx : flatV x = true) (hf : xs.all flatV = true) (q : Q (.bl (if neg then !inV x xs else inV x xs)) H) : rIn K neg x (.ref p) H Q := ⟨p, xs, rfl, .inr h, hx, hf, q⟩
/-- a tuple's slice, not the whole -/
theorem w_slT0 {K : PySem.W.Frag} {B H : Hp} {L : List (Addr × HO)} {Q : VK} {p : Addr} {xs : List V} {lo hi : Option Int} (hs : Hs B L H) (h : SqT K H p xs) (hw : ¬ (HT.sIx xs.length 0 lo = 0 ∧ HT.sIx xs.length xs.length hi = xs.length)) (q : ∀ l H', Hs B ((l, .tup (cutV xs lo hi)) :: L) H' → Q (.ref l) H') : rSlT K (.ref p) lo hi H Q := by
  exact ⟨p, xs, rfl, h, hw, w_new hs q⟩
/-- what stands aside of our own objects becomes the ground -/
theorem Hs.rebase {B H : Hp} {L : List (Addr × HO)} (hs : Hs B L H) : Same B (around L H) ∧ Hs (around L H) L H := by
  have h := Hs.frame (R := []) L (by rw [List.append_nil]; exact hs)
  exact ⟨h.1, h.2.1⟩
theorem im_around {K : PySem.W.Frag} {H : Hp} {L : List (Addr × HO)} (nt : ∀ e ∈ L, ∀ xs, H e.1 ≠ some (.tup xs)) {vs : List V} {ds : List PyData} (h : ImAll K H vs ds) : ImAll K (around L H) vs ds :=
  h.mono fun a xs e => by
    rw [around_out fun m => ?_]
    · exact e
    · obtain ⟨z, hz, rfl⟩ := List.mem_map.mp m
      exact nt z hz xs e

theorem w_slT {K : PySem.W.Frag} {B H : Hp} {L : List (Addr × HO)} {Q : VK} {p : Addr} {xs : List V} {j : Int} (n : Nat) (e : j = (n : Int)) (hs : Hs B L H) (h : SqT K H p xs) (h0 : 0 < n) (h1 : n ≤ xs.length) (q : ∀ l H', Hs B ((l, .tup (xs.drop n)) :: L) H' → Q (.ref l) H') : rSlT K (.ref p) (some j) none H Q := by
  refine w_slT0 hs h ?_ fun l H' hs' => ?_
  · subst e
    rw [HT.sIx_nat]
    omega
  · rw [cut_from n e] at hs'
    exact q l H' hs'
section
variable {K : PySem.W.Frag} {σ : St} {H : Hp} {Q : VK} {te : TE} {g : TG}
/-- [e for .. in xs], xs a list of data, each e data that is made anew -/
theorem w_lcD {tl : TE} {a : Addr} {xs : List V} {vs : List Nat} (hx : SqL K H a xs) (hz : xs.length ≤ 1000000) (ds : List PyData) (hl : ds.length = xs.length) (htl : ∀ Q : VK, Q (.ref a) H → tl σ H Q)
    (he : ∀ (i : Nat) (x : V) (d : PyData) (H' : Hp) (Q' : VK), xs[i]? = some x → ds[i]? = some d → Same H H' → (∀ y H3, Same H' H3 → Im K H3 y d → Q' y H3) → g x (wipe σ vs) H' fun σ2 H2 => wipe σ2 vs = wipe σ vs ∧ te σ2 H2 Q')
    (hq : ∀ D acc H', Hs H [(D, .lst acc)] H' → ImAll K H' acc ds → Q (.ref D) H') (gm : ∀ x σ H R R', (∀ σ' H', R σ' H' → R' σ' H') → g x σ H R → g x σ H R') : tLc (iList K tl) g tYes te vs σ H Q := by
  refine w_lc hx (fun D i H' => ∃ acc, Hs H [(D, .lst acc)] H' ∧ ImAll K H' acc (ds.take i)) htl (fun D hD => ⟨[], (Hs.start H).new hD, by rw [List.take_zero]; exact .nil⟩) (fun D i H' _ ⟨_, h, _⟩ => h.same.seq hx) ?_ ?_
  · rintro D i x H' hi ⟨acc, h1, h2⟩
    have hin := (List.getElem?_eq_some_iff.mp hi).1
    have hd : ds[i]? = some ds[i] := List.getElem?_eq_getElem (by omega)
    refine gm _ _ _ _ _ (fun σ' H2 ⟨e1, e2⟩ => ⟨e1, w_yes (iteT e2)⟩) (he i x ds[i] H' _ hi hd h1.same fun y H3 s3 hy => ?_)
    have hD : H3 D = some (.lst acc) := s3 _ _ h1.g0
    have hl2 := h2.len
    rw [List.length_take] at hl2
    refine ⟨acc, hD, szl (by omega), acc ++ [y], ?_, ?_⟩
    · have h3 : Hs H [(D, .lst acc)] H3 := ⟨h1.same.trans s3, h1.nd, h1.out, fun e he => s3 _ _ (h1.at_ e he)⟩
      exact h3.p0 _
    · have e : ds.take (i + 1) = ds.take i ++ [ds[i]] := by
        rw [List.take_succ, hd]
        rfl
      rw [e]
      exact ((h2.same s3).snoc hy).mono fun a xs => tup_but hD (fun _ z => by cases z) a xs
  · rintro D H' ⟨acc, h1, h2⟩
    rw [← hl, List.take_length] at h2
    exact hq D acc H' h1 h2
theorem ImAll.get {H : Hp} : ∀ {xs : List V} {ds : List PyData} {i : Nat} {x : V} {d : PyData}, ImAll K H xs ds → xs[i]? = some x → ds[i]? = some d → Im K H x d
  | _ :: _, _ :: _, 0, x, d, .cons h _, e1, e2 => by
    cases e1
    cases e2
    exact h
  | _ :: _, _ :: _, i + 1, x, d, .cons _ h, e1, e2 => ImAll.get (i := i) h (by simpa using e1) (by simpa using e2)
theorem ImAll.app {H : Hp} : ∀ {xs ys : List V} {ds es : List PyData}, ImAll K H xs ds → ImAll K H ys es → ImAll K H (xs ++ ys) (ds ++ es)
  | [], _, _, _, .nil, h => h
  | _ :: _, _, _, _, .cons a b, h => .cons a (b.app h)
end
end Hb

set_option Elab.async false
set_option maxRecDepth 100000
set_option maxHeartbeats 4000000
/-! Dicts with a fixed row of text keys, as a law's plain models have them; tuples put together. -/
namespace Hb
open PySem L2
/-- a dict whose keys are a fixed row of texts -/
def zipK (ks : List Str) (vs : List V) : List (Key × V) := (ks.map Sum.inr).zip vs
theorem val_zip : ∀ {ks : List Str} {vs : List V} {i : Nat} {k : Str} {v : V}, ks.Nodup → ks[i]? = some k → vs[i]? = some v → valV (zipK ks vs) (Sum.inr k) = some v
  | k0 :: ks, v0 :: vs, 0, k, v, _, hk, hv => by
    cases hk
    cases hv
    show Option.map _ (List.find? _ ((Sum.inr k0, v0) :: zipK ks vs)) = _
    rw [List.find?_cons, decide_eq_true (rfl : (Sum.inr k0 : Key) = Sum.inr k0)]
    rfl
  | k0 :: ks, v0 :: vs, i + 1, k, v, nd, hk, hv => by
    have h1 := List.nodup_cons.mp nd
    have hk' : ks[i]? = some k := by simpa using hk
    have hv' : vs[i]? = some v := by simpa using hv
    have hne : ¬ (Sum.inr k0 : Key) = Sum.inr k := fun e => h1.1 (by cases e; exact List.mem_of_getElem? hk')
    show Option.map _ (List.find? _ ((Sum.inr k0, v0) :: zipK ks vs)) = _
    rw [List.find?_cons, decide_eq_false hne]
    exact val_zip h1.2 hk' hv'
theorem map_zip_out : ∀ {ks : List Str} {vs : List V} {k : Str} {v : V}, k ∉ ks → (zipK ks vs).map (fun kv => if kv.1 = (Sum.inr k : Key) then (kv.1, v) else kv) = zipK ks vs
  | [], _, _, _, _ => rfl
  | _ :: _, [], _, _, _ => rfl
  | k0 :: ks, v0 :: vs, k, v, h => by
    have hne : ¬ (Sum.inr k0 : Key) = Sum.inr k := fun e => h (by cases e; exact List.mem_cons_self)
    show (if (Sum.inr k0 : Key) = Sum.inr k then ((Sum.inr k0 : Key), v) else (Sum.inr k0, v0)) :: (zipK ks vs).map _ = _
    rw [if_neg hne, map_zip_out (fun m => h (List.mem_cons_of_mem _ m))]
    rfl
theorem map_zip : ∀ {ks : List Str} {vs : List V} {i : Nat} {k : Str} {v : V}, ks.Nodup → ks[i]? = some k → i < vs.length → (zipK ks vs).map (fun kv => if kv.1 = (Sum.inr k : Key) then (kv.1, v) else kv) = zipK ks (vs.set i v)
  | k0 :: ks, v0 :: vs, 0, k, v, nd, hk, _ => by
    cases hk
    have h1 := List.nodup_cons.mp nd
    show (if (Sum.inr k0 : Key) = Sum.inr k0 then ((Sum.inr k0 : Key), v) else (Sum.inr k0, v0)) :: (zipK ks vs).map _ = _
    rw [if_pos rfl, map_zip_out h1.1]
    rfl
  | k0 :: ks, v0 :: vs, i + 1, k, v, nd, hk, hl => by
    have h1 := List.nodup_cons.mp nd
    have hk' : ks[i]? = some k := by simpa using hk
    have hne : ¬ (Sum.inr k0 : Key) = Sum.inr k := fun e => h1.1 (by cases e; exact List.mem_of_getElem? hk')
    show (if (Sum.inr k0 : Key) = Sum.inr k then ((Sum.inr k0 : Key), v) else (Sum.inr k0, v0)) :: (zipK ks vs).map _ = _
    rw [if_neg hne, map_zip h1.2 hk' (Nat.lt_of_succ_lt_succ hl)]
    rfl
theorem any_of_val {kvs : List (Key × V)} {k : Key} {v : V} (h : valV kvs k = some v) : (kvs.any fun kv => decide (kv.1 = k)) = true := by
  unfold valV at h
  cases e : kvs.find? (fun kv => decide (kv.1 = k)) with
  | none =>
    rw [e] at h
    cases h
  | some z =>
    have h1 := List.find?_some e
    exact List.any_eq_true.mpr ⟨z, List.mem_of_find?_eq_some e, h1⟩
theorem put_zip {ks : List Str} {vs : List V} {i : Nat} {k : Str} {v u : V} (nd : ks.Nodup) (hk : ks[i]? = some k) (hv : vs[i]? = some u) : putK (zipK ks vs) (Sum.inr k) v = zipK ks (vs.set i v) := by
  unfold putK
  rw [if_pos (any_of_val (val_zip nd hk hv))]
  exact map_zip nd hk (List.getElem?_eq_some_iff.mp hv).1
/-! ### their steps -/
section
variable {σ : St} {H : Hp} {Q : VK} {D : Ends} {td ty tv : TE} {p : Addr} {B : Hp} {L L' : List (Addr × HO)} {ks : List Str} {vs us : List V} {i : Nat} {k : Str} {v u : V}
def RDget (x y : V) (H : Hp) (Q : VK) : Prop := ∃ a v, x = .ref a ∧ DGet H a y (some v) ∧ Q v H
theorem w_dget (q : td σ H fun x H1 => ty σ H1 fun y H2 => RDget x y H2 Q) : tDGet td ty σ H Q := q
theorem w_dgetZ (h : H p = some (.dK (zipK ks vs))) (nd : ks.Nodup) (hk : ks[i]? = some k) (hv : vs[i]? = some v) (q : Q v H) : RDget (.ref p) (.str k) H Q :=
  ⟨p, v, rfl, val_zip nd hk hv ▸ DGet.k (k := Sum.inr k) h, q⟩
theorem w_dgetI {kvs : List (Key × V)} {n : Int} (h : H p = some (.dK kvs)) (hv : valV kvs (Sum.inl n) = some v) (q : Q v H) : RDget (.ref p) (.int n) H Q :=
  ⟨p, v, rfl, hv ▸ DGet.k (k := Sum.inl n) h, q⟩
theorem w_dputZ {R : Hp → Prop} (hs : Hs B L H) (h : Put L p (.dK (zipK ks vs)) (.dK (zipK ks us)) L') (nd : ks.Nodup) (hk : ks[i]? = some k) (hv : vs[i]? = some u) (hu : vs.set i v = us) (hl : ks.length < 1000) (q : ∀ H', Hs B L' H' → R H') : RDput (.ref p) (.str k) v H R := by
  subst hu
  refine ⟨p, _, rfl, DPut.k (k := Sum.inr k) (hs.gets h) ?_, ?_⟩
  · refine szl ?_
    show ((ks.map Sum.inr).zip vs).length ≤ 1000000
    rw [List.length_zip, List.length_map]
    omega
  · rw [put_zip nd hk hv]
    exact q _ (hs.puts h)
/-- the same as a target among others -/
theorem w_gsub {tset : TSet} {R : St → Hp → Prop} (q : td σ H fun o H1 => ty σ H1 fun i H2 => tset o i v H2 fun H3 => R σ H3) : gSub td ty tset v σ H R := q
theorem w_setD {x y : V} {R : Hp → Prop} (q : RDput x y v H R) : rSetD x y v H R := q
end
section
variable {K : PySem.W.Frag}
theorem op_catTK {X : Cx} (hK : X.K = K := by rfl) : OpR X (binaryOp .Add) (rCatT K) := by
  subst hK
  exact op_catT
theorem w_catT {B H : Hp} {L : List (Addr × HO)} {Q : VK} {p r : Addr} {xs ys : List V} (hs : Hs B L H) (h1 : SqT K H p xs) (h2 : SqT K H r ys) (n1 : xs ≠ []) (n2 : ys ≠ []) (hl : xs.length + ys.length ≤ 1000) (q : ∀ l H', Hs B ((l, .tup (xs ++ ys)) :: L) H' → Q (.ref l) H') : rCatT K (.ref p) (.ref r) H Q :=
  ⟨p, r, xs, ys, rfl, rfl, h1, h2, n1, Nat.le_of_lt (szl (by omega)), fun e => absurd e n2, fun _ => w_new hs q⟩
end
section
variable {α : Type} {a b c d e f g h i v : α} {l : List α}
theorem v0 : (a :: l)[0]? = some a := rfl
theorem v1 : (a :: b :: l)[1]? = some b := rfl
theorem v2 : (a :: b :: c :: l)[2]? = some c := rfl
theorem v3 : (a :: b :: c :: d :: l)[3]? = some d := rfl
theorem v4 : (a :: b :: c :: d :: e :: l)[4]? = some e := rfl
theorem v5 : (a :: b :: c :: d :: e :: f :: l)[5]? = some f := rfl
theorem v6 : (a :: b :: c :: d :: e :: f :: g :: l)[6]? = some g := rfl
theorem v7 : (a :: b :: c :: d :: e :: f :: g :: h :: l)[7]? = some h := rfl
theorem v8 : (a :: b :: c :: d :: e :: f :: g :: h :: i :: l)[8]? = some i := rfl
theorem st0 : (a :: l).set 0 v = v :: l := rfl
theorem st1 : (a :: b :: l).set 1 v = a :: v :: l := rfl
theorem st2 : (a :: b :: c :: l).set 2 v = a :: b :: v :: l := rfl
theorem st3 : (a :: b :: c :: d :: l).set 3 v = a :: b :: c :: v :: l := rfl
theorem st4 : (a :: b :: c :: d :: e :: l).set 4 v = a :: b :: c :: d :: v :: l := rfl
theorem st5 : (a :: b :: c :: d :: e :: f :: l).set 5 v = a :: b :: c :: d :: e :: v :: l := rfl
theorem st6 : (a :: b :: c :: d :: e :: f :: g :: l).set 6 v = a :: b :: c :: d :: e :: f :: v :: l := rfl
theorem st7 : (a :: b :: c :: d :: e :: f :: g :: h :: l).set 7 v = a :: b :: c :: d :: e :: f :: g :: v :: l := rfl
theorem st8 : (a :: b :: c :: d :: e :: f :: g :: h :: i :: l).set 8 v = a :: b :: c :: d :: e :: f :: g :: h :: v :: l := rfl
end
/-! ### a dict that is written down -/
theorem merge_zip : ∀ {ks : List Str} {vs : List V} {acc : List (Key × V)}, ks.Nodup → (∀ k ∈ ks, ∀ kv ∈ acc, kv.1 ≠ (Sum.inr k : Key)) → mergeK acc (zipK ks vs) = acc ++ zipK ks vs
  | [], _, acc, _, _ => by
    show acc = acc ++ []
    rw [List.append_nil]
  | _ :: _, [], acc, _, _ => by
    show acc = acc ++ []
    rw [List.append_nil]
  | k :: ks, v :: vs, acc, nd, h => by
    have h1 := List.nodup_cons.mp nd
    have e : putK acc (Sum.inr k) v = acc ++ [(Sum.inr k, v)] := by
      unfold putK
      rw [if_neg]
      intro h2
      obtain ⟨z, hz, h3⟩ := List.any_eq_true.mp h2
      exact h k List.mem_cons_self z hz (of_decide_eq_true h3)
    show mergeK (putK acc (Sum.inr k) v) (zipK ks vs) = acc ++ ((Sum.inr k, v) :: zipK ks vs)
    rw [e, merge_zip h1.2 ?_, List.append_assoc]
    · rfl
    · intro k2 hk2 kv hkv
      rcases List.mem_append.mp hkv with m | m
      · exact h k2 (List.mem_cons_of_mem _ hk2) kv m
      · rw [List.mem_singleton.mp m]
        intro c
        cases c
        exact h1.1 hk2
section
variable {σ : St} {H : Hp} {Q : VK} {B : Hp} {L L' : List (Addr × HO)}
def NewP (trs : List (TE × TE)) (σ : St) (Q : VK) (H : Hp) : Prop := ∀ p, H p = none → tPairs trs σ (upd H p (.dK [])) fun ps H2 => H2 p = some (.dK []) ∧ ∃ kvs : List (Key × V), ps = kvs.map (fun kv => (kV kv.1, kv.2)) ∧ kvs.length ≤ 15 ∧ Q (.ref p) (upd H2 p (.dK (mergeK [] kvs)))
def DispP (p : Addr) (Q : VK) (ps : List (V × V)) (H2 : Hp) : Prop := H2 p = some (.dK []) ∧ ∃ kvs : List (Key × V), ps = kvs.map (fun kv => (kV kv.1, kv.2)) ∧ kvs.length ≤ 15 ∧ Q (.ref p) (upd H2 p (.dK (mergeK [] kvs)))
theorem w_disp {trs : List (TE × TE)} (q : NewP trs σ Q H) : tDisp trs σ H Q := q
theorem w_newP {trs : List (TE × TE)} (hs : Hs B L H) (q : ∀ p H', Hs B ((p, .dK []) :: L) H' → tPairs trs σ H' (DispP p Q)) : NewP trs σ Q H := fun p hp => q p _ (hs.new hp)
theorem w_pcons {tk tv : TE} {trs : List (TE × TE)} {R : List (V × V) → Hp → Prop} (q : tk σ H fun k H1 => tv σ H1 fun v H2 => tPairs trs σ H2 fun ps H3 => R ((k, v) :: ps) H3) : tPairs ((tk, tv) :: trs) σ H R := q
theorem w_pnil {R : List (V × V) → Hp → Prop} (q : R [] H) : tPairs [] σ H R := q
theorem w_dispZ {p : Addr} {ps : List (V × V)} (ks : List Str) (vs : List V) (hs : Hs B L H) (h : Put L p (.dK []) (.dK (zipK ks vs)) L') (nd : ks.Nodup) (hl : ks.length ≤ 15) (hp : ps = (zipK ks vs).map (fun kv => (kV kv.1, kv.2))) (q : ∀ H', Hs B L' H' → Q (.ref p) H') : DispP p Q ps H := by
  refine ⟨hs.gets h, zipK ks vs, hp, ?_, ?_⟩
  · unfold zipK
    rw [List.length_zip, List.length_map]
    omega
  · rw [merge_zip nd (fun _ _ _ z => absurd z List.not_mem_nil)]
    exact q _ (hs.puts h)
end
end Hb

set_option Elab.async false
set_option maxRecDepth 100000
set_option maxHeartbeats 4000000
namespace K7
open PySem L2 Hb
class IsP (P : Program) : Prop where
  eq : P = PySem.Challenge.pw_hangbridge_k07_sessions_step_by_step
def top (i : Nat) : Stmt := PySem.Challenge.pw_hangbridge_k07_sessions_step_by_step.main.body.getD i (.Pass ⟨0, 0, 0, 0⟩)
abbrev s_RoomError_init : Stmt := (inClass (top 2) 0)
abbrev s_StateError_init : Stmt := (inClass (top 3) 0)
abbrev s_Sender_init : Stmt := (inClass (top 9) 0)
abbrev s_Sender_put : Stmt := (inClass (top 9) 1)
abbrev s_Sender_numbered : Stmt := (inClass (top 9) 2)
abbrev s_Sender_fresh : Stmt := (inClass (top 9) 3)
abbrev s_Sender_again : Stmt := (inClass (top 9) 4)
abbrev s_Sender_heard : Stmt := (inClass (top 9) 5)
abbrev s_Inbox_init : Stmt := (inClass (top 10) 0)
abbrev s_Inbox_take : Stmt := (inClass (top 10) 1)
abbrev s_Beat_init : Stmt := (inClass (top 11) 0)
abbrev s_Beat_start : Stmt := (inClass (top 11) 1)
abbrev s_Beat_stop : Stmt := (inClass (top 11) 2)
abbrev s_Beat_hurry : Stmt := (inClass (top 11) 3)
abbrev s_Beat_runs : Stmt := (inClass (top 11) 4)
abbrev s_Beat_due : Stmt := (inClass (top 11) 5)
abbrev s_segments_of : Stmt := (top 16)
abbrev s_Body_init : Stmt := (inClass (top 17) 0)
abbrev s_Body_says : Stmt := (inClass (top 17) 1)
abbrev s_Body_hears_ack : Stmt := (inClass (top 17) 3)
abbrev s_Body_hears : Stmt := (inClass (top 17) 2)
abbrev s_Line_init : Stmt := (inClass (top 18) 0)
abbrev s_Line_begin : Stmt := (inClass (top 18) 1)
abbrev s_Line_send : Stmt := (inClass (top 18) 2)
abbrev s_Line_says : Stmt := (inClass (top 18) 3)
abbrev s_Line_tick : Stmt := (inClass (top 18) 4)
abbrev s_Line_hears_answer : Stmt := (inClass (top 18) 6)
abbrev s_Line_take : Stmt := (inClass (top 18) 5)
abbrev s_Guest_init : Stmt := (inClass (top 19) 0)
abbrev s_Guest_send : Stmt := (inClass (top 19) 1)
abbrev s_Guest_tick : Stmt := (inClass (top 19) 2)
abbrev s_Guest_answers : Stmt := (inClass (top 19) 4)
abbrev s_Guest_take : Stmt := (inClass (top 19) 3)
abbrev s__law_state : Stmt := (top 21)
abbrev s__law_draw : Stmt := (top 22)
abbrev s__law_pick : Stmt := (top 23)
abbrev s__law_body : Stmt := (top 24)
abbrev s__law_start : Stmt := (top 25)
abbrev s__law_due : Stmt := (top 26)
abbrev s__law_say : Stmt := (top 27)
abbrev s__law_hear : Stmt := (top 28)
abbrev s__law_line_tick : Stmt := (top 29)
abbrev s__law_line_take : Stmt := (top 30)
abbrev s__law_guest_take : Stmt := (top 31)
abbrev s__law_begun : Stmt := (top 32)
abbrev s__law_sent : Stmt := (top 33)
abbrev s__law_segment : Stmt := (top 34)
abbrev s_law : Stmt := (top 35)
abbrev N_RoomError_init : List Str := ["self", "place"]
theorem sc_RoomError_init : ∃ ar, ScS N_RoomError_init ["self", "place"] ar s_RoomError_init := ⟨_, scS_by (by decide +kernel) (by decide +kernel) rfl (by decide +kernel) rfl (by decide +kernel)⟩
abbrev N_StateError_init : List Str := ["self", "state"]
theorem sc_StateError_init : ∃ ar, ScS N_StateError_init ["self", "state"] ar s_StateError_init := ⟨_, scS_by (by decide +kernel) (by decide +kernel) rfl (by decide +kernel) rfl (by decide +kernel)⟩
abbrev N_Sender_init : List Str := ["self"]
theorem sc_Sender_init : FnScope N_Sender_init ["self"] (defScope s_Sender_init) := ⟨rfl, rfl, rfl, by decide +kernel, rfl, by decide +kernel, by decide +kernel⟩
abbrev N_Sender_put : List Str := ["self", "body"]
theorem sc_Sender_put : FnScope N_Sender_put ["self", "body"] (defScope s_Sender_put) := ⟨rfl, rfl, rfl, by decide +kernel, rfl, by decide +kernel, by decide +kernel⟩
abbrev N_Sender_numbered : List Str := ["self", "start", "stop", "at"]
theorem sc_Sender_numbered : FnScope N_Sender_numbered ["self", "start", "stop"] (defScope s_Sender_numbered) := ⟨rfl, rfl, rfl, by decide +kernel, rfl, by decide +kernel, by decide +kernel⟩
abbrev N_Sender_fresh : List Str := ["self", "start"]
theorem sc_Sender_fresh : FnScope N_Sender_fresh ["self"] (defScope s_Sender_fresh) := ⟨rfl, rfl, rfl, by decide +kernel, rfl, by decide +kernel, by decide +kernel⟩
abbrev N_Sender_again : List Str := ["self"]
theorem sc_Sender_again : FnScope N_Sender_again ["self"] (defScope s_Sender_again) := ⟨rfl, rfl, rfl, by decide +kernel, rfl, by decide +kernel, by decide +kernel⟩
abbrev N_Sender_heard : List Str := ["self", "ack", "many"]
theorem sc_Sender_heard : FnScope N_Sender_heard ["self", "ack"] (defScope s_Sender_heard) := ⟨rfl, rfl, rfl, by decide +kernel, rfl, by decide +kernel, by decide +kernel⟩
abbrev N_Inbox_init : List Str := ["self"]
theorem sc_Inbox_init : FnScope N_Inbox_init ["self"] (defScope s_Inbox_init) := ⟨rfl, rfl, rfl, by decide +kernel, rfl, by decide +kernel, by decide +kernel⟩
abbrev N_Inbox_take : List Str := ["self", "number", "body", "ready"]
theorem sc_Inbox_take : FnScope N_Inbox_take ["self", "number", "body"] (defScope s_Inbox_take) := ⟨rfl, rfl, rfl, by decide +kernel, rfl, by decide +kernel, by decide +kernel⟩
abbrev N_Beat_init : List Str := ["self"]
theorem sc_Beat_init : FnScope N_Beat_init ["self"] (defScope s_Beat_init) := ⟨rfl, rfl, rfl, by decide +kernel, rfl, by decide +kernel, by decide +kernel⟩
abbrev N_Beat_start : List Str := ["self", "now"]
theorem sc_Beat_start : FnScope N_Beat_start ["self", "now"] (defScope s_Beat_start) := ⟨rfl, rfl, rfl, by decide +kernel, rfl, by decide +kernel, by decide +kernel⟩
abbrev N_Beat_stop : List Str := ["self"]
theorem sc_Beat_stop : FnScope N_Beat_stop ["self"] (defScope s_Beat_stop) := ⟨rfl, rfl, rfl, by decide +kernel, rfl, by decide +kernel, by decide +kernel⟩
abbrev N_Beat_hurry : List Str := ["self", "now"]
theorem sc_Beat_hurry : FnScope N_Beat_hurry ["self", "now"] (defScope s_Beat_hurry) := ⟨rfl, rfl, rfl, by decide +kernel, rfl, by decide +kernel, by decide +kernel⟩
abbrev N_Beat_runs : List Str := ["self"]
theorem sc_Beat_runs : FnScope N_Beat_runs ["self"] (defScope s_Beat_runs) := ⟨rfl, rfl, rfl, by decide +kernel, rfl, by decide +kernel, by decide +kernel⟩
abbrev N_Beat_due : List Str := ["self", "now"]
theorem sc_Beat_due : FnScope N_Beat_due ["self", "now"] (defScope s_Beat_due) := ⟨rfl, rfl, rfl, by decide +kernel, rfl, by decide +kernel, by decide +kernel⟩
abbrev N_segments_of : List Str := ["to", "sender", "epoch", "triples", "kind", "number", "text"]
theorem sc_segments_of : FnScope N_segments_of ["to", "sender", "epoch", "triples"] (defScope s_segments_of) := ⟨rfl, rfl, rfl, by decide +kernel, rfl, by decide +kernel, by decide +kernel⟩
abbrev N_Body_init : List Str := ["self"]
theorem sc_Body_init : FnScope N_Body_init ["self"] (defScope s_Body_init) := ⟨rfl, rfl, rfl, by decide +kernel, rfl, by decide +kernel, by decide +kernel⟩
abbrev N_Body_says : List Str := ["self", "now", "says", "rows", "number", "text"]
theorem sc_Body_says : FnScope N_Body_says ["self", "now"] (defScope s_Body_says) := ⟨rfl, rfl, rfl, by decide +kernel, rfl, by decide +kernel, by decide +kernel⟩
abbrev N_Body_hears_ack : List Str := ["self", "number", "now"]
theorem sc_Body_hears_ack : FnScope N_Body_hears_ack ["self", "number", "now"] (defScope s_Body_hears_ack) := ⟨rfl, rfl, rfl, by decide +kernel, rfl, by decide +kernel, by decide +kernel⟩
abbrev N_Body_hears : List Str := ["self", "kind", "number", "text", "now"]
theorem sc_Body_hears : FnScope N_Body_hears ["self", "kind", "number", "text", "now"] (defScope s_Body_hears) := ⟨rfl, rfl, rfl, by decide +kernel, rfl, by decide +kernel, by decide +kernel⟩
abbrev N_Line_init : List Str := ["self", "to"]
theorem sc_Line_init : FnScope N_Line_init ["self", "to"] (defScope s_Line_init) := ⟨rfl, rfl, rfl, by decide +kernel, rfl, by decide +kernel, by decide +kernel⟩
abbrev N_Line_begin : List Str := ["self", "epoch", "now"]
theorem sc_Line_begin : FnScope N_Line_begin ["self", "epoch", "now"] (defScope s_Line_begin) := ⟨rfl, rfl, rfl, by decide +kernel, rfl, by decide +kernel, by decide +kernel⟩
abbrev N_Line_send : List Str := ["self", "text"]
theorem sc_Line_send : FnScope N_Line_send ["self", "text"] (defScope s_Line_send) := ⟨rfl, rfl, rfl, by decide +kernel, rfl, by decide +kernel, by decide +kernel⟩
abbrev N_Line_says : List Str := ["self", "now"]
theorem sc_Line_says : FnScope N_Line_says ["self", "now"] (defScope s_Line_says) := ⟨rfl, rfl, rfl, by decide +kernel, rfl, by decide +kernel, by decide +kernel⟩
abbrev N_Line_tick : List Str := ["self", "now", "says"]
theorem sc_Line_tick : FnScope N_Line_tick ["self", "now"] (defScope s_Line_tick) := ⟨rfl, rfl, rfl, by decide +kernel, rfl, by decide +kernel, by decide +kernel⟩
abbrev N_Line_hears_answer : List Str := ["self", "kind", "number", "now", "beat"]
theorem sc_Line_hears_answer : FnScope N_Line_hears_answer ["self", "kind", "number", "now"] (defScope s_Line_hears_answer) := ⟨rfl, rfl, rfl, by decide +kernel, rfl, by decide +kernel, by decide +kernel⟩
abbrev N_Line_take : List Str := ["self", "segment", "now", "sender", "epoch", "kind", "number", "text"]
theorem sc_Line_take : FnScope N_Line_take ["self", "segment", "now"] (defScope s_Line_take) := ⟨rfl, rfl, rfl, by decide +kernel, rfl, by decide +kernel, by decide +kernel⟩
abbrev N_Guest_init : List Str := ["self", "own", "boot"]
theorem sc_Guest_init : FnScope N_Guest_init ["self", "own", "boot"] (defScope s_Guest_init) := ⟨rfl, rfl, rfl, by decide +kernel, rfl, by decide +kernel, by decide +kernel⟩
abbrev N_Guest_send : List Str := ["self", "text"]
theorem sc_Guest_send : FnScope N_Guest_send ["self", "text"] (defScope s_Guest_send) := ⟨rfl, rfl, rfl, by decide +kernel, rfl, by decide +kernel, by decide +kernel⟩
abbrev N_Guest_tick : List Str := ["self", "now"]
theorem sc_Guest_tick : FnScope N_Guest_tick ["self", "now"] (defScope s_Guest_tick) := ⟨rfl, rfl, rfl, by decide +kernel, rfl, by decide +kernel, by decide +kernel⟩
abbrev N_Guest_answers : List Str := ["self", "epoch", "number"]
theorem sc_Guest_answers : FnScope N_Guest_answers ["self", "epoch", "number"] (defScope s_Guest_answers) := ⟨rfl, rfl, rfl, by decide +kernel, rfl, by decide +kernel, by decide +kernel⟩
abbrev N_Guest_take : List Str := ["self", "segment", "now", "epoch", "kind", "number", "text"]
theorem sc_Guest_take : FnScope N_Guest_take ["self", "segment", "now"] (defScope s_Guest_take) := ⟨rfl, rfl, rfl, by decide +kernel, rfl, by decide +kernel, by decide +kernel⟩
abbrev N__law_state : List Str := ["script", "seed", "cell"]
theorem sc__law_state : FnScope N__law_state ["script"] (defScope s__law_state) := ⟨rfl, rfl, rfl, by decide +kernel, rfl, by decide +kernel, by decide +kernel⟩
abbrev N__law_draw : List Str := ["state", "many", "cells", "value", "mixed"]
theorem sc__law_draw : FnScope N__law_draw ["state", "many"] (defScope s__law_draw) := ⟨rfl, rfl, rfl, by decide +kernel, rfl, by decide +kernel, by decide +kernel⟩
abbrev N__law_pick : List Str := ["state", "row"]
theorem sc__law_pick : FnScope N__law_pick ["state", "row"] (defScope s__law_pick) := ⟨rfl, rfl, rfl, by decide +kernel, rfl, by decide +kernel, by decide +kernel⟩
abbrev N__law_body : List Str := []
theorem sc__law_body : FnScope N__law_body [] (defScope s__law_body) := ⟨rfl, rfl, rfl, by decide +kernel, rfl, by decide +kernel, by decide +kernel⟩
abbrev N__law_start : List Str := ["b", "now"]
theorem sc__law_start : FnScope N__law_start ["b", "now"] (defScope s__law_start) := ⟨rfl, rfl, rfl, by decide +kernel, rfl, by decide +kernel, by decide +kernel⟩
abbrev N__law_due : List Str := ["b", "now"]
theorem sc__law_due : FnScope N__law_due ["b", "now"] (defScope s__law_due) := ⟨rfl, rfl, rfl, by decide +kernel, rfl, by decide +kernel, by decide +kernel⟩
abbrev N__law_say : List Str := ["b", "now", "found", "low", "k"]
theorem sc__law_say : FnScope N__law_say ["b", "now"] (defScope s__law_say) := ⟨rfl, rfl, rfl, by decide +kernel, rfl, by decide +kernel, by decide +kernel⟩
abbrev N__law_hear : List Str := ["b", "kind", "number", "text", "now", "count", "found", "turn"]
theorem sc__law_hear : FnScope N__law_hear ["b", "kind", "number", "text", "now"] (defScope s__law_hear) := ⟨rfl, rfl, rfl, by decide +kernel, rfl, by decide +kernel, by decide +kernel⟩
abbrev N__law_line_tick : List Str := ["m", "now", "found", "b", "row"]
theorem sc__law_line_tick : FnScope N__law_line_tick ["m", "now"] (defScope s__law_line_tick) := ⟨rfl, rfl, rfl, by decide +kernel, rfl, by decide +kernel, by decide +kernel⟩
abbrev N__law_line_take : List Str := ["m", "segment", "now", "word", "to", "sender", "hops", "epoch", "kind", "number", "text"]
theorem sc__law_line_take : FnScope N__law_line_take ["m", "segment", "now"] (defScope s__law_line_take) := ⟨rfl, rfl, rfl, by decide +kernel, rfl, by decide +kernel, by decide +kernel⟩
abbrev N__law_guest_take : List Str := ["g", "segment", "now", "word", "to", "sender", "hops", "epoch", "kind", "number", "text"]
theorem sc__law_guest_take : FnScope N__law_guest_take ["g", "segment", "now"] (defScope s__law_guest_take) := ⟨rfl, rfl, rfl, by decide +kernel, rfl, by decide +kernel, by decide +kernel⟩
abbrev N__law_begun : List Str := ["line", "m", "epoch", "now", "e", "right"]
theorem sc__law_begun : FnScope N__law_begun ["line", "m", "epoch", "now"] (defScope s__law_begun) := ⟨rfl, rfl, rfl, by decide +kernel, rfl, by decide +kernel, by decide +kernel⟩
abbrev N__law_sent : List Str := ["line", "m", "text", "e"]
theorem sc__law_sent : FnScope N__law_sent ["line", "m", "text"] (defScope s__law_sent) := ⟨rfl, rfl, rfl, by decide +kernel, rfl, by decide +kernel, by decide +kernel⟩
abbrev N__law_segment : List Str := ["state", "m", "g", "kind", "epoch", "number"]
theorem sc__law_segment : FnScope N__law_segment ["state", "m", "g"] (defScope s__law_segment) := ⟨rfl, rfl, rfl, by decide +kernel, rfl, by decide +kernel, by decide +kernel⟩
abbrev N_law : List Str := ["script", "state", "boot", "line", "guest", "m", "g", "now", "k", "kind", "segment", "said", "due", "row"]
theorem sc_law : FnScope N_law ["script"] (defScope s_law) := ⟨rfl, rfl, rfl, by decide +kernel, rfl, by decide +kernel, by decide +kernel⟩
structure Ad where
  BridgeError : Addr
  RoomError : Addr
  StateError : Addr
  Sender : Addr
  Inbox : Addr
  Beat : Addr
  Body : Addr
  Line : Addr
  Guest : Addr
  RoomError_init : Addr
  fd_RoomError_init : FuncData
  StateError_init : Addr
  fd_StateError_init : FuncData
  Sender_init : Addr
  fd_Sender_init : FuncData
  Sender_put : Addr
  fd_Sender_put : FuncData
  Sender_numbered : Addr
  fd_Sender_numbered : FuncData
  Sender_fresh : Addr
  fd_Sender_fresh : FuncData
  Sender_again : Addr
  fd_Sender_again : FuncData
  Sender_heard : Addr
  fd_Sender_heard : FuncData
  Inbox_init : Addr
  fd_Inbox_init : FuncData
  Inbox_take : Addr
  fd_Inbox_take : FuncData
  Beat_init : Addr
  fd_Beat_init : FuncData
  Beat_start : Addr
  fd_Beat_start : FuncData
  Beat_stop : Addr
  fd_Beat_stop : FuncData
  Beat_hurry : Addr
  fd_Beat_hurry : FuncData
  Beat_runs : Addr
  fd_Beat_runs : FuncData
  Beat_due : Addr
  fd_Beat_due : FuncData
  segments_of : Addr
  fd_segments_of : FuncData
  Body_init : Addr
  fd_Body_init : FuncData
  Body_says : Addr
  fd_Body_says : FuncData
  Body_hears_ack : Addr
  fd_Body_hears_ack : FuncData
  Body_hears : Addr
  fd_Body_hears : FuncData
  Line_init : Addr
  fd_Line_init : FuncData
  Line_begin : Addr
  fd_Line_begin : FuncData
  Line_send : Addr
  fd_Line_send : FuncData
  Line_says : Addr
  fd_Line_says : FuncData
  Line_tick : Addr
  fd_Line_tick : FuncData
  Line_hears_answer : Addr
  fd_Line_hears_answer : FuncData
  Line_take : Addr
  fd_Line_take : FuncData
  Guest_init : Addr
  fd_Guest_init : FuncData
  Guest_send : Addr
  fd_Guest_send : FuncData
  Guest_tick : Addr
  fd_Guest_tick : FuncData
  Guest_answers : Addr
  fd_Guest_answers : FuncData
  Guest_take : Addr
  fd_Guest_take : FuncData
  _law_state : Addr
  fd__law_state : FuncData
  _law_draw : Addr
  fd__law_draw : FuncData
  _law_pick : Addr
  fd__law_pick : FuncData
  _law_body : Addr
  fd__law_body : FuncData
  _law_start : Addr
  fd__law_start : FuncData
  _law_due : Addr
  fd__law_due : FuncData
  _law_say : Addr
  fd__law_say : FuncData
  _law_hear : Addr
  fd__law_hear : FuncData
  _law_line_tick : Addr
  fd__law_line_tick : FuncData
  _law_line_take : Addr
  fd__law_line_take : FuncData
  _law_guest_take : Addr
  fd__law_guest_take : FuncData
  _law_begun : Addr
  fd__law_begun : FuncData
  _law_sent : Addr
  fd__law_sent : FuncData
  _law_segment : Addr
  fd__law_segment : FuncData
  law : Addr
  fd_law : FuncData
structure Txt (K : PySem.W.Frag) (mg : Str → Option Value) (a : Ad) : Prop where
  mg_BridgeError : mg "BridgeError" = some (.ref a.BridgeError)
  rd_BridgeError : ClX.CRead K a.BridgeError (.type "type")
  cv_BridgeError : PySem.W.findCls K (.ref a.BridgeError) (.type "type") "__init__" = some (.val (.builtin "ValueError.__init__"))
  mg_RoomError : mg "RoomError" = some (.ref a.RoomError)
  ox_RoomError : OexC K a.RoomError
  iC_RoomError : PySem.W.findIn K (.ref a.RoomError) "__init__" = some (some (.ref a.RoomError_init))
  tI_RoomError : PySem.W.typeIn K (.ref a.RoomError_init) = some (.type "function")
  no_RoomError_place : PySem.W.findIn K (.ref a.RoomError) "place" = some none
  xf_RoomError : XfC K a.RoomError
  xc_RoomError : XcC K a.RoomError
  te_RoomError : PySem.W.exmOne K (.ref a.RoomError) (.ref a.RoomError) = some true
  is_RoomError_BridgeError : PySem.W.kitOne K (.ref a.RoomError) (.ref a.BridgeError) = some true
  mg_StateError : mg "StateError" = some (.ref a.StateError)
  ox_StateError : OexC K a.StateError
  iC_StateError : PySem.W.findIn K (.ref a.StateError) "__init__" = some (some (.ref a.StateError_init))
  tI_StateError : PySem.W.typeIn K (.ref a.StateError_init) = some (.type "function")
  no_StateError_state : PySem.W.findIn K (.ref a.StateError) "state" = some none
  xf_StateError : XfC K a.StateError
  xc_StateError : XcC K a.StateError
  te_StateError : PySem.W.exmOne K (.ref a.StateError) (.ref a.StateError) = some true
  is_StateError_BridgeError : PySem.W.kitOne K (.ref a.StateError) (.ref a.BridgeError) = some true
  cl_Sender : Cls K a.Sender
  mg_Sender : mg "Sender" = some (.ref a.Sender)
  na_Sender_first : NoAttr K a.Sender "first"
  na_Sender_rows : NoAttr K a.Sender "rows"
  na_Sender_said : NoAttr K a.Sender "said"
  cl_Inbox : Cls K a.Inbox
  mg_Inbox : mg "Inbox" = some (.ref a.Inbox)
  na_Inbox_next : NoAttr K a.Inbox "next"
  na_Inbox__early : NoAttr K a.Inbox "_early"
  cl_Beat : Cls K a.Beat
  mg_Beat : mg "Beat" = some (.ref a.Beat)
  na_Beat_tries : NoAttr K a.Beat "tries"
  na_Beat__wait : NoAttr K a.Beat "_wait"
  na_Beat__due_at : NoAttr K a.Beat "_due_at"
  cl_Body : Cls K a.Body
  mg_Body : mg "Body" = some (.ref a.Body)
  na_Body_sender : NoAttr K a.Body "sender"
  na_Body_inbox : NoAttr K a.Body "inbox"
  na_Body_beat : NoAttr K a.Body "beat"
  na_Body_owes : NoAttr K a.Body "owes"
  cl_Line : Cls K a.Line
  mg_Line : mg "Line" = some (.ref a.Line)
  na_Line_epoch : NoAttr K a.Line "epoch"
  na_Line_boot : NoAttr K a.Line "boot"
  na_Line_state : NoAttr K a.Line "state"
  na_Line__to : NoAttr K a.Line "_to"
  na_Line__body : NoAttr K a.Line "_body"
  cl_Guest : Cls K a.Guest
  mg_Guest : mg "Guest" = some (.ref a.Guest)
  na_Guest_epoch : NoAttr K a.Guest "epoch"
  na_Guest_boot : NoAttr K a.Guest "boot"
  na_Guest__own : NoAttr K a.Guest "_own"
  na_Guest__body : NoAttr K a.Guest "_body"
  na_Guest__quiet : NoAttr K a.Guest "_quiet"
  fn_RoomError_init : FunS PySem.Challenge.pw_hangbridge_k07_sessions_step_by_step K mg "__init__" "RoomError.__init__" s_RoomError_init a.RoomError_init a.fd_RoomError_init a.RoomError
  bi_RoomError_init : Binds K a.fd_RoomError_init ["self", "place"] []
  fn_StateError_init : FunS PySem.Challenge.pw_hangbridge_k07_sessions_step_by_step K mg "__init__" "StateError.__init__" s_StateError_init a.StateError_init a.fd_StateError_init a.StateError
  bi_StateError_init : Binds K a.fd_StateError_init ["self", "state"] []
  fn_Sender_init : Fun K "__init__" "Sender.__init__" s_Sender_init a.Sender_init a.fd_Sender_init
  bi_Sender_init : Binds K a.fd_Sender_init ["self"] []
  mk_Sender : Mk K a.Sender a.Sender_init
  fn_Sender_put : Fun K "put" "Sender.put" s_Sender_put a.Sender_put a.fd_Sender_put
  bi_Sender_put : Binds K a.fd_Sender_put ["self", "body"] []
  me_Sender_put : Meth K a.Sender "put" a.Sender_put
  fn_Sender_numbered : Fun K "_numbered" "Sender._numbered" s_Sender_numbered a.Sender_numbered a.fd_Sender_numbered
  bi_Sender_numbered : Binds K a.fd_Sender_numbered ["self", "start", "stop"] []
  me_Sender_numbered : Meth K a.Sender "_numbered" a.Sender_numbered
  fn_Sender_fresh : Fun K "fresh" "Sender.fresh" s_Sender_fresh a.Sender_fresh a.fd_Sender_fresh
  bi_Sender_fresh : Binds K a.fd_Sender_fresh ["self"] []
  me_Sender_fresh : Meth K a.Sender "fresh" a.Sender_fresh
  fn_Sender_again : Fun K "again" "Sender.again" s_Sender_again a.Sender_again a.fd_Sender_again
  bi_Sender_again : Binds K a.fd_Sender_again ["self"] []
  me_Sender_again : Meth K a.Sender "again" a.Sender_again
  fn_Sender_heard : Fun K "heard" "Sender.heard" s_Sender_heard a.Sender_heard a.fd_Sender_heard
  bi_Sender_heard : Binds K a.fd_Sender_heard ["self", "ack"] []
  me_Sender_heard : Meth K a.Sender "heard" a.Sender_heard
  fn_Inbox_init : Fun K "__init__" "Inbox.__init__" s_Inbox_init a.Inbox_init a.fd_Inbox_init
  bi_Inbox_init : Binds K a.fd_Inbox_init ["self"] []
  mk_Inbox : Mk K a.Inbox a.Inbox_init
  fn_Inbox_take : Fun K "take" "Inbox.take" s_Inbox_take a.Inbox_take a.fd_Inbox_take
  bi_Inbox_take : Binds K a.fd_Inbox_take ["self", "number", "body"] []
  me_Inbox_take : Meth K a.Inbox "take" a.Inbox_take
  fn_Beat_init : Fun K "__init__" "Beat.__init__" s_Beat_init a.Beat_init a.fd_Beat_init
  bi_Beat_init : Binds K a.fd_Beat_init ["self"] []
  mk_Beat : Mk K a.Beat a.Beat_init
  fn_Beat_start : Fun K "start" "Beat.start" s_Beat_start a.Beat_start a.fd_Beat_start
  bi_Beat_start : Binds K a.fd_Beat_start ["self", "now"] []
  me_Beat_start : Meth K a.Beat "start" a.Beat_start
  fn_Beat_stop : Fun K "stop" "Beat.stop" s_Beat_stop a.Beat_stop a.fd_Beat_stop
  bi_Beat_stop : Binds K a.fd_Beat_stop ["self"] []
  me_Beat_stop : Meth K a.Beat "stop" a.Beat_stop
  fn_Beat_hurry : Fun K "hurry" "Beat.hurry" s_Beat_hurry a.Beat_hurry a.fd_Beat_hurry
  bi_Beat_hurry : Binds K a.fd_Beat_hurry ["self", "now"] []
  me_Beat_hurry : Meth K a.Beat "hurry" a.Beat_hurry
  fn_Beat_runs : Fun K "runs" "Beat.runs" s_Beat_runs a.Beat_runs a.fd_Beat_runs
  bi_Beat_runs : Binds K a.fd_Beat_runs ["self"] []
  me_Beat_runs : Meth K a.Beat "runs" a.Beat_runs
  fn_Beat_due : Fun K "due" "Beat.due" s_Beat_due a.Beat_due a.fd_Beat_due
  bi_Beat_due : Binds K a.fd_Beat_due ["self", "now"] []
  me_Beat_due : Meth K a.Beat "due" a.Beat_due
  fn_segments_of : Fun K "segments_of" "segments_of" s_segments_of a.segments_of a.fd_segments_of
  bi_segments_of : Binds K a.fd_segments_of ["to", "sender", "epoch", "triples"] []
  mg_segments_of : mg "segments_of" = some (.ref a.segments_of)
  kp_segments_of : PySem.W.keepIn K (.ref a.segments_of) = true
  fn_Body_init : Fun K "__init__" "Body.__init__" s_Body_init a.Body_init a.fd_Body_init
  bi_Body_init : Binds K a.fd_Body_init ["self"] []
  mk_Body : Mk K a.Body a.Body_init
  fn_Body_says : Fun K "says" "Body.says" s_Body_says a.Body_says a.fd_Body_says
  bi_Body_says : Binds K a.fd_Body_says ["self", "now"] []
  me_Body_says : Meth K a.Body "says" a.Body_says
  fn_Body_hears_ack : Fun K "_hears_ack" "Body._hears_ack" s_Body_hears_ack a.Body_hears_ack a.fd_Body_hears_ack
  bi_Body_hears_ack : Binds K a.fd_Body_hears_ack ["self", "number", "now"] []
  me_Body_hears_ack : Meth K a.Body "_hears_ack" a.Body_hears_ack
  fn_Body_hears : Fun K "hears" "Body.hears" s_Body_hears a.Body_hears a.fd_Body_hears
  bi_Body_hears : Binds K a.fd_Body_hears ["self", "kind", "number", "text", "now"] []
  me_Body_hears : Meth K a.Body "hears" a.Body_hears
  fn_Line_init : Fun K "__init__" "Line.__init__" s_Line_init a.Line_init a.fd_Line_init
  bi_Line_init : Binds K a.fd_Line_init ["self", "to"] []
  mk_Line : Mk K a.Line a.Line_init
  fn_Line_begin : Fun K "begin" "Line.begin" s_Line_begin a.Line_begin a.fd_Line_begin
  bi_Line_begin : Binds K a.fd_Line_begin ["self", "epoch", "now"] []
  me_Line_begin : Meth K a.Line "begin" a.Line_begin
  fn_Line_send : Fun K "send" "Line.send" s_Line_send a.Line_send a.fd_Line_send
  bi_Line_send : Binds K a.fd_Line_send ["self", "text"] []
  me_Line_send : Meth K a.Line "send" a.Line_send
  fn_Line_says : Fun K "_says" "Line._says" s_Line_says a.Line_says a.fd_Line_says
  bi_Line_says : Binds K a.fd_Line_says ["self", "now"] []
  me_Line_says : Meth K a.Line "_says" a.Line_says
  fn_Line_tick : Fun K "tick" "Line.tick" s_Line_tick a.Line_tick a.fd_Line_tick
  bi_Line_tick : Binds K a.fd_Line_tick ["self", "now"] []
  me_Line_tick : Meth K a.Line "tick" a.Line_tick
  fn_Line_hears_answer : Fun K "_hears_answer" "Line._hears_answer" s_Line_hears_answer a.Line_hears_answer a.fd_Line_hears_answer
  bi_Line_hears_answer : Binds K a.fd_Line_hears_answer ["self", "kind", "number", "now"] []
  me_Line_hears_answer : Meth K a.Line "_hears_answer" a.Line_hears_answer
  fn_Line_take : Fun K "take" "Line.take" s_Line_take a.Line_take a.fd_Line_take
  bi_Line_take : Binds K a.fd_Line_take ["self", "segment", "now"] []
  me_Line_take : Meth K a.Line "take" a.Line_take
  fn_Guest_init : Fun K "__init__" "Guest.__init__" s_Guest_init a.Guest_init a.fd_Guest_init
  bi_Guest_init : Binds K a.fd_Guest_init ["self", "own", "boot"] []
  mk_Guest : Mk K a.Guest a.Guest_init
  fn_Guest_send : Fun K "send" "Guest.send" s_Guest_send a.Guest_send a.fd_Guest_send
  bi_Guest_send : Binds K a.fd_Guest_send ["self", "text"] []
  me_Guest_send : Meth K a.Guest "send" a.Guest_send
  fn_Guest_tick : Fun K "tick" "Guest.tick" s_Guest_tick a.Guest_tick a.fd_Guest_tick
  bi_Guest_tick : Binds K a.fd_Guest_tick ["self", "now"] []
  me_Guest_tick : Meth K a.Guest "tick" a.Guest_tick
  fn_Guest_answers : Fun K "_answers" "Guest._answers" s_Guest_answers a.Guest_answers a.fd_Guest_answers
  bi_Guest_answers : Binds K a.fd_Guest_answers ["self", "epoch", "number"] []
  me_Guest_answers : Meth K a.Guest "_answers" a.Guest_answers
  fn_Guest_take : Fun K "take" "Guest.take" s_Guest_take a.Guest_take a.fd_Guest_take
  bi_Guest_take : Binds K a.fd_Guest_take ["self", "segment", "now"] []
  me_Guest_take : Meth K a.Guest "take" a.Guest_take
  fn__law_state : Fun K "_law_state" "_law_state" s__law_state a._law_state a.fd__law_state
  bi__law_state : Binds K a.fd__law_state ["script"] []
  mg__law_state : mg "_law_state" = some (.ref a._law_state)
  kp__law_state : PySem.W.keepIn K (.ref a._law_state) = true
  fn__law_draw : Fun K "_law_draw" "_law_draw" s__law_draw a._law_draw a.fd__law_draw
  bi__law_draw : Binds K a.fd__law_draw ["state", "many"] []
  mg__law_draw : mg "_law_draw" = some (.ref a._law_draw)
  kp__law_draw : PySem.W.keepIn K (.ref a._law_draw) = true
  fn__law_pick : Fun K "_law_pick" "_law_pick" s__law_pick a._law_pick a.fd__law_pick
  bi__law_pick : Binds K a.fd__law_pick ["state", "row"] []
  mg__law_pick : mg "_law_pick" = some (.ref a._law_pick)
  kp__law_pick : PySem.W.keepIn K (.ref a._law_pick) = true
  fn__law_body : Fun K "_law_body" "_law_body" s__law_body a._law_body a.fd__law_body
  bi__law_body : Binds K a.fd__law_body [] []
  mg__law_body : mg "_law_body" = some (.ref a._law_body)
  kp__law_body : PySem.W.keepIn K (.ref a._law_body) = true
  fn__law_start : Fun K "_law_start" "_law_start" s__law_start a._law_start a.fd__law_start
  bi__law_start : Binds K a.fd__law_start ["b", "now"] []
  mg__law_start : mg "_law_start" = some (.ref a._law_start)
  kp__law_start : PySem.W.keepIn K (.ref a._law_start) = true
  fn__law_due : Fun K "_law_due" "_law_due" s__law_due a._law_due a.fd__law_due
  bi__law_due : Binds K a.fd__law_due ["b", "now"] []
  mg__law_due : mg "_law_due" = some (.ref a._law_due)
  kp__law_due : PySem.W.keepIn K (.ref a._law_due) = true
  fn__law_say : Fun K "_law_say" "_law_say" s__law_say a._law_say a.fd__law_say
  bi__law_say : Binds K a.fd__law_say ["b", "now"] []
  mg__law_say : mg "_law_say" = some (.ref a._law_say)
  kp__law_say : PySem.W.keepIn K (.ref a._law_say) = true
  fn__law_hear : Fun K "_law_hear" "_law_hear" s__law_hear a._law_hear a.fd__law_hear
  bi__law_hear : Binds K a.fd__law_hear ["b", "kind", "number", "text", "now"] []
  mg__law_hear : mg "_law_hear" = some (.ref a._law_hear)
  kp__law_hear : PySem.W.keepIn K (.ref a._law_hear) = true
  fn__law_line_tick : Fun K "_law_line_tick" "_law_line_tick" s__law_line_tick a._law_line_tick a.fd__law_line_tick
  bi__law_line_tick : Binds K a.fd__law_line_tick ["m", "now"] []
  mg__law_line_tick : mg "_law_line_tick" = some (.ref a._law_line_tick)
  kp__law_line_tick : PySem.W.keepIn K (.ref a._law_line_tick) = true
  fn__law_line_take : Fun K "_law_line_take" "_law_line_take" s__law_line_take a._law_line_take a.fd__law_line_take
  bi__law_line_take : Binds K a.fd__law_line_take ["m", "segment", "now"] []
  mg__law_line_take : mg "_law_line_take" = some (.ref a._law_line_take)
  kp__law_line_take : PySem.W.keepIn K (.ref a._law_line_take) = true
  fn__law_guest_take : Fun K "_law_guest_take" "_law_guest_take" s__law_guest_take a._law_guest_take a.fd__law_guest_take
  bi__law_guest_take : Binds K a.fd__law_guest_take ["g", "segment", "now"] []
  mg__law_guest_take : mg "_law_guest_take" = some (.ref a._law_guest_take)
  kp__law_guest_take : PySem.W.keepIn K (.ref a._law_guest_take) = true
  fn__law_begun : Fun K "_law_begun" "_law_begun" s__law_begun a._law_begun a.fd__law_begun
  bi__law_begun : Binds K a.fd__law_begun ["line", "m", "epoch", "now"] []
  mg__law_begun : mg "_law_begun" = some (.ref a._law_begun)
  kp__law_begun : PySem.W.keepIn K (.ref a._law_begun) = true
  fn__law_sent : Fun K "_law_sent" "_law_sent" s__law_sent a._law_sent a.fd__law_sent
  bi__law_sent : Binds K a.fd__law_sent ["line", "m", "text"] []
  mg__law_sent : mg "_law_sent" = some (.ref a._law_sent)
  kp__law_sent : PySem.W.keepIn K (.ref a._law_sent) = true
  fn__law_segment : Fun K "_law_segment" "_law_segment" s__law_segment a._law_segment a.fd__law_segment
  bi__law_segment : Binds K a.fd__law_segment ["state", "m", "g"] []
  mg__law_segment : mg "_law_segment" = some (.ref a._law_segment)
  kp__law_segment : PySem.W.keepIn K (.ref a._law_segment) = true
  fn_law : Fun K "law" "law" s_law a.law a.fd_law
  bi_law : Binds K a.fd_law ["script"] []
  mg_law : mg "law" = some (.ref a.law)
  kp_law : PySem.W.keepIn K (.ref a.law) = true
  mg_MOST_MESSAGES : ∃ tk, mg "MOST_MESSAGES" = some (.int 300 tk)
  mg_WINDOW : ∃ tk, mg "WINDOW" = some (.int 4 tk)
  mg_FIRST_WAIT : ∃ tk, mg "FIRST_WAIT" = some (.int 2 tk)
  mg_LONGEST_WAIT : ∃ tk, mg "LONGEST_WAIT" = some (.int 16 tk)
  mg_CONTROLLER : ∃ tk, mg "CONTROLLER" = some (.int 0 tk)
  mg_HOPS : ∃ tk, mg "HOPS" = some (.int 12 tk)
  mg_MOST_TRIES : ∃ tk, mg "MOST_TRIES" = some (.int 6 tk)
  mg_len : mg "len" = none
  mg_range : mg "range" = none
  mg_min : mg "min" = none
  mg_abs : mg "abs" = none
  mg_int : mg "int" = none
  mg_max : mg "max" = none
  mg_isinstance : mg "isinstance" = none
  mg_str : mg "str" = none
local macro_rules | `(tactic| walk_at "g") => `(tactic| first | assumption | exact Hs.g0 (by assumption) | exact Hs.g1 (by assumption) | exact Hs.g2 (by assumption) | exact Hs.g3 (by assumption) | exact Hs.g4 (by assumption) | exact Hs.g5 (by assumption) | exact Hs.g6 (by assumption) | exact Hs.g7 (by assumption) | exact Hs.g8 (by assumption) | exact Hs.g9 (by assumption) | exact Hs.g10 (by assumption) | exact Hs.g11 (by assumption) | exact Hs.g12 (by assumption) | exact Hs.g13 (by assumption) | exact Hs.g14 (by assumption) | exact Hs.g15 (by assumption) | exact Hs.old (by assumption) (by assumption))
local macro_rules | `(tactic| walk_at "l") => `(tactic| first | assumption | exact SqL.of (by walk_at "g") | exact Hs.sql (by assumption) (by assumption))
local macro_rules | `(tactic| walk_at "p") => `(tactic| first | exact .here | exact .there .here | exact .there (.there .here) | exact .there (.there (.there .here)) | exact .there (.there (.there (.there .here))) | exact .there (.there (.there (.there (.there .here)))) | exact .there (.there (.there (.there (.there (.there .here))))) | exact .there (.there (.there (.there (.there (.there (.there .here)))))) | exact .there (.there (.there (.there (.there (.there (.there (.there .here))))))) | exact .there (.there (.there (.there (.there (.there (.there (.there (.there .here)))))))) | exact .there (.there (.there (.there (.there (.there (.there (.there (.there (.there .here))))))))) | exact .there (.there (.there (.there (.there (.there (.there (.there (.there (.there (.there .here)))))))))) | exact .there (.there (.there (.there (.there (.there (.there (.there (.there (.there (.there (.there .here))))))))))) | exact .there (.there (.there (.there (.there (.there (.there (.there (.there (.there (.there (.there (.there .here)))))))))))))
local macro_rules | `(tactic| walk_at "f") => `(tactic| first | exact lk0 | exact lk1 (by decide +kernel) lk0 | exact lk1 (by decide +kernel) (lk1 (by decide +kernel) lk0) | exact lk1 (by decide +kernel) (lk1 (by decide +kernel) (lk1 (by decide +kernel) lk0)) | exact lk1 (by decide +kernel) (lk1 (by decide +kernel) (lk1 (by decide +kernel) (lk1 (by decide +kernel) lk0))) | exact lk1 (by decide +kernel) (lk1 (by decide +kernel) (lk1 (by decide +kernel) (lk1 (by decide +kernel) (lk1 (by decide +kernel) lk0)))) | exact lk1 (by decide +kernel) (lk1 (by decide +kernel) (lk1 (by decide +kernel) (lk1 (by decide +kernel) (lk1 (by decide +kernel) (lk1 (by decide +kernel) lk0))))) | exact lk1 (by decide +kernel) (lk1 (by decide +kernel) (lk1 (by decide +kernel) (lk1 (by decide +kernel) (lk1 (by decide +kernel) (lk1 (by decide +kernel) (lk1 (by decide +kernel) lk0)))))) | exact lk1 (by decide +kernel) (lk1 (by decide +kernel) (lk1 (by decide +kernel) (lk1 (by decide +kernel) (lk1 (by decide +kernel) (lk1 (by decide +kernel) (lk1 (by decide +kernel) (lk1 (by decide +kernel) lk0))))))))
local macro_rules | `(tactic| walk_at "fn") => `(tactic| first | exact lke | exact lkn (by decide +kernel) lke | exact lkn (by decide +kernel) (lkn (by decide +kernel) lke) | exact lkn (by decide +kernel) (lkn (by decide +kernel) (lkn (by decide +kernel) lke)) | exact lkn (by decide +kernel) (lkn (by decide +kernel) (lkn (by decide +kernel) (lkn (by decide +kernel) lke))) | exact lkn (by decide +kernel) (lkn (by decide +kernel) (lkn (by decide +kernel) (lkn (by decide +kernel) (lkn (by decide +kernel) lke)))) | exact lkn (by decide +kernel) (lkn (by decide +kernel) (lkn (by decide +kernel) (lkn (by decide +kernel) (lkn (by decide +kernel) (lkn (by decide +kernel) lke))))) | exact lkn (by decide +kernel) (lkn (by decide +kernel) (lkn (by decide +kernel) (lkn (by decide +kernel) (lkn (by decide +kernel) (lkn (by decide +kernel) (lkn (by decide +kernel) lke)))))) | exact lkn (by decide +kernel) (lkn (by decide +kernel) (lkn (by decide +kernel) (lkn (by decide +kernel) (lkn (by decide +kernel) (lkn (by decide +kernel) (lkn (by decide +kernel) (lkn (by decide +kernel) lke))))))))
local macro_rules | `(tactic| walk_at "fp") => `(tactic| first | exact pue | exact pu0 | exact pu2 (by decide +kernel) pue | exact pu2 (by decide +kernel) pu0 | exact pu2 (by decide +kernel) (pu2 (by decide +kernel) pue) | exact pu2 (by decide +kernel) (pu2 (by decide +kernel) pu0) | exact pu2 (by decide +kernel) (pu2 (by decide +kernel) (pu2 (by decide +kernel) pue)) | exact pu2 (by decide +kernel) (pu2 (by decide +kernel) (pu2 (by decide +kernel) pu0)) | exact pu2 (by decide +kernel) (pu2 (by decide +kernel) (pu2 (by decide +kernel) (pu2 (by decide +kernel) pue))) | exact pu2 (by decide +kernel) (pu2 (by decide +kernel) (pu2 (by decide +kernel) (pu2 (by decide +kernel) pu0))) | exact pu2 (by decide +kernel) (pu2 (by decide +kernel) (pu2 (by decide +kernel) (pu2 (by decide +kernel) (pu2 (by decide +kernel) pue)))) | exact pu2 (by decide +kernel) (pu2 (by decide +kernel) (pu2 (by decide +kernel) (pu2 (by decide +kernel) (pu2 (by decide +kernel) pu0)))) | exact pu2 (by decide +kernel) (pu2 (by decide +kernel) (pu2 (by decide +kernel) (pu2 (by decide +kernel) (pu2 (by decide +kernel) (pu2 (by decide +kernel) pue))))) | exact pu2 (by decide +kernel) (pu2 (by decide +kernel) (pu2 (by decide +kernel) (pu2 (by decide +kernel) (pu2 (by decide +kernel) (pu2 (by decide +kernel) pu0))))) | exact pu2 (by decide +kernel) (pu2 (by decide +kernel) (pu2 (by decide +kernel) (pu2 (by decide +kernel) (pu2 (by decide +kernel) (pu2 (by decide +kernel) (pu2 (by decide +kernel) pue)))))) | exact pu2 (by decide +kernel) (pu2 (by decide +kernel) (pu2 (by decide +kernel) (pu2 (by decide +kernel) (pu2 (by decide +kernel) (pu2 (by decide +kernel) (pu2 (by decide +kernel) pu0)))))))
local macro_rules | `(tactic| walk_at "c") => `(tactic| first | assumption | omega | (dsimp only; omega) | (unfold CMul; omega))
local macro_rules | `(tactic| walk_at "z") => `(tactic| first | assumption | (refine sz ?_; first | decide | omega | (simp only [List.length_map, List.length_append] <;> omega) | (simp only [List.length_cons, List.length_nil, List.length_map, List.length_append] <;> omega)) | (refine szl ?_; first | decide | omega | (simp only [List.length_map, List.length_append] <;> omega) | (simp only [List.length_cons, List.length_nil, List.length_map, List.length_append] <;> omega)))
local macro_rules | `(tactic| walk_at "s") => `(tactic| first
  | with_reducible refine w_seq ?_
  | ((with_reducible refine' w_var ?h ?_); case h => exact rfl)
  | with_reducible refine w_c ?_
  | with_reducible refine w_name ?_
  | with_reducible refine w_asg ?_
  | with_reducible refine w_op ?_
  | with_reducible refine w_I0 ?_
  | with_reducible refine w_exb ?_
  | with_reducible refine w_if ?_
  | with_reducible refine w_test ?_
  | with_reducible refine w_fld ?_
  | ((with_reducible refine' w_fl ?h ?hc ?hn ?hl ?_); (case h => walk_at "g"); (case hc => assumption); (case hn => assumption); (case hl => walk_at "f"))
  | with_reducible refine w_nil ?_
  | with_reducible refine w_cons ?_
  | with_reducible refine w_cb ?_
  | with_reducible refine w_call ?_
  | with_reducible refine w_meth ?_
  | with_reducible refine w_make ?_
  | ((with_reducible refine' w_rc ?h ?hl ?_); (case h => walk_at "g"); (case hl => walk_at "fn"))
  | with_reducible refine w_drop ?_
  | with_reducible refine w_ret ?_
  | with_reducible refine w_retN ?_
  | with_reducible refine w_next ?_
  | with_reducible refine w_brk ?_
  | with_reducible refine w_cont ?_
  | with_reducible refine w_eqI ?_
  | with_reducible refine w_neI ?_
  | with_reducible refine w_neB ?_
  | with_reducible refine w_isi ?_
  | ((with_reducible refine' w_len ?h ?_); case h => walk_at "l")
  | ((with_reducible refine' w_ixL ?h ?a ?_); (case h => walk_at "l"); (case a => first | exact at0 | exact at1 | exact at2 | exact at3 | assumption))
  | with_reducible refine w_bm ?_
  | with_reducible refine w_bm0 ?_
  | ((with_reducible refine' w_tyL ?h ?_); case h => walk_at "l")
  | with_reducible refine w_B ?_
  | with_reducible refine w_not ?_
  | with_reducible refine w_and ?_
  | with_reducible refine w_or ?_
  | with_reducible refine w_andV ?_
  | with_reducible refine w_orV ?_
  | with_reducible refine w_notV ?_
  | with_reducible refine w_ifE ?_
  | with_reducible refine w_chain ?_
  | with_reducible refine w_un ?_
  | with_reducible refine w_U ?_
  | with_reducible refine w_int ?_
  | with_reducible refine w_abs ?_
  | with_reducible refine w_tup ?_
  | with_reducible refine w_lst ?_
  | with_reducible refine w_sl ?_
  | with_reducible refine w_noPart ?_
  | with_reducible refine w_part ?_
  | with_reducible refine w_exi ?_
  | ((with_reducible refine' w_newL ?hs ?hl ?_); (case hs => assumption); (case hl => walk_at "z"); intro _ _ _)
  | ((with_reducible refine' w_newT ?hs ?hl ?_); (case hs => assumption); (case hl => walk_at "z"); intro _ _ _)
  | ((with_reducible refine' w_slL ?hs ?h ?_); (case hs => assumption); (case h => walk_at "l"); intro _ _ _)
  | ((with_reducible refine' w_cat ?hs ?ha ?hb ?hl ?_); (case hs => assumption); (case ha => walk_at "g"); (case hb => walk_at "g"); (case hl => walk_at "z"); intro _ _ _)
  | ((with_reducible refine' w_app ?hs ?h ?hl ?_); (case hs => assumption); (case h => walk_at "p"); (case hl => walk_at "z"); intro _ _)
  | ((with_reducible refine' w_clear ?hs ?h ?_); (case hs => assumption); (case h => walk_at "p"); intro _ _)
  | with_reducible refine w_sfld ?_
  | ((with_reducible refine' w_fsP ?hs ?h ?hc ?hn ?hl ?hg ?_); (case hs => assumption); (case h => walk_at "p"); (case hc => assumption); (case hn => assumption); (case hl => exact Nat.lt_of_lt_of_le (by simp only [List.length_cons, List.length_nil]; omega) (Nat.le_refl 1000)); (case hg => walk_at "fp"); intro _ _)
  | with_reducible refine w_lpb ?_
  | with_reducible refine w_yes ?_
  | with_reducible refine w_sub ?_
  | with_reducible refine w_delL0 ?_
  | ((with_reducible refine' w_I ?h ?_); case h => walk_at "c"))
local macro_rules | `(tactic| walk_at "ss") => `(tactic| repeat walk_at "s")

local macro_rules | `(tactic| walk_at "t") => `(tactic| first | assumption | exact SqT.of (by walk_at "g"))
local macro_rules | `(tactic| walk_at "s") => `(tactic| first
  | with_reducible refine iteT ?_
  | with_reducible refine iteF ?_
  | with_reducible refine w_din ?_
  | with_reducible refine w_dni ?_
  | ((with_reducible refine' w_dinI ?h ?_); case h => walk_at "g")
  | ((with_reducible refine' w_dniI ?h ?_); case h => walk_at "g")
  | with_reducible refine w_dput ?_
  | ((with_reducible refine' w_dputI ?hs ?h ?hl ?_); (case hs => assumption); (case h => walk_at "p"); (case hl => walk_at "z"); intro _ _)
  | with_reducible refine w_dpop ?_
  | ((with_reducible refine' w_dpopA ?h ?_); case h => walk_at "g")
  | with_reducible refine w_dnew ?_
  | ((with_reducible refine' w_newD ?hs ?_); (case hs => assumption); intro _ _ _)
  | with_reducible refine w_faug ?_
  | ((with_reducible refine' w_fa1 ?h ?hc ?hn ?hl ?_); (case h => walk_at "g"); (case hc => assumption); (case hn => assumption); (case hl => walk_at "f"))
  | ((with_reducible refine' w_fa2 ?hs ?h ?hl ?hg ?_); (case hs => assumption); (case h => walk_at "p"); (case hl => exact Nat.lt_of_lt_of_le (by simp only [List.length_cons, List.length_nil]; omega) (Nat.le_refl 1000)); (case hg => walk_at "fp"); intro _ _)
  | with_reducible refine w_rAdd ?_
  | with_reducible refine w_rSub ?_
  | with_reducible refine w_max ?_
  | with_reducible refine w_min ?_
  | with_reducible refine w_eqB ?_
  | with_reducible refine w_methQ ?_
  | with_reducible refine w_xf0 ?_
  | ((with_reducible refine' w_xf ?h ?hl ?_); (case h => walk_at "g"); (case hl => walk_at "f"))
  | with_reducible refine w_eqSt ?_
  | with_reducible refine w_isN ?_
  | with_reducible refine w_notN ?_
  | ((with_reducible refine' w_gtup ?h ?hl ?_); (case h => walk_at "t"); (case hl => rfl))
  | with_reducible refine w_gnil ?_
  | with_reducible refine w_gcons ?_
  | with_reducible refine w_par3 ?_
  | with_reducible refine w_ex3 ?_
  | with_reducible refine w_par2 ?_
  | with_reducible refine w_ex2 ?_
  | ((with_reducible refine' w_ixT ?h ?a ?_); (case h => walk_at "t"); (case a => first | exact at0 | exact at1 | exact at2 | exact at3 | assumption))
  | ((with_reducible refine' w_lenT ?h ?_); case h => walk_at "t")
  | ((with_reducible refine' w_set0 ?hs ?h ?_); (case hs => assumption); (case h => walk_at "p"); intro _ _)
  | ((with_reducible refine' w_set1 ?hs ?h ?_); (case hs => assumption); (case h => walk_at "p"); intro _ _)
  | ((with_reducible refine' w_set2 ?hs ?h ?_); (case hs => assumption); (case h => walk_at "p"); intro _ _)
  | ((with_reducible refine' w_set3 ?hs ?h ?_); (case hs => assumption); (case h => walk_at "p"); intro _ _)
  | ((with_reducible refine' w_set4 ?hs ?h ?_); (case hs => assumption); (case h => walk_at "p"); intro _ _)
  | with_reducible refine w_vei ?_
  | with_reducible refine w_ost0 ?_
  | with_reducible refine w_mko ?_
  | with_reducible refine w_raise ?_
  | with_reducible refine w_js ?_
  | with_reducible refine w_js0 ?_
  | with_reducible refine w_fmt ?_)

/-! ### the error -/
def okPlace : V → Prop := fun v => ∃ s : Str, v = .str s ∧ s.length ≤ 1000
abbrev sp_RoomError_init (a : Ad) : Sp := spXinit a.RoomError "place" okPlace
/-! ### the sender -/
abbrev snd (a : Ad) (dx r : Addr) (f s : Int) : HO := .ins a.Sender dx [("first", .int f), ("rows", .ref r), ("said", .int s)]
abbrev lst (rows : List Str) : HO := .lst (rows.map V.str)
/-- the pair of a number and a message -/
def pr (f : Int) (rows : List Str) (lo : Int) (i : Nat) : PyData := .tuple [.int (f + (lo + (i : Int))), .str (rows.getD (lo + (i : Int)).toNat Str.empty)]
def prs (f : Int) (rows : List Str) (lo hi : Int) : List PyData := (List.range (hi - lo).toNat).map (pr f rows lo)
def sp_Sender_init (a : Ad) : Sp := fun vs H Q _ => ∃ (B : Hp) (x dx : Addr), vs = [.ref x] ∧ Hs B [(x, .ins a.Sender dx [])] H ∧ ∀ r H', Hs B [(r, lst []), (x, snd a dx r 0 0)] H' → Q .non H'
def sp_Sender_put (a : Ad) : Sp := fun vs H Q E => ∃ (B : Hp) (x dx r : Addr) (f s : Int) (rows : List Str) (t : Str), vs = [.ref x, .str t] ∧ Hs B [(x, snd a dx r f s), (r, lst rows)] H ∧ rows.length ≤ 1000 ∧
  (rows.length < 300 → ∀ H', Hs B [(x, snd a dx r f s), (r, lst (rows ++ [t]))] H' → Q .non H') ∧
  (300 ≤ rows.length → ∀ d H', Hs B [(d, .xd [("place", .str "queue")]), (x, snd a dx r f s), (r, lst rows)] H' → E (.ref a.RoomError) (some d) H')
def sp_Sender_numbered (K : PySem.W.Frag) (a : Ad) : Sp := fun vs H Q _ => ∃ (B : Hp) (x dx r : Addr) (f s lo hi : Int) (rows : List Str), vs = [.ref x, .int lo, .int hi] ∧ Hs B [(x, snd a dx r f s), (r, lst rows)] H ∧ 0 ≤ lo ∧ lo ≤ 1000 ∧ 0 ≤ hi ∧ hi ≤ rows.length ∧ rows.length ≤ 1000 ∧
  ∀ D acc H', Hs B [(D, .lst acc), (x, snd a dx r f s), (r, lst rows)] H' → ImAll K H' acc (prs f rows lo hi) → Q (.ref D) H'
def sp_Sender_fresh (K : PySem.W.Frag) (a : Ad) : Sp := fun vs H Q _ => ∃ (B : Hp) (x dx r : Addr) (f s : Int) (rows : List Str), vs = [.ref x] ∧ Hs B [(x, snd a dx r f s), (r, lst rows)] H ∧ 0 ≤ s ∧ s ≤ 1000 ∧ rows.length ≤ 1000 ∧
  ∀ D acc H', Hs B [(D, .lst acc), (x, snd a dx r f (min 4 (rows.length : Int))), (r, lst rows)] H' → ImAll K H' acc (prs f rows s (min 4 (rows.length : Int))) → Q (.ref D) H'
def sp_Sender_again (K : PySem.W.Frag) (a : Ad) : Sp := fun vs H Q _ => ∃ (B : Hp) (x dx r : Addr) (f s : Int) (rows : List Str), vs = [.ref x] ∧ Hs B [(x, snd a dx r f s), (r, lst rows)] H ∧ 0 ≤ s ∧ s ≤ rows.length ∧ rows.length ≤ 1000 ∧
  ∀ D acc H', Hs B [(D, .lst acc), (x, snd a dx r f s), (r, lst rows)] H' → ImAll K H' acc (prs f rows 0 s) → Q (.ref D) H'
def sp_Sender_heard (a : Ad) : Sp := fun vs H Q _ => ∃ (B : Hp) (x dx r : Addr) (f s ack : Int) (rows : List Str), vs = [.ref x, .int ack] ∧ Hs B [(x, snd a dx r f s), (r, lst rows)] H ∧
  (ack - f < 0 ∨ s < ack - f → ∀ H', Hs B [(x, snd a dx r f s), (r, lst rows)] H' → Q .non H') ∧
  (0 ≤ ack - f → ack - f ≤ s → ∀ r' H', Hs B [(x, snd a dx r' ack (s - (ack - f))), (r', lst (rows.drop (ack - f).toNat))] H' → Q (.int (ack - f)) H')
section
variable {P : Program} [IsP P] {w : World} {K : PySem.W.Frag} {mg : Str → Option Value} {base : Heap} {a : Ad}
theorem ok_RoomError_init (T : Txt K mg a) : FnOk P w K mg base CX0 1 a.RoomError_init a.fd_RoomError_init ["self", "place"] (sp_RoomError_init a) := by
  obtain ⟨ar, S⟩ := sc_RoomError_init
  obtain rfl : P = _ := IsP.eq
  refine T.fn_RoomError_init.ok T.ox_RoomError S (fun vs H Q E h => ?_) rfl (fun cda cc A outer s H vs Q E hr h => ?_)
  · obtain ⟨_, _, _, rfl, _⟩ := h
    rfl
  · obtain ⟨B, e, v, rfl, hs, ⟨t, rfl, ht⟩, k⟩ := h
    refine ⟨e, _, _, rfl, hs.g0, (pa_cons (pe_joined (.cons pe_str (.cons (pe_fmt (pv 1)) .nil))) pa_nil), (pss_one (ps_ost (pv 0) (pv 1))), ?_⟩
    walk_at "ss"
    have hz : (Str.empty ++ ("no room: " : Str)).length ≤ 100 := by decide +kernel
    refine w_js1 (Nat.le_trans hz (by decide)) ?_
    walk_at "ss"
    refine w_fmtS (sz (by omega)) ?_
    refine w_js1 ?_ ?_
    · rw [Str.length_append]
      exact sz (by omega)
    walk_at "ss"
    refine ⟨by simp, hs.g0, ?_⟩
    walk_at "ss"
    refine w_ost hs T.ox_RoomError T.no_RoomError_place fun dx H' hs' => ?_
    exact k _ _ hs'
theorem ok_Sender_init (T : Txt K mg a) : FnOk P w K mg base CX0 1 a.Sender_init a.fd_Sender_init ["self"] (sp_Sender_init a) := by
  refine T.fn_Sender_init.ok sc_Sender_init (fun vs H Q E h => ?_) (fun cdv A outer s H vs Q E hr h => ?_)
  · obtain ⟨_, _, _, rfl, _⟩ := h
    rfl
  · obtain ⟨B, x, dx, rfl, hs, k⟩ := h
    have c1 := T.cl_Sender
    have n1 := T.na_Sender_first
    have n2 := T.na_Sender_rows
    have n3 := T.na_Sender_said
    refine ⟨_, (pss_cons (ps_fldK (K := K) (pv 0) pe_int)
  (pss_cons (ps_fldK (K := K) (pv 0) (pe_lst pa_nil))
  (pss_one (ps_fldK (K := K) (pv 0) pe_int)))), ?_⟩
    walk_at "ss"
    exact k _ _ (by assumption)
theorem ok_Sender_put (T : Txt K mg a) : FnOk P w K mg base (CX P w) 3 a.Sender_put a.fd_Sender_put ["self", "body"] (sp_Sender_put a) := by
  have G_RoomError_init := ok_RoomError_init (P := P) (w := w) (base := base) T
  refine T.fn_Sender_put.okX sc_Sender_put (fun vs H Q E h => ?_) (fun cdv A outer s H vs Q E hr h => ?_)
  · obtain ⟨_, _, _, _, _, _, _, _, rfl, _⟩ := h
    rfl
  · obtain ⟨B, x, dx, r, f, z, rows, t, rfl, hs, hl, k1, k2⟩ := h
    have c1 := T.cl_Sender
    have n2 := T.na_Sender_rows
    refine ⟨_, (pss_cons (ps_if (pt_cmpR op_ge (pe_callB (call_lenK (K := K)) (by rfl) T.mg_len PySem.boot_len (pa_cons (pe_fldK (K := K) (pv 0)) pa_nil)) (pe_glob (v := .int 300) rfl (Exists.choose_spec T.mg_MOST_MESSAGES) ⟨_, rfl⟩) (nomark _))
  (pss_one (ps_raiseQ rfl (takes_of rfl rfl rfl rfl) (pmk_oex T.ox_RoomError T.iC_RoomError T.tI_RoomError G_RoomError_init (hr.mono (by decide)) T.bi_RoomError_init .nil pass0 rfl T.mg_RoomError (pa_cons pe_str pa_nil))))
  pss_nil)
  (pss_one (ps_expr (pe_bmK (K := K) PySem.F.plainAttrs_list PySem.F.slot_list_append PySem.F.type_list_append mt_append (pe_fldK (K := K) (pv 0)) (pa_cons (pv 1) pa_nil))))), ?_⟩
    walk_at "ss"
    rw [List.length_map]
    refine ifd (fun h => ?_) (fun h => ?_)
    · walk_at "ss"
      refine w_mkX hs ⟨_, rfl, by decide +kernel⟩ fun d H' hs' => ?_
      exact k2 (by omega) d H' hs'
    · walk_at "ss"
      refine k1 (by omega) _ ?_
      show Hs _ [_, (r, .lst ((rows ++ [t]).map V.str))] _
      rw [List.map_append]
      assumption
theorem at_str {rows : List Str} {i : Int} (h0 : 0 ≤ i) (h : i < rows.length) : atI (rows.map V.str) i = some (.str (rows.getD i.toNat Str.empty)) := by
  have hj : i.toNat < rows.length := by omega
  refine at_of (j := i.toNat) (by omega) ?_
  rw [List.getElem?_map, List.getElem?_eq_getElem hj, List.getD_eq_getElem?_getD, List.getElem?_eq_getElem hj]
  rfl
theorem ok_Sender_numbered (T : Txt K mg a) : FnOk P w K mg base CX0 1 a.Sender_numbered a.fd_Sender_numbered ["self", "start", "stop"] (sp_Sender_numbered K a) := by
  refine T.fn_Sender_numbered.ok sc_Sender_numbered (fun vs H Q E h => ?_) (fun cdv A outer s H vs Q E hr h => ?_)
  · obtain ⟨_, _, _, _, _, _, _, _, _, rfl, _⟩ := h
    rfl
  · obtain ⟨B, x, dx, r, f, z, lo, hi, rows, rfl, hs, h1, h2, h3, h4, hl, k⟩ := h
    have c1 := T.cl_Sender
    have n1 := T.na_Sender_first
    have n2 := T.na_Sender_rows
    refine ⟨_, (pss_one (ps_ret (pe_lc (own := [("at", 3)]) (g := (gName 3)) (tt := tYes) rfl sc_Sender_numbered.nd (pi_range2 rfl T.mg_range (pa_cons (pv 1) (pa_cons (pv 2) pa_nil))) (blkOk_by (own := [("at", 3)]) (N := N_Sender_numbered) (sc := defScope s_Sender_numbered) (by decide +kernel)) (fun _ _ _ _ _ => by exact (pg_name (i := 3) sc_Sender_numbered.nd rfl (Or.inl rfl))) (fun _ _ _ _ _ => pts_nil) (fun _ _ _ _ _ => by exact (pe_tup (pa_cons (pe_op op_add (pe_fldK (K := K) (pv 0)) (pv 3)) (pa_cons (pe_ix (ix_listK (K := K)) (pe_fldK (K := K) (pv 0)) (pv 3) (fun _ _ => rfl)) pa_nil))))))), ?_⟩
    walk_at "ss"
    have g0 := hs.g0
    have g1 := hs.g1
    refine w_lcI (K := K) (by omega) (by omega) (pr f rows lo) (fun Q q => ⟨_, rfl, _, rfl, q⟩) (fun _ => rfl) ?_ ?_
    · intro i H' Q' hi' hS kk
      have g0' := hS _ _ g0
      have g1' := hS _ _ g1
      clear g0 g1 hs
      have hs := Hs.start H'
      have ea := at_str (rows := rows) (i := lo + (i : Int)) (by omega) (by omega)
      walk_at "ss"
      rename_i p H3 hs3
      exact kk _ _ hs3.same (.tup hs3.g0 (.cons (.int _) (.cons (.str _) .nil)))
    · intro D acc H' hs' hi'
      exact k D acc H' (hs.add hs') hi'
theorem min4 {n : Nat} : (if (n : Int) < 4 then (n : Int) else 4) = min 4 (n : Int) := by omega
theorem ok_Sender_fresh (T : Txt K mg a) : FnOk P w K mg base CX0 2 a.Sender_fresh a.fd_Sender_fresh ["self"] (sp_Sender_fresh K a) := by
  have G_Sender_numbered := ok_Sender_numbered (P := P) (w := w) (base := base) T
  refine T.fn_Sender_fresh.ok sc_Sender_fresh (fun vs H Q E h => ?_) (fun cdv A outer s H vs Q E hr h => ?_)
  · obtain ⟨_, _, _, _, _, _, _, rfl, _⟩ := h
    rfl
  · obtain ⟨B, x, dx, r, f, z, rows, rfl, hs, h1, h2, hl, k⟩ := h
    have c1 := T.cl_Sender
    have n1 := T.na_Sender_first
    have n2 := T.na_Sender_rows
    have n3 := T.na_Sender_said
    refine ⟨_, (pss_cons (ps_set (i := 1) sc_Sender_fresh.nd rfl (Or.inl rfl) (pe_fldK (K := K) (pv 0)))
  (pss_cons (ps_fldK (K := K) (pv 0) (pe_callB (call_minQ rfl) (by rfl) T.mg_min (by decide +kernel) (pa_cons (pe_glob (v := .int 4) rfl (Exists.choose_spec T.mg_WINDOW) ⟨_, rfl⟩) (pa_cons (pe_callB (call_lenK (K := K)) (by rfl) T.mg_len PySem.boot_len (pa_cons (pe_fldK (K := K) (pv 0)) pa_nil)) pa_nil))))
  (pss_one (ps_ret (pe_meth (pv 0) T.cl_Sender T.me_Sender_numbered G_Sender_numbered (hr.mono (by decide)) T.bi_Sender_numbered .nil pass0 (pa_cons (pv 1) (pa_cons (pe_fldK (K := K) (pv 0)) pa_nil))))))), ?_⟩
    walk_at "ss"
    rename_i H1 hs1
    rw [List.length_map, min4] at *
    refine ⟨B, x, dx, r, f, _, _, _, rows, rfl, hs1, h1, by omega, by omega, by omega, hl, ?_⟩
    intro D acc H' hs' hi'
    exact k D acc H' hs' hi'
theorem ok_Sender_again (T : Txt K mg a) : FnOk P w K mg base CX0 2 a.Sender_again a.fd_Sender_again ["self"] (sp_Sender_again K a) := by
  have G_Sender_numbered := ok_Sender_numbered (P := P) (w := w) (base := base) T
  refine T.fn_Sender_again.ok sc_Sender_again (fun vs H Q E h => ?_) (fun cdv A outer s H vs Q E hr h => ?_)
  · obtain ⟨_, _, _, _, _, _, _, rfl, _⟩ := h
    rfl
  · obtain ⟨B, x, dx, r, f, z, rows, rfl, hs, h1, h2, hl, k⟩ := h
    have c1 := T.cl_Sender
    have n3 := T.na_Sender_said
    refine ⟨_, (pss_one (ps_ret (pe_meth (pv 0) T.cl_Sender T.me_Sender_numbered G_Sender_numbered (hr.mono (by decide)) T.bi_Sender_numbered .nil pass0 (pa_cons pe_int (pa_cons (pe_fldK (K := K) (pv 0)) pa_nil))))), ?_⟩
    walk_at "ss"
    exact ⟨B, x, dx, r, f, _, _, _, rows, rfl, hs, by decide, by decide, h1, h2, hl, k⟩
theorem ok_Sender_heard (T : Txt K mg a) : FnOk P w K mg base CX0 1 a.Sender_heard a.fd_Sender_heard ["self", "ack"] (sp_Sender_heard a) := by
  refine T.fn_Sender_heard.ok sc_Sender_heard (fun vs H Q E h => ?_) (fun cdv A outer s H vs Q E hr h => ?_)
  · obtain ⟨_, _, _, _, _, _, _, _, rfl, _⟩ := h
    rfl
  · obtain ⟨B, x, dx, r, f, z, ack, rows, rfl, hs, k1, k2⟩ := h
    have c1 := T.cl_Sender
    have n1 := T.na_Sender_first
    have n2 := T.na_Sender_rows
    have n3 := T.na_Sender_said
    refine ⟨_, (pss_cons (ps_set (i := 2) sc_Sender_heard.nd rfl (Or.inl rfl) (pe_op op_sub (pv 1) (pe_fldK (K := K) (pv 0))))
  (pss_cons (ps_if (PW.pt (pw_or (pt_cmpR op_lt (pv 2) pe_int (nomark _)) (pw_or1 (pt_cmpR op_gt (pv 2) (pe_fldK (K := K) (pv 0)) (nomark _)))))
  (pss_one (ps_ret pe_non))
  pss_nil)
  (pss_cons (ps_fldK (K := K) (pv 0) (pe_slice (sl_listK (K := K)) (pe_fldK (K := K) (pv 0)) (po_some (pv 2)) po_none))
  (pss_cons (ps_fldaugK (K := K) (pv 0) (pv 2) in_sub)
  (pss_cons (ps_fldK (K := K) (pv 0) (pv 1))
  (pss_one (ps_ret (pv 2)))))))), ?_⟩
    walk_at "ss"
    refine ifd (fun h => ?_) (fun h => ?_)
    · walk_at "ss"
      exact k1 (.inl h) _ hs
    walk_at "ss"
    refine ifd (fun h2 => ?_) (fun h2 => ?_)
    · walk_at "ss"
      exact k1 (.inr h2) _ hs
    walk_at "ss"
    rename_i H1 hs1
    have e : cutV (rows.map V.str) (some (ack - f)) none = (rows.drop (ack - f).toNat).map V.str := by
      rw [cut_from (ack - f).toNat (by omega), List.map_drop]
    rw [e] at hs1
    exact k2 (by omega) (by omega) _ _ hs1.d2.m1
/-! ### the inbox -/
abbrev inb (a : Ad) (dx e : Addr) (n : Int) : HO := .ins a.Inbox dx [("next", .int n), ("_early", .ref e)]
/-- what was kept: numbers from n on, each once -/
abbrev Kv := List (Key × V)
def sp_Inbox_init (a : Ad) : Sp := fun vs H Q _ => ∃ (B : Hp) (x dx : Addr), vs = [.ref x] ∧ Hs B [(x, .ins a.Inbox dx [])] H ∧ ∀ e H', Hs B [(e, .dK []), (x, inb a dx e 0)] H' → Q .non H'
/-- the messages whose turn has come -/
def ready : Nat → Int → Kv → List V
  | 0, _, _ => []
  | k + 1, n, kv => match valV kv (Sum.inl n) with
    | none => []
    | some v => v :: ready k (n + 1) (dropK kv (Sum.inl n))
/-- what is left of them -/
def later : Nat → Int → Kv → Int × Kv
  | 0, n, kv => (n, kv)
  | k + 1, n, kv => match valV kv (Sum.inl n) with
    | none => (n, kv)
    | some _ => later k (n + 1) (dropK kv (Sum.inl n))
/-- one more message -/
def keep1 (n m : Int) (t : V) (kv : Kv) : Kv := if (n ≤ m ∧ m < n + 4) ∧ valV kv (Sum.inl m) = none then putK kv (Sum.inl m) t else kv
def sp_Inbox_take (a : Ad) : Sp := fun vs H Q _ => ∃ (B : Hp) (x dx e : Addr) (n m : Int) (t : Str) (kv : Kv), vs = [.ref x, .int m, .str t] ∧ Hs B [(x, inb a dx e n), (e, .dK kv)] H ∧ kv.length ≤ 1000 ∧
  ∀ r H', Hs B [(r, .lst (ready (keep1 n m (.str t) kv).length n (keep1 n m (.str t) kv))), (x, inb a dx e (later (keep1 n m (.str t) kv).length n (keep1 n m (.str t) kv)).1), (e, .dK (later (keep1 n m (.str t) kv).length n (keep1 n m (.str t) kv)).2)] H' → Q (.ref r) H'
theorem putK_le {κ : Type} [DecidableEq κ] (kv : List (κ × V)) (k : κ) (v : V) : (putK kv k v).length ≤ kv.length + 1 := by
  unfold putK
  split
  · rw [List.length_map]
    omega
  · rw [List.length_append]
    exact Nat.le_refl _
theorem dropK_lt {κ : Type} [DecidableEq κ] (k : κ) : ∀ (kv : List (κ × V)), (valV kv k).isSome = true → (dropK kv k).length < kv.length
  | [], h => by cases h
  | p :: r, h => by
    by_cases e : p.1 = k
    · unfold dropK
      rw [List.filter_cons_of_neg (by simp [e])]
      exact Nat.lt_succ_of_le (List.length_filter_le _ _)
    · rw [valV_neg e] at h
      have ih := dropK_lt k r h
      unfold dropK at ih ⊢
      rw [List.filter_cons_of_pos (by simp [e]), List.length_cons, List.length_cons]
      omega
theorem ready_nil (k : Nat) (n : Int) : ready k n [] = [] := by
  cases k <;> rfl
theorem later_nil (k : Nat) (n : Int) : later k n [] = (n, []) := by
  cases k <;> rfl
theorem ready_fuel : ∀ (k l : Nat) (n : Int) (kv : Kv), kv.length ≤ k → kv.length ≤ l → ready k n kv = ready l n kv
  | 0, l, n, kv, h, _ => by
    rw [List.length_eq_zero_iff.mp (Nat.le_zero.mp h), ready_nil, ready_nil]
  | k + 1, 0, n, kv, _, h => by
    rw [List.length_eq_zero_iff.mp (Nat.le_zero.mp h), ready_nil, ready_nil]
  | k + 1, l + 1, n, kv, h1, h2 => by
    show (match valV kv (Sum.inl n) with | none => [] | some v => v :: ready k (n + 1) (dropK kv (Sum.inl n))) = (match valV kv (Sum.inl n) with | none => [] | some v => v :: ready l (n + 1) (dropK kv (Sum.inl n)))
    cases hv : valV kv (Sum.inl n) with
    | none => rfl
    | some v =>
      have := dropK_lt (Sum.inl n) kv (by rw [hv]; rfl)
      simp only
      rw [ready_fuel k l (n + 1) _ (by omega) (by omega)]
theorem later_fuel : ∀ (k l : Nat) (n : Int) (kv : Kv), kv.length ≤ k → kv.length ≤ l → later k n kv = later l n kv
  | 0, l, n, kv, h, _ => by
    rw [List.length_eq_zero_iff.mp (Nat.le_zero.mp h), later_nil, later_nil]
  | k + 1, 0, n, kv, _, h => by
    rw [List.length_eq_zero_iff.mp (Nat.le_zero.mp h), later_nil, later_nil]
  | k + 1, l + 1, n, kv, h1, h2 => by
    show (match valV kv (Sum.inl n) with | none => (n, kv) | some v => later k (n + 1) (dropK kv (Sum.inl n))) = (match valV kv (Sum.inl n) with | none => (n, kv) | some v => later l (n + 1) (dropK kv (Sum.inl n)))
    cases hv : valV kv (Sum.inl n) with
    | none => rfl
    | some v =>
      have := dropK_lt (Sum.inl n) kv (by rw [hv]; rfl)
      simp only
      rw [later_fuel k l (n + 1) _ (by omega) (by omega)]
theorem ok_Inbox_init (T : Txt K mg a) : FnOk P w K mg base CX0 1 a.Inbox_init a.fd_Inbox_init ["self"] (sp_Inbox_init a) := by
  refine T.fn_Inbox_init.ok sc_Inbox_init (fun vs H Q E h => ?_) (fun cdv A outer s H vs Q E hr h => ?_)
  · obtain ⟨_, _, _, rfl, _⟩ := h
    rfl
  · obtain ⟨B, x, dx, rfl, hs, k⟩ := h
    have c1 := T.cl_Inbox
    have n1 := T.na_Inbox_next
    have n2 := T.na_Inbox__early
    refine ⟨_, (pss_cons (ps_fldK (K := K) (pv 0) pe_int)
  (pss_one (ps_fldK (K := K) (pv 0) pe_dnewK))), ?_⟩
    walk_at "ss"
    exact k _ _ (by assumption)
theorem ok_Inbox_take (T : Txt K mg a) : FnOk P w K mg base CX0 1 a.Inbox_take a.fd_Inbox_take ["self", "number", "body"] (sp_Inbox_take a) := by
  refine T.fn_Inbox_take.ok sc_Inbox_take (fun vs H Q E h => ?_) (fun cdv A outer s H vs Q E hr h => ?_)
  · obtain ⟨_, _, _, _, _, _, _, _, rfl, _⟩ := h
    rfl
  · obtain ⟨B, x, dx, e, n, m, t, kv, rfl, hs, hl, k⟩ := h
    have c1 := T.cl_Inbox
    have n1 := T.na_Inbox_next
    have n2 := T.na_Inbox__early
    have hu := hu_of hr
    refine ⟨_, (C8.pss_cut (ps_if (PW.pt (pw_and (pt_chain op_le op_lt (pe_fldK (K := K) (pv 0)) (pv 1) (pe_op op_add (pe_fldK (K := K) (pv 0)) (pe_glob (v := .int 4) rfl (Exists.choose_spec T.mg_WINDOW) ⟨_, rfl⟩))) (pw_and1 (pt_cmp (pc_dnotin hu (pv 1) (pe_fldK (K := K) (pv 0)))))))
  (pss_one (ps_dput hu (pe_fldK (K := K) (pv 0)) (pv 1) (pv 2) rfl))
  pss_nil)
  (pss_cons (ps_set (i := 3) sc_Inbox_take.nd rfl (Or.inl rfl) (pe_lst pa_nil))
  (pss_cons (ps_while PassesOwn.never (pt_cmp (pc_din hu (pe_fldK (K := K) (pv 0)) (pe_fldK (K := K) (pv 0))))
  (pss_cons (ps_expr (pe_bmK (K := K) PySem.F.plainAttrs_list PySem.F.slot_list_append PySem.F.type_list_append mt_append (pv 3) (pa_cons (pe_dpop1 (pe_fldK (K := K) (pv 0)) (pe_fldK (K := K) (pv 0)) ⟨rfl, rfl, rfl, rfl⟩) pa_nil)))
  (pss_one (ps_fldaugK (K := K) (pv 0) pe_int in_add))))
  (pss_one (ps_ret (pv 3)))))), ?_⟩
    refine w_cut (fun σ' H' => σ' = [some (.ref x), some (.int m), some (.str t), none] ∧ Hs B [(x, inb a dx e n), (e, .dK (keep1 n m (.str t) kv))] H') ?_ ?_
    · walk_at "ss"
      refine ifd (fun h1 => ?_) (fun h1 => ?_)
      · walk_at "ss"
        refine ifd (fun h2 => ?_) (fun h2 => ?_)
        · walk_at "ss"
          cases hv : valV kv (Sum.inl m) with
          | none =>
            refine iteT ?_
            walk_at "ss"
            refine ⟨rfl, ?_⟩
            unfold keep1
            rw [if_pos ⟨⟨h1, h2⟩, hv⟩]
            assumption
          | some u =>
            refine iteF ?_
            walk_at "ss"
            refine ⟨rfl, ?_⟩
            unfold keep1
            rw [if_neg (fun q => by rw [hv] at q; cases q.2)]
            assumption
        · walk_at "ss"
          refine ⟨rfl, ?_⟩
          unfold keep1
          rw [if_neg (fun q => h2 q.1.2)]
          assumption
      · walk_at "ss"
        refine ⟨rfl, ?_⟩
        unfold keep1
        rw [if_neg (fun q => h1 q.1.1)]
        assumption
    · rintro σ' H' ⟨rfl, hs⟩
      have hl2 : (keep1 n m (.str t) kv).length ≤ 1001 := by
        unfold keep1
        split
        · exact Nat.le_trans (putK_le _ _ _) (by omega)
        · omega
      generalize keep1 n m (.str t) kv = kv at hs k hl2
      rename_i hs0
      clear hs0
      walk_at "ss"
      rename_i r H1 hs1
      clear hs
      refine w_while (fun i σ H2 => ∃ (n' : Int) (kv' : Kv) (acc : List V), σ = [some (.ref x), some (.int m), some (.str t), some (.ref r)] ∧ kv'.length = i ∧ acc.length + i ≤ 1001 ∧ acc ++ ready kv'.length n' kv' = ready kv.length n kv ∧ later kv'.length n' kv' = later kv.length n kv ∧ Hs B [(r, .lst acc), (x, inb a dx e n'), (e, .dK kv')] H2) kv.length ⟨n, kv, [], rfl, rfl, by simpa using hl2, rfl, rfl, hs1⟩ ?_
      clear hs1
      rintro i σ H2 ⟨n', kv', acc, rfl, hi, hj, e1, e2, hs⟩
      walk_at "ss"
      cases hv : valV kv' (Sum.inl n') with
      | none =>
        refine iteF ?_
        walk_at "ss"
        have r0 : ready kv'.length n' kv' = [] := by
          cases kv' with
          | nil => rfl
          | cons p q =>
            show (match valV (p :: q) (Sum.inl n') with | none => [] | some v => v :: ready q.length (n' + 1) (dropK (p :: q) (Sum.inl n'))) = []
            rw [hv]
        have r1 : later kv'.length n' kv' = (n', kv') := by
          cases kv' with
          | nil => rfl
          | cons p q =>
            show (match valV (p :: q) (Sum.inl n') with | none => (n', p :: q) | some v => later q.length (n' + 1) (dropK (p :: q) (Sum.inl n'))) = (n', p :: q)
            rw [hv]
        rw [r0, List.append_nil] at e1
        rw [r1] at e2
        have := k r H2
        rw [← e1, ← e2] at this
        exact this hs
      | some v =>
        refine iteT ?_
        walk_at "ss"
        refine w_dpopB hs (by walk_at "p") hv fun H3 hs3 => ?_
        clear hs
        have hlt := dropK_lt (Sum.inl n') kv' (by rw [hv]; rfl)
        have hk : kv'.length ≠ 0 := fun q => by
          rw [List.length_eq_zero_iff.mp q] at hv
          cases hv
        obtain ⟨j, hj2⟩ := Nat.exists_eq_succ_of_ne_zero hk
        have s1 : ready kv'.length n' kv' = v :: ready j (n' + 1) (dropK kv' (Sum.inl n')) := by
          rw [hj2]
          show (match valV kv' (Sum.inl n') with | none => [] | some v => v :: ready j (n' + 1) (dropK kv' (Sum.inl n'))) = _
          rw [hv]
        have s2 : later kv'.length n' kv' = later j (n' + 1) (dropK kv' (Sum.inl n')) := by
          rw [hj2]
          show (match valV kv' (Sum.inl n') with | none => (n', kv') | some v => later j (n' + 1) (dropK kv' (Sum.inl n'))) = _
          rw [hv]
        walk_at "ss"
        rename_i H5 hs5
        refine ⟨(dropK kv' (Sum.inl n')).length, by omega, n' + 1, dropK kv' (Sum.inl n'), acc ++ [v], rfl, rfl, ?_, ?_, ?_, hs5⟩
        · rw [List.length_append, List.length_singleton]
          omega
        · rw [← e1, s1, List.append_assoc, ready_fuel j (dropK kv' (Sum.inl n')).length _ _ (by omega) (Nat.le_refl _)]
          rfl
        · rw [← e2, s2, later_fuel j (dropK kv' (Sum.inl n')).length _ _ (by omega) (Nat.le_refl _)]
/-! ### the beat -/
/-- a tick or none -/
def tk : Option Int → V
  | none => .non
  | some n => .int n
abbrev bea (a : Ad) (dx : Addr) (t w : Int) (d : Option Int) : HO := .ins a.Beat dx [("tries", .int t), ("_wait", .int w), ("_due_at", tk d)]
def sp_Beat_init (a : Ad) : Sp := fun vs H Q _ => ∃ (B : Hp) (x dx : Addr), vs = [.ref x] ∧ Hs B [(x, .ins a.Beat dx [])] H ∧ ∀ H', Hs B [(x, bea a dx 0 2 none)] H' → Q .non H'
def sp_Beat_start (a : Ad) : Sp := fun vs H Q _ => ∃ (B : Hp) (x dx : Addr) (t w n : Int) (d : Option Int), vs = [.ref x, .int n] ∧ Hs B [(x, bea a dx t w d)] H ∧ ∀ H', Hs B [(x, bea a dx 0 2 (some (n + 2)))] H' → Q .non H'
def sp_Beat_stop (a : Ad) : Sp := fun vs H Q _ => ∃ (B : Hp) (x dx : Addr) (t w : Int) (d : Option Int), vs = [.ref x] ∧ Hs B [(x, bea a dx t w d)] H ∧ ∀ H', Hs B [(x, bea a dx t w none)] H' → Q .non H'
def sp_Beat_hurry (a : Ad) : Sp := fun vs H Q _ => ∃ (B : Hp) (x dx : Addr) (t w n : Int) (d : Option Int), vs = [.ref x, .int n] ∧ Hs B [(x, bea a dx t w d)] H ∧ ∀ H', Hs B [(x, bea a dx t w (some n))] H' → Q .non H'
def sp_Beat_runs (a : Ad) : Sp := fun vs H Q _ => ∃ (B : Hp) (x dx : Addr) (t w : Int) (d : Option Int), vs = [.ref x] ∧ Hs B [(x, bea a dx t w d)] H ∧ ∀ H', Hs B [(x, bea a dx t w d)] H' → Q (.bl d.isSome) H'
/-- is it due -/
def isDue (d : Option Int) (n : Int) : Bool := match d with
  | none => false
  | some k => decide (k ≤ n)
def sp_Beat_due (a : Ad) : Sp := fun vs H Q _ => ∃ (B : Hp) (x dx : Addr) (t w n : Int) (d : Option Int), vs = [.ref x, .int n] ∧ Hs B [(x, bea a dx t w d)] H ∧ 0 ≤ w ∧ w ≤ 1000 ∧
  ∀ H', Hs B [(x, if isDue d n then bea a dx (t + 1) (min (w * 2) 16) (some (n + min (w * 2) 16)) else bea a dx t w d)] H' → Q (.bl (isDue d n)) H'
theorem ok_Beat_init (T : Txt K mg a) : FnOk P w K mg base CX0 1 a.Beat_init a.fd_Beat_init ["self"] (sp_Beat_init a) := by
  refine T.fn_Beat_init.ok sc_Beat_init (fun vs H Q E h => ?_) (fun cdv A outer s H vs Q E hr h => ?_)
  · obtain ⟨_, _, _, rfl, _⟩ := h
    rfl
  · obtain ⟨B, x, dx, rfl, hs, k⟩ := h
    have c1 := T.cl_Beat
    have n1 := T.na_Beat_tries
    have n2 := T.na_Beat__wait
    have n3 := T.na_Beat__due_at
    refine ⟨_, (pss_cons (ps_fldK (K := K) (pv 0) pe_int)
  (pss_cons (ps_fldK (K := K) (pv 0) (pe_glob (v := .int 2) rfl (Exists.choose_spec T.mg_FIRST_WAIT) ⟨_, rfl⟩))
  (pss_one (ps_fldK (K := K) (pv 0) pe_non)))), ?_⟩
    walk_at "ss"
    exact k _ (by assumption)
theorem ok_Beat_start (T : Txt K mg a) : FnOk P w K mg base CX0 1 a.Beat_start a.fd_Beat_start ["self", "now"] (sp_Beat_start a) := by
  refine T.fn_Beat_start.ok sc_Beat_start (fun vs H Q E h => ?_) (fun cdv A outer s H vs Q E hr h => ?_)
  · obtain ⟨_, _, _, _, _, _, _, rfl, _⟩ := h
    rfl
  · obtain ⟨B, x, dx, t, w, n, d, rfl, hs, k⟩ := h
    have c1 := T.cl_Beat
    have n1 := T.na_Beat_tries
    have n2 := T.na_Beat__wait
    have n3 := T.na_Beat__due_at
    refine ⟨_, (pss_cons (ps_fldK (K := K) (pv 0) pe_int)
  (pss_cons (ps_fldK (K := K) (pv 0) (pe_glob (v := .int 2) rfl (Exists.choose_spec T.mg_FIRST_WAIT) ⟨_, rfl⟩))
  (pss_one (ps_fldK (K := K) (pv 0) (pe_op op_add (pv 1) (pe_glob (v := .int 2) rfl (Exists.choose_spec T.mg_FIRST_WAIT) ⟨_, rfl⟩)))))), ?_⟩
    walk_at "ss"
    exact k _ (by assumption)
theorem ok_Beat_stop (T : Txt K mg a) : FnOk P w K mg base CX0 1 a.Beat_stop a.fd_Beat_stop ["self"] (sp_Beat_stop a) := by
  refine T.fn_Beat_stop.ok sc_Beat_stop (fun vs H Q E h => ?_) (fun cdv A outer s H vs Q E hr h => ?_)
  · obtain ⟨_, _, _, _, _, _, rfl, _⟩ := h
    rfl
  · obtain ⟨B, x, dx, t, w, d, rfl, hs, k⟩ := h
    have c1 := T.cl_Beat
    have n3 := T.na_Beat__due_at
    refine ⟨_, (pss_one (ps_fldK (K := K) (pv 0) pe_non)), ?_⟩
    walk_at "ss"
    exact k _ (by assumption)
theorem ok_Beat_hurry (T : Txt K mg a) : FnOk P w K mg base CX0 1 a.Beat_hurry a.fd_Beat_hurry ["self", "now"] (sp_Beat_hurry a) := by
  refine T.fn_Beat_hurry.ok sc_Beat_hurry (fun vs H Q E h => ?_) (fun cdv A outer s H vs Q E hr h => ?_)
  · obtain ⟨_, _, _, _, _, _, _, rfl, _⟩ := h
    rfl
  · obtain ⟨B, x, dx, t, w, n, d, rfl, hs, k⟩ := h
    have c1 := T.cl_Beat
    have n3 := T.na_Beat__due_at
    refine ⟨_, (pss_one (ps_fldK (K := K) (pv 0) (pv 1))), ?_⟩
    walk_at "ss"
    exact k _ (by assumption)
theorem ok_Beat_runs (T : Txt K mg a) : FnOk P w K mg base CX0 1 a.Beat_runs a.fd_Beat_runs ["self"] (sp_Beat_runs a) := by
  refine T.fn_Beat_runs.ok sc_Beat_runs (fun vs H Q E h => ?_) (fun cdv A outer s H vs Q E hr h => ?_)
  · obtain ⟨_, _, _, _, _, _, rfl, _⟩ := h
    rfl
  · obtain ⟨B, x, dx, t, w, d, rfl, hs, k⟩ := h
    have c1 := T.cl_Beat
    have n3 := T.na_Beat__due_at
    refine ⟨_, (pss_one (ps_ret (pe_cmpR op_notNQ (pe_fldK (K := K) (pv 0)) pe_non (nomark _)))), ?_⟩
    walk_at "ss"
    cases d <;> exact k _ hs
theorem ok_Beat_due (T : Txt K mg a) : FnOk P w K mg base CX0 1 a.Beat_due a.fd_Beat_due ["self", "now"] (sp_Beat_due a) := by
  refine T.fn_Beat_due.ok sc_Beat_due (fun vs H Q E h => ?_) (fun cdv A outer s H vs Q E hr h => ?_)
  · obtain ⟨_, _, _, _, _, _, _, rfl, _⟩ := h
    rfl
  · obtain ⟨B, x, dx, t, wt, n, d, rfl, hs, hw0, hw, k⟩ := h
    have c1 := T.cl_Beat
    have n1 := T.na_Beat_tries
    have n2 := T.na_Beat__wait
    have n3 := T.na_Beat__due_at
    refine ⟨_, (pss_cons (ps_if (PW.pt (pw_or (pt_cmpR op_isNQ (pe_fldK (K := K) (pv 0)) pe_non (nomark _)) (pw_or1 (pt_cmpR op_lt (pv 1) (pe_fldK (K := K) (pv 0)) (nomark _)))))
  (pss_one (ps_ret pe_bl))
  pss_nil)
  (pss_cons (ps_fldaugK (K := K) (pv 0) pe_int in_add)
  (pss_cons (ps_fldK (K := K) (pv 0) (pe_callB (call_minQ rfl) (by rfl) T.mg_min (by decide +kernel) (pa_cons (pe_op op_mul (pe_fldK (K := K) (pv 0)) pe_int) (pa_cons (pe_glob (v := .int 16) rfl (Exists.choose_spec T.mg_LONGEST_WAIT) ⟨_, rfl⟩) pa_nil))))
  (pss_cons (ps_fldK (K := K) (pv 0) (pe_op op_add (pv 1) (pe_fldK (K := K) (pv 0))))
  (pss_one (ps_ret pe_bl)))))), ?_⟩
    walk_at "ss"
    cases d with
    | none =>
      refine iteT ?_
      walk_at "ss"
      exact k _ hs
    | some j =>
      refine iteF ?_
      walk_at "ss"
      refine w_I0 (a := n) (b := j) ?_
      walk_at "ss"
      refine ifd (fun h => ?_) (fun h => ?_)
      · walk_at "ss"
        have e : isDue (some j) n = false := decide_eq_false (by omega)
        rw [e, if_neg Bool.false_ne_true] at k
        exact k _ hs
      · have e : isDue (some j) n = true := decide_eq_true (by omega)
        rw [e, if_pos rfl] at k
        have em : (if 16 < wt * 2 then 16 else wt * 2) = min (wt * 2) 16 := by omega
        walk_at "ss"
        refine k _ ?_
        rw [← em]
        assumption
end

section
variable {P : Program} [IsP P] {w : World} {K : PySem.W.Frag} {mg : Str → Option Value} {base : Heap} {a : Ad}
/-! ### calls, among other things of one's own -/
section
variable {B H : Hp} {Q : VK} {E : XK} {x dx r : Addr} {f s : Int} {rows : List Str} {R : List (Addr × HO)}
theorem w_put {t : Str} (hs : Hs B ((x, snd a dx r f s) :: (r, lst rows) :: R) H) (hl : rows.length < 300) (q : ∀ H', Hs B ((x, snd a dx r f s) :: (r, lst (rows ++ [t])) :: R) H' → Q .non H') : sp_Sender_put a [.ref x, .str t] H Q E := by
  obtain ⟨B', _, h1, back⟩ := hs.frame2
  exact ⟨B', x, dx, r, f, s, rows, t, rfl, h1, by omega, fun _ H' h2 => q H' (back _ _ h2), fun q => absurd q (by omega)⟩
theorem w_fresh (hs : Hs B ((x, snd a dx r f s) :: (r, lst rows) :: R) H) (h0 : 0 ≤ s) (h1 : s ≤ 1000) (hl : rows.length ≤ 1000)
    (q : ∀ D acc H', Hs B ((D, .lst acc) :: (x, snd a dx r f (min 4 (rows.length : Int))) :: (r, lst rows) :: R) H' → ImAll K H' acc (prs f rows s (min 4 (rows.length : Int))) → Q (.ref D) H') : sp_Sender_fresh K a [.ref x] H Q E := by
  obtain ⟨B', _, h1', back⟩ := hs.frame2
  exact ⟨B', x, dx, r, f, s, rows, rfl, h1', h0, h1, hl, fun D acc H' h2 => q D acc H' (back _ _ h2)⟩
theorem w_again (hs : Hs B ((x, snd a dx r f s) :: (r, lst rows) :: R) H) (h0 : 0 ≤ s) (h1 : s ≤ rows.length) (hl : rows.length ≤ 1000)
    (q : ∀ D acc H', Hs B ((D, .lst acc) :: (x, snd a dx r f s) :: (r, lst rows) :: R) H' → ImAll K H' acc (prs f rows 0 s) → Q (.ref D) H') : sp_Sender_again K a [.ref x] H Q E := by
  obtain ⟨B', _, h1', back⟩ := hs.frame2
  exact ⟨B', x, dx, r, f, s, rows, rfl, h1', h0, h1, hl, fun D acc H' h2 => q D acc H' (back _ _ h2)⟩
theorem w_heard {ack : Int} (hs : Hs B ((x, snd a dx r f s) :: (r, lst rows) :: R) H) (q1 : ack - f < 0 ∨ s < ack - f → ∀ H', Hs B ((x, snd a dx r f s) :: (r, lst rows) :: R) H' → Q .non H')
    (q2 : 0 ≤ ack - f → ack - f ≤ s → ∀ r' H', Hs B ((x, snd a dx r' ack (s - (ack - f))) :: (r', lst (rows.drop (ack - f).toNat)) :: R) H' → Q (.int (ack - f)) H') : sp_Sender_heard a [.ref x, .int ack] H Q E := by
  obtain ⟨B', _, h1', back⟩ := hs.frame2
  exact ⟨B', x, dx, r, f, s, ack, rows, rfl, h1', fun h H' h2 => q1 h H' (back _ _ h2), fun h h' r' H' h2 => q2 h h' r' H' (back _ _ h2)⟩
theorem w_take {e : Addr} {n m : Int} {t : Str} {kv : Kv} (hs : Hs B ((x, inb a dx e n) :: (e, .dK kv) :: R) H) (hl : kv.length ≤ 1000)
    (q : ∀ r H', Hs B ((r, .lst (ready (keep1 n m (.str t) kv).length n (keep1 n m (.str t) kv))) :: (x, inb a dx e (later (keep1 n m (.str t) kv).length n (keep1 n m (.str t) kv)).1) :: (e, .dK (later (keep1 n m (.str t) kv).length n (keep1 n m (.str t) kv)).2) :: R) H' → Q (.ref r) H') :
    sp_Inbox_take a [.ref x, .int m, .str t] H Q E := by
  obtain ⟨B', _, h1, back⟩ := hs.frame2
  exact ⟨B', x, dx, e, n, m, t, kv, rfl, h1, hl, fun r H' h2 => q r H' (back _ _ h2)⟩
variable {t wt n : Int} {d : Option Int}
theorem w_start (hs : Hs B ((x, bea a dx t wt d) :: R) H) (q : ∀ H', Hs B ((x, bea a dx 0 2 (some (n + 2))) :: R) H' → Q .non H') : sp_Beat_start a [.ref x, .int n] H Q E := by
  obtain ⟨B', _, h1, back⟩ := hs.frame1
  exact ⟨B', x, dx, t, wt, n, d, rfl, h1, fun H' h2 => q H' (back _ _ h2)⟩
theorem w_stop (hs : Hs B ((x, bea a dx t wt d) :: R) H) (q : ∀ H', Hs B ((x, bea a dx t wt none) :: R) H' → Q .non H') : sp_Beat_stop a [.ref x] H Q E := by
  obtain ⟨B', _, h1, back⟩ := hs.frame1
  exact ⟨B', x, dx, t, wt, d, rfl, h1, fun H' h2 => q H' (back _ _ h2)⟩
theorem w_hurry (hs : Hs B ((x, bea a dx t wt d) :: R) H) (q : ∀ H', Hs B ((x, bea a dx t wt (some n)) :: R) H' → Q .non H') : sp_Beat_hurry a [.ref x, .int n] H Q E := by
  obtain ⟨B', _, h1, back⟩ := hs.frame1
  exact ⟨B', x, dx, t, wt, n, d, rfl, h1, fun H' h2 => q H' (back _ _ h2)⟩
theorem w_runs (hs : Hs B ((x, bea a dx t wt d) :: R) H) (q : ∀ H', Hs B ((x, bea a dx t wt d) :: R) H' → Q (.bl d.isSome) H') : sp_Beat_runs a [.ref x] H Q E := by
  obtain ⟨B', _, h1, back⟩ := hs.frame1
  exact ⟨B', x, dx, t, wt, d, rfl, h1, fun H' h2 => q H' (back _ _ h2)⟩
/-- what a beat is behind «due» -/
def dueB (t wt : Int) (d : Option Int) (n : Int) : Int × Int × Option Int := if isDue d n then (t + 1, min (wt * 2) 16, some (n + min (wt * 2) 16)) else (t, wt, d)
theorem w_due (hs : Hs B ((x, bea a dx t wt d) :: R) H) (h0 : 0 ≤ wt) (h1 : wt ≤ 1000)
    (q : ∀ H', Hs B ((x, bea a dx (dueB t wt d n).1 (dueB t wt d n).2.1 (dueB t wt d n).2.2) :: R) H' → Q (.bl (isDue d n)) H') : sp_Beat_due a [.ref x, .int n] H Q E := by
  obtain ⟨B', _, h1', back⟩ := hs.frame1
  refine ⟨B', x, dx, t, wt, n, d, rfl, h1', h0, h1, fun H' h2 => q H' ?_⟩
  have h3 := back _ _ h2
  unfold dueB
  cases e : isDue d n with
  | true =>
    rw [e, if_pos rfl] at h3
    exact h3
  | false =>
    rw [e, if_neg Bool.false_ne_true] at h3
    exact h3
end
/-! ### segments -/
/-- a triple as data, a segment as data -/
def triD (z : Str × Int × Str) : PyData := .tuple [.str z.1, .int z.2.1, .str z.2.2]
def segD (to sn ep : Int) (z : Str × Int × Str) : PyData := .tuple [.str "segment", .int to, .int sn, .int 12, .int ep, .str z.1, .int z.2.1, .str z.2.2]
def sp_segments_of (K : PySem.W.Frag) : Sp := fun vs H Q _ => ∃ (D : Addr) (acc : List V) (to sn ep : Int) (zs : List (Str × Int × Str)), vs = [.int to, .int sn, .int ep, .ref D] ∧ H D = some (.lst acc) ∧ ImAll K H acc (zs.map triD) ∧ zs.length ≤ 1000 ∧
  ∀ D' acc' H', Hs H [(D', .lst acc')] H' → ImAll K H' acc' (zs.map (segD to sn ep)) → Q (.ref D') H'
theorem im_tri {H : Hp} {x : V} {z : Str × Int × Str} (h : Im K H x (triD z)) : ∃ p, x = .ref p ∧ H p = some (.tup [.str z.1, .int z.2.1, .str z.2.2]) := by
  unfold triD at h
  cases h with
  | tup h1 h2 =>
    cases h2 with
    | cons a b =>
      cases a
      cases b with
      | cons a b =>
        cases a
        cases b with
        | cons a b =>
          cases a
          cases b
          exact ⟨_, rfl, h1⟩
theorem ok_segments_of (T : Txt K mg a) : FnOk P w K mg base CX0 1 a.segments_of a.fd_segments_of ["to", "sender", "epoch", "triples"] (sp_segments_of K) := by
  refine T.fn_segments_of.ok sc_segments_of (fun vs H Q E h => ?_) (fun cdv A outer s H vs Q E hr h => ?_)
  · obtain ⟨_, _, _, _, _, _, rfl, _⟩ := h
    rfl
  · obtain ⟨D, acc, to, sn, ep, zs, rfl, hD, hi, hl, k⟩ := h
    have hlen := hi.len
    rw [List.length_map] at hlen
    refine ⟨_, (pss_one (ps_ret (pe_lc (own := [("kind", 4), ("number", 5), ("text", 6)]) (g := (gTup K 3 (gCons (gName 4) (gCons (gName 5) (gCons (gName 6) gNil))))) (tt := tYes) rfl sc_segments_of.nd (pi_listK (K := K) (pv 3)) (blkOk_by (own := [("kind", 4), ("number", 5), ("text", 6)]) (N := N_segments_of) (sc := defScope s_segments_of) (by decide +kernel)) (fun _ _ _ _ _ => by exact (pg_tupK (K := K) rfl (pgs_cons (pg_name (i := 4) sc_segments_of.nd rfl (Or.inl rfl)) (pgs_cons (pg_name (i := 5) sc_segments_of.nd rfl (Or.inl rfl)) (pgs_cons (pg_name (i := 6) sc_segments_of.nd rfl (Or.inl rfl)) pgs_nil))))) (fun _ _ _ _ _ => pts_nil) (fun _ _ _ _ _ => by exact (pe_tup (pa_cons pe_str (pa_cons (pv 0) (pa_cons (pv 1) (pa_cons (pe_glob (v := .int 12) rfl (Exists.choose_spec T.mg_HOPS) ⟨_, rfl⟩) (pa_cons (pv 2) (pa_cons (pv 4) (pa_cons (pv 5) (pa_cons (pv 6) pa_nil))))))))))))), ?_⟩
    walk_at "ss"
    refine w_lcD (K := K) (SqL.of hD) (by omega) (zs.map (segD to sn ep)) (by rw [List.length_map, hlen]) (fun Q q => ⟨_, rfl, q⟩) ?_ (fun D' acc' H' h1 h2 => k D' acc' H' h1 h2) ?_
    · intro i x d H' Q' hx hd hS kk
      rw [List.getElem?_map] at hd
      cases e : zs[i]? with
      | none =>
        rw [e] at hd
        cases hd
      | some z =>
        rw [e] at hd
        cases hd
        have h3 := hi.get hx (by rw [List.getElem?_map, e]; rfl : (zs.map triD)[i]? = some (triD z))
        obtain ⟨p, rfl, hp⟩ := im_tri (h3.same hS)
        have hs := Hs.start H'
        walk_at "ss"
        refine ⟨rfl, ?_⟩
        walk_at "ss"
        rename_i p2 H3 hs3
        refine kk _ _ hs3.same (.tup hs3.g0 ?_)
        exact .cons (.str _) (.cons (.int _) (.cons (.int _) (.cons (.int _) (.cons (.int _) (.cons (.str _) (.cons (.int _) (.cons (.str _) .nil)))))))
    · rintro x σ H R R' hR ⟨p, xs, e1, h1, h2, v1, r1, e2, v2, r2, e3, v3, r3, e4, e5, h⟩
      exact ⟨p, xs, e1, h1, h2, v1, r1, e2, v2, r2, e3, v3, r3, e4, e5, hR _ _ h⟩
/-! ### the body -/
/-- what a body knows -/
structure BS where
  (f s : Int) (rows : List Str) (n : Int) (kv : Kv) (t w : Int) (d : Option Int) (o : Bool)
/-- where its parts stand -/
structure BA where
  (b db p dp r q dq e t dt : Addr)
abbrev bo (a : Ad) (A : BA) (o : Bool) : HO := .ins a.Body A.db [("sender", .ref A.p), ("inbox", .ref A.q), ("beat", .ref A.t), ("owes", .bl o)]
abbrev bodyL (a : Ad) (A : BA) (S : BS) : List (Addr × HO) := [(A.b, bo a A S.o), (A.p, snd a A.dp A.r S.f S.s), (A.r, lst S.rows), (A.q, inb a A.dq A.e S.n), (A.e, .dK S.kv), (A.t, bea a A.dt S.t S.w S.d)]
structure BOk (S : BS) : Prop where
  s0 : 0 ≤ S.s
  s4 : S.s ≤ 4
  sl : S.s ≤ S.rows.length
  rl : S.rows.length ≤ 1000
  kl : S.kv.length ≤ 1000
  w0 : 0 ≤ S.w
  w1 : S.w ≤ 16
def S0 : BS := ⟨0, 0, [], 0, [], 0, 2, none, false⟩
theorem S0.ok : BOk S0 := ⟨by decide, by decide, by decide, by decide, by decide, by decide, by decide⟩
/-- the messages with the numbers from lo to hi, as they are said -/
def dats (S : BS) (lo hi : Int) : List (Str × Int × Str) := (List.range (hi - lo).toNat).map fun (i : Nat) => (("data" : Str), S.f + (lo + (i : Int)), S.rows.getD (lo + (i : Int)).toNat Str.empty)
def hiS (S : BS) : Int := min 4 (S.rows.length : Int)
/-- what it says at a tick, and what it is then -/
def saysT (S : BS) (now : Int) : List (Str × Int × Str) := (if S.o then [(("ack" : Str), S.n, ("" : Str))] else []) ++ (if S.s < hiS S then dats S S.s (hiS S) else if isDue S.d now then dats S 0 (hiS S) else [])
def saysS (S : BS) (now : Int) : BS :=
  if S.s < hiS S then (if S.d.isSome then { S with s := hiS S, o := false } else { S with s := hiS S, o := false, t := 0, w := 2, d := some (now + 2) })
  else { S with s := hiS S, o := false, t := (dueB S.t S.w S.d now).1, w := (dueB S.t S.w S.d now).2.1, d := (dueB S.t S.w S.d now).2.2 }
/-- what it is behind an ack -/
def ackS (S : BS) (m now : Int) : BS :=
  if 0 < m - S.f ∧ m - S.f ≤ S.s then
    (if 0 < S.s - (m - S.f) then { S with f := m, s := S.s - (m - S.f), rows := S.rows.drop (m - S.f).toNat, t := 0, w := 2, d := some (now + 2) } else { S with f := m, s := S.s - (m - S.f), rows := S.rows.drop (m - S.f).toNat, d := none })
  else S
def kept (S : BS) (m : Int) (t : Str) : Kv := keep1 S.n m (.str t) S.kv
def datS (S : BS) (m : Int) (t : Str) : BS := { S with o := true, n := (later (kept S m t).length S.n (kept S m t)).1, kv := (later (kept S m t).length S.n (kept S m t)).2 }
def hearsS (S : BS) (kind : Str) (m : Int) (t : Str) (now : Int) : BS := if kind = "data" then datS S m t else if kind = "ack" then ackS S m now else S
def hearsL (S : BS) (kind : Str) (m : Int) (t : Str) : List V := if kind = "data" then ready (kept S m t).length S.n (kept S m t) else []
def sp_Body_init (a : Ad) : Sp := fun vs H Q _ => ∃ (B : Hp) (b db : Addr), vs = [.ref b] ∧ Hs B [(b, .ins a.Body db [])] H ∧ ∀ p dp r q dq e t dt H', Hs B (bodyL a ⟨b, db, p, dp, r, q, dq, e, t, dt⟩ S0) H' → Q .non H'
def sp_Body_says (K : PySem.W.Frag) (a : Ad) : Sp := fun vs H Q _ => ∃ (B : Hp) (A : BA) (S : BS) (now : Int), vs = [.ref A.b, .int now] ∧ Hs B (bodyL a A S) H ∧ BOk S ∧
  ∀ D acc H', Hs B ((D, .lst acc) :: bodyL a A (saysS S now)) H' → ImAll K H' acc ((saysT S now).map triD) → Q (.ref D) H'
def sp_Body_hears_ack (a : Ad) : Sp := fun vs H Q _ => ∃ (B : Hp) (A : BA) (S : BS) (m now : Int), vs = [.ref A.b, .int m, .int now] ∧ Hs B (bodyL a A S) H ∧ BOk S ∧
  ∀ r H', Hs B (bodyL a { A with r := r } (ackS S m now)) H' → Q .non H'
def sp_Body_hears (a : Ad) : Sp := fun vs H Q _ => ∃ (B : Hp) (A : BA) (S : BS) (kind t : Str) (m now : Int), vs = [.ref A.b, .str kind, .int m, .str t, .int now] ∧ Hs B (bodyL a A S) H ∧ BOk S ∧
  ∀ D r H', Hs B ((D, .lst (hearsL S kind m t)) :: bodyL a { A with r := r } (hearsS S kind m t now)) H' → Q (.ref D) H'
theorem ok_Body_init (T : Txt K mg a) : FnOk P w K mg base CX0 3 a.Body_init a.fd_Body_init ["self"] (sp_Body_init a) := by
  have G_Sender_init := ok_Sender_init (P := P) (w := w) (base := base) T
  have G_Inbox_init := ok_Inbox_init (P := P) (w := w) (base := base) T
  have G_Beat_init := ok_Beat_init (P := P) (w := w) (base := base) T
  refine T.fn_Body_init.ok sc_Body_init (fun vs H Q E h => ?_) (fun cdv A outer s H vs Q E hr h => ?_)
  · obtain ⟨_, _, _, rfl, _⟩ := h
    rfl
  · obtain ⟨B, b, db, rfl, hs, k⟩ := h
    have c1 := T.cl_Body
    have n1 := T.na_Body_sender
    have n2 := T.na_Body_inbox
    have n3 := T.na_Body_beat
    have n4 := T.na_Body_owes
    refine ⟨_, (pss_cons (ps_fldK (K := K) (pv 0) (pe_make0 T.mk_Sender G_Sender_init (hr.mono (by decide)) rfl T.mg_Sender T.bi_Sender_init .nil pass0))
  (pss_cons (ps_fldK (K := K) (pv 0) (pe_make0 T.mk_Inbox G_Inbox_init (hr.mono (by decide)) rfl T.mg_Inbox T.bi_Inbox_init .nil pass0))
  (pss_cons (ps_fldK (K := K) (pv 0) (pe_make0 T.mk_Beat G_Beat_init (hr.mono (by decide)) rfl T.mg_Beat T.bi_Beat_init .nil pass0))
  (pss_one (ps_fldK (K := K) (pv 0) pe_bl))))), ?_⟩
    walk_at "ss"
    refine w_mkr hs fun p dp H2 hs2 => ?_
    clear hs
    obtain ⟨B', _, h1, back⟩ := hs2.frame1
    refine ⟨B', p, dp, rfl, h1, fun r H3 h3 => ⟨rfl, ?_⟩⟩
    have hs3 : Hs _ [_, _, _] _ := back _ _ h3
    clear hs2 h1 back h3
    walk_at "ss"
    rename_i H4 hs4
    clear hs3
    refine w_mkr hs4 fun q dq H2 hs2 => ?_
    clear hs4
    obtain ⟨B', _, h1, back⟩ := hs2.frame1
    refine ⟨B', q, dq, rfl, h1, fun e H3 h3 => ⟨rfl, ?_⟩⟩
    have hs3 : Hs _ [_, _, _, _, _] _ := back _ _ h3
    clear hs2 h1 back h3
    walk_at "ss"
    rename_i H4 hs4
    clear hs3
    refine w_mkr hs4 fun t dt H2 hs2 => ?_
    clear hs4
    obtain ⟨B', _, h1, back⟩ := hs2.frame1
    refine ⟨B', t, dt, rfl, h1, fun H3 h3 => ⟨rfl, ?_⟩⟩
    have hs3 : Hs _ [_, _, _, _, _, _] _ := back _ _ h3
    clear hs2 h1 back h3
    walk_at "ss"
    rename_i H4 hs4
    exact k p dp r q dq e t dt _ (hs4.sel [5, 4, 3, 2, 1, 0])
theorem ok_Body_hears_ack (T : Txt K mg a) : FnOk P w K mg base CX0 2 a.Body_hears_ack a.fd_Body_hears_ack ["self", "number", "now"] (sp_Body_hears_ack a) := by
  have G_Sender_heard := ok_Sender_heard (P := P) (w := w) (base := base) T
  have G_Beat_stop := ok_Beat_stop (P := P) (w := w) (base := base) T
  have G_Beat_start := ok_Beat_start (P := P) (w := w) (base := base) T
  refine T.fn_Body_hears_ack.ok sc_Body_hears_ack (fun vs H Q E h => ?_) (fun cdv A outer s H vs Q E hr h => ?_)
  · obtain ⟨_, _, _, _, _, rfl, _⟩ := h
    rfl
  · obtain ⟨B, A, S, m, now, rfl, hs, ok, k⟩ := h
    have c1 := T.cl_Body
    have c2 := T.cl_Sender
    have n1 := T.na_Body_sender
    have n3 := T.na_Body_beat
    have m3 := T.na_Sender_said
    refine ⟨_, (pss_one (ps_if (pt_truthK (K := K) (pe_meth (pe_fldK (K := K) (pv 0)) T.cl_Sender T.me_Sender_heard G_Sender_heard (hr.mono (by decide)) T.bi_Sender_heard .nil pass0 (pa_cons (pv 1) pa_nil)))
  (pss_cons (ps_expr (pe_meth0 (pe_fldK (K := K) (pv 0)) T.cl_Beat T.me_Beat_stop G_Beat_stop (hr.mono (by decide)) T.bi_Beat_stop .nil pass0))
  (pss_one (ps_if (pt_cmpR op_gt (pe_fldK (K := K) (pe_fldK (K := K) (pv 0))) pe_int (nomark _))
  (pss_one (ps_expr (pe_meth (pe_fldK (K := K) (pv 0)) T.cl_Beat T.me_Beat_start G_Beat_start (hr.mono (by decide)) T.bi_Beat_start .nil pass0 (pa_cons (pv 2) pa_nil))))
  pss_nil)))
  pss_nil)), ?_⟩
    walk_at "ss"
    refine w_heard hs.m1.m2.m1 (fun hc H3 hs3 => ?_) (fun hc1 hc2 r' H3 hs3 => ?_)
    · clear hs
      refine ⟨false, rfl, ?_⟩
      walk_at "ss"
      have e : ackS S m now = S := by
        unfold ackS
        rw [if_neg (by omega)]
      have := k A.r H3
      rw [e] at this
      exact this (hs3.sel [2, 0, 1, 3, 4, 5])
    · clear hs
      by_cases h0 : m - S.f = 0
      · refine ⟨false, by rw [h0]; rfl, ?_⟩
        walk_at "ss"
        have e : ackS S m now = S := by
          unfold ackS
          rw [if_neg (by omega)]
        have := k r' H3
        rw [e] at this
        rw [h0] at hs3
        have em : m = S.f := by omega
        rw [em, Int.sub_zero] at hs3
        exact this (hs3.sel [2, 0, 1, 3, 4, 5])
      · have hpos : 0 < m - S.f := by omega
        refine ⟨true, by
          show true = (m - S.f != 0)
          exact (bne_iff_ne.mpr h0).symm, ?_⟩
        walk_at "ss"
        refine w_stop hs3.m5 fun H4 hs4 => ?_
        clear hs3
        walk_at "ss"
        refine ifd (fun hp => ?_) (fun hp => ?_)
        · walk_at "ss"
          refine w_start hs4 fun H5 hs5 => ?_
          clear hs4
          walk_at "ss"
          have e : ackS S m now = { S with f := m, s := S.s - (m - S.f), rows := S.rows.drop (m - S.f).toNat, t := 0, w := 2, d := some (now + 2) } := by
            unfold ackS
            rw [if_pos ⟨hpos, hc2⟩, if_pos hp]
          have := k r' H5
          rw [e] at this
          exact this (hs5.sel [3, 1, 2, 4, 5, 0])
        · walk_at "ss"
          have e : ackS S m now = { S with f := m, s := S.s - (m - S.f), rows := S.rows.drop (m - S.f).toNat, d := none } := by
            unfold ackS
            rw [if_pos ⟨hpos, hc2⟩, if_neg hp]
          have := k r' H4
          rw [e] at this
          exact this (hs4.sel [3, 1, 2, 4, 5, 0])
theorem w_hack {B H : Hp} {Q : VK} {E : XK} {A : BA} {S : BS} {m now : Int} {R : List (Addr × HO)} (hs : Hs B (bodyL a A S ++ R) H) (ok : BOk S) (q : ∀ r H', Hs B (bodyL a { A with r := r } (ackS S m now) ++ R) H' → Q .non H') : sp_Body_hears_ack a [.ref A.b, .int m, .int now] H Q E := by
  obtain ⟨_, h1, back⟩ := hs.frame (bodyL a A S)
  exact ⟨_, A, S, m, now, rfl, h1, ok, fun r H' h2 => q r H' (back _ _ h2)⟩
theorem ok_Body_hears (T : Txt K mg a) : FnOk P w K mg base CX0 3 a.Body_hears a.fd_Body_hears ["self", "kind", "number", "text", "now"] (sp_Body_hears a) := by
  have G_Inbox_take := ok_Inbox_take (P := P) (w := w) (base := base) T
  have G_Body_hears_ack := ok_Body_hears_ack (P := P) (w := w) (base := base) T
  refine T.fn_Body_hears.ok sc_Body_hears (fun vs H Q E h => ?_) (fun cdv A outer s H vs Q E hr h => ?_)
  · obtain ⟨_, _, _, _, _, _, _, rfl, _⟩ := h
    rfl
  · obtain ⟨B, A, S, kind, t, m, now, rfl, hs, ok, k⟩ := h
    have c1 := T.cl_Body
    have n2 := T.na_Body_inbox
    have n4 := T.na_Body_owes
    refine ⟨_, (pss_cons (ps_if (pt_cmpR op_eq (pv 1) pe_str (nomark _))
  (pss_cons (ps_fldK (K := K) (pv 0) pe_bl)
  (pss_one (ps_ret (pe_meth (pe_fldK (K := K) (pv 0)) T.cl_Inbox T.me_Inbox_take G_Inbox_take (hr.mono (by decide)) T.bi_Inbox_take .nil pass0 (pa_cons (pv 2) (pa_cons (pv 3) pa_nil))))))
  pss_nil)
  (C8.pss_cut (ps_if (pt_cmpR op_eq (pv 1) pe_str (nomark _))
  (pss_one (ps_expr (pe_meth (pv 0) T.cl_Body T.me_Body_hears_ack G_Body_hears_ack (hr.mono (by decide)) T.bi_Body_hears_ack .nil pass0 (pa_cons (pv 2) (pa_cons (pv 4) pa_nil)))))
  pss_nil)
  (pss_one (ps_ret (pe_lst pa_nil))))), ?_⟩
    walk_at "ss"
    refine ifd (fun h1 => ?_) (fun h1 => ?_)
    · walk_at "ss"
      rename_i H2 hs2
      refine w_take hs2.m3.m4.m1 ok.kl fun D H3 hs3 => ?_
      clear hs hs2
      have := k D A.r H3
      unfold hearsL hearsS at this
      rw [if_pos h1, if_pos h1] at this
      walk_at "ss"
      exact this (hs3.sel [0, 3, 4, 5, 1, 2, 6])
    · walk_at "ss"
      refine w_cut (fun σ' H' => ∃ r, σ' = [some (.ref A.b), some (.str kind), some (.int m), some (.str t), some (.int now)] ∧ Hs B (bodyL a { A with r := r } (hearsS S kind m t now)) H') ?_ ?_
      · walk_at "ss"
        refine ifd (fun h2 => ?_) (fun h2 => ?_)
        · walk_at "ss"
          refine w_hack (R := []) hs ok fun r H2 hs2 => ?_
          walk_at "ss"
          refine ⟨r, rfl, ?_⟩
          unfold hearsS
          rw [if_neg h1, if_pos h2]
          exact hs2
        · walk_at "ss"
          refine ⟨A.r, rfl, ?_⟩
          unfold hearsS
          rw [if_neg h1, if_neg h2]
          exact hs
      · rintro σ' H' ⟨r, rfl, hs2⟩
        walk_at "ss"
        rename_i D H3 hs3
        have := k D r H3
        unfold hearsL at this
        rw [if_neg h1] at this
        exact this hs3
/-- pairs of a number and a message -/
def prz (S : BS) (lo hi : Int) : List (Int × Str) := (List.range (hi - lo).toNat).map fun (i : Nat) => (S.f + (lo + (i : Int)), S.rows.getD (lo + (i : Int)).toNat Str.empty)
def prD (z : Int × Str) : PyData := .tuple [.int z.1, .str z.2]
def dtT (z : Int × Str) : Str × Int × Str := ("data", z.1, z.2)
theorem prs_prz {S : BS} {lo hi : Int} : prs S.f S.rows lo hi = (prz S lo hi).map prD := by
  unfold prs prz
  rw [List.map_map]
  rfl
theorem dats_prz {S : BS} {lo hi : Int} : dats S lo hi = (prz S lo hi).map dtT := by
  unfold dats prz
  rw [List.map_map]
  rfl
theorem prz_len {S : BS} {lo hi : Int} : (prz S lo hi).length = (hi - lo).toNat := by
  unfold prz
  rw [List.length_map, List.length_range]
theorem im_pr {H : Hp} {x : V} {z : Int × Str} (h : Im K H x (prD z)) : ∃ p, x = .ref p ∧ H p = some (.tup [.int z.1, .str z.2]) := by
  unfold prD at h
  cases h with
  | tup h1 h2 =>
    cases h2 with
    | cons a b =>
      cases a
      cases b with
      | cons a b =>
        cases a
        cases b
        exact ⟨_, rfl, h1⟩
def ackT (S : BS) : List (Str × Int × Str) := if S.o then [(("ack" : Str), S.n, ("" : Str))] else []
/-- which messages -/
def rowZ (S : BS) (now : Int) : List (Int × Str) := if S.s < hiS S then prz S S.s (hiS S) else if isDue S.d now then prz S 0 (hiS S) else []
theorem saysT_eq {S : BS} {now : Int} : saysT S now = ackT S ++ (rowZ S now).map dtT := by
  unfold saysT rowZ ackT
  by_cases h : S.s < hiS S
  · rw [if_pos h, if_pos h, dats_prz]
  · rw [if_neg h, if_neg h]
    cases isDue S.d now with
    | true => rw [if_pos rfl, if_pos rfl, dats_prz]
    | false => rw [if_neg Bool.false_ne_true, if_neg Bool.false_ne_true]; rfl
theorem rowZ_len {S : BS} {now : Int} (ok : BOk S) : (rowZ S now).length ≤ 4 := by
  have h0 := ok.s0
  unfold rowZ hiS
  split
  · rw [prz_len]
    omega
  · split
    · rw [prz_len]
      omega
    · decide
def ntB : HO → Bool
  | .tup _ => false
  | _ => true
theorem hs_nt {B H : Hp} {L : List (Addr × HO)} (hs : Hs B L H) (h : L.all (fun e => ntB e.2) = true) : ∀ e ∈ L, ∀ xs, H e.1 ≠ some (.tup xs) := fun e he xs c => by
  have h1 := List.all_eq_true.mp h e he
  rw [hs.at_ e he] at c
  rw [Option.some.inj c] at h1
  cases h1
theorem w_truT {H : Hp} {p : Addr} {xs : List V} {R : Bool → Prop} (h : SqL K H p xs) (e : xs.isEmpty = false) (q : R true) : ∃ k, TruV K (.ref p) H k ∧ R k := w_truL h (by rw [e]; exact q)
theorem w_truF {H : Hp} {p : Addr} {xs : List V} {R : Bool → Prop} (h : SqL K H p xs) (e : xs.isEmpty = true) (q : R false) : ∃ k, TruV K (.ref p) H k ∧ R k := w_truL h (by rw [e]; exact q)
theorem ackT_len {S : BS} : (ackT S).length ≤ 1 := by
  unfold ackT
  split
  · exact Nat.le_refl 1
  · exact Nat.zero_le 1
theorem ok_Body_says (T : Txt K mg a) : FnOk P w K mg base CX0 3 a.Body_says a.fd_Body_says ["self", "now"] (sp_Body_says K a) := by
  have G_Sender_fresh := ok_Sender_fresh (P := P) (w := w) (base := base) T
  have G_Sender_again := ok_Sender_again (P := P) (w := w) (base := base) T
  have G_Beat_runs := ok_Beat_runs (P := P) (w := w) (base := base) T
  have G_Beat_start := ok_Beat_start (P := P) (w := w) (base := base) T
  have G_Beat_due := ok_Beat_due (P := P) (w := w) (base := base) T
  refine T.fn_Body_says.ok sc_Body_says (fun vs H Q E h => ?_) (fun cdv A outer s H vs Q E hr h => ?_)
  · obtain ⟨_, _, _, _, rfl, _⟩ := h
    rfl
  · obtain ⟨B, A, S, now, rfl, hs, ok, k⟩ := h
    have c1 := T.cl_Body
    have c2 := T.cl_Inbox
    have c3 := T.cl_Sender
    have c4 := T.cl_Beat
    have n1 := T.na_Body_sender
    have n2 := T.na_Body_inbox
    have n3 := T.na_Body_beat
    have n4 := T.na_Body_owes
    have n5 := T.na_Inbox_next
    refine ⟨_, (pss_cons (ps_set (i := 2) sc_Body_says.nd rfl (Or.inl rfl) (pe_lst pa_nil))
  (C8.pss_cut (ps_if (pt_val (pe_fldK (K := K) (pv 0)))
  (pss_cons (ps_expr (pe_bmK (K := K) PySem.F.plainAttrs_list PySem.F.slot_list_append PySem.F.type_list_append mt_append (pv 2) (pa_cons (pe_tup (pa_cons pe_str (pa_cons (pe_fldK (K := K) (pe_fldK (K := K) (pv 0))) (pa_cons pe_str pa_nil)))) pa_nil)))
  (pss_one (ps_fldK (K := K) (pv 0) pe_bl)))
  pss_nil)
  (pss_cons (ps_set (i := 3) sc_Body_says.nd rfl (Or.inl rfl) (pe_meth0 (pe_fldK (K := K) (pv 0)) T.cl_Sender T.me_Sender_fresh G_Sender_fresh (hr.mono (by decide)) T.bi_Sender_fresh .nil pass0))
  (C8.pss_cut (ps_if (pt_truthK (K := K) (pv 3))
  (pss_one (ps_if (pt_not (pt_val (pe_meth0 (pe_fldK (K := K) (pv 0)) T.cl_Beat T.me_Beat_runs G_Beat_runs (hr.mono (by decide)) T.bi_Beat_runs .nil pass0)))
  (pss_one (ps_expr (pe_meth (pe_fldK (K := K) (pv 0)) T.cl_Beat T.me_Beat_start G_Beat_start (hr.mono (by decide)) T.bi_Beat_start .nil pass0 (pa_cons (pv 1) pa_nil))))
  pss_nil))
  (pss_one (ps_if (pt_val (pe_meth (pe_fldK (K := K) (pv 0)) T.cl_Beat T.me_Beat_due G_Beat_due (hr.mono (by decide)) T.bi_Beat_due .nil pass0 (pa_cons (pv 1) pa_nil)))
  (pss_one (ps_set (i := 3) sc_Body_says.nd rfl (Or.inl rfl) (pe_meth0 (pe_fldK (K := K) (pv 0)) T.cl_Sender T.me_Sender_again G_Sender_again (hr.mono (by decide)) T.bi_Sender_again .nil pass0)))
  pss_nil)))
  (pss_one (ps_ret (pe_op op_cat (pv 2) (pe_lc (own := [("number", 4), ("text", 5)]) (g := (gTup K 2 (gCons (gName 4) (gCons (gName 5) gNil)))) (tt := tYes) rfl sc_Body_says.nd (pi_listK (K := K) (pv 3)) (blkOk_by (own := [("number", 4), ("text", 5)]) (N := N_Body_says) (sc := defScope s_Body_says) (by decide +kernel)) (fun _ _ _ _ _ => by exact (pg_tupK (K := K) rfl (pgs_cons (pg_name (i := 4) sc_Body_says.nd rfl (Or.inl rfl)) (pgs_cons (pg_name (i := 5) sc_Body_says.nd rfl (Or.inl rfl)) pgs_nil)))) (fun _ _ _ _ _ => pts_nil) (fun _ _ _ _ _ => by exact (pe_tup (pa_cons pe_str (pa_cons (pv 4) (pa_cons (pv 5) pa_nil))))))))))))), ?_⟩
    walk_at "ss"
    rename_i D0 H1 hs1
    clear hs
    have hhi : hiS S = min 4 (S.rows.length : Int) := rfl
    have s0 := ok.s0
    have s4 := ok.s4
    have sl := ok.sl
    have rl := ok.rl
    refine w_cut (fun σ' H' => σ' = [some (.ref A.b), some (.int now), some (.ref D0), none, none, none] ∧ ∃ B1 acc0, Same B B1 ∧ Hs B1 ((D0, .lst acc0) :: bodyL a A { S with o := false }) H' ∧ ImAll K B1 acc0 ((ackT S).map triD)) ?_ ?_
    · walk_at "ss"
      cases ho : S.o with
      | true =>
        walk_at "ss"
        rename_i T0 H2 hs2 H3 hs3 H4 hs4
        obtain ⟨f1, f2⟩ := hs4.freeze
        refine ⟨rfl, _, _, f1, f2, ?_⟩
        unfold ackT
        rw [if_pos ho]
        refine .cons (.tup upd_same ?_) .nil
        exact .cons (.str _) (.cons (.int _) (.cons (.str _) .nil))
      | false =>
        walk_at "ss"
        refine ⟨rfl, B, [], Same.refl _, ?_, ?_⟩
        · have e : ({ S with o := false } : BS) = S := by
            rw [← ho]
          rw [e]
          exact hs1
        · unfold ackT
          rw [ho]
          exact .nil
    · rintro σ' H' ⟨rfl, B1, acc0, sb, hs, hi0⟩
      clear hs1
      walk_at "ss"
      have hs1 : Hs _ [_, _, _, _, _, _, _] _ := hs.sel [2, 3, 0, 1, 4, 5, 6]
      refine w_fresh hs1 s0 (show S.s ≤ 1000 by omega) rl fun D1 acc1 H2 hs2 hi1 => ?_
      clear hs hs1
      have hi2 : ImAll K H2 acc1 ((prz S S.s (hiS S)).map prD) := by
        rw [← prs_prz]
        exact hi1
      have hs3 : Hs B1 ((D1, .lst acc1) :: (A.p, snd a A.dp A.r S.f (hiS S)) :: (A.r, lst S.rows) :: (D0, .lst acc0) :: (A.b, bo a A false) :: (A.q, inb a A.dq A.e S.n) :: (A.e, .dK S.kv) :: [(A.t, bea a A.dt S.t S.w S.d)]) H2 := hs2
      have hlen := hi2.len
      rw [List.length_map, prz_len] at hlen
      obtain ⟨B2, sb2, hs4, hi3⟩ : ∃ B2, Same B1 B2 ∧ Hs B2 ((D1, .lst acc1) :: (A.p, snd a A.dp A.r S.f (hiS S)) :: (A.r, lst S.rows) :: (D0, .lst acc0) :: (A.b, bo a A false) :: (A.q, inb a A.dq A.e S.n) :: (A.e, .dK S.kv) :: [(A.t, bea a A.dt S.t S.w S.d)]) H2 ∧ ImAll K B2 acc1 ((prz S S.s (hiS S)).map prD) := ⟨_, hs3.rebase.1, hs3.rebase.2, im_around (hs_nt hs3 rfl) hi2⟩
      have hi4 := hi0.same sb2
      have sb3 := sb.trans sb2
      clear hs2 hs3 hi1 hi2 hi0 sb sb2
      walk_at "ss"
      refine w_cut (fun σ' H' => ∃ (D' : Addr) (B3 : Hp) (accr : List V), σ' = [some (.ref A.b), some (.int now), some (.ref D0), some (.ref D'), none, none] ∧ Same B B3 ∧ Hs B3 ((D', .lst accr) :: (D0, .lst acc0) :: bodyL a A (saysS S now)) H' ∧ ImAll K B3 accr ((rowZ S now).map prD) ∧ ImAll K B3 acc0 ((ackT S).map triD)) ?_ ?_
      · by_cases h : S.s < hiS S
        · walk_at "ss"
          refine w_truT (SqL.of hs4.g0) ?_ ?_
          · cases acc1 with
            | nil =>
              rw [List.length_nil] at hlen
              omega
            | cons _ _ => rfl
          walk_at "ss"
          have hs5 : Hs _ [_, _, _, _, _, _, _, _] _ := hs4.sel [7, 0, 1, 2, 3, 4, 5, 6]
          refine w_runs hs5 fun H3 hs6 => ?_
          clear hs4 hs5
          cases hd : S.d.isSome with
          | true =>
            walk_at "ss"
            refine ⟨D1, B2, acc1, rfl, sb3, ?_, ?_, hi4⟩
            · have e : saysS S now = { S with s := hiS S, o := false } := by
                unfold saysS
                rw [if_pos h, if_pos hd]
              rw [e]
              exact hs6.sel [1, 4, 5, 2, 3, 6, 7, 0]
            · unfold rowZ
              rw [if_pos h]
              exact hi3
          | false =>
            walk_at "ss"
            refine iteT ?_
            walk_at "ss"
            refine w_start hs6 fun H4 hs7 => ?_
            clear hs6
            walk_at "ss"
            refine ⟨D1, B2, acc1, rfl, sb3, ?_, ?_, hi4⟩
            · have e : saysS S now = { S with s := hiS S, o := false, t := 0, w := 2, d := some (now + 2) } := by
                unfold saysS
                rw [if_pos h, if_neg (by rw [hd]; exact Bool.false_ne_true)]
              rw [e]
              exact hs7.sel [1, 4, 5, 2, 3, 6, 7, 0]
            · unfold rowZ
              rw [if_pos h]
              exact hi3
        · have e0 : acc1 = [] := List.eq_nil_of_length_eq_zero (by omega)
          walk_at "ss"
          refine w_truF (SqL.of hs4.g0) (by rw [e0]; rfl) ?_
          walk_at "ss"
          have hs5 : Hs _ [_, _, _, _, _, _, _, _] _ := hs4.sel [7, 0, 1, 2, 3, 4, 5, 6]
          refine w_due hs5 ok.w0 (Int.le_trans ok.w1 (by decide)) fun H3 hs6 => ?_
          clear hs4 hs5
          have e : saysS S now = { S with s := hiS S, o := false, t := (dueB S.t S.w S.d now).1, w := (dueB S.t S.w S.d now).2.1, d := (dueB S.t S.w S.d now).2.2 } := by
            unfold saysS
            rw [if_neg h]
          cases hd : isDue S.d now with
          | true =>
            walk_at "ss"
            have hs7 : Hs _ [_, _, _, _, _, _, _, _] _ := hs6.sel [2, 3, 0, 1, 4, 5, 6, 7]
            refine w_again hs7 (show 0 ≤ hiS S by omega) (show hiS S ≤ (S.rows.length : Int) by omega) rl fun D2 acc2 H4 hs8 hi5 => ?_
            clear hs6 hs7
            rw [prs_prz] at hi5
            have hs9 : Hs _ [_, _, _, _, _, _, _, _] _ := hs8.sel [0, 5, 6, 1, 2, 7, 8, 3]
            obtain ⟨B3, sb4, hs10, hi6⟩ : ∃ B3, Same B2 B3 ∧ Hs B3 [_, _, _, _, _, _, _, _] H4 ∧ ImAll K B3 acc2 ((prz S 0 (hiS S)).map prD) := ⟨_, hs9.rebase.1, hs9.rebase.2, im_around (hs_nt hs9 rfl) hi5⟩
            walk_at "ss"
            refine ⟨D2, B3, acc2, rfl, sb3.trans sb4, ?_, ?_, hi4.same sb4⟩
            · rw [e]
              exact hs10
            · unfold rowZ
              rw [if_neg h, if_pos hd]
              exact hi6
          | false =>
            walk_at "ss"
            refine ⟨D1, B2, acc1, rfl, sb3, ?_, ?_, hi4⟩
            · rw [e]
              exact hs6.sel [1, 4, 5, 2, 3, 6, 7, 0]
            · unfold rowZ
              rw [if_neg h, if_neg (by rw [hd]; exact Bool.false_ne_true), e0]
              exact .nil
      · rintro σ' H' ⟨D', B3, accr, rfl, sb, hs, hir, hia⟩
        clear hs4 hlen hi3 hi4 sb3
        have hl1 := hir.len
        have hl2 := hia.len
        have hl3 := rowZ_len (now := now) ok
        have hl4 := ackT_len (S := S)
        rw [List.length_map] at hl1 hl2
        walk_at "ss"
        refine w_lcD (K := K) (SqL.of hs.g0) (by omega) (((rowZ S now).map dtT).map triD) (by rw [List.length_map, List.length_map, hl1]) (fun Q q => ⟨_, rfl, q⟩) ?_ (fun D2 acc2 H3 h1 h2 => ?_) ?_
        · intro i x d H3 Q' hx hd hS kk
          rw [List.getElem?_map, List.getElem?_map] at hd
          cases e : (rowZ S now)[i]? with
          | none =>
            rw [e] at hd
            cases hd
          | some z =>
            rw [e] at hd
            cases hd
            have h3 := hir.get hx (by rw [List.getElem?_map, e]; rfl : ((rowZ S now).map prD)[i]? = some (prD z))
            obtain ⟨p, rfl, hp⟩ := im_pr (h3.same (hs.same.trans hS))
            have hs3 := Hs.start H3
            clear hs
            walk_at "ss"
            refine ⟨rfl, ?_⟩
            walk_at "ss"
            rename_i p2 H4 hs4
            refine kk _ _ hs4.same (.tup hs4.g0 ?_)
            exact .cons (.str _) (.cons (.int _) (.cons (.str _) .nil))
        · have hs2 := hs.add h1
          have hi5 := im_around (hs_nt hs2 rfl) h2
          obtain ⟨sb2, hs3⟩ := hs2.rebase
          have hl5 := h2.len
          rw [List.length_map, List.length_map] at hl5
          clear hs hs2
          refine w_cat hs3 (hs3.get (i := 2) rfl) hs3.g0 (Nat.le_of_lt (szl (by omega))) fun L H4 hs4 => ?_
          have hs5 := ((hs4.sel [0, 4, 5, 6, 7, 8, 9]).base sb2).base sb
          refine k L _ H4 hs5 ?_
          rw [saysT_eq, List.map_append]
          exact ((hia.same sb2).app hi5).same hs4.same
        · rintro x σ H R R' hR ⟨p, xs, e1, h1, h2, v1, r1, e2, v2, r2, e3, e5, h⟩
          exact ⟨p, xs, e1, h1, h2, v1, r1, e2, v2, r2, e3, e5, hR _ _ h⟩
end

section
variable {P : Program} [IsP P] {w : World} {K : PySem.W.Frag} {mg : Str → Option Value} {base : Heap} {a : Ad}
/-! ### the controller's end -/
abbrev sp_StateError_init (a : Ad) : Sp := spXinit a.StateError "state" okPlace
theorem ok_StateError_init (T : Txt K mg a) : FnOk P w K mg base CX0 1 a.StateError_init a.fd_StateError_init ["self", "state"] (sp_StateError_init a) := by
  obtain ⟨ar, S⟩ := sc_StateError_init
  obtain rfl : P = _ := IsP.eq
  refine T.fn_StateError_init.ok T.ox_StateError S (fun vs H Q E h => ?_) rfl (fun cda cc A outer s H vs Q E hr h => ?_)
  · obtain ⟨_, _, _, rfl, _⟩ := h
    rfl
  · obtain ⟨B, e, v, rfl, hs, ⟨t, rfl, ht⟩, k⟩ := h
    refine ⟨e, _, _, rfl, hs.g0, (pa_cons (pe_joined (.cons pe_str (.cons (pe_fmt (pv 1)) .nil))) pa_nil), (pss_one (ps_ost (pv 0) (pv 1))), ?_⟩
    walk_at "ss"
    have hz : (Str.empty ++ ("not in this state: " : Str)).length ≤ 100 := by decide +kernel
    refine w_js1 (Nat.le_trans hz (by decide)) ?_
    walk_at "ss"
    refine w_fmtS (sz (by omega)) ?_
    refine w_js1 ?_ ?_
    · rw [Str.length_append]
      exact sz (by omega)
    walk_at "ss"
    refine ⟨by simp, hs.g0, ?_⟩
    walk_at "ss"
    refine w_ost hs T.ox_StateError T.no_StateError_state fun dx H' hs' => ?_
    exact k _ _ hs'
theorem w_mkBody {B H : Hp} {L : List (Addr × HO)} {Q : VK} {E : XK} (hs : Hs B L H) (q : ∀ A H', Hs B (bodyL a A S0 ++ L) H' → Q (.ref A.b) H') : Mkr a.Body (sp_Body_init a) [] E Q H := by
  refine w_mkr hs fun b db H2 hs2 => ?_
  obtain ⟨B', _, h1, back⟩ := hs2.frame1
  exact ⟨B', b, db, rfl, h1, fun p dp r q' dq e t dt H3 h3 => ⟨rfl, q _ H3 (back _ _ h3)⟩⟩
/-- what a line knows, its body aside -/
structure LS where
  (ep bo : Int) (st : Str) (to : Int)
abbrev lineO (a : Ad) (dl : Addr) (X : LS) (b : Addr) : HO := .ins a.Line dl [("epoch", .int X.ep), ("boot", .int X.bo), ("state", .str X.st), ("_to", .int X.to), ("_body", .ref b)]
abbrev lineL (a : Ad) (l dl : Addr) (X : LS) (A : BA) (S : BS) : List (Addr × HO) := (l, lineO a dl X A.b) :: bodyL a A S
def sp_Line_init (a : Ad) : Sp := fun vs H Q _ => ∃ (B : Hp) (l dl : Addr) (to : Int), vs = [.ref l, .int to] ∧ Hs B [(l, .ins a.Line dl [])] H ∧ ∀ A H', Hs B (lineL a l dl ⟨0, 0, "none", to⟩ A S0) H' → Q .non H'
def sp_Line_begin (a : Ad) : Sp := fun vs H Q E => ∃ (B : Hp) (l dl : Addr) (X : LS) (A : BA) (S : BS) (ep now : Int), vs = [.ref l, .int ep, .int now] ∧ Hs B (lineL a l dl X A S) H ∧
  (ep ≤ X.ep → ∀ d H', Hs B ((d, .xd [("state", .str "epoch")]) :: lineL a l dl X A S) H' → E (.ref a.StateError) (some d) H') ∧
  (X.ep < ep → ∀ A' H', Hs B (lineL a l dl ⟨ep, 0, "hailing", X.to⟩ A' { S0 with d := some now }) H' → Q .non H')
def sp_Line_send (a : Ad) : Sp := fun vs H Q E => ∃ (B : Hp) (l dl : Addr) (X : LS) (A : BA) (S : BS) (t : Str), vs = [.ref l, .str t] ∧ Hs B (lineL a l dl X A S) H ∧ S.rows.length ≤ 1000 ∧ X.st.length ≤ 1000 ∧
  (¬ (X.st = "hailing" ∨ X.st = "open") → ∀ d H', Hs B ((d, .xd [("state", .str X.st)]) :: lineL a l dl X A S) H' → E (.ref a.StateError) (some d) H') ∧
  ((X.st = "hailing" ∨ X.st = "open") → S.rows.length < 300 → ∀ H', Hs B (lineL a l dl X A { S with rows := S.rows ++ [t] }) H' → Q .non H') ∧
  ((X.st = "hailing" ∨ X.st = "open") → 300 ≤ S.rows.length → ∀ d H', Hs B ((d, .xd [("place", .str "queue")]) :: lineL a l dl X A S) H' → E (.ref a.RoomError) (some d) H')
def lineT (X : LS) (S : BS) (now : Int) : List (Str × Int × Str) := if X.st = "open" then saysT S now else if X.st = "hailing" ∧ isDue S.d now = true then [(("hail" : Str), X.bo, ("" : Str))] else []
def lineS (X : LS) (S : BS) (now : Int) : BS := if X.st = "open" then saysS S now else if X.st = "hailing" then { S with t := (dueB S.t S.w S.d now).1, w := (dueB S.t S.w S.d now).2.1, d := (dueB S.t S.w S.d now).2.2 } else S
def sp_Line_says (K : PySem.W.Frag) (a : Ad) : Sp := fun vs H Q _ => ∃ (B : Hp) (l dl : Addr) (X : LS) (A : BA) (S : BS) (now : Int), vs = [.ref l, .int now] ∧ Hs B (lineL a l dl X A S) H ∧ BOk S ∧
  ∀ D acc H', Hs B ((D, .lst acc) :: lineL a l dl X A (lineS X S now)) H' → ImAll K H' acc ((lineT X S now).map triD) → Q (.ref D) H'
def tickX (X : LS) (S : BS) (now : Int) : LS := if 6 ≤ (lineS X S now).t then { X with st := "failed" } else X
def sp_Line_tick (K : PySem.W.Frag) (a : Ad) : Sp := fun vs H Q _ => ∃ (B : Hp) (l dl : Addr) (X : LS) (A : BA) (S : BS) (now : Int), vs = [.ref l, .int now] ∧ Hs B (lineL a l dl X A S) H ∧ BOk S ∧
  ∀ D acc H', Hs B ((D, .lst acc) :: lineL a l dl (tickX X S now) A (lineS X S now)) H' → ImAll K H' acc ((lineT X S now).map (segD X.to 0 X.ep)) → Q (.ref D) H'
def ansX (X : LS) (kind : Str) (m : Int) : LS := if kind = "here" ∧ m ≠ X.bo then { X with bo := m } else if kind = "open" ∧ m = X.bo ∧ m ≠ 0 then { X with st := "open" } else X
def ansS (X : LS) (S : BS) (kind : Str) (m now : Int) : BS := if kind = "here" ∧ m ≠ X.bo then { S with t := 0, w := 2, d := some now } else if kind = "open" ∧ m = X.bo ∧ m ≠ 0 then { S with t := 0, d := none } else S
def sp_Line_hears_answer (a : Ad) : Sp := fun vs H Q _ => ∃ (B : Hp) (l dl : Addr) (X : LS) (A : BA) (S : BS) (kind : Str) (m now : Int), vs = [.ref l, .str kind, .int m, .int now] ∧ Hs B (lineL a l dl X A S) H ∧
  ∀ H', Hs B (lineL a l dl (ansX X kind m) A (ansS X S kind m now)) H' → Q .non H'
theorem ok_Line_init (T : Txt K mg a) : FnOk P w K mg base CX0 5 a.Line_init a.fd_Line_init ["self", "to"] (sp_Line_init a) := by
  have G_Body_init := ok_Body_init (P := P) (w := w) (base := base) T
  refine T.fn_Line_init.ok sc_Line_init (fun vs H Q E h => ?_) (fun cdv A outer s H vs Q E hr h => ?_)
  · obtain ⟨_, _, _, _, rfl, _⟩ := h
    rfl
  · obtain ⟨B, l, dl, to, rfl, hs, k⟩ := h
    have c1 := T.cl_Line
    have n1 := T.na_Line_epoch
    have n2 := T.na_Line_boot
    have n3 := T.na_Line_state
    have n4 := T.na_Line__to
    have n5 := T.na_Line__body
    refine ⟨_, (pss_cons (ps_fldK (K := K) (pv 0) pe_int)
  (pss_cons (ps_fldK (K := K) (pv 0) pe_int)
  (pss_cons (ps_fldK (K := K) (pv 0) pe_str)
  (pss_cons (ps_fldK (K := K) (pv 0) (pv 1))
  (pss_one (ps_fldK (K := K) (pv 0) (pe_make0 T.mk_Body G_Body_init (hr.mono (by decide)) rfl T.mg_Body T.bi_Body_init .nil pass0))))))), ?_⟩
    walk_at "ss"
    rename_i H2 hs2
    refine w_mkBody hs2 fun A H3 hs3 => ?_
    clear hs hs2
    have hs4 : Hs _ [_, _, _, _, _, _, _] _ := hs3
    clear hs3
    walk_at "ss"
    rename_i H5 hs5
    exact k A _ (hs5.sel [6, 0, 1, 2, 3, 4, 5])
theorem ok_Line_begin (T : Txt K mg a) : FnOk P w K mg base (CX P w) 5 a.Line_begin a.fd_Line_begin ["self", "epoch", "now"] (sp_Line_begin a) := by
  have G_Body_init := ok_Body_init (P := P) (w := w) (base := base) T
  have G_Beat_hurry := ok_Beat_hurry (P := P) (w := w) (base := base) T
  have G_StateError_init := ok_StateError_init (P := P) (w := w) (base := base) T
  refine T.fn_Line_begin.okX sc_Line_begin (fun vs H Q E h => ?_) (fun cdv A outer s H vs Q E hr h => ?_)
  · obtain ⟨_, _, _, _, _, _, _, _, rfl, _⟩ := h
    rfl
  · obtain ⟨B, l, dl, X, A, S, ep, now, rfl, hs, k1, k2⟩ := h
    have c1 := T.cl_Line
    have n1 := T.na_Line_epoch
    have n2 := T.na_Line_boot
    have n3 := T.na_Line_state
    have n5 := T.na_Line__body
    have m1 := T.na_Body_beat
    have c2 := T.cl_Body
    have c3 := T.cl_Beat
    refine ⟨_, (pss_cons (ps_if (pt_cmpR op_le (pv 1) (pe_fldK (K := K) (pv 0)) (nomark _))
  (pss_one (ps_raiseQ rfl (takes_of rfl rfl rfl rfl) (pmk_oex T.ox_StateError T.iC_StateError T.tI_StateError G_StateError_init (hr.mono (by decide)) T.bi_StateError_init .nil pass0 rfl T.mg_StateError (pa_cons pe_str pa_nil))))
  pss_nil)
  (pss_cons (ps_fldK (K := K) (pv 0) (pv 1))
  (pss_cons (ps_fldK (K := K) (pv 0) pe_int)
  (pss_cons (ps_fldK (K := K) (pv 0) pe_str)
  (pss_cons (ps_fldK (K := K) (pv 0) (pe_make0 T.mk_Body G_Body_init (hr.mono (by decide)) rfl T.mg_Body T.bi_Body_init .nil pass0))
  (pss_one (ps_expr (pe_meth (pe_fldK (K := K) (pe_fldK (K := K) (pv 0))) T.cl_Beat T.me_Beat_hurry G_Beat_hurry (hr.mono (by decide)) T.bi_Beat_hurry .nil pass0 (pa_cons (pv 2) pa_nil))))))))), ?_⟩
    walk_at "ss"
    refine ifd (fun h => ?_) (fun h => ?_)
    · walk_at "ss"
      refine w_mkX hs ⟨_, rfl, by decide +kernel⟩ fun d H' hs' => ?_
      exact k1 h d H' hs'
    · walk_at "ss"
      rename_i H2 hs2
      refine w_mkBody hs2 fun A2 H3 hs3 => ?_
      clear hs hs2
      have hs4 : Hs _ [_, _, _, _, _, _, _, _, _, _, _, _, _] _ := hs3
      clear hs3
      walk_at "ss"
      rename_i H5 hs5
      have hs6 : Hs _ [_, _, _, _, _, _, _] _ := hs5.sel [5, 6, 0, 1, 2, 3, 4]
      refine w_hurry hs6 fun H7 hs7 => ?_
      walk_at "ss"
      exact k2 (by omega) A2 _ (hs7.sel [1, 2, 3, 4, 5, 6, 0])
theorem w_putE {B H : Hp} {Q : VK} {E : XK} {x dx r : Addr} {f z : Int} {rows : List Str} {R : List (Addr × HO)} {t : Str} (hs : Hs B ((x, snd a dx r f z) :: (r, lst rows) :: R) H) (hl : rows.length ≤ 1000) (q1 : rows.length < 300 → ∀ H', Hs B ((x, snd a dx r f z) :: (r, lst (rows ++ [t])) :: R) H' → Q .non H')
    (q2 : 300 ≤ rows.length → ∀ d H', Hs B ((d, .xd [("place", .str "queue")]) :: (x, snd a dx r f z) :: (r, lst rows) :: R) H' → E (.ref a.RoomError) (some d) H') : sp_Sender_put a [.ref x, .str t] H Q E := by
  obtain ⟨B', _, h1, back⟩ := hs.frame2
  exact ⟨B', x, dx, r, f, z, rows, t, rfl, h1, hl, fun h H' h2 => q1 h H' (back _ _ h2), fun h d H' h2 => q2 h d H' (back _ _ h2)⟩
theorem eqV_str {x y : Str} : eqV (.str x) (.str y) = (x == y) := rfl
theorem in2 {s x y : Str} (h : s = x ∨ s = y) : inV (.str s) [.str x, .str y] = true := by
  rcases h with rfl | rfl <;> simp [inV, eqV_str]
theorem nin2 {s x y : Str} (h : ¬ (s = x ∨ s = y)) : inV (.str s) [.str x, .str y] = false := by
  have h1 : s ≠ x := fun e => h (.inl e)
  have h2 : s ≠ y := fun e => h (.inr e)
  simp [inV, eqV_str, Ne.symm h1, Ne.symm h2]
theorem w_says {B H : Hp} {Q : VK} {E : XK} {A : BA} {S : BS} {now : Int} {R : List (Addr × HO)} (hs : Hs B (bodyL a A S ++ R) H) (ok : BOk S) (q : ∀ D acc H', Hs B (((D, .lst acc) :: bodyL a A (saysS S now)) ++ R) H' → ImAll K H' acc ((saysT S now).map triD) → Q (.ref D) H') : sp_Body_says K a [.ref A.b, .int now] H Q E := by
  obtain ⟨_, h1, back⟩ := hs.frame (bodyL a A S)
  exact ⟨_, A, S, now, rfl, h1, ok, fun D acc H' h2 h3 => q D acc H' (back _ _ h2) h3⟩
theorem ok_Line_send (T : Txt K mg a) : FnOk P w K mg base (CX P w) 5 a.Line_send a.fd_Line_send ["self", "text"] (sp_Line_send a) := by
  have G_Sender_put := ok_Sender_put (P := P) (w := w) (base := base) T
  have G_StateError_init := ok_StateError_init (P := P) (w := w) (base := base) T
  refine T.fn_Line_send.okX sc_Line_send (fun vs H Q E h => ?_) (fun cdv A outer s H vs Q E hr h => ?_)
  · obtain ⟨_, _, _, _, _, _, _, rfl, _⟩ := h
    rfl
  · obtain ⟨B, l, dl, X, A, S, t, rfl, hs, hl, hx, k1, k2, k3⟩ := h
    have c1 := T.cl_Line
    have n3 := T.na_Line_state
    have n5 := T.na_Line__body
    have m1 := T.na_Body_sender
    have c2 := T.cl_Body
    have c3 := T.cl_Sender
    refine ⟨_, (pss_cons (ps_if (pt_cmpR (op_niK (K := K)) (pe_fldK (K := K) (pv 0)) (pe_tup (pa_cons pe_str (pa_cons pe_str pa_nil))) (by rfl))
  (pss_one (ps_raiseQ rfl (takes_of rfl rfl rfl rfl) (pmk_oex T.ox_StateError T.iC_StateError T.tI_StateError G_StateError_init (hr.mono (by decide)) T.bi_StateError_init .nil pass0 rfl T.mg_StateError (pa_cons (pe_fldK (K := K) (pv 0)) pa_nil))))
  pss_nil)
  (pss_one (ps_expr (pe_meth (pe_fldK (K := K) (pe_fldK (K := K) (pv 0))) T.cl_Sender T.me_Sender_put G_Sender_put (hr.mono (by decide)) T.bi_Sender_put .nil (passes_call (takes_of rfl rfl rfl rfl) fun _ _ _ _ h => h) (pa_cons (pv 1) pa_nil))))), ?_⟩
    walk_at "ss"
    rename_i p H2 hs2
    refine w_inT (SqT.of hs2.g0) rfl rfl ?_
    by_cases h : X.st = "hailing" ∨ X.st = "open"
    · rw [in2 h]
      refine ⟨false, rfl, iteF ?_⟩
      walk_at "ss"
      have hs3 : Hs _ [_, _, _, _, _, _, _] _ := hs2.sel [3, 4, 1, 2, 5, 6, 7]
      refine w_putE hs3 hl (fun h0 H4 hs4 => ?_) (fun h0 d H4 hs4 => ?_)
      · walk_at "ss"
        exact k2 h h0 H4 (hs4.sel [2, 3, 0, 1, 4, 5, 6])
      · exact k3 h h0 d H4 (hs4.sel [0, 3, 4, 1, 2, 5, 6, 7])
    · rw [nin2 h]
      refine ⟨true, rfl, iteT ?_⟩
      walk_at "ss"
      have hs3 : Hs _ (lineL a l dl X A S) _ := hs2.sel [1, 2, 3, 4, 5, 6, 7]
      refine w_mkX hs3 ⟨_, rfl, hx⟩ fun d H' hs' => ?_
      exact k1 h d H' hs'
theorem ok_Line_says (T : Txt K mg a) : FnOk P w K mg base CX0 4 a.Line_says a.fd_Line_says ["self", "now"] (sp_Line_says K a) := by
  have G_Body_says := ok_Body_says (P := P) (w := w) (base := base) T
  have G_Beat_due := ok_Beat_due (P := P) (w := w) (base := base) T
  refine T.fn_Line_says.ok sc_Line_says (fun vs H Q E h => ?_) (fun cdv A outer s H vs Q E hr h => ?_)
  · obtain ⟨_, _, _, _, _, _, _, rfl, _⟩ := h
    rfl
  · obtain ⟨B, l, dl, X, A, S, now, rfl, hs, ok, k⟩ := h
    have c1 := T.cl_Line
    have n2 := T.na_Line_boot
    have n3 := T.na_Line_state
    have n5 := T.na_Line__body
    have m1 := T.na_Body_beat
    have c2 := T.cl_Body
    have c3 := T.cl_Beat
    refine ⟨_, (pss_cons (ps_if (pt_cmpR op_eq (pe_fldK (K := K) (pv 0)) pe_str (nomark _))
  (pss_one (ps_ret (pe_meth (pe_fldK (K := K) (pv 0)) T.cl_Body T.me_Body_says G_Body_says (hr.mono (by decide)) T.bi_Body_says .nil pass0 (pa_cons (pv 1) pa_nil))))
  pss_nil)
  (pss_cons (ps_if (PW.pt (pw_and (pt_cmpR op_eq (pe_fldK (K := K) (pv 0)) pe_str (nomark _)) (pw_and1 (pt_val (pe_meth (pe_fldK (K := K) (pe_fldK (K := K) (pv 0))) T.cl_Beat T.me_Beat_due G_Beat_due (hr.mono (by decide)) T.bi_Beat_due .nil pass0 (pa_cons (pv 1) pa_nil))))))
  (pss_one (ps_ret (pe_lst (pa_cons (pe_tup (pa_cons pe_str (pa_cons (pe_fldK (K := K) (pv 0)) (pa_cons pe_str pa_nil)))) pa_nil))))
  pss_nil)
  (pss_one (ps_ret (pe_lst pa_nil))))), ?_⟩
    walk_at "ss"
    refine ifd (fun h1 => ?_) (fun h1 => ?_)
    · walk_at "ss"
      have hs2 : Hs _ (bodyL a A S ++ [_]) _ := hs.sel [1, 2, 3, 4, 5, 6, 0]
      refine w_says hs2 ok fun D acc H3 hs3 hi => ?_
      have := k D acc H3
      unfold lineT lineS at this
      rw [if_pos h1, if_pos h1] at this
      exact this (hs3.sel [0, 7, 1, 2, 3, 4, 5, 6]) hi
    · walk_at "ss"
      refine ifd (fun h2 => ?_) (fun h2 => ?_)
      · walk_at "ss"
        have hs2 : Hs _ [_, _, _, _, _, _, _] _ := hs.sel [6, 0, 1, 2, 3, 4, 5]
        refine w_due hs2 ok.w0 (Int.le_trans ok.w1 (by decide)) fun H3 hs3 => ?_
        clear hs hs2
        cases hd : isDue S.d now with
        | true =>
          walk_at "ss"
          rename_i T0 H5 hs5 D H6 hs6
          have := k D [.ref T0] H6
          unfold lineT lineS at this
          rw [if_neg h1, if_neg h1, if_pos h2, if_pos ⟨h2, hd⟩] at this
          refine this (hs6.sel [0, 3, 4, 5, 6, 7, 8, 2]) (.cons (.tup (hs6.get (i := 1) rfl) ?_) .nil)
          exact .cons (.str _) (.cons (.int _) (.cons (.str _) .nil))
        | false =>
          walk_at "ss"
          rename_i D H4 hs4
          have := k D [] H4
          unfold lineT lineS at this
          rw [if_neg h1, if_neg h1, if_pos h2, if_neg (by rw [hd]; exact fun h => Bool.false_ne_true h.2)] at this
          exact this (hs4.sel [0, 2, 3, 4, 5, 6, 7, 1]) .nil
      · walk_at "ss"
        rename_i D H4 hs4
        have := k D [] H4
        unfold lineT lineS at this
        rw [if_neg h1, if_neg h1, if_neg h2, if_neg (fun h => h2 h.1)] at this
        exact this hs4 .nil
theorem saysT_len {S : BS} {now : Int} (ok : BOk S) : (saysT S now).length ≤ 5 := by
  have h1 := ackT_len (S := S)
  have h2 := rowZ_len (now := now) ok
  rw [saysT_eq, List.length_append, List.length_map]
  omega
theorem lineT_len {X : LS} {S : BS} {now : Int} (ok : BOk S) : (lineT X S now).length ≤ 5 := by
  unfold lineT
  split
  · exact saysT_len ok
  · split
    · exact Nat.succ_le_succ (Nat.zero_le 4)
    · exact Nat.zero_le 5
theorem tickX_to {X : LS} {S : BS} {now : Int} : (tickX X S now).to = X.to := by
  unfold tickX
  split <;> rfl
theorem tickX_ep {X : LS} {S : BS} {now : Int} : (tickX X S now).ep = X.ep := by
  unfold tickX
  split <;> rfl
theorem ok_Line_tick (T : Txt K mg a) : FnOk P w K mg base CX0 5 a.Line_tick a.fd_Line_tick ["self", "now"] (sp_Line_tick K a) := by
  have G_Line_says := ok_Line_says (P := P) (w := w) (base := base) T
  have G_segments_of := ok_segments_of (P := P) (w := w) (base := base) T
  refine T.fn_Line_tick.ok sc_Line_tick (fun vs H Q E h => ?_) (fun cdv A outer s H vs Q E hr h => ?_)
  · obtain ⟨_, _, _, _, _, _, _, rfl, _⟩ := h
    rfl
  · obtain ⟨B, l, dl, X, A, S, now, rfl, hs, ok, k⟩ := h
    have c1 := T.cl_Line
    have n1 := T.na_Line_epoch
    have n3 := T.na_Line_state
    have n4 := T.na_Line__to
    have n5 := T.na_Line__body
    have m1 := T.na_Body_beat
    have c2 := T.cl_Body
    have c3 := T.cl_Beat
    have m2 := T.na_Beat_tries
    refine ⟨_, (pss_cons (ps_set (i := 2) sc_Line_tick.nd rfl (Or.inl rfl) (pe_meth (pv 0) T.cl_Line T.me_Line_says G_Line_says (hr.mono (by decide)) T.bi_Line_says .nil pass0 (pa_cons (pv 1) pa_nil)))
  (C8.pss_cut (ps_if (pt_cmpR op_ge (pe_fldK (K := K) (pe_fldK (K := K) (pe_fldK (K := K) (pv 0)))) (pe_glob (v := .int 6) rfl (Exists.choose_spec T.mg_MOST_TRIES) ⟨_, rfl⟩) (nomark _))
  (pss_one (ps_fldK (K := K) (pv 0) pe_str))
  pss_nil)
  (pss_one (ps_ret (pe_call G_segments_of (hr.mono (by decide)) rfl T.mg_segments_of T.kp_segments_of T.bi_segments_of .nil pass0 (pa_cons (pe_fldK (K := K) (pv 0)) (pa_cons (pe_glob (v := .int 0) rfl (Exists.choose_spec T.mg_CONTROLLER) ⟨_, rfl⟩) (pa_cons (pe_fldK (K := K) (pv 0)) (pa_cons (pv 2) pa_nil))))))))), ?_⟩
    walk_at "ss"
    refine ⟨B, l, dl, X, A, S, now, rfl, hs, ok, fun D acc H3 hs3 hi => ?_⟩
    clear hs
    obtain ⟨B2, sb, hs2, hi2⟩ : ∃ B2, Same B B2 ∧ Hs B2 ((D, .lst acc) :: lineL a l dl X A (lineS X S now)) H3 ∧ ImAll K B2 acc ((lineT X S now).map triD) := ⟨_, hs3.rebase.1, hs3.rebase.2, im_around (hs_nt hs3 rfl) hi⟩
    clear hs3 hi
    walk_at "ss"
    refine w_cut (fun σ' H' => σ' = [some (.ref l), some (.int now), some (.ref D)] ∧ Hs B2 ((D, .lst acc) :: lineL a l dl (tickX X S now) A (lineS X S now)) H') ?_ ?_
    · walk_at "ss"
      refine ifd (fun h1 => ?_) (fun h1 => ?_)
      · walk_at "ss"
        rename_i H4 hs4
        refine ⟨rfl, ?_⟩
        unfold tickX
        rw [if_pos h1]
        exact hs4
      · walk_at "ss"
        refine ⟨rfl, ?_⟩
        unfold tickX
        rw [if_neg (by omega)]
        exact hs2
    · rintro σ' H' ⟨rfl, hs4⟩
      clear hs2
      walk_at "ss"
      refine ⟨D, acc, _, _, _, lineT X S now, rfl, hs4.g0, hi2.same hs4.same, Nat.le_trans (lineT_len ok) (by decide), fun D' acc' H' h1 h2 => ?_⟩
      have hs5 := ((hs4.add h1).sel [0, 2, 3, 4, 5, 6, 7, 8]).base sb
      rw [tickX_to, tickX_ep] at h2
      exact k D' acc' H' hs5 h2
theorem ok_Line_hears_answer (T : Txt K mg a) : FnOk P w K mg base CX0 3 a.Line_hears_answer a.fd_Line_hears_answer ["self", "kind", "number", "now"] (sp_Line_hears_answer a) := by
  have G_Beat_start := ok_Beat_start (P := P) (w := w) (base := base) T
  have G_Beat_stop := ok_Beat_stop (P := P) (w := w) (base := base) T
  have G_Beat_hurry := ok_Beat_hurry (P := P) (w := w) (base := base) T
  refine T.fn_Line_hears_answer.ok sc_Line_hears_answer (fun vs H Q E h => ?_) (fun cdv A outer s H vs Q E hr h => ?_)
  · obtain ⟨_, _, _, _, _, _, _, _, _, rfl, _⟩ := h
    rfl
  · obtain ⟨B, l, dl, X, A, S, kind, m, now, rfl, hs, k⟩ := h
    have c1 := T.cl_Line
    have n1 := T.na_Line_boot
    have n3 := T.na_Line_state
    have n5 := T.na_Line__body
    have m1 := T.na_Body_beat
    have c2 := T.cl_Body
    have c3 := T.cl_Beat
    have m2 := T.na_Beat_tries
    refine ⟨_, (pss_cons (ps_set (i := 4) sc_Line_hears_answer.nd rfl (Or.inl rfl) (pe_fldK (K := K) (pe_fldK (K := K) (pv 0))))
  (pss_one (ps_if (PW.pt (pw_and (pt_cmpR op_eq (pv 1) pe_str (nomark _)) (pw_and1 (pt_cmpR op_ne (pv 2) (pe_fldK (K := K) (pv 0)) (nomark _)))))
  (pss_cons (ps_fldK (K := K) (pv 0) (pv 2))
  (pss_cons (ps_expr (pe_meth (pv 4) T.cl_Beat T.me_Beat_start G_Beat_start (hr.mono (by decide)) T.bi_Beat_start .nil pass0 (pa_cons (pv 3) pa_nil)))
  (pss_one (ps_expr (pe_meth (pv 4) T.cl_Beat T.me_Beat_hurry G_Beat_hurry (hr.mono (by decide)) T.bi_Beat_hurry .nil pass0 (pa_cons (pv 3) pa_nil))))))
  (pss_one (ps_if (PW.pt (pw_and (pt_cmpR op_eq (pv 1) pe_str (nomark _)) (pw_and (pt_cmpR op_eq (pv 2) (pe_fldK (K := K) (pv 0)) (nomark _)) (pw_and1 (pt_cmpR op_ne (pv 2) pe_int (nomark _))))))
  (pss_cons (ps_fldK (K := K) (pv 0) pe_str)
  (pss_cons (ps_expr (pe_meth0 (pv 4) T.cl_Beat T.me_Beat_stop G_Beat_stop (hr.mono (by decide)) T.bi_Beat_stop .nil pass0))
  (pss_one (ps_fldK (K := K) (pv 4) pe_int))))
  pss_nil))))), ?_⟩
    walk_at "ss"
    refine ifd (fun h1 => ?_) (fun h1 => ?_)
    · walk_at "ss"
      refine ifn (fun h2 => ?_) (fun h2 => ?_)
      · walk_at "ss"
        rename_i H2 hs2
        have hs3 : Hs _ [_, _, _, _, _, _, _] _ := hs2.sel [6, 0, 1, 2, 3, 4, 5]
        refine w_start hs3 fun H4 hs4 => ?_
        clear hs hs2 hs3
        walk_at "ss"
        refine w_hurry hs4 fun H5 hs5 => ?_
        walk_at "ss"
        have := k H5
        unfold ansX ansS at this
        rw [if_pos ⟨h1, h2⟩, if_pos ⟨h1, h2⟩] at this
        exact this (hs5.sel [1, 2, 3, 4, 5, 6, 0])
      · walk_at "ss"
        refine ifd (fun h3 => absurd (h1.symm.trans h3) (by decide +kernel)) (fun h3 => ?_)
        walk_at "ss"
        have := k H
        unfold ansX ansS at this
        rw [if_neg (fun z => z.2 h2), if_neg (fun z => h3 z.1), if_neg (fun z => z.2 h2), if_neg (fun z => h3 z.1)] at this
        exact this hs
    · walk_at "ss"
      refine ifd (fun h2 => ?_) (fun h2 => ?_)
      · walk_at "ss"
        refine ifd (fun h3 => ?_) (fun h3 => ?_)
        · walk_at "ss"
          refine ifn (fun h4 => ?_) (fun h4 => ?_)
          · walk_at "ss"
            rename_i H2 hs2
            have hs3 : Hs _ [_, _, _, _, _, _, _] _ := hs2.sel [6, 0, 1, 2, 3, 4, 5]
            refine w_stop hs3 fun H4 hs4 => ?_
            clear hs hs2 hs3
            walk_at "ss"
            rename_i H5 hs5
            have := k H5
            unfold ansX ansS at this
            rw [if_neg (fun z => h1 z.1), if_pos ⟨h2, h3, h4⟩, if_neg (fun z => h1 z.1), if_pos ⟨h2, h3, h4⟩] at this
            exact this (hs5.sel [1, 2, 3, 4, 5, 6, 0])
          · walk_at "ss"
            have := k H
            unfold ansX ansS at this
            rw [if_neg (fun z => h1 z.1), if_neg (fun z => z.2.2 h4), if_neg (fun z => h1 z.1), if_neg (fun z => z.2.2 h4)] at this
            exact this hs
        · walk_at "ss"
          have := k H
          unfold ansX ansS at this
          rw [if_neg (fun z => h1 z.1), if_neg (fun z => h3 z.2.1), if_neg (fun z => h1 z.1), if_neg (fun z => h3 z.2.1)] at this
          exact this hs
      · walk_at "ss"
        have := k H
        unfold ansX ansS at this
        rw [if_neg (fun z => h1 z.1), if_neg (fun z => h2 z.1), if_neg (fun z => h1 z.1), if_neg (fun z => h2 z.1)] at this
        exact this hs
theorem w_hears {B H : Hp} {Q : VK} {E : XK} {A : BA} {S : BS} {kind t : Str} {m now : Int} {R : List (Addr × HO)} (hs : Hs B (bodyL a A S ++ R) H) (ok : BOk S) (q : ∀ D r H', Hs B (((D, .lst (hearsL S kind m t)) :: bodyL a { A with r := r } (hearsS S kind m t now)) ++ R) H' → Q (.ref D) H') : sp_Body_hears a [.ref A.b, .str kind, .int m, .str t, .int now] H Q E := by
  obtain ⟨_, h1, back⟩ := hs.frame (bodyL a A S)
  exact ⟨_, A, S, kind, t, m, now, rfl, h1, ok, fun D r H' h2 => q D r H' (back _ _ h2)⟩
def takeL (X : LS) (S : BS) (sn ep : Int) (kind : Str) (m : Int) (t : Str) : List V := if sn ≠ X.to ∨ ep ≠ X.ep then [] else if X.st = "open" then hearsL S kind m t else []
def takeX (X : LS) (sn ep : Int) (kind : Str) (m : Int) : LS := if sn ≠ X.to ∨ ep ≠ X.ep then X else if X.st = "open" then X else if X.st = "hailing" then ansX X kind m else X
def takeS (X : LS) (S : BS) (sn ep : Int) (kind : Str) (m : Int) (t : Str) (now : Int) : BS := if sn ≠ X.to ∨ ep ≠ X.ep then S else if X.st = "open" then hearsS S kind m t now else if X.st = "hailing" then ansS X S kind m now else S
def sp_Line_take (a : Ad) : Sp := fun vs H Q _ => ∃ (B : Hp) (l dl g : Addr) (X : LS) (A : BA) (S : BS) (w0 w3 : V) (to sn ep m now : Int) (kind t : Str), vs = [.ref l, .ref g, .int now] ∧ Hs B (lineL a l dl X A S) H ∧ B g = some (.tup [w0, .int to, .int sn, w3, .int ep, .str kind, .int m, .str t]) ∧ BOk S ∧
  ∀ D r H', Hs B ((D, .lst (takeL X S sn ep kind m t)) :: lineL a l dl (takeX X sn ep kind m) { A with r := r } (takeS X S sn ep kind m t now)) H' → Q (.ref D) H'
theorem ok_Line_take (T : Txt K mg a) : FnOk P w K mg base CX0 4 a.Line_take a.fd_Line_take ["self", "segment", "now"] (sp_Line_take a) := by
  have G_Body_hears := ok_Body_hears (P := P) (w := w) (base := base) T
  have G_Line_hears_answer := ok_Line_hears_answer (P := P) (w := w) (base := base) T
  refine T.fn_Line_take.ok sc_Line_take (fun vs H Q E h => ?_) (fun cdv A outer s H vs Q E hr h => ?_)
  · obtain ⟨_, _, _, _, _, _, _, _, _, _, _, _, _, _, _, _, rfl, _⟩ := h
    rfl
  · obtain ⟨B, l, dl, g, X, A, S, w0, w3, to, sn, ep, m, now, kind, t, rfl, hs, hg, ok, k⟩ := h
    have c1 := T.cl_Line
    have n1 := T.na_Line_epoch
    have n3 := T.na_Line_state
    have n4 := T.na_Line__to
    have n5 := T.na_Line__body
    have hg2 : H g = _ := hs.same _ _ hg
    have at4 : atI [w0, .int to, .int sn, w3, .int ep, .str kind, .int m, .str t] 4 = some (.int ep) := rfl
    refine ⟨_, (pss_cons (ps_par (i := 3) (j := 4) rfl sc_Line_take.nd rfl rfl (by decide) rfl rfl (pa_cons (pe_ix (ix_tupK (K := K)) (pv 1) pe_int (fun _ _ => rfl)) (pa_cons (pe_ix (ix_tupK (K := K)) (pv 1) pe_int (fun _ _ => rfl)) pa_nil)) (by rfl))
  (pss_cons (ps_asg (pe_slice (sl_tupK (K := K)) (pv 1) (po_some pe_int) po_none) (pg_tupK (K := K) rfl (pgs_cons (pg_name (i := 5) sc_Line_take.nd rfl (Or.inl rfl)) (pgs_cons (pg_name (i := 6) sc_Line_take.nd rfl (Or.inl rfl)) (pgs_cons (pg_name (i := 7) sc_Line_take.nd rfl (Or.inl rfl)) pgs_nil)))))
  (pss_cons (ps_if (PW.pt (pw_or (pt_cmpR op_ne (pv 3) (pe_fldK (K := K) (pv 0)) (nomark _)) (pw_or1 (pt_cmpR op_ne (pv 4) (pe_fldK (K := K) (pv 0)) (nomark _)))))
  (pss_one (ps_ret (pe_lst pa_nil)))
  pss_nil)
  (pss_cons (ps_if (pt_cmpR op_eq (pe_fldK (K := K) (pv 0)) pe_str (nomark _))
  (pss_one (ps_ret (pe_meth (pe_fldK (K := K) (pv 0)) T.cl_Body T.me_Body_hears G_Body_hears (hr.mono (by decide)) T.bi_Body_hears .nil pass0 (pa_cons (pv 5) (pa_cons (pv 6) (pa_cons (pv 7) (pa_cons (pv 2) pa_nil)))))))
  pss_nil)
  (C8.pss_cut (ps_if (pt_cmpR op_eq (pe_fldK (K := K) (pv 0)) pe_str (nomark _))
  (pss_one (ps_expr (pe_meth (pv 0) T.cl_Line T.me_Line_hears_answer G_Line_hears_answer (hr.mono (by decide)) T.bi_Line_hears_answer .nil pass0 (pa_cons (pv 5) (pa_cons (pv 6) (pa_cons (pv 2) pa_nil))))))
  pss_nil)
  (pss_one (ps_ret (pe_lst pa_nil)))))))), ?_⟩
    walk_at "ss"
    refine w_slT 5 rfl hs (SqT.of hg2) (by decide) (by exact Nat.le_of_ble_eq_true rfl) fun g2 H2 hs2 => ?_
    have hs3 : Hs B ((g2, .tup [.str kind, .int m, .str t]) :: lineL a l dl X A S) H2 := hs2
    clear hs hs2
    walk_at "ss"
    refine ifn (fun h1 => ?_) (fun h1 => ?_)
    · walk_at "ss"
      rename_i D H4 hs4
      have := k D A.r H4
      unfold takeL takeX takeS at this
      rw [if_pos (.inl h1), if_pos (.inl h1), if_pos (.inl h1)] at this
      exact this (hs4.sel [0, 2, 3, 4, 5, 6, 7, 8])
    · walk_at "ss"
      refine ifn (fun h2 => ?_) (fun h2 => ?_)
      · walk_at "ss"
        rename_i D H4 hs4
        have := k D A.r H4
        unfold takeL takeX takeS at this
        rw [if_pos (.inr h2), if_pos (.inr h2), if_pos (.inr h2)] at this
        exact this (hs4.sel [0, 2, 3, 4, 5, 6, 7, 8])
      · have h3 : ¬ (sn ≠ X.to ∨ ep ≠ X.ep) := fun z => z.elim (fun z => z h1) (fun z => z h2)
        walk_at "ss"
        refine ifd (fun h4 => ?_) (fun h4 => ?_)
        · walk_at "ss"
          have hs4 : Hs _ (bodyL a A S ++ [_]) _ := hs3.sel [2, 3, 4, 5, 6, 7, 1]
          refine w_hears hs4 ok fun D r H4 hs5 => ?_
          have := k D r H4
          unfold takeL takeX takeS at this
          rw [if_neg h3, if_pos h4, if_neg h3, if_pos h4, if_neg h3, if_pos h4] at this
          exact this (hs5.sel [0, 7, 1, 2, 3, 4, 5, 6])
        · walk_at "ss"
          refine w_cut (fun σ' H' => Hs B (lineL a l dl (takeX X sn ep kind m) A (takeS X S sn ep kind m t now)) H') ?_ ?_
          · walk_at "ss"
            refine ifd (fun h5 => ?_) (fun h5 => ?_)
            · walk_at "ss"
              refine ⟨B, l, dl, X, A, S, kind, m, now, rfl, hs3.sel [1, 2, 3, 4, 5, 6, 7], fun H4 hs4 => ?_⟩
              walk_at "ss"
              unfold takeX takeS
              rw [if_neg h3, if_neg h4, if_pos h5, if_neg h3, if_neg h4, if_pos h5]
              exact hs4
            · walk_at "ss"
              unfold takeX takeS
              rw [if_neg h3, if_neg h4, if_neg h5, if_neg h3, if_neg h4, if_neg h5]
              exact hs3.sel [1, 2, 3, 4, 5, 6, 7]
          · intro σ' H' hs4
            clear hs3
            walk_at "ss"
            rename_i D H5 hs5
            have := k D A.r H5
            unfold takeL at this
            rw [if_neg h3, if_neg h4] at this
            exact this hs5
end

section
variable {P : Program} [IsP P] {w : World} {K : PySem.W.Frag} {mg : Str → Option Value} {base : Heap} {a : Ad}
/-! ### the switch's end -/
/-- what a guest knows, its body aside -/
structure GS where
  (ep bo own : Int) (quiet : Bool)
abbrev guestO (a : Ad) (dg : Addr) (X : GS) (b : V) : HO := .ins a.Guest dg [("epoch", .int X.ep), ("boot", .int X.bo), ("_own", .int X.own), ("_body", b), ("_quiet", .bl X.quiet)]
abbrev guestL (a : Ad) (g dg : Addr) (X : GS) : Option (BA × BS) → List (Addr × HO)
  | none => [(g, guestO a dg X .non)]
  | some (A, S) => (g, guestO a dg X (.ref A.b)) :: bodyL a A S
def sp_Guest_init (a : Ad) : Sp := fun vs H Q _ => ∃ (B : Hp) (g dg : Addr) (own boot : Int), vs = [.ref g, .int own, .int boot] ∧ Hs B [(g, .ins a.Guest dg [])] H ∧ ∀ H', Hs B (guestL a g dg ⟨0, boot, own, true⟩ none) H' → Q .non H'
/-- a body with one message more -/
def putO (t : Str) : Option (BA × BS) → Option (BA × BS)
  | none => none
  | some (A, S) => some (A, { S with rows := S.rows ++ [t] })
def fitO : Option (BA × BS) → Prop
  | none => True
  | some (_, S) => S.rows.length < 300
instance : (o : Option (BA × BS)) → Decidable (fitO o)
  | none => isTrue trivial
  | some (_, S) => inferInstanceAs (Decidable (S.rows.length < 300))
def okO : Option (BA × BS) → Prop
  | none => True
  | some (_, S) => BOk S
def sp_Guest_send (a : Ad) : Sp := fun vs H Q E => ∃ (B : Hp) (g dg : Addr) (X : GS) (o : Option (BA × BS)) (t : Str), vs = [.ref g, .str t] ∧ Hs B (guestL a g dg X o) H ∧ okO o ∧
  (fitO o → ∀ H', Hs B (guestL a g dg X (putO t o)) H' → Q .non H') ∧
  (¬ fitO o → ∀ d H', Hs B ((d, .xd [("place", .str "queue")]) :: guestL a g dg X o) H' → E (.ref a.RoomError) (some d) H')
def gtickT (X : GS) (now : Int) : Option (BA × BS) → List (Str × Int × Str)
  | none => []
  | some (_, S) => if X.quiet then [] else saysT S now
def gtickO (X : GS) (now : Int) : Option (BA × BS) → Option (BA × BS)
  | none => none
  | some (A, S) => if X.quiet then some (A, S) else some (A, saysS S now)
def sp_Guest_tick (K : PySem.W.Frag) (a : Ad) : Sp := fun vs H Q _ => ∃ (B : Hp) (g dg : Addr) (X : GS) (o : Option (BA × BS)) (now : Int), vs = [.ref g, .int now] ∧ Hs B (guestL a g dg X o) H ∧ okO o ∧ (X.quiet = false → o.isSome = true) ∧
  ∀ D acc H', Hs B ((D, .lst acc) :: guestL a g dg X (gtickO X now o)) H' → ImAll K H' acc ((gtickT X now o).map (segD 0 X.own X.ep)) → Q (.ref D) H'
/-- what a guest answers to a hail -/
def ansT (X : GS) (ep m : Int) : List (Str × Int × Str) := if m ≠ X.bo then [(("here" : Str), X.bo, ("" : Str))] else if ep < X.ep then [] else [(("open" : Str), X.bo, ("" : Str))]
def ansG (X : GS) (ep m : Int) : GS := if m ≠ X.bo then X else if X.ep < ep then { X with ep := ep, quiet := true } else X
def ansO (X : GS) (ep m : Int) (o : Option BS) : Option BS := if m ≠ X.bo then o else if X.ep < ep then some S0 else o
def sp_Guest_answers (K : PySem.W.Frag) (a : Ad) : Sp := fun vs H Q _ => ∃ (B : Hp) (g dg : Addr) (X : GS) (o : Option (BA × BS)) (ep m : Int), vs = [.ref g, .int ep, .int m] ∧ Hs B (guestL a g dg X o) H ∧
  ∀ D acc o' H', o'.map (·.2) = ansO X ep m (o.map (·.2)) → Hs B ((D, .lst acc) :: guestL a g dg (ansG X ep m) o') H' → ImAll K H' acc ((ansT X ep m).map (segD 0 X.own ep)) → Q (.ref D) H'
theorem ok_Guest_init (T : Txt K mg a) : FnOk P w K mg base CX0 1 a.Guest_init a.fd_Guest_init ["self", "own", "boot"] (sp_Guest_init a) := by
  refine T.fn_Guest_init.ok sc_Guest_init (fun vs H Q E h => ?_) (fun cdv A outer s H vs Q E hr h => ?_)
  · obtain ⟨_, _, _, _, _, rfl, _⟩ := h
    rfl
  · obtain ⟨B, g, dg, own, boot, rfl, hs, k⟩ := h
    have c1 := T.cl_Guest
    have n1 := T.na_Guest_epoch
    have n2 := T.na_Guest_boot
    have n3 := T.na_Guest__own
    have n4 := T.na_Guest__body
    have n5 := T.na_Guest__quiet
    refine ⟨_, (pss_cons (ps_fldK (K := K) (pv 0) pe_int)
  (pss_cons (ps_fldK (K := K) (pv 0) (pv 2))
  (pss_cons (ps_fldK (K := K) (pv 0) (pv 1))
  (pss_cons (ps_fldK (K := K) (pv 0) pe_non)
  (pss_one (ps_fldK (K := K) (pv 0) pe_bl)))))), ?_⟩
    walk_at "ss"
    exact k _ (by assumption)
theorem ok_Guest_send (T : Txt K mg a) : FnOk P w K mg base (CX P w) 4 a.Guest_send a.fd_Guest_send ["self", "text"] (sp_Guest_send a) := by
  have G_Sender_put := ok_Sender_put (P := P) (w := w) (base := base) T
  refine T.fn_Guest_send.okX sc_Guest_send (fun vs H Q E h => ?_) (fun cdv A outer s H vs Q E hr h => ?_)
  · obtain ⟨_, _, _, _, _, _, rfl, _⟩ := h
    rfl
  · obtain ⟨B, g, dg, X, o, t, rfl, hs, ok, k1, k2⟩ := h
    have c1 := T.cl_Guest
    have n4 := T.na_Guest__body
    have m1 := T.na_Body_sender
    have c2 := T.cl_Body
    have c3 := T.cl_Sender
    refine ⟨_, (pss_one (ps_if (pt_cmpR op_notNQ (pe_fldK (K := K) (pv 0)) pe_non (nomark _))
  (pss_one (ps_expr (pe_meth (pe_fldK (K := K) (pe_fldK (K := K) (pv 0))) T.cl_Sender T.me_Sender_put G_Sender_put (hr.mono (by decide)) T.bi_Sender_put .nil (passes_call (takes_of rfl rfl rfl rfl) fun _ _ _ _ h => h) (pa_cons (pv 1) pa_nil))))
  pss_nil)), ?_⟩
    match o, hs, ok, k1, k2 with
    | none, hs, ok, k1, k2 =>
      have hs : Hs B [_] H := hs
      walk_at "ss"
      exact k1 trivial H hs
    | some (A, S), hs, ok, k1, k2 =>
      have hs : Hs B [_, _, _, _, _, _, _] H := hs
      walk_at "ss"
      refine ifn (fun _ => ?_) (fun h => nomatch h)
      walk_at "ss"
      have hs3 : Hs _ [_, _, _, _, _, _, _] _ := hs.sel [2, 3, 0, 1, 4, 5, 6]
      refine w_putE hs3 ok.rl (fun h0 H4 hs4 => ?_) (fun h0 d H4 hs4 => ?_)
      · walk_at "ss"
        exact k1 h0 H4 (hs4.sel [2, 3, 0, 1, 4, 5, 6])
      · exact k2 (Nat.not_lt.mpr h0) d H4 (hs4.sel [0, 3, 4, 1, 2, 5, 6, 7])
theorem ok_Guest_tick (T : Txt K mg a) : FnOk P w K mg base CX0 4 a.Guest_tick a.fd_Guest_tick ["self", "now"] (sp_Guest_tick K a) := by
  have G_Body_says := ok_Body_says (P := P) (w := w) (base := base) T
  have G_segments_of := ok_segments_of (P := P) (w := w) (base := base) T
  refine T.fn_Guest_tick.ok sc_Guest_tick (fun vs H Q E h => ?_) (fun cdv A outer s H vs Q E hr h => ?_)
  · obtain ⟨_, _, _, _, _, _, rfl, _⟩ := h
    rfl
  · obtain ⟨B, g, dg, X, o, now, rfl, hs, ok, oq, k⟩ := h
    have c1 := T.cl_Guest
    have n1 := T.na_Guest_epoch
    have n3 := T.na_Guest__own
    have n4 := T.na_Guest__body
    have n5 := T.na_Guest__quiet
    have c2 := T.cl_Body
    refine ⟨_, (pss_cons (ps_if (pt_val (pe_fldK (K := K) (pv 0)))
  (pss_one (ps_ret (pe_lst pa_nil)))
  pss_nil)
  (pss_one (ps_ret (pe_call G_segments_of (hr.mono (by decide)) rfl T.mg_segments_of T.kp_segments_of T.bi_segments_of .nil pass0 (pa_cons (pe_glob (v := .int 0) rfl (Exists.choose_spec T.mg_CONTROLLER) ⟨_, rfl⟩) (pa_cons (pe_fldK (K := K) (pv 0)) (pa_cons (pe_fldK (K := K) (pv 0)) (pa_cons (pe_meth (pe_fldK (K := K) (pv 0)) T.cl_Body T.me_Body_says G_Body_says (hr.mono (by decide)) T.bi_Body_says .nil pass0 (pa_cons (pv 1) pa_nil)) pa_nil)))))))), ?_⟩
    match o, hs, ok, oq, k with
    | none, hs, ok, oq, k =>
      have hs : Hs B [_] H := hs
      have hq : X.quiet = true := by
        cases e : X.quiet with
        | true => rfl
        | false => cases oq e
      walk_at "ss"
      rw [hq]
      walk_at "ss"
      rename_i D H2 hs2
      exact k D [] H2 hs2 .nil
    | some (A, S), hs, ok, oq, k =>
      have hs : Hs B [_, _, _, _, _, _, _] H := hs
      walk_at "ss"
      cases hq : X.quiet with
      | true =>
        walk_at "ss"
        rename_i D H2 hs2
        have := k D [] H2
        have e1 : gtickT X now (some (A, S)) = [] := if_pos hq
        have e2 : gtickO X now (some (A, S)) = some (A, S) := if_pos hq
        rw [e1, e2] at this
        exact this hs2 .nil
      | false =>
        walk_at "ss"
        have hs2 : Hs _ (bodyL a A S ++ [_]) _ := hs.sel [1, 2, 3, 4, 5, 6, 0]
        refine w_says hs2 ok fun D acc H3 hs3 hi => ?_
        clear hs hs2
        walk_at "ss"
        refine ⟨D, acc, _, _, _, saysT S now, rfl, hs3.g0, hi, Nat.le_trans (saysT_len ok) (by decide), fun D' acc' H' h1 h2 => ?_⟩
        have := k D' acc' H'
        have hq2 : ¬ X.quiet = true := by
          rw [hq]
          exact Bool.false_ne_true
        have e1 : gtickT X now (some (A, S)) = saysT S now := if_neg hq2
        have e2 : gtickO X now (some (A, S)) = some (A, saysS S now) := if_neg hq2
        rw [e1, e2] at this
        exact this ((hs3.add h1).sel [0, 8, 2, 3, 4, 5, 6, 7]) h2
theorem w_seg1 {B H : Hp} {Q : VK} {E : XK} {D T0 : Addr} {L : List (Addr × HO)} {to sn ep : Int} (z : Str × Int × Str) (hs : Hs B ((D, .lst [.ref T0]) :: (T0, .tup [.str z.1, .int z.2.1, .str z.2.2]) :: L) H)
    (q : ∀ D' acc' H', Hs B ((D', .lst acc') :: L) H' → ImAll K H' acc' ([z].map (segD to sn ep)) → Q (.ref D') H') : sp_segments_of K [.int to, .int sn, .int ep, .ref D] H Q E := by
  refine ⟨D, [.ref T0], to, sn, ep, [z], rfl, hs.g0, .cons (.tup (hs.get (i := 1) rfl) (.cons (.str _) (.cons (.int _) (.cons (.str _) .nil)))) .nil, Nat.succ_le_succ (Nat.zero_le 999), fun D' acc' H' h1 h2 => q D' acc' H' ?_ h2⟩
  have h3 : Hs B ((D', .lst acc') :: (D, .lst [.ref T0]) :: (T0, .tup [.str z.1, .int z.2.1, .str z.2.2]) :: L) H' := hs.add h1
  exact h3.d1.d1
theorem ok_Guest_answers (T : Txt K mg a) : FnOk P w K mg base CX0 5 a.Guest_answers a.fd_Guest_answers ["self", "epoch", "number"] (sp_Guest_answers K a) := by
  have G_Body_init := ok_Body_init (P := P) (w := w) (base := base) T
  have G_segments_of := ok_segments_of (P := P) (w := w) (base := base) T
  refine T.fn_Guest_answers.ok sc_Guest_answers (fun vs H Q E h => ?_) (fun cdv A outer s H vs Q E hr h => ?_)
  · obtain ⟨_, _, _, _, _, _, _, rfl, _⟩ := h
    rfl
  · obtain ⟨B, g, dg, X, o, ep, m, rfl, hs, k⟩ := h
    have c1 := T.cl_Guest
    have n1 := T.na_Guest_epoch
    have n2 := T.na_Guest_boot
    have n3 := T.na_Guest__own
    have n4 := T.na_Guest__body
    have n5 := T.na_Guest__quiet
    have e0 : ∃ R b, guestL a g dg X o = (g, guestO a dg X b) :: R := by
      match o with
      | none => exact ⟨_, _, rfl⟩
      | some (A, S) => exact ⟨_, _, rfl⟩
    obtain ⟨R, b, e0⟩ := e0
    rw [e0] at hs
    refine ⟨_, (pss_cons (ps_if (pt_cmpR op_ne (pv 2) (pe_fldK (K := K) (pv 0)) (nomark _))
  (pss_one (ps_ret (pe_call G_segments_of (hr.mono (by decide)) rfl T.mg_segments_of T.kp_segments_of T.bi_segments_of .nil pass0 (pa_cons (pe_glob (v := .int 0) rfl (Exists.choose_spec T.mg_CONTROLLER) ⟨_, rfl⟩) (pa_cons (pe_fldK (K := K) (pv 0)) (pa_cons (pv 1) (pa_cons (pe_lst (pa_cons (pe_tup (pa_cons pe_str (pa_cons (pe_fldK (K := K) (pv 0)) (pa_cons pe_str pa_nil)))) pa_nil)) pa_nil)))))))
  pss_nil)
  (pss_cons (ps_if (pt_cmpR op_lt (pv 1) (pe_fldK (K := K) (pv 0)) (nomark _))
  (pss_one (ps_ret (pe_lst pa_nil)))
  pss_nil)
  (C8.pss_cut (ps_if (pt_cmpR op_gt (pv 1) (pe_fldK (K := K) (pv 0)) (nomark _))
  (pss_cons (ps_fldK (K := K) (pv 0) (pv 1))
  (pss_cons (ps_fldK (K := K) (pv 0) (pe_make0 T.mk_Body G_Body_init (hr.mono (by decide)) rfl T.mg_Body T.bi_Body_init .nil pass0))
  (pss_one (ps_fldK (K := K) (pv 0) pe_bl))))
  pss_nil)
  (pss_one (ps_ret (pe_call G_segments_of (hr.mono (by decide)) rfl T.mg_segments_of T.kp_segments_of T.bi_segments_of .nil pass0 (pa_cons (pe_glob (v := .int 0) rfl (Exists.choose_spec T.mg_CONTROLLER) ⟨_, rfl⟩) (pa_cons (pe_fldK (K := K) (pv 0)) (pa_cons (pv 1) (pa_cons (pe_lst (pa_cons (pe_tup (pa_cons pe_str (pa_cons (pe_fldK (K := K) (pv 0)) (pa_cons pe_str pa_nil)))) pa_nil)) pa_nil)))))))))), ?_⟩
    walk_at "ss"
    refine ifn (fun h1 => ?_) (fun h1 => ?_)
    · walk_at "ss"
      rename_i T0 H2 hs2 D H3 hs3
      refine w_seg1 ("here", X.bo, "") hs3 fun D' acc' H4 hs4 hi => ?_
      have := k D' acc' o H4
      unfold ansO ansG ansT at this
      rw [if_pos h1, if_pos h1, if_pos h1, e0] at this
      exact this rfl hs4 hi
    · walk_at "ss"
      refine ifd (fun h2 => ?_) (fun h2 => ?_)
      · walk_at "ss"
        rename_i D H3 hs3
        have := k D [] o H3
        unfold ansO ansG ansT at this
        rw [if_neg (fun z => z h1), if_neg (by omega), if_neg (fun z => z h1), if_neg (by omega), if_neg (fun z => z h1), if_pos h2, e0] at this
        exact this rfl hs3 .nil
      · walk_at "ss"
        refine w_cut (fun σ' H' => σ' = [some (.ref g), some (.int ep), some (.int m)] ∧ ∃ o', o'.map (·.2) = ansO X ep m (o.map (·.2)) ∧ Hs B (guestL a g dg (ansG X ep m) o') H') ?_ ?_
        · walk_at "ss"
          have ea : ansO X ep m (o.map (·.2)) = if X.ep < ep then some S0 else o.map (·.2) := if_neg (fun z => z h1)
          have eg : ansG X ep m = if X.ep < ep then { X with ep := ep, quiet := true } else X := if_neg (fun z => z h1)
          rw [ea, eg]
          refine ifd (fun h3 => ?_) (fun h3 => ?_)
          · walk_at "ss"
            rename_i H2 hs2
            refine w_mkBody hs2 fun A2 H3 hs3 => ?_
            clear hs hs2
            have hs4 : Hs B (_ :: _ :: _ :: _ :: _ :: _ :: _ :: R) _ := hs3
            clear hs3
            walk_at "ss"
            rename_i H5 hs5
            refine ⟨rfl, some (A2, S0), ?_, ?_⟩
            · rw [if_pos h3]
              rfl
            · rw [if_pos h3]
              exact hs5.sel [6, 0, 1, 2, 3, 4, 5]
          · walk_at "ss"
            refine ⟨rfl, o, ?_, ?_⟩
            · rw [if_neg h3]
            · rw [if_neg h3, e0]
              exact hs
        · rintro σ' H' ⟨rfl, o2, e2, hs2⟩
          clear hs e0
          have e0 : ∃ R b, guestL a g dg (ansG X ep m) o2 = (g, guestO a dg (ansG X ep m) b) :: R := by
            match o2 with
            | none => exact ⟨_, _, rfl⟩
            | some (A, S) => exact ⟨_, _, rfl⟩
          obtain ⟨R2, b2, e0⟩ := e0
          have hk : ∀ D acc H', Hs B ((D, .lst acc) :: (g, guestO a dg (ansG X ep m) b2) :: R2) H' → ImAll K H' acc ((ansT X ep m).map (segD 0 X.own ep)) → Q (.ref D) H' := fun D acc H' h h' => k D acc o2 H' e2 (by rw [e0]; exact h) h'
          rw [e0] at hs2
          have eb : (ansG X ep m).bo = X.bo := by
            unfold ansG
            split
            · rfl
            · split <;> rfl
          have ew : (ansG X ep m).own = X.own := by
            unfold ansG
            split
            · rfl
            · split <;> rfl
          have et : ansT X ep m = [(("open" : Str), X.bo, ("" : Str))] := by
            unfold ansT
            rw [if_neg (fun z => z h1), if_neg h2]
          rw [et] at hk
          walk_at "ss"
          rename_i T0 H3 hs3 D H4 hs4
          rw [ew]
          rw [eb] at hs4
          refine w_seg1 ("open", X.bo, "") hs4 fun D' acc' H5 hs5 hi => ?_
          exact hk D' acc' H5 hs5 hi
/-- what a guest does with a segment that is not a hail -/
def mineG (X : GS) (ep : Int) (kind : Str) (os : Option BS) : Prop := (kind = "data" ∨ kind = "ack") ∧ os.isSome = true ∧ ep = X.ep
instance {X : GS} {ep : Int} {kind : Str} {os : Option BS} : Decidable (mineG X ep kind os) := inferInstanceAs (Decidable (_ ∧ _ ∧ _))
def gtakeL (X : GS) (ep m : Int) (kind t : Str) (os : Option BS) : List V := if kind = "hail" then [] else if mineG X ep kind os then (match os with | none => [] | some S => hearsL S kind m t) else []
def gtakeT (X : GS) (ep m : Int) (kind : Str) : List (Str × Int × Str) := if kind = "hail" then ansT X ep m else []
def gtakeG (X : GS) (ep m : Int) (kind : Str) (os : Option BS) : GS := if kind = "hail" then ansG X ep m else if mineG X ep kind os then { X with quiet := false } else X
def gtakeO (X : GS) (ep m now : Int) (kind t : Str) (os : Option BS) : Option BS := if kind = "hail" then ansO X ep m os else if mineG X ep kind os then os.map fun S => hearsS S kind m t now else os
def sp_Guest_take (K : PySem.W.Frag) (a : Ad) : Sp := fun vs H Q _ => ∃ (B : Hp) (g dg z : Addr) (X : GS) (o : Option (BA × BS)) (w0 w1 w2 w3 : V) (ep m now : Int) (kind t : Str), vs = [.ref g, .ref z, .int now] ∧ Hs B (guestL a g dg X o) H ∧ B z = some (.tup [w0, w1, w2, w3, .int ep, .str kind, .int m, .str t]) ∧ okO o ∧
  ∀ p D1 D2 acc o' H', o'.map (·.2) = gtakeO X ep m now kind t (o.map (·.2)) → Hs B ((p, .tup [.ref D1, .ref D2]) :: (D1, .lst (gtakeL X ep m kind t (o.map (·.2)))) :: (D2, .lst acc) :: guestL a g dg (gtakeG X ep m kind (o.map (·.2))) o') H' → ImAll K H' acc ((gtakeT X ep m kind).map (segD 0 X.own ep)) → Q (.ref p) H'
theorem w_answers {B H : Hp} {Q : VK} {E : XK} {g dg : Addr} {X : GS} {o : Option (BA × BS)} {ep m : Int} {R : List (Addr × HO)} (hs : Hs B (guestL a g dg X o ++ R) H)
    (q : ∀ D acc o' H', o'.map (·.2) = ansO X ep m (o.map (·.2)) → Hs B (((D, .lst acc) :: guestL a g dg (ansG X ep m) o') ++ R) H' → ImAll K H' acc ((ansT X ep m).map (segD 0 X.own ep)) → Q (.ref D) H') : sp_Guest_answers K a [.ref g, .int ep, .int m] H Q E := by
  obtain ⟨_, h1, back⟩ := hs.frame (guestL a g dg X o)
  exact ⟨_, g, dg, X, o, ep, m, rfl, h1, fun D acc o' H' e h2 h3 => q D acc o' H' e (back _ _ h2) h3⟩
theorem hs_comm {B H : Hp} {A R : List (Addr × HO)} (hs : Hs B (A ++ R) H) : Hs B (R ++ A) H := hs.perm List.perm_append_comm
theorem guestL_nt {g dg : Addr} {X : GS} {o : Option (BA × BS)} : (guestL a g dg X o).all (fun e => ntB e.2) = true := by
  match o with
  | none => rfl
  | some (A, S) => rfl
theorem guest_at {B H : Hp} {R : List (Addr × HO)} {g dg : Addr} {X : GS} {o : Option (BA × BS)} (hs : Hs B (guestL a g dg X o ++ R) H) : ∃ b, H g = some (guestO a dg X b) := by
  match o, hs with
  | none, hs => exact ⟨_, hs.get (i := 0) rfl⟩
  | some (A, S), hs => exact ⟨_, hs.get (i := 0) rfl⟩
theorem ok_Guest_take (T : Txt K mg a) : FnOk P w K mg base CX0 6 a.Guest_take a.fd_Guest_take ["self", "segment", "now"] (sp_Guest_take K a) := by
  have G_Body_hears := ok_Body_hears (P := P) (w := w) (base := base) T
  have G_Guest_answers := ok_Guest_answers (P := P) (w := w) (base := base) T
  refine T.fn_Guest_take.ok sc_Guest_take (fun vs H Q E h => ?_) (fun cdv A outer s H vs Q E hr h => ?_)
  · obtain ⟨_, _, _, _, _, _, _, _, _, _, _, _, _, _, _, rfl, _⟩ := h
    rfl
  · obtain ⟨B, g, dg, z, X, o, w0, w1, w2, w3, ep, m, now, kind, t, rfl, hs, hg, ok, k⟩ := h
    have c1 := T.cl_Guest
    have n1 := T.na_Guest_epoch
    have n4 := T.na_Guest__body
    have n5 := T.na_Guest__quiet
    have hg2 : H z = _ := hs.same _ _ hg
    refine ⟨_, (pss_cons (ps_asg (pe_slice (sl_tupK (K := K)) (pv 1) (po_some pe_int) po_none) (pg_tupK (K := K) rfl (pgs_cons (pg_name (i := 3) sc_Guest_take.nd rfl (Or.inl rfl)) (pgs_cons (pg_name (i := 4) sc_Guest_take.nd rfl (Or.inl rfl)) (pgs_cons (pg_name (i := 5) sc_Guest_take.nd rfl (Or.inl rfl)) (pgs_cons (pg_name (i := 6) sc_Guest_take.nd rfl (Or.inl rfl)) pgs_nil))))))
  (pss_cons (ps_if (pt_cmpR op_eq (pv 4) pe_str (nomark _))
  (pss_one (ps_ret (pe_tup (pa_cons (pe_lst pa_nil) (pa_cons (pe_meth (pv 0) T.cl_Guest T.me_Guest_answers G_Guest_answers (hr.mono (by decide)) T.bi_Guest_answers .nil pass0 (pa_cons (pv 3) (pa_cons (pv 5) pa_nil))) pa_nil)))))
  pss_nil)
  (pss_cons (ps_if (PW.pt (pw_or (pt_cmpR (op_niK (K := K)) (pv 4) (pe_tup (pa_cons pe_str (pa_cons pe_str pa_nil))) (by rfl)) (pw_or (pt_cmpR op_isNQ (pe_fldK (K := K) (pv 0)) pe_non (nomark _)) (pw_or1 (pt_cmpR op_ne (pv 3) (pe_fldK (K := K) (pv 0)) (nomark _))))))
  (pss_one (ps_ret (pe_tup (pa_cons (pe_lst pa_nil) (pa_cons (pe_lst pa_nil) pa_nil)))))
  pss_nil)
  (pss_cons (ps_fldK (K := K) (pv 0) pe_bl)
  (pss_one (ps_ret (pe_tup (pa_cons (pe_meth (pe_fldK (K := K) (pv 0)) T.cl_Body T.me_Body_hears G_Body_hears (hr.mono (by decide)) T.bi_Body_hears .nil pass0 (pa_cons (pv 4) (pa_cons (pv 5) (pa_cons (pv 6) (pa_cons (pv 2) pa_nil))))) (pa_cons (pe_lst pa_nil) pa_nil))))))))), ?_⟩
    walk_at "ss"
    refine w_slT 4 rfl hs (SqT.of hg2) (by decide) (by exact Nat.le_of_ble_eq_true rfl) fun g2 H2 hs2 => ?_
    have hs3 : Hs B ((g2, .tup [.int ep, .str kind, .int m, .str t]) :: guestL a g dg X o) H2 := hs2
    clear hs hs2
    walk_at "ss"
    have hs := hs3.tl
    clear hs3
    refine ifd (fun h1 => ?_) (fun h1 => ?_)
    · walk_at "ss"
      rename_i D1 H4 hs4
      obtain ⟨b, hb⟩ := guest_at (hs_comm (A := [_]) hs4)
      walk_at "ss"
      refine w_answers (hs_comm (A := [_]) hs4) fun D2 acc o' H5 e hs5 hi => ?_
      clear hs hs4
      have hs6 : Hs B ((D1, .lst []) :: (D2, .lst acc) :: guestL a g dg (ansG X ep m) o') H5 := hs_comm (A := (D2, .lst acc) :: guestL a g dg (ansG X ep m) o') hs5
      have hi2 := im_around (hs_nt hs6 (by
        show (true && (true && (guestL a g dg (ansG X ep m) o').all (fun e => ntB e.2))) = true
        rw [guestL_nt]
        rfl)) hi
      obtain ⟨sb, hs7⟩ := hs6.rebase
      clear hs5 hs6
      walk_at "ss"
      rename_i p H8 hs8
      have := k p D1 D2 acc o' H8
      unfold gtakeO gtakeL gtakeG gtakeT at this
      rw [if_pos h1, if_pos h1, if_pos h1, if_pos h1] at this
      exact this e (hs8.base sb) (hi2.same hs8.same)
    · have kno : ¬ mineG X ep kind (o.map (·.2)) → ∀ p D1 D2 H', Hs B ((p, .tup [.ref D1, .ref D2]) :: (D1, .lst []) :: (D2, .lst []) :: guestL a g dg X o) H' → Q (.ref p) H' := fun hn p D1 D2 H' h => by
        have := k p D1 D2 [] o H'
        unfold gtakeO gtakeL gtakeG gtakeT at this
        rw [if_neg h1, if_neg hn, if_neg h1, if_neg hn, if_neg h1, if_neg hn, if_neg h1] at this
        exact this rfl h .nil
      walk_at "ss"
      rename_i p0 H4 hs4
      refine w_inT (SqT.of hs4.g0) rfl rfl ?_
      have hs5 := hs4.tl
      clear hs hs4
      by_cases h2 : kind = "data" ∨ kind = "ack"
      · rw [in2 h2]
        refine ⟨false, rfl, iteF ?_⟩
        match o, hs5, ok, k, kno with
        | none, hs5, ok, k, kno =>
          have hs : Hs B [_] H4 := hs5
          clear hs5
          walk_at "ss"
          refine ifd (fun _ => ?_) (fun h => absurd rfl h)
          walk_at "ss"
          rename_i D1 H5 hs5 D2 H6 hs6 p H7 hs7
          exact kno (fun z => nomatch z.2.1) p D1 D2 H7 (hs7.sel [0, 2, 1, 3])
        | some (A, S), hs5, ok, k, kno =>
          have hs : Hs B [_, _, _, _, _, _, _] H4 := hs5
          clear hs5
          walk_at "ss"
          refine ifd (fun h => nomatch h) (fun _ => ?_)
          walk_at "ss"
          refine ifn (fun h3 => ?_) (fun h3 => ?_)
          · walk_at "ss"
            rename_i D1 H5 hs5 D2 H6 hs6 p H7 hs7
            exact kno (fun z => h3 z.2.2) p D1 D2 H7 (hs7.sel [0, 2, 1, 3, 4, 5, 6, 7, 8, 9])
          · walk_at "ss"
            rename_i H5 hs5
            have hs6 : Hs _ (bodyL a A S ++ [_]) _ := hs5.sel [1, 2, 3, 4, 5, 6, 0]
            refine w_hears hs6 ok fun D r H6 hs7 => ?_
            clear hs hs5 hs6
            have hs : Hs B [_, _, _, _, _, _, _, _] H6 := hs7
            clear hs7
            walk_at "ss"
            rename_i D2 H7 hs7 p H8 hs8
            have hm : mineG X ep kind ((some (A, S)).map (·.2)) := ⟨h2, rfl, h3⟩
            have := k p D D2 [] (some ({ A with r := r }, hearsS S kind m t now)) H8
            unfold gtakeO gtakeL gtakeG gtakeT at this
            rw [if_neg h1, if_pos hm, if_neg h1, if_pos hm, if_neg h1, if_pos hm, if_neg h1] at this
            exact this rfl (hs8.sel [0, 2, 1, 9, 3, 4, 5, 6, 7, 8]) .nil
      · rw [nin2 h2]
        refine ⟨true, rfl, iteT ?_⟩
        walk_at "ss"
        rename_i D1 H5 hs6 D2 H6 hs7 p H7 hs8
        exact kno (fun z => h2 z.1) p D1 D2 H7 hs8.m2.m1
end

local macro_rules | `(tactic| walk_at "v") => `(tactic| first | exact v0 | exact v1 | exact v2 | exact v3 | exact v4 | exact v5 | exact v6 | exact v7 | exact v8)
local macro_rules | `(tactic| walk_at "vs") => `(tactic| first | exact st0 | exact st1 | exact st2 | exact st3 | exact st4 | exact st5 | exact st6 | exact st7 | exact st8)
local macro_rules | `(tactic| walk_at "s") => `(tactic| first
  | with_reducible refine w_dget ?_
  | ((with_reducible refine' w_dgetZ ?h ?nd ?hk ?hv ?_); (case h => walk_at "g"); (case nd => walk_at "nd"); (case hk => walk_at "k"); (case hv => walk_at "v"))
  | ((with_reducible refine' w_dputZ ?hs ?h ?nd ?hk ?hv ?hu ?hl ?_); (case hs => assumption); (case h => walk_at "p"); (case nd => walk_at "nd"); (case hk => walk_at "k"); (case hv => walk_at "v"); (case hu => walk_at "vs"); (case hl => decide); intro _ _)
  | with_reducible refine w_gsub ?_
  | with_reducible refine w_setD ?_
  | with_reducible refine w_disp ?_
  | ((with_reducible refine' w_newP ?hs ?_); (case hs => assumption); intro _ _ _)
  | with_reducible refine w_pcons ?_
  | with_reducible refine w_pnil ?_)

section
variable {P : Program} [IsP P] {w : World} {K : PySem.W.Frag} {mg : Str → Option Value} {base : Heap} {a : Ad}
/-! ### the law's plain model of a body -/
abbrev bK : List Str := ["first", "rows", "said", "next", "early", "when", "wait", "tries", "owes"]
theorem bK_nd : bK.Nodup := by decide +kernel
theorem bK_first : bK[0]? = some ("first" : Str) := rfl
theorem bK_rows : bK[1]? = some ("rows" : Str) := rfl
theorem bK_said : bK[2]? = some ("said" : Str) := rfl
theorem bK_next : bK[3]? = some ("next" : Str) := rfl
theorem bK_early : bK[4]? = some ("early" : Str) := rfl
theorem bK_when : bK[5]? = some ("when" : Str) := rfl
theorem bK_wait : bK[6]? = some ("wait" : Str) := rfl
theorem bK_tries : bK[7]? = some ("tries" : Str) := rfl
theorem bK_owes : bK[8]? = some ("owes" : Str) := rfl
abbrev mK : List Str := ["epoch", "boot", "state", "body"]
theorem mK_nd : mK.Nodup := by decide +kernel
theorem mK_epoch : mK[0]? = some ("epoch" : Str) := rfl
theorem mK_boot : mK[1]? = some ("boot" : Str) := rfl
theorem mK_state : mK[2]? = some ("state" : Str) := rfl
theorem mK_body : mK[3]? = some ("body" : Str) := rfl
abbrev gK : List Str := ["epoch", "boot", "body", "awake"]
theorem gK_nd : gK.Nodup := by decide +kernel
theorem gK_epoch : gK[0]? = some ("epoch" : Str) := rfl
theorem gK_boot : gK[1]? = some ("boot" : Str) := rfl
theorem gK_body : gK[2]? = some ("body" : Str) := rfl
theorem gK_awake : gK[3]? = some ("awake" : Str) := rfl
local macro_rules | `(tactic| walk_at "nd") => `(tactic| first | exact bK_nd | exact mK_nd | exact gK_nd)
local macro_rules | `(tactic| walk_at "k") => `(tactic| first | exact bK_first | exact bK_rows | exact bK_said | exact bK_next | exact bK_early | exact bK_when | exact bK_wait | exact bK_tries | exact bK_owes | exact mK_epoch | exact mK_boot | exact mK_state | exact mK_body | exact gK_epoch | exact gK_boot | exact gK_body | exact gK_awake)

@[reducible] def optV : Option Int → V
  | none => .non
  | some n => .int n
structure MB where
  (b r e : Addr)
abbrev mbo (S : BS) (r e : Addr) : HO := .dK (zipK bK [.int S.f, .ref r, .int S.s, .int S.n, .ref e, optV S.d, .int S.w, .int S.t, .bl S.o])
abbrev mbL (M : MB) (S : BS) : List (Addr × HO) := [(M.b, mbo S M.r M.e), (M.r, lst S.rows), (M.e, .dK S.kv)]
def sp__law_body : Sp := fun vs H Q _ => vs = [] ∧ ∀ M H', Hs H (mbL M S0) H' → Q (.ref M.b) H'
def sp__law_start : Sp := fun vs H Q _ => ∃ (B : Hp) (b r e : Addr) (S : BS) (now : Int), vs = [.ref b, .int now] ∧ Hs B [(b, mbo S r e)] H ∧ ∀ H', Hs B [(b, mbo { S with d := some (now + 2), w := 2, t := 0 } r e)] H' → Q .non H'
def sp__law_due : Sp := fun vs H Q _ => ∃ (B : Hp) (b r e : Addr) (S : BS) (now : Int), vs = [.ref b, .int now] ∧ Hs B [(b, mbo S r e)] H ∧ ∀ H', Hs B [(b, mbo { S with t := (dueB S.t S.w S.d now).1, w := (dueB S.t S.w S.d now).2.1, d := (dueB S.t S.w S.d now).2.2 } r e)] H' → Q (.bl (isDue S.d now)) H'
theorem ok__law_body (T : Txt K mg a) : FnOk P w K mg base CX0 1 a._law_body a.fd__law_body [] sp__law_body := by
  refine T.fn__law_body.ok sc__law_body (fun vs H Q E h => ?_) (fun cdv A outer s H vs Q E hr h => ?_)
  · obtain ⟨rfl, _⟩ := h
    rfl
  · obtain ⟨rfl, k⟩ := h
    have hs := Hs.start H
    refine ⟨_, (pss_one (ps_ret (pe_disp (pps_cons pe_str pe_int (pps_cons pe_str (pe_lst pa_nil) (pps_cons pe_str pe_int (pps_cons pe_str pe_int (pps_cons pe_str pe_dnewK (pps_cons pe_str pe_non (pps_cons pe_str pe_int (pps_cons pe_str pe_int (pps_cons pe_str pe_bl pps_nil))))))))) (by rfl) (by rfl) (fun z => by cases z) (by decide)))), ?_⟩
    walk_at "ss"
    rename_i b H1 hs1 r H2 hs2 e H3 hs3
    refine w_dispZ bK [.int 0, .ref r, .int 0, .int 0, .ref e, .non, .int 2, .int 0, .bl false] hs3 (by walk_at "p") bK_nd (by decide) rfl fun H4 hs4 => ?_
    walk_at "ss"
    exact k ⟨b, r, e⟩ _ (hs4.sel [2, 1, 0])
theorem ok__law_start (T : Txt K mg a) : FnOk P w K mg base CX0 1 a._law_start a.fd__law_start ["b", "now"] sp__law_start := by
  refine T.fn__law_start.ok sc__law_start (fun vs H Q E h => ?_) (fun cdv A outer s H vs Q E hr h => ?_)
  · obtain ⟨_, _, _, _, _, _, rfl, _⟩ := h
    rfl
  · obtain ⟨B, b, r, e, S, now, rfl, hs, k⟩ := h
    have hu := hu_of hr
    refine ⟨_, (pss_one (ps_asg (pe_tup (pa_cons (pe_op op_add (pv 1) pe_int) (pa_cons pe_int (pa_cons pe_int pa_nil)))) (pg_tupK (K := K) rfl (pgs_cons (pg_sub (pv 0) pe_str (set_dict hu)) (pgs_cons (pg_sub (pv 0) pe_str (set_dict hu)) (pgs_cons (pg_sub (pv 0) pe_str (set_dict hu)) pgs_nil)))))), ?_⟩
    walk_at "ss"
    rename_i H1 h1 H2 h2 H3 h3
    exact k _ h3.tl
theorem ok__law_due (T : Txt K mg a) : FnOk P w K mg base CX0 1 a._law_due a.fd__law_due ["b", "now"] sp__law_due := by
  refine T.fn__law_due.ok sc__law_due (fun vs H Q E h => ?_) (fun cdv A outer s H vs Q E hr h => ?_)
  · obtain ⟨_, _, _, _, _, _, rfl, _⟩ := h
    rfl
  · obtain ⟨B, b, r, e, S, now, rfl, hs, k⟩ := h
    have hu := hu_of hr
    refine ⟨_, (pss_cons (ps_if (PW.pt (pw_or (pt_cmpR op_isNQ (pe_dget hu (pv 0) pe_str (fun _ _ => rfl)) pe_non (nomark _)) (pw_or1 (pt_cmpR op_lt (pv 1) (pe_dget hu (pv 0) pe_str (fun _ _ => rfl)) (nomark _)))))
  (pss_one (ps_ret pe_bl))
  pss_nil)
  (pss_cons (ps_dput hu (pv 0) pe_str (pe_callB (call_minQ rfl) (by rfl) T.mg_min (by decide +kernel) (pa_cons pe_int (pa_cons (pe_op op_mul pe_int (pe_dget hu (pv 0) pe_str (fun _ _ => rfl))) pa_nil))) rfl)
  (pss_cons (ps_dput hu (pv 0) pe_str (pe_op op_add (pv 1) (pe_dget hu (pv 0) pe_str (fun _ _ => rfl))) rfl)
  (pss_cons (ps_dput hu (pv 0) pe_str (pe_op op_add (pe_dget hu (pv 0) pe_str (fun _ _ => rfl)) pe_int) rfl)
  (pss_one (ps_ret pe_bl)))))), ?_⟩
    walk_at "ss"
    obtain ⟨f, z, rows, n, kv, t, wt, d, o⟩ := S
    cases d with
    | none =>
      refine ifd (fun _ => ?_) (fun h => absurd rfl h)
      walk_at "ss"
      exact k _ hs
    | some d =>
      refine ifd (fun h => nomatch h) (fun _ => ?_)
      walk_at "ss"
      refine ifd (fun h1 => ?_) (fun h1 => ?_)
      · walk_at "ss"
        have e2 : isDue (some d) now = false := decide_eq_false (by omega)
        have := k H
        unfold dueB at this
        rw [e2, if_neg Bool.false_ne_true] at this
        exact this hs
      · walk_at "ss"
        rename_i H1 h1' H2 h2 H3 h3
        have e2 : isDue (some d) now = true := decide_eq_true (by omega)
        have e3 : (if 2 * wt < 16 then 2 * wt else 16) = min (wt * 2) 16 := by omega
        rw [e3] at h3
        have := k H3
        unfold dueB at this
        rw [e2, if_pos rfl] at this
        exact this h3
theorem w_lstart {B H : Hp} {Q : VK} {E : XK} {b r e : Addr} {S : BS} {now : Int} {R : List (Addr × HO)} (hs : Hs B ((b, mbo S r e) :: R) H) (q : ∀ H', Hs B ((b, mbo { S with d := some (now + 2), w := 2, t := 0 } r e) :: R) H' → Q .non H') : sp__law_start [.ref b, .int now] H Q E := by
  obtain ⟨B', _, h1, back⟩ := hs.frame1
  exact ⟨B', b, r, e, S, now, rfl, h1, fun H' h2 => q H' (back _ _ h2)⟩
theorem w_ldue {B H : Hp} {Q : VK} {E : XK} {b r e : Addr} {S : BS} {now : Int} {R : List (Addr × HO)} (hs : Hs B ((b, mbo S r e) :: R) H) (q : ∀ H', Hs B ((b, mbo { S with t := (dueB S.t S.w S.d now).1, w := (dueB S.t S.w S.d now).2.1, d := (dueB S.t S.w S.d now).2.2 } r e) :: R) H' → Q (.bl (isDue S.d now)) H') : sp__law_due [.ref b, .int now] H Q E := by
  obtain ⟨B', _, h1, back⟩ := hs.frame1
  exact ⟨B', b, r, e, S, now, rfl, h1, fun H' h2 => q H' (back _ _ h2)⟩
def sp__law_say (K : PySem.W.Frag) : Sp := fun vs H Q _ => ∃ (B : Hp) (M : MB) (S : BS) (now : Int), vs = [.ref M.b, .int now] ∧ Hs B (mbL M S) H ∧ BOk S ∧
  ∀ D acc H', Hs B ((D, .lst acc) :: mbL M (saysS S now)) H' → ImAll K H' acc ((saysT S now).map triD) → Q (.ref D) H'
theorem ok__law_say (T : Txt K mg a) : FnOk P w K mg base CX0 2 a._law_say a.fd__law_say ["b", "now"] (sp__law_say K) := by
  have G__law_start := ok__law_start (P := P) (w := w) (base := base) T
  have G__law_due := ok__law_due (P := P) (w := w) (base := base) T
  refine T.fn__law_say.ok sc__law_say (fun vs H Q E h => ?_) (fun cdv A outer s H vs Q E hr h => ?_)
  · obtain ⟨_, _, _, _, rfl, _⟩ := h
    rfl
  · obtain ⟨B, M, S, now, rfl, hs, ok, k⟩ := h
    have hu := hu_of hr
    have s0 := ok.s0
    have s4 := ok.s4
    have sl := ok.sl
    have rl := ok.rl
    refine ⟨_, (pss_cons (ps_set (i := 2) sc__law_say.nd rfl (Or.inl rfl) (pe_lst pa_nil))
  (C8.pss_cut (ps_if (pt_val (pe_dget hu (pv 0) pe_str (fun _ _ => rfl)))
  (pss_cons (ps_expr (pe_bmK (K := K) PySem.F.plainAttrs_list PySem.F.slot_list_append PySem.F.type_list_append mt_append (pv 2) (pa_cons (pe_tup (pa_cons pe_str (pa_cons (pe_dget hu (pv 0) pe_str (fun _ _ => rfl)) (pa_cons pe_str pa_nil)))) pa_nil)))
  (pss_one (ps_dput hu (pv 0) pe_str pe_bl rfl)))
  pss_nil)
  (pss_cons (ps_set (i := 3) sc__law_say.nd rfl (Or.inl rfl) (pe_dget hu (pv 0) pe_str (fun _ _ => rfl)))
  (pss_cons (ps_dput hu (pv 0) pe_str (pe_callB (call_maxQ rfl) (by rfl) T.mg_max (by decide +kernel) (pa_cons (pv 3) (pa_cons (pe_callB (call_minQ rfl) (by rfl) T.mg_min (by decide +kernel) (pa_cons pe_int (pa_cons (pe_callB (call_lenK (K := K)) (by rfl) T.mg_len PySem.boot_len (pa_cons (pe_dget hu (pv 0) pe_str (fun _ _ => rfl)) pa_nil)) pa_nil))) pa_nil))) rfl)
  (C8.pss_cut (ps_if (pt_cmpR op_gt (pe_dget hu (pv 0) pe_str (fun _ _ => rfl)) (pv 3) (nomark _))
  (pss_one (ps_if (pt_cmpR op_isNQ (pe_dget hu (pv 0) pe_str (fun _ _ => rfl)) pe_non (nomark _))
  (pss_one (ps_expr (pe_call G__law_start (hr.mono (by decide)) rfl T.mg__law_start T.kp__law_start T.bi__law_start .nil pass0 (pa_cons (pv 0) (pa_cons (pv 1) pa_nil)))))
  pss_nil))
  (pss_one (ps_if (pt_val (pe_call G__law_due (hr.mono (by decide)) rfl T.mg__law_due T.kp__law_due T.bi__law_due .nil pass0 (pa_cons (pv 0) (pa_cons (pv 1) pa_nil))))
  (pss_one (ps_set (i := 3) sc__law_say.nd rfl (Or.inl rfl) pe_int))
  pss_nil)))
  (pss_one (ps_ret (pe_op op_cat (pv 2) (pe_lc (own := [("k", 4)]) (g := (gName 4)) (tt := tYes) rfl sc__law_say.nd (pi_range2 rfl T.mg_range (pa_cons (pv 3) (pa_cons (pe_dget hu (pv 0) pe_str (fun _ _ => rfl)) pa_nil))) (blkOk_by (own := [("k", 4)]) (N := N__law_say) (sc := defScope s__law_say) (by decide +kernel)) (fun _ _ _ _ _ => by exact (pg_name (i := 4) sc__law_say.nd rfl (Or.inl rfl))) (fun _ _ _ _ _ => pts_nil) (fun _ _ _ _ _ => by exact (pe_tup (pa_cons pe_str (pa_cons (pe_op op_add (pe_dget hu (pv 0) pe_str (fun _ _ => rfl)) (pv 4)) (pa_cons (pe_ix (ix_listK (K := K)) (pe_dget hu (pv 0) pe_str (fun _ _ => rfl)) (pv 4) (fun _ _ => rfl)) pa_nil)))))))))))))), ?_⟩
    walk_at "ss"
    rename_i D0 H1 hs1
    clear hs
    refine w_cut (fun σ' H' => σ' = [some (.ref M.b), some (.int now), some (.ref D0), none, none] ∧ ∃ B1 acc0, Same B B1 ∧ Hs B1 ((D0, .lst acc0) :: mbL M { S with o := false }) H' ∧ ImAll K B1 acc0 ((ackT S).map triD)) ?_ ?_
    · walk_at "ss"
      cases ho : S.o with
      | true =>
        walk_at "ss"
        rename_i T0 H2 hs2 H3 hs3 H4 hs4
        obtain ⟨f1, f2⟩ := hs4.freeze
        refine ⟨rfl, _, _, f1, f2, ?_⟩
        unfold ackT
        rw [if_pos ho]
        refine .cons (.tup upd_same ?_) .nil
        exact .cons (.str _) (.cons (.int _) (.cons (.str _) .nil))
      | false =>
        walk_at "ss"
        refine ⟨rfl, B, [], Same.refl _, ?_, ?_⟩
        · have e : ({ S with o := false } : BS) = S := by
            rw [← ho]
          rw [e]
          exact hs1
        · unfold ackT
          rw [ho]
          exact .nil
    · rintro σ' H' ⟨rfl, B1, acc0, sb, hs, hi0⟩
      clear hs1
      walk_at "ss"
      rename_i H2 hs2
      have eh : hiS S = min 4 (S.rows.length : Int) := rfl
      rw [List.length_map] at hs2
      have em : (if (if (S.rows.length : Int) < 4 then (S.rows.length : Int) else 4) > S.s then (if (S.rows.length : Int) < 4 then (S.rows.length : Int) else 4) else S.s) = hiS S := by omega
      have hs3 : Hs B1 ((D0, .lst acc0) :: mbL M { S with o := false, s := hiS S }) H2 := by
        rw [← em]
        exact hs2
      clear hs hs2
      refine w_cut (fun σ' H' => ∃ lo, σ' = [some (.ref M.b), some (.int now), some (.ref D0), some (.int lo), none] ∧ Hs B1 ((D0, .lst acc0) :: mbL M (saysS S now)) H' ∧ prz S lo (hiS S) = rowZ S now ∧ 0 ≤ lo ∧ lo ≤ hiS S) ?_ ?_
      · walk_at "ss"
        refine ifd (fun h => ?_) (fun h => ?_)
        · have h : S.s < hiS S := h
          walk_at "ss"
          cases hd : S.d with
          | none =>
            refine ifd (fun _ => ?_) (fun h => absurd rfl h)
            walk_at "ss"
            have hs4 : Hs _ [_, _, _, _] _ := hs3.sel [1, 0, 2, 3]
            refine w_lstart hs4 fun H4 hs5 => ?_
            walk_at "ss"
            refine ⟨S.s, rfl, ?_, ?_, s0, Int.le_of_lt h⟩
            · have e : saysS S now = { S with s := hiS S, o := false, t := 0, w := 2, d := some (now + 2) } := by
                unfold saysS
                rw [if_pos h, if_neg (by rw [hd]; exact Bool.false_ne_true)]
              rw [e]
              exact hs5.sel [1, 0, 2, 3]
            · unfold rowZ
              rw [if_pos h]
          | some d =>
            refine ifd (fun h => nomatch h) (fun _ => ?_)
            walk_at "ss"
            refine ⟨S.s, rfl, ?_, ?_, s0, Int.le_of_lt h⟩
            · have e : saysS S now = { S with s := hiS S, o := false } := by
                unfold saysS
                rw [if_pos h, if_pos (by rw [hd]; rfl)]
              rw [e]
              exact hs3
            · unfold rowZ
              rw [if_pos h]
        · have h : ¬ S.s < hiS S := h
          walk_at "ss"
          have hs4 : Hs _ [_, _, _, _] _ := hs3.sel [1, 0, 2, 3]
          refine w_ldue hs4 fun H4 hs5 => ?_
          have e : saysS S now = { S with s := hiS S, o := false, t := (dueB S.t S.w S.d now).1, w := (dueB S.t S.w S.d now).2.1, d := (dueB S.t S.w S.d now).2.2 } := by
            unfold saysS
            rw [if_neg h]
          cases hd : isDue S.d now with
          | true =>
            walk_at "ss"
            refine ⟨0, rfl, ?_, ?_, Int.le_refl 0, by omega⟩
            · rw [e]
              exact hs5.sel [1, 0, 2, 3]
            · unfold rowZ
              rw [if_neg h, if_pos hd]
          | false =>
            walk_at "ss"
            refine ⟨S.s, rfl, ?_, ?_, s0, by omega⟩
            · rw [e]
              exact hs5.sel [1, 0, 2, 3]
            · unfold rowZ
              rw [if_neg h, if_neg (by rw [hd]; exact Bool.false_ne_true)]
              exact List.eq_nil_of_length_eq_zero (by rw [prz_len]; omega)
      · rintro σ' H' ⟨lo, rfl, hs, e1, h0, h1⟩
        clear hs3
        have ef : (saysS S now).f = S.f := by
          unfold saysS
          split
          · split <;> rfl
          · rfl
        have er : (saysS S now).rows = S.rows := by
          unfold saysS
          split
          · split <;> rfl
          · rfl
        have es : (saysS S now).s = hiS S := by
          unfold saysS
          split
          · split <;> rfl
          · rfl
        walk_at "ss"
        refine w_lcI (K := K) (lo := lo) (hi := hiS S) (by omega) (by omega) (fun (i : Nat) => triD (("data" : Str), S.f + (lo + (i : Int)), S.rows.getD (lo + (i : Int)).toNat Str.empty)) (fun Q' q => ?_) (fun _ => rfl) ?_ ?_
        · walk_at "ss"
          rw [es]
          exact q
        · intro i H4 Q' hi' hS kk
          have g0 := hS _ _ (hs.get (i := 1) rfl)
          have g1 := hS _ _ (hs.get (i := 2) rfl)
          clear hs
          have hs := Hs.start H4
          have ea := at_str (rows := (saysS S now).rows) (i := lo + (i : Int)) (by omega) (by rw [er]; omega)
          walk_at "ss"
          rename_i p H5 hs5
          rw [ef, er] at hs5
          refine kk _ _ hs5.same (.tup hs5.g0 ?_)
          exact .cons (.str _) (.cons (.int _) (.cons (.str _) .nil))
        · intro D2 acc2 H3 h1' h2
          have hs2 := hs.add h1'
          have hi5 := im_around (hs_nt hs2 rfl) h2
          obtain ⟨sb2, hs3⟩ := hs2.rebase
          have hl5 := h2.len
          rw [List.length_map, List.length_range] at hl5
          have hl2 := hi0.len
          have hl4 := ackT_len (S := S)
          rw [List.length_map] at hl2
          clear hs hs2
          refine w_cat hs3 (hs3.get (i := 1) rfl) hs3.g0 (Nat.le_of_lt (szl (by omega))) fun L H4 hs4 => ?_
          have hs5 := ((hs4.sel [0, 3, 4, 5]).base sb2).base sb
          refine k L _ H4 hs5 ?_
          rw [saysT_eq, List.map_append, ← e1]
          have e9 : ((prz S lo (hiS S)).map dtT).map triD = (List.range (hiS S - lo).toNat).map fun (i : Nat) => triD (("data" : Str), S.f + (lo + (i : Int)), S.rows.getD (lo + (i : Int)).toNat Str.empty) := by
            unfold prz
            rw [List.map_map, List.map_map]
            rfl
          rw [e9]
          exact ((hi0.same sb2).app hi5).same hs4.same
end
local macro_rules | `(tactic| walk_at "v") => `(tactic| first | exact v0 | exact v1 | exact v2 | exact v3 | exact v4 | exact v5 | exact v6 | exact v7 | exact v8)
local macro_rules | `(tactic| walk_at "vs") => `(tactic| first | exact st0 | exact st1 | exact st2 | exact st3 | exact st4 | exact st5 | exact st6 | exact st7 | exact st8)
local macro_rules | `(tactic| walk_at "s") => `(tactic| first
  | with_reducible refine w_dget ?_
  | ((with_reducible refine' w_dgetZ ?h ?nd ?hk ?hv ?_); (case h => walk_at "g"); (case nd => walk_at "nd"); (case hk => walk_at "k"); (case hv => walk_at "v"))
  | ((with_reducible refine' w_dputZ ?hs ?h ?nd ?hk ?hv ?hu ?hl ?_); (case hs => assumption); (case h => walk_at "p"); (case nd => walk_at "nd"); (case hk => walk_at "k"); (case hv => walk_at "v"); (case hu => walk_at "vs"); (case hl => decide); intro _ _)
  | with_reducible refine w_gsub ?_
  | with_reducible refine w_setD ?_
  | with_reducible refine w_disp ?_
  | ((with_reducible refine' w_newP ?hs ?_); (case hs => assumption); intro _ _ _)
  | with_reducible refine w_pcons ?_
  | with_reducible refine w_pnil ?_)

local macro_rules | `(tactic| walk_at "nd") => `(tactic| first | exact bK_nd | exact mK_nd | exact gK_nd)
local macro_rules | `(tactic| walk_at "k") => `(tactic| first | exact bK_first | exact bK_rows | exact bK_said | exact bK_next | exact bK_early | exact bK_when | exact bK_wait | exact bK_tries | exact bK_owes | exact mK_epoch | exact mK_boot | exact mK_state | exact mK_body | exact gK_epoch | exact gK_boot | exact gK_body | exact gK_awake)
section
variable {P : Program} [IsP P] {w : World} {K : PySem.W.Frag} {mg : Str → Option Value} {base : Heap} {a : Ad}
theorem valV_key {kv : Kv} {k : Key} {v : V} (h : valV kv k = some v) : ∃ p ∈ kv, p.1 = k ∧ p.2 = v := by
  unfold valV at h
  cases e : kv.find? fun q => decide (q.1 = k) with
  | none =>
    rw [e] at h
    cases h
  | some p =>
    rw [e] at h
    have e2 := List.find?_some e
    exact ⟨p, List.mem_of_find?_eq_some e, by simpa using e2, Option.some.inj h⟩
/-- whose keys are below m, whose values are texts -/
def KvOk (m : Int) (kv : Kv) : Prop := ∀ p ∈ kv, (∃ z, p.1 = Sum.inl z ∧ z < m) ∧ ∃ t, p.2 = V.str t ∧ PyData.strOk t = true
theorem KvOk.drop {m : Int} {kv : Kv} (h : KvOk m kv) (k : Key) : KvOk m (dropK kv k) := fun p hp => h p (List.mem_filter.mp hp).1
theorem KvOk.mono {m m' : Int} {kv : Kv} (h : KvOk m kv) (e : m ≤ m') : KvOk m' kv := fun p hp => by
  obtain ⟨⟨z, h1, h2⟩, h3⟩ := h p hp
  exact ⟨⟨z, h1, by omega⟩, h3⟩
theorem ready_keys : ∀ (j l : Nat) (n : Int) (kv : Kv), j ≤ l → KvOk (n + (j : Int)) kv → ready l n kv = ready j n kv
  | 0, l, n, kv, _, h => by
    have e : valV kv (Sum.inl n) = none := by
      cases hv : valV kv (Sum.inl n) with
      | none => rfl
      | some v =>
        obtain ⟨p, hp, e1, _⟩ := valV_key hv
        obtain ⟨⟨z, e2, e3⟩, _⟩ := h p hp
        rw [e1] at e2
        have := Sum.inl.inj e2
        omega
    cases l with
    | zero => rfl
    | succ l =>
      show (match valV kv (Sum.inl n) with | none => [] | some v => v :: ready l (n + 1) (dropK kv (Sum.inl n))) = []
      rw [e]
  | j + 1, 0, _, _, h, _ => by omega
  | j + 1, l + 1, n, kv, hl, h => by
    show (match valV kv (Sum.inl n) with | none => [] | some v => v :: ready l (n + 1) (dropK kv (Sum.inl n))) = (match valV kv (Sum.inl n) with | none => [] | some v => v :: ready j (n + 1) (dropK kv (Sum.inl n)))
    cases valV kv (Sum.inl n) with
    | none => rfl
    | some v =>
      simp only
      rw [ready_keys j l (n + 1) _ (by omega) ((h.drop _).mono (by omega))]
theorem later_keys : ∀ (j l : Nat) (n : Int) (kv : Kv), j ≤ l → KvOk (n + (j : Int)) kv → later l n kv = later j n kv
  | 0, l, n, kv, _, h => by
    have e : valV kv (Sum.inl n) = none := by
      cases hv : valV kv (Sum.inl n) with
      | none => rfl
      | some v =>
        obtain ⟨p, hp, e1, _⟩ := valV_key hv
        obtain ⟨⟨z, e2, e3⟩, _⟩ := h p hp
        rw [e1] at e2
        have := Sum.inl.inj e2
        omega
    cases l with
    | zero => rfl
    | succ l =>
      show (match valV kv (Sum.inl n) with | none => (n, kv) | some v => later l (n + 1) (dropK kv (Sum.inl n))) = (n, kv)
      rw [e]
  | j + 1, 0, _, _, h, _ => by omega
  | j + 1, l + 1, n, kv, hl, h => by
    show (match valV kv (Sum.inl n) with | none => (n, kv) | some v => later l (n + 1) (dropK kv (Sum.inl n))) = (match valV kv (Sum.inl n) with | none => (n, kv) | some v => later j (n + 1) (dropK kv (Sum.inl n)))
    cases valV kv (Sum.inl n) with
    | none => rfl
    | some v =>
      simp only
      rw [later_keys j l (n + 1) _ (by omega) ((h.drop _).mono (by omega))]
/-- as long as there are messages, or four times -/
theorem ready4 {n : Int} {kv : Kv} (h : KvOk (n + 4) kv) : ready kv.length n kv = ready 4 n kv := by
  rw [ready_fuel kv.length (kv.length + 4) n kv (Nat.le_refl _) (by omega), ready_keys 4 (kv.length + 4) n kv (by omega) h]
theorem later4 {n : Int} {kv : Kv} (h : KvOk (n + 4) kv) : later kv.length n kv = later 4 n kv := by
  rw [later_fuel kv.length (kv.length + 4) n kv (Nat.le_refl _) (by omega), later_keys 4 (kv.length + 4) n kv (by omega) h]
theorem ready_str : ∀ (k : Nat) (n m : Int) (kv : Kv), KvOk m kv → ∃ ts : List Str, ready k n kv = ts.map V.str ∧ ∀ t ∈ ts, PyData.strOk t = true
  | 0, _, _, _, _ => ⟨[], rfl, fun _ h => nomatch h⟩
  | k + 1, n, m, kv, h => by
    show ∃ ts : List Str, (match valV kv (Sum.inl n) with | none => [] | some v => v :: ready k (n + 1) (dropK kv (Sum.inl n))) = ts.map V.str ∧ _
    cases hv : valV kv (Sum.inl n) with
    | none => exact ⟨[], rfl, fun _ h => nomatch h⟩
    | some v =>
      obtain ⟨p, hp, _, e2⟩ := valV_key hv
      obtain ⟨_, t, e3, e4⟩ := h p hp
      obtain ⟨ts, h1, h2⟩ := ready_str k (n + 1) m _ (h.drop (Sum.inl n))
      refine ⟨t :: ts, ?_, fun u hu => ?_⟩
      · simp only
        rw [h1, ← e2, e3]
        rfl
      · rcases List.mem_cons.mp hu with rfl | hu
        · exact e4
        · exact h2 u hu
theorem later_ok : ∀ (k : Nat) (n m : Int) (kv : Kv), KvOk m kv → KvOk m (later k n kv).2 ∧ n ≤ (later k n kv).1 ∧ (later k n kv).2.length ≤ kv.length
  | 0, n, _, _, h => ⟨h, Int.le_refl _, Nat.le_refl _⟩
  | k + 1, n, m, kv, h => by
    have e : later (k + 1) n kv = (match valV kv (Sum.inl n) with | none => (n, kv) | some v => later k (n + 1) (dropK kv (Sum.inl n))) := rfl
    rw [e]
    cases valV kv (Sum.inl n) with
    | none => exact ⟨h, Int.le_refl _, Nat.le_refl _⟩
    | some v =>
      obtain ⟨h1, h2, h3⟩ := later_ok k (n + 1) m _ (h.drop (Sum.inl n))
      exact ⟨h1, by simp only; omega, Nat.le_trans h3 (dropK_le kv _)⟩
theorem keep1_ok {n m : Int} {t : Str} {kv : Kv} (h : KvOk (n + 4) kv) (ht : PyData.strOk t = true) : KvOk (n + 4) (keep1 n m (.str t) kv) ∧ (keep1 n m (.str t) kv).length ≤ kv.length + 1 := by
  unfold keep1
  split
  · next c =>
    refine ⟨?_, putK_le _ _ _⟩
    rw [putK_new _ c.2]
    intro p hp
    rcases List.mem_append.mp hp with hp | hp
    · exact h p hp
    · rw [List.mem_singleton.mp hp]
      exact ⟨⟨m, rfl, c.1.2⟩, t, rfl, ht⟩
  · exact ⟨h, Nat.le_succ _⟩

def sp__law_hear : Sp := fun vs H Q _ => ∃ (B : Hp) (M : MB) (S : BS) (kind t : Str) (m now : Int), vs = [.ref M.b, .str kind, .int m, .str t, .int now] ∧ Hs B (mbL M S) H ∧ BOk S ∧ KvOk (S.n + 4) S.kv ∧ PyData.strOk t = true ∧ S.kv.length ≤ 900 ∧ (kind = "data" ∨ kind = "ack") ∧
  ∀ D r H', Hs B ((D, .lst (hearsL S kind m t)) :: mbL { M with r := r } (hearsS S kind m t now)) H' → Q (.ref D) H'
theorem ok__law_hear (T : Txt K mg a) : FnOk P w K mg base CX0 2 a._law_hear a.fd__law_hear ["b", "kind", "number", "text", "now"] sp__law_hear := by
  have G__law_start := ok__law_start (P := P) (w := w) (base := base) T
  refine T.fn__law_hear.ok sc__law_hear (fun vs H Q E h => ?_) (fun cdv A outer s H vs Q E hr h => ?_)
  · obtain ⟨_, _, _, _, _, _, _, rfl, _⟩ := h
    rfl
  · obtain ⟨B, M, S, kind, t, m, now, rfl, hs, ok, kok, tok, kl, hk, k⟩ := h
    have hu := hu_of hr
    have s0 := ok.s0
    have s4 := ok.s4
    have sl := ok.sl
    have rl := ok.rl
    refine ⟨_, (pss_cons (ps_if (pt_cmpR op_eq (pv 1) pe_str (nomark _))
  (pss_cons (ps_set (i := 5) sc__law_hear.nd rfl (Or.inl rfl) (pe_op op_sub (pv 2) (pe_dget hu (pv 0) pe_str (fun _ _ => rfl))))
  (C8.pss_cut (ps_if (PW.pt (pw_and (pt_cmpR op_lt pe_int (pv 5) (nomark _)) (pw_and1 (pt_cmpR op_le (pv 5) (pe_dget hu (pv 0) pe_str (fun _ _ => rfl)) (nomark _)))))
  (pss_cons (ps_asg (pe_tup (pa_cons (pv 2) (pa_cons (pe_slice (sl_listK (K := K)) (pe_dget hu (pv 0) pe_str (fun _ _ => rfl)) (po_some (pv 5)) po_none) (pa_cons (pe_op op_sub (pe_dget hu (pv 0) pe_str (fun _ _ => rfl)) (pv 5)) pa_nil)))) (pg_tupK (K := K) rfl (pgs_cons (pg_sub (pv 0) pe_str (set_dict hu)) (pgs_cons (pg_sub (pv 0) pe_str (set_dict hu)) (pgs_cons (pg_sub (pv 0) pe_str (set_dict hu)) pgs_nil)))))
  (pss_cons (ps_dput hu (pv 0) pe_str pe_non rfl)
  (pss_one (ps_if (pt_cmpR op_gt (pe_dget hu (pv 0) pe_str (fun _ _ => rfl)) pe_int (nomark _))
  (pss_one (ps_expr (pe_call G__law_start (hr.mono (by decide)) rfl T.mg__law_start T.kp__law_start T.bi__law_start .nil pass0 (pa_cons (pv 0) (pa_cons (pv 4) pa_nil)))))
  pss_nil))))
  pss_nil)
  (pss_one (ps_ret (pe_lst pa_nil)))))
  pss_nil)
  (pss_cons (ps_dput hu (pv 0) pe_str pe_bl rfl)
  (C8.pss_cut (ps_if (PW.pt (pw_and (pt_chain op_le op_le (pe_dget hu (pv 0) pe_str (fun _ _ => rfl)) (pv 2) (pe_op op_add (pe_dget hu (pv 0) pe_str (fun _ _ => rfl)) pe_int)) (pw_and1 (pt_cmp (pc_dnotin hu (pv 2) (pe_dget hu (pv 0) pe_str (fun _ _ => rfl)))))))
  (pss_one (ps_dput hu (pe_dget hu (pv 0) pe_str (fun _ _ => rfl)) (pv 2) (pv 3) rfl))
  pss_nil)
  (pss_cons (ps_set (i := 6) sc__law_hear.nd rfl (Or.inl rfl) (pe_lst pa_nil))
  (pss_cons (ps_for PassesOwn.never rfl (pi_range1 rfl T.mg_range (pa_cons pe_int pa_nil)) (pg_name (i := 7) sc__law_hear.nd rfl (Or.inl rfl))
  (pss_one (ps_if (pt_cmp (pc_din hu (pe_dget hu (pv 0) pe_str (fun _ _ => rfl)) (pe_dget hu (pv 0) pe_str (fun _ _ => rfl))))
  (pss_cons (ps_expr (pe_bmK (K := K) PySem.F.plainAttrs_list PySem.F.slot_list_append PySem.F.type_list_append mt_append (pv 6) (pa_cons (pe_dpop1 (pe_dget hu (pv 0) pe_str (fun _ _ => rfl)) (pe_dget hu (pv 0) pe_str (fun _ _ => rfl)) ⟨rfl, rfl, rfl, rfl⟩) pa_nil)))
  (pss_one (ps_dput hu (pv 0) pe_str (pe_op op_add (pe_dget hu (pv 0) pe_str (fun _ _ => rfl)) pe_int) rfl)))
  pss_nil)))
  (pss_one (ps_ret (pv 6)))))))), ?_⟩
    walk_at "ss"
    refine ifd (fun h1 => ?_) (fun h1 => ?_)
    · have k' : ∀ D r H', Hs B ((D, .lst []) :: mbL { M with r := r } (ackS S m now)) H' → Q (.ref D) H' := fun D r H' h => by
        have := k D r H'
        unfold hearsL hearsS at this
        rw [if_neg (by rw [h1]; decide +kernel), if_neg (by rw [h1]; decide +kernel), if_pos h1] at this
        exact this h
      walk_at "ss"
      refine w_cut (fun σ' H' => ∃ r, Hs B (mbL { M with r := r } (ackS S m now)) H') ?_ ?_
      · walk_at "ss"
        refine ifd (fun h2 => ?_) (fun h2 => ?_)
        · walk_at "ss"
          refine ifd (fun h3 => ?_) (fun h3 => ?_)
          · walk_at "ss"
            rename_i rr Hr hr1 tt Ht ht1 H1 hs1 H2 hs2 H3 hs3 H4 hs4
            have e : cutV (S.rows.map V.str) (some (m - S.f)) none = (S.rows.drop (m - S.f).toNat).map V.str := by
              rw [cut_from (m - S.f).toNat (by omega), List.map_drop]
            rw [e] at hs4
            have hs5 : Hs B [(M.b, mbo { S with f := m, s := S.s - (m - S.f), rows := S.rows.drop (m - S.f).toNat, d := none } rr M.e), (rr, lst (S.rows.drop (m - S.f).toNat)), (M.e, .dK S.kv)] H4 := hs4.sel [2, 1, 4]
            refine ifd (fun h4 => ?_) (fun h4 => ?_)
            · walk_at "ss"
              refine w_lstart hs5 fun H6 hs6 => ?_
              walk_at "ss"
              refine ⟨rr, ?_⟩
              unfold ackS
              rw [if_pos ⟨h2, h3⟩, if_pos h4]
              exact hs6
            · walk_at "ss"
              refine ⟨rr, ?_⟩
              unfold ackS
              rw [if_pos ⟨h2, h3⟩, if_neg h4]
              exact hs5
          · walk_at "ss"
            refine ⟨M.r, ?_⟩
            unfold ackS
            rw [if_neg (fun z => h3 z.2)]
            exact hs
        · walk_at "ss"
          refine ⟨M.r, ?_⟩
          unfold ackS
          rw [if_neg (fun z => h2 z.1)]
          exact hs
      · rintro σ' H' ⟨r, hs1⟩
        clear hs
        walk_at "ss"
        rename_i D H2 hs2
        exact k' D r H2 hs2
    · have h2 : kind = "data" := hk.elim id (fun z => absurd z h1)
      walk_at "ss"
      rename_i H1 hs1
      refine w_cut (fun σ' H' => σ' = [some (.ref M.b), some (.str kind), some (.int m), some (.str t), some (.int now), none, none, none] ∧ Hs B (mbL M { S with o := true, kv := kept S m t }) H') ?_ ?_
      · walk_at "ss"
        refine ifd (fun h3 => ?_) (fun h3 => ?_)
        · walk_at "ss"
          refine ifd (fun h4 => ?_) (fun h4 => ?_)
          · walk_at "ss"
            cases hv : valV S.kv (Sum.inl m) with
            | none =>
              refine iteT ?_
              walk_at "ss"
              refine ⟨rfl, ?_⟩
              unfold kept keep1
              rw [if_pos ⟨⟨h3, by omega⟩, hv⟩]
              assumption
            | some u =>
              refine iteF ?_
              walk_at "ss"
              refine ⟨rfl, ?_⟩
              unfold kept keep1
              rw [if_neg (fun q => by rw [hv] at q; cases q.2)]
              exact hs1
          · walk_at "ss"
            refine ⟨rfl, ?_⟩
            unfold kept keep1
            rw [if_neg (fun q => h4 (by omega))]
            exact hs1
        · walk_at "ss"
          refine ⟨rfl, ?_⟩
          unfold kept keep1
          rw [if_neg (fun q => h3 q.1.1)]
          exact hs1
      · rintro σ' H' ⟨rfl, hs2⟩
        clear hs hs1
        obtain ⟨hok1, hl1⟩ := keep1_ok (m := m) kok tok
        walk_at "ss"
        rename_i du H3 hs3
        clear hs2
        refine w_forR (by decide) (fun i σ H4 => ∃ (n' : Int) (kv' : Kv) (acc : List V) (v7 : Option V), σ = [some (.ref M.b), some (.str kind), some (.int m), some (.str t), some (.int now), none, some (.ref du), v7] ∧
          acc ++ ready (4 - i) n' kv' = ready 4 S.n (kept S m t) ∧ later (4 - i) n' kv' = later 4 S.n (kept S m t) ∧ acc.length ≤ i ∧
          Hs B ((du, .lst acc) :: mbL M { S with o := true, n := n', kv := kv' }) H4) (fun Q q => q) (by decide) ⟨S.n, _, [], none, rfl, rfl, rfl, Nat.le_refl _, hs3⟩ ?_ ?_
        · clear hs3
          rintro j σ H4 hj ⟨n', kv', acc, v7, rfl, e1, e2, hal, hs⟩
          obtain ⟨l, hl4⟩ : ∃ l, 4 - j = l + 1 := ⟨3 - j, by omega⟩
          have hl5 : 4 - (j + 1) = l := by omega
          rw [hl4] at e1 e2
          have s1 : ready (l + 1) n' kv' = (match valV kv' (Sum.inl n') with | none => [] | some v => v :: ready l (n' + 1) (dropK kv' (Sum.inl n'))) := rfl
          have s2 : later (l + 1) n' kv' = (match valV kv' (Sum.inl n') with | none => (n', kv') | some v => later l (n' + 1) (dropK kv' (Sum.inl n'))) := rfl
          walk_at "ss"
          cases hv : valV kv' (Sum.inl n') with
          | none =>
            refine iteF ?_
            walk_at "ss"
            rw [hv] at s1 s2
            refine ⟨n', kv', acc, _, rfl, ?_, ?_, by omega, hs⟩
            · rw [← e1, s1, hl5]
              cases l with
              | zero => rfl
              | succ l =>
                show acc ++ (match valV kv' (Sum.inl n') with | none => [] | some v => v :: ready l (n' + 1) (dropK kv' (Sum.inl n'))) = acc ++ []
                rw [hv]
            · rw [← e2, s2, hl5]
              cases l with
              | zero => rfl
              | succ l =>
                show (match valV kv' (Sum.inl n') with | none => (n', kv') | some v => later l (n' + 1) (dropK kv' (Sum.inl n'))) = (n', kv')
                rw [hv]
          | some v =>
            refine iteT ?_
            walk_at "ss"
            refine w_dpopB hs (by walk_at "p") hv fun H5 hs5 => ?_
            clear hs
            walk_at "ss"
            rename_i H6 hs6 H7 hs7
            rw [hv] at s1 s2
            refine ⟨n' + 1, _, acc ++ [v], _, rfl, ?_, ?_, ?_, hs7⟩
            · rw [← e1, s1, hl5, List.append_assoc]
              rfl
            · rw [← e2, s2, hl5]
              rfl
            · rw [List.length_append, List.length_singleton]
              omega
        · clear hs3
          rintro σ H4 ⟨n', kv', acc, v7, rfl, e1, e2, hal, hs⟩
          have e1' : acc = ready 4 S.n (kept S m t) := by
            rw [← e1]
            exact (List.append_nil acc).symm
          have e2' : (n', kv') = later 4 S.n (kept S m t) := e2
          walk_at "ss"
          have := k du M.r H4
          unfold hearsL hearsS datS at this
          rw [if_pos h2, if_pos h2] at this
          have r4 : ready (kept S m t).length S.n (kept S m t) = ready 4 S.n (kept S m t) := ready4 hok1
          have l4 : later (kept S m t).length S.n (kept S m t) = later 4 S.n (kept S m t) := later4 hok1
          rw [r4, l4, ← e2', ← e1'] at this
          exact this hs
/-! ### the law's line -/
/-- what stands in the law's line: its body may be none as yet -/
abbrev mlo (X : LS) (b : V) : HO := .dK (zipK mK [.int X.ep, .int X.bo, .str X.st, b])
abbrev mlL (l : Addr) (X : LS) (M : MB) (S : BS) : List (Addr × HO) := (l, mlo X (.ref M.b)) :: mbL M S
theorem w_lsay {B H : Hp} {Q : VK} {E : XK} {M : MB} {S : BS} {now : Int} {R : List (Addr × HO)} (hs : Hs B (mbL M S ++ R) H) (ok : BOk S) (q : ∀ D acc H', Hs B (((D, .lst acc) :: mbL M (saysS S now)) ++ R) H' → ImAll K H' acc ((saysT S now).map triD) → Q (.ref D) H') : sp__law_say K [.ref M.b, .int now] H Q E := by
  obtain ⟨_, h1, back⟩ := hs.frame (mbL M S)
  exact ⟨_, M, S, now, rfl, h1, ok, fun D acc H' h2 h3 => q D acc H' (back _ _ h2) h3⟩
theorem w_lhear {B H : Hp} {Q : VK} {E : XK} {M : MB} {S : BS} {kind t : Str} {m now : Int} {R : List (Addr × HO)} (hs : Hs B (mbL M S ++ R) H) (ok : BOk S) (kok : KvOk (S.n + 4) S.kv) (tok : PyData.strOk t = true) (kl : S.kv.length ≤ 900) (hk : kind = "data" ∨ kind = "ack")
    (q : ∀ D r H', Hs B (((D, .lst (hearsL S kind m t)) :: mbL { M with r := r } (hearsS S kind m t now)) ++ R) H' → Q (.ref D) H') : sp__law_hear [.ref M.b, .str kind, .int m, .str t, .int now] H Q E := by
  obtain ⟨_, h1, back⟩ := hs.frame (mbL M S)
  exact ⟨_, M, S, kind, t, m, now, rfl, h1, ok, kok, tok, kl, hk, fun D r H' h2 => q D r H' (back _ _ h2)⟩
/-- the plain line's state behind a tick -/
def ltickX (X : LS) (S : BS) (now : Int) : LS := if (X.st = "hailing" ∨ X.st = "open") ∧ 6 ≤ (lineS X S now).t then { X with st := "failed" } else X
theorem ltickX_ep {X : LS} {S : BS} {now : Int} : (ltickX X S now).ep = X.ep := by
  unfold ltickX
  split <;> rfl
def sp__law_line_tick (K : PySem.W.Frag) : Sp := fun vs H Q _ => (∃ (B : Hp) (l : Addr) (X : LS) (M : MB) (S : BS) (now : Int), vs = [.ref l, .int now] ∧ Hs B (mlL l X M S) H ∧ BOk S ∧
  ∀ D acc H', Hs B ((D, .lst acc) :: mlL l (ltickX X S now) M (lineS X S now)) H' → ImAll K H' acc ((lineT X S now).map (segD 2 0 X.ep)) → Q (.ref D) H') ∨
  (∃ (B : Hp) (l : Addr) (X : LS) (now : Int), vs = [.ref l, .int now] ∧ Hs B [(l, mlo X .non)] H ∧ X.st = "none" ∧ ∀ D H', Hs B [(D, .lst []), (l, mlo X .non)] H' → Q (.ref D) H')
theorem ok__law_line_tick (T : Txt K mg a) : FnOk P w K mg base CX0 3 a._law_line_tick a.fd__law_line_tick ["m", "now"] (sp__law_line_tick K) := by
  have G__law_say := ok__law_say (P := P) (w := w) (base := base) T
  have G__law_due := ok__law_due (P := P) (w := w) (base := base) T
  refine T.fn__law_line_tick.ok sc__law_line_tick (fun vs H Q E h => ?_) (fun cdv A outer s H vs Q E hr h => ?_)
  · rcases h with ⟨_, _, _, _, _, _, rfl, _⟩ | ⟨_, _, _, _, rfl, _⟩ <;> rfl
  have hu := hu_of hr
  refine ⟨_, (pss_cons (ps_set (i := 2) sc__law_line_tick.nd rfl (Or.inl rfl) (pe_lst pa_nil))
  (pss_cons (ps_set (i := 3) sc__law_line_tick.nd rfl (Or.inl rfl) (pe_dget hu (pv 0) pe_str (fun _ _ => rfl)))
  (C8.pss_cut (ps_if (PW.pt (pw_and (pt_cmpR op_eq (pe_dget hu (pv 0) pe_str (fun _ _ => rfl)) pe_str (nomark _)) (pw_and1 (pt_val (pe_call G__law_due (hr.mono (by decide)) rfl T.mg__law_due T.kp__law_due T.bi__law_due .nil pass0 (pa_cons (pv 3) (pa_cons (pv 1) pa_nil)))))))
  (pss_one (ps_expr (pe_bmK (K := K) PySem.F.plainAttrs_list PySem.F.slot_list_append PySem.F.type_list_append mt_append (pv 2) (pa_cons (pe_tup (pa_cons pe_str (pa_cons (pe_dget hu (pv 0) pe_str (fun _ _ => rfl)) (pa_cons pe_str pa_nil)))) pa_nil))))
  (pss_one (ps_if (pt_cmpR op_eq (pe_dget hu (pv 0) pe_str (fun _ _ => rfl)) pe_str (nomark _))
  (pss_one (ps_set (i := 2) sc__law_line_tick.nd rfl (Or.inl rfl) (pe_call G__law_say (hr.mono (by decide)) rfl T.mg__law_say T.kp__law_say T.bi__law_say .nil pass0 (pa_cons (pv 3) (pa_cons (pv 1) pa_nil)))))
  pss_nil)))
  (C8.pss_cut (ps_if (PW.pt (pw_and (pt_cmpR (op_inK (K := K)) (pe_dget hu (pv 0) pe_str (fun _ _ => rfl)) (pe_tup (pa_cons pe_str (pa_cons pe_str pa_nil))) (by rfl)) (pw_and1 (pt_cmpR op_ge (pe_dget hu (pv 3) pe_str (fun _ _ => rfl)) pe_int (nomark _)))))
  (pss_one (ps_dput hu (pv 0) pe_str pe_str rfl))
  pss_nil)
  (pss_one (ps_ret (pe_lc (own := [("row", 4)]) (g := (gName 4)) (tt := tYes) rfl sc__law_line_tick.nd (pi_listK (K := K) (pv 2)) (blkOk_by (own := [("row", 4)]) (N := N__law_line_tick) (sc := defScope s__law_line_tick) (by decide +kernel)) (fun _ _ _ _ _ => by exact (pg_name (i := 4) sc__law_line_tick.nd rfl (Or.inl rfl))) (fun _ _ _ _ _ => pts_nil) (fun _ _ _ _ _ => by exact (pe_op (op_catTK (K := K)) (pe_tup (pa_cons pe_str (pa_cons pe_int (pa_cons pe_int (pa_cons pe_int (pa_cons (pe_dget hu (pv 0) pe_str (fun _ _ => rfl)) pa_nil)))))) (pv 4)))))))))), ?_⟩
  rcases h with ⟨B, l, X, M, S, now, rfl, hs, ok, k⟩ | ⟨B, l, X, now, rfl, hs, hst, k⟩
  · walk_at "ss"
    rename_i D0 H1 hs1
    clear hs
    refine w_cut (fun σ' H' => ∃ D' B1 acc, σ' = [some (.ref l), some (.int now), some (.ref D'), some (.ref M.b), none] ∧ Same B B1 ∧ Hs B1 ((D', .lst acc) :: mlL l X M (lineS X S now)) H' ∧ ImAll K B1 acc ((lineT X S now).map triD)) ?_ ?_
    · walk_at "ss"
      refine ifd (fun h1 => ?_) (fun h1 => ?_)
      · have h0 : ¬ X.st = "open" := fun z => absurd (h1.symm.trans z) (by decide +kernel)
        have eS : lineS X S now = { S with t := (dueB S.t S.w S.d now).1, w := (dueB S.t S.w S.d now).2.1, d := (dueB S.t S.w S.d now).2.2 } := by
          unfold lineS
          rw [if_neg h0, if_pos h1]
        walk_at "ss"
        have hs2 : Hs _ [_, _, _, _, _] _ := hs1.sel [2, 0, 1, 3, 4]
        refine w_ldue hs2 fun H3 hs3 => ?_
        clear hs1 hs2
        cases hd : isDue S.d now with
        | true =>
          walk_at "ss"
          rename_i T0 H4 hs4 H5 hs5
          obtain ⟨f1, f2⟩ := hs5.freeze
          refine ⟨D0, _, [.ref T0], rfl, f1, ?_, ?_⟩
          · rw [eS]
            exact f2.sel [1, 2, 0, 3, 4]
          · unfold lineT
            rw [if_neg h0, if_pos ⟨h1, hd⟩]
            refine .cons (.tup upd_same ?_) .nil
            exact .cons (.str _) (.cons (.int _) (.cons (.str _) .nil))
        | false =>
          walk_at "ss"
          refine ifd (fun z => absurd z h0) (fun _ => ?_)
          walk_at "ss"
          refine ⟨D0, B, [], rfl, Same.refl _, ?_, ?_⟩
          · rw [eS]
            exact hs3.sel [1, 2, 0, 3, 4]
          · unfold lineT
            rw [if_neg h0, if_neg (fun z => Bool.false_ne_true (hd.symm.trans z.2))]
            exact .nil
      · walk_at "ss"
        refine ifd (fun h2 => ?_) (fun h2 => ?_)
        · walk_at "ss"
          have hs2 : Hs _ (mbL M S ++ [_, _]) _ := hs1.sel [2, 3, 4, 0, 1]
          refine w_lsay hs2 ok fun D2 acc2 H3 hs3 hi => ?_
          clear hs1 hs2
          have hs4 : Hs B ((D2, .lst acc2) :: mlL l X M (saysS S now)) H3 := hs3.sel [0, 5, 1, 2, 3]
          walk_at "ss"
          refine ⟨D2, _, acc2, rfl, hs4.rebase.1, ?_, ?_⟩
          · unfold lineS
            rw [if_pos h2]
            exact hs4.rebase.2
          · unfold lineT
            rw [if_pos h2]
            exact im_around (hs_nt hs4 rfl) hi
        · walk_at "ss"
          refine ⟨D0, B, [], rfl, Same.refl _, ?_, ?_⟩
          · unfold lineS
            rw [if_neg h2, if_neg h1]
            exact hs1
          · unfold lineT
            rw [if_neg h2, if_neg (fun z => h1 z.1)]
            exact .nil
    · rintro σ' H' ⟨D', B1, acc, rfl, sb, hs, hi⟩
      clear hs1
      walk_at "ss"
      refine w_cut (fun σ' H' => σ' = [some (.ref l), some (.int now), some (.ref D'), some (.ref M.b), none] ∧ Hs B1 ((D', .lst acc) :: mlL l (ltickX X S now) M (lineS X S now)) H') ?_ ?_
      · walk_at "ss"
        rename_i p0 H2 hs2
        refine w_inT (SqT.of hs2.g0) rfl rfl ?_
        have hs3 := hs2.tl
        clear hs hs2
        by_cases h1 : X.st = "hailing" ∨ X.st = "open"
        · rw [in2 h1]
          refine ⟨true, rfl, iteT ?_⟩
          walk_at "ss"
          refine ifd (fun h2 => ?_) (fun h2 => ?_)
          · walk_at "ss"
            rename_i H4 hs4
            refine ⟨rfl, ?_⟩
            unfold ltickX
            rw [if_pos ⟨h1, h2⟩]
            exact hs4
          · walk_at "ss"
            refine ⟨rfl, ?_⟩
            unfold ltickX
            rw [if_neg (fun z => h2 z.2)]
            exact hs3
        · rw [nin2 h1]
          refine ⟨false, rfl, iteF ?_⟩
          walk_at "ss"
          refine ⟨rfl, ?_⟩
          unfold ltickX
          rw [if_neg (fun z => h1 z.1)]
          exact hs3
      · rintro σ' H' ⟨rfl, hs2⟩
        clear hs
        have hl1 := hi.len
        have hl2 := lineT_len (X := X) (now := now) ok
        rw [List.length_map] at hl1
        walk_at "ss"
        refine w_lcD (K := K) (SqL.of hs2.g0) (by omega) ((lineT X S now).map (segD 2 0 X.ep)) (by rw [List.length_map, hl1]) (fun Q q => ⟨_, rfl, q⟩) ?_ (fun D2 acc2 H3 h1 h2 => ?_) ?_
        · intro i x d H3 Q' hx hd hS kk
          rw [List.getElem?_map] at hd
          cases e : (lineT X S now)[i]? with
          | none =>
            rw [e] at hd
            cases hd
          | some z =>
            rw [e] at hd
            cases hd
            have h3 := hi.get hx (by rw [List.getElem?_map, e]; rfl : ((lineT X S now).map triD)[i]? = some (triD z))
            obtain ⟨q, rfl, hq⟩ := im_tri (h3.same (hs2.same.trans hS))
            have g1 := hS _ _ (hs2.get (i := 1) rfl)
            have hs3 := Hs.start H3
            clear hs2
            refine ⟨rfl, ?_⟩
            walk_at "ss"
            rename_i p5 H4 hs4
            have hq4 : H4 q = _ := hs4.same _ _ hq
            refine w_catT hs4 (SqT.of hs4.g0) (SqT.of hq4) (fun z => nomatch z) (fun z => nomatch z) (by simp only [List.length_cons, List.length_nil]; omega) fun p8 H5 hs5 => ?_
            refine kk _ _ hs5.same ?_
            rw [ltickX_ep] at hs5
            refine .tup hs5.g0 ?_
            exact .cons (.str _) (.cons (.int _) (.cons (.int _) (.cons (.int _) (.cons (.int _) (.cons (.str _) (.cons (.int _) (.cons (.str _) .nil)))))))
        · exact k D2 acc2 H3 (((hs2.add h1).sel [0, 2, 3, 4, 5]).base sb) h2
        · exact fun x σ H R R' hR h => hR _ _ h
  · have n1 : ¬ X.st = "hailing" := by
      rw [hst]
      decide +kernel
    have n2 : ¬ X.st = "open" := by
      rw [hst]
      decide +kernel
    walk_at "ss"
    rename_i D0 H1 hs1
    clear hs
    refine w_cut (fun σ' H' => σ' = [some (.ref l), some (.int now), some (.ref D0), some .non, none] ∧ Hs B [(D0, .lst []), (l, mlo X .non)] H') ?_ ?_
    · walk_at "ss"
      refine ifd (fun h1 => absurd h1 n1) (fun _ => ?_)
      walk_at "ss"
      refine ifd (fun h1 => absurd h1 n2) (fun _ => ?_)
      walk_at "ss"
      exact ⟨rfl, hs1⟩
    · rintro σ' H' ⟨rfl, hs⟩
      clear hs1
      walk_at "ss"
      refine w_cut (fun σ' H' => σ' = [some (.ref l), some (.int now), some (.ref D0), some .non, none] ∧ Hs B [(D0, .lst []), (l, mlo X .non)] H') ?_ ?_
      · walk_at "ss"
        rename_i p0 H2 hs2
        refine w_inT (SqT.of hs2.g0) rfl rfl ?_
        rw [nin2 (fun z => z.elim n1 n2)]
        refine ⟨false, rfl, iteF ?_⟩
        walk_at "ss"
        exact ⟨rfl, hs2.tl⟩
      · rintro σ' H' ⟨rfl, hs2⟩
        clear hs
        walk_at "ss"
        refine w_lcD (K := K) (SqL.of hs2.g0) (by decide) [] rfl (fun Q q => ⟨_, rfl, q⟩) ?_ (fun D2 acc2 H3 h1 h2 => ?_) ?_
        · intro i x d H3 Q' hx
          cases hx
        · cases h2
          exact k D2 H3 ((hs2.add h1).sel [0, 2])
        · exact fun x σ H R R' hR h => hR _ _ h
end
local macro_rules | `(tactic| walk_at "v") => `(tactic| first | exact v0 | exact v1 | exact v2 | exact v3 | exact v4 | exact v5 | exact v6 | exact v7 | exact v8)
local macro_rules | `(tactic| walk_at "vs") => `(tactic| first | exact st0 | exact st1 | exact st2 | exact st3 | exact st4 | exact st5 | exact st6 | exact st7 | exact st8)
local macro_rules | `(tactic| walk_at "s") => `(tactic| first
  | with_reducible refine w_dget ?_
  | ((with_reducible refine' w_dgetZ ?h ?nd ?hk ?hv ?_); (case h => walk_at "g"); (case nd => walk_at "nd"); (case hk => walk_at "k"); (case hv => walk_at "v"))
  | ((with_reducible refine' w_dputZ ?hs ?h ?nd ?hk ?hv ?hu ?hl ?_); (case hs => assumption); (case h => walk_at "p"); (case nd => walk_at "nd"); (case hk => walk_at "k"); (case hv => walk_at "v"); (case hu => walk_at "vs"); (case hl => decide); intro _ _)
  | with_reducible refine w_gsub ?_
  | with_reducible refine w_setD ?_
  | with_reducible refine w_disp ?_
  | ((with_reducible refine' w_newP ?hs ?_); (case hs => assumption); intro _ _ _)
  | with_reducible refine w_pcons ?_
  | with_reducible refine w_pnil ?_)

local macro_rules | `(tactic| walk_at "nd") => `(tactic| first | exact bK_nd | exact mK_nd | exact gK_nd)
local macro_rules | `(tactic| walk_at "k") => `(tactic| first | exact bK_first | exact bK_rows | exact bK_said | exact bK_next | exact bK_early | exact bK_when | exact bK_wait | exact bK_tries | exact bK_owes | exact mK_epoch | exact mK_boot | exact mK_state | exact mK_body | exact gK_epoch | exact gK_boot | exact gK_body | exact gK_awake)
section
variable {P : Program} [IsP P] {w : World} {K : PySem.W.Frag} {mg : Str → Option Value} {base : Heap} {a : Ad}
def sp__law_line_take : Sp := fun vs H Q _ => (∃ (B : Hp) (l g : Addr) (X : LS) (M : MB) (S : BS) (w0 w1 w3 : V) (sn ep m now : Int) (kind t : Str), vs = [.ref l, .ref g, .int now] ∧ Hs B (mlL l X M S) H ∧ B g = some (.tup [w0, w1, .int sn, w3, .int ep, .str kind, .int m, .str t]) ∧
    X.to = 2 ∧ 0 ≤ m ∧ BOk S ∧ KvOk (S.n + 4) S.kv ∧ PyData.strOk t = true ∧ S.kv.length ≤ 900 ∧
    ∀ D r H', Hs B ((D, .lst (takeL X S sn ep kind m t)) :: mlL l (takeX X sn ep kind m) { M with r := r } (takeS X S sn ep kind m t now)) H' → Q (.ref D) H') ∨
  (∃ (B : Hp) (l g : Addr) (X : LS) (w0 w1 w3 : V) (sn ep m now : Int) (kind t : Str), vs = [.ref l, .ref g, .int now] ∧ Hs B [(l, mlo X .non)] H ∧ B g = some (.tup [w0, w1, .int sn, w3, .int ep, .str kind, .int m, .str t]) ∧ X.st = "none" ∧
    ∀ D H', Hs B [(D, .lst []), (l, mlo X .non)] H' → Q (.ref D) H')
theorem ok__law_line_take (T : Txt K mg a) : FnOk P w K mg base CX0 3 a._law_line_take a.fd__law_line_take ["m", "segment", "now"] sp__law_line_take := by
  have G__law_hear := ok__law_hear (P := P) (w := w) (base := base) T
  have G__law_start := ok__law_start (P := P) (w := w) (base := base) T
  refine T.fn__law_line_take.ok sc__law_line_take (fun vs H Q E h => ?_) (fun cdv A outer s H vs Q E hr h => ?_)
  · rcases h with ⟨_, _, _, _, _, _, _, _, _, _, _, _, _, _, _, rfl, _⟩ | ⟨_, _, _, _, _, _, _, _, _, _, _, _, _, rfl, _⟩ <;> rfl
  have hu := hu_of hr
  refine ⟨_, (pss_cons (ps_asg (pv 1) (pg_tupK (K := K) rfl (pgs_cons (pg_name (i := 3) sc__law_line_take.nd rfl (Or.inl rfl)) (pgs_cons (pg_name (i := 4) sc__law_line_take.nd rfl (Or.inl rfl)) (pgs_cons (pg_name (i := 5) sc__law_line_take.nd rfl (Or.inl rfl)) (pgs_cons (pg_name (i := 6) sc__law_line_take.nd rfl (Or.inl rfl)) (pgs_cons (pg_name (i := 7) sc__law_line_take.nd rfl (Or.inl rfl)) (pgs_cons (pg_name (i := 8) sc__law_line_take.nd rfl (Or.inl rfl)) (pgs_cons (pg_name (i := 9) sc__law_line_take.nd rfl (Or.inl rfl)) (pgs_cons (pg_name (i := 10) sc__law_line_take.nd rfl (Or.inl rfl)) pgs_nil))))))))))
  (pss_cons (ps_if (PW.pt (pw_or (pt_cmpR op_ne (pv 5) pe_int (nomark _)) (pw_or1 (pt_cmpR op_ne (pv 7) (pe_dget hu (pv 0) pe_str (fun _ _ => rfl)) (nomark _)))))
  (pss_one (ps_ret (pe_lst pa_nil)))
  pss_nil)
  (pss_cons (ps_if (PW.pt (pw_and (pt_cmpR op_eq (pe_dget hu (pv 0) pe_str (fun _ _ => rfl)) pe_str (nomark _)) (pw_and1 (pt_cmpR (op_inK (K := K)) (pv 8) (pe_tup (pa_cons pe_str (pa_cons pe_str pa_nil))) (by rfl)))))
  (pss_one (ps_ret (pe_call G__law_hear (hr.mono (by decide)) rfl T.mg__law_hear T.kp__law_hear T.bi__law_hear .nil pass0 (pa_cons (pe_dget hu (pv 0) pe_str (fun _ _ => rfl)) (pa_cons (pv 8) (pa_cons (pv 9) (pa_cons (pv 10) (pa_cons (pv 2) pa_nil))))))))
  pss_nil)
  (C8.pss_cut (ps_if (PW.pt (pw_and (pt_cmpR op_eq (pe_dget hu (pv 0) pe_str (fun _ _ => rfl)) pe_str (nomark _)) (pw_and (pt_cmpR op_eq (pv 8) pe_str (nomark _)) (pw_and1 (pt_cmpR op_ne (pv 9) (pe_dget hu (pv 0) pe_str (fun _ _ => rfl)) (nomark _))))))
  (pss_cons (ps_dput hu (pv 0) pe_str (pv 9) rfl)
  (pss_cons (ps_expr (pe_call G__law_start (hr.mono (by decide)) rfl T.mg__law_start T.kp__law_start T.bi__law_start .nil pass0 (pa_cons (pe_dget hu (pv 0) pe_str (fun _ _ => rfl)) (pa_cons (pv 2) pa_nil))))
  (pss_one (ps_dput hu (pe_dget hu (pv 0) pe_str (fun _ _ => rfl)) pe_str (pv 2) rfl))))
  pss_nil)
  (C8.pss_cut (ps_if (PW.pt (pw_and (pt_cmpR op_eq (pe_dget hu (pv 0) pe_str (fun _ _ => rfl)) pe_str (nomark _)) (pw_and (pt_cmpR op_eq (pv 8) pe_str (nomark _)) (pw_and (pt_cmpR op_eq (pv 9) (pe_dget hu (pv 0) pe_str (fun _ _ => rfl)) (nomark _)) (pw_and1 (pt_cmpR op_gt (pv 9) pe_int (nomark _)))))))
  (pss_cons (ps_dput hu (pv 0) pe_str pe_str rfl)
  (pss_one (ps_asg (pe_tup (pa_cons pe_non (pa_cons pe_int pa_nil))) (pg_tupK (K := K) rfl (pgs_cons (pg_sub (pe_dget hu (pv 0) pe_str (fun _ _ => rfl)) pe_str (set_dict hu)) (pgs_cons (pg_sub (pe_dget hu (pv 0) pe_str (fun _ _ => rfl)) pe_str (set_dict hu)) pgs_nil))))))
  pss_nil)
  (pss_one (ps_ret (pe_lst pa_nil)))))))), ?_⟩
  rcases h with ⟨B, l, g, X, M, S, w0, w1, w3, sn, ep, m, now, kind, t, rfl, hs, hg, hto, hm, ok, kok, tok, kl, k⟩ | ⟨B, l, g, X, w0, w1, w3, sn, ep, m, now, kind, t, rfl, hs, hg, hst, k⟩
  · have hg2 : H g = _ := hs.same _ _ hg
    walk_at "ss"
    refine ifn (fun h1 => ?_) (fun h1 => ?_)
    · walk_at "ss"
      rename_i D H1 hs1
      have hc : sn ≠ X.to ∨ ep ≠ X.ep := .inl (by rw [hto]; exact h1)
      have := k D M.r H1
      unfold takeL takeX takeS at this
      rw [if_pos hc, if_pos hc, if_pos hc] at this
      exact this hs1
    walk_at "ss"
    refine ifn (fun h2 => ?_) (fun h2 => ?_)
    · walk_at "ss"
      rename_i D H1 hs1
      have hc : sn ≠ X.to ∨ ep ≠ X.ep := .inr h2
      have := k D M.r H1
      unfold takeL takeX takeS at this
      rw [if_pos hc, if_pos hc, if_pos hc] at this
      exact this hs1
    have h3 : ¬ (sn ≠ X.to ∨ ep ≠ X.ep) := fun z => z.elim (fun z => z (by rw [hto]; exact h1)) (fun z => z h2)
    walk_at "ss"
    refine ifd (fun h4 => ?_) (fun h4 => ?_)
    · have nh : ¬ X.st = "hailing" := fun z => absurd (h4.symm.trans z) (by decide +kernel)
      walk_at "ss"
      rename_i p0 H1 hs1
      refine w_inT (SqT.of hs1.g0) rfl rfl ?_
      have hs2 := hs1.tl
      clear hs hs1
      by_cases hk : kind = "data" ∨ kind = "ack"
      · rw [in2 hk]
        refine ⟨true, rfl, iteT ?_⟩
        walk_at "ss"
        have hs3 : Hs _ (mbL M S ++ [_]) _ := hs2.sel [1, 2, 3, 0]
        refine w_lhear hs3 ok kok tok kl hk fun D r H3 hs4 => ?_
        have := k D r H3
        unfold takeL takeX takeS at this
        rw [if_neg h3, if_pos h4, if_neg h3, if_pos h4, if_neg h3, if_pos h4] at this
        exact this (hs4.sel [0, 4, 1, 2, 3])
      · rw [nin2 hk]
        refine ⟨false, rfl, iteF ?_⟩
        walk_at "ss"
        refine w_cut (fun σ' H' => σ' = [some (.ref l), some (.ref g), some (.int now), some w0, some w1, some (.int sn), some w3, some (.int ep), some (.str kind), some (.int m), some (.str t)] ∧ Hs B (mlL l X M S) H') ?_ ?_
        · walk_at "ss"
          refine ifd (fun z => absurd z nh) (fun _ => ?_)
          walk_at "ss"
          exact ⟨rfl, hs2⟩
        · rintro σ' H' ⟨rfl, hs7⟩
          clear hs2
          walk_at "ss"
          refine w_cut (fun σ' H' => Hs B (mlL l X M S) H') ?_ ?_
          · walk_at "ss"
            refine ifd (fun z => absurd z nh) (fun _ => ?_)
            walk_at "ss"
            exact hs7
          · intro σ' H' hs8
            clear hs7
            walk_at "ss"
            rename_i D H9 hs9
            have := k D M.r H9
            have e1 : hearsL S kind m t = [] := if_neg (fun z => hk (.inl z))
            have e2 : hearsS S kind m t now = S := by
              unfold hearsS
              rw [if_neg (fun z => hk (.inl z)), if_neg (fun z => hk (.inr z))]
            unfold takeL takeX takeS at this
            rw [if_neg h3, if_pos h4, if_neg h3, if_pos h4, if_neg h3, if_pos h4, e1, e2] at this
            exact this hs9

    · walk_at "ss"
      by_cases hh : X.st = "hailing"
      · refine w_cut (fun σ' H' => σ' = [some (.ref l), some (.ref g), some (.int now), some w0, some w1, some (.int sn), some w3, some (.int ep), some (.str kind), some (.int m), some (.str t)] ∧ ((kind = "here" ∧ m ≠ X.bo ∧ Hs B (mlL l { X with bo := m } M { S with t := 0, w := 2, d := some now }) H') ∨ (¬ (kind = "here" ∧ m ≠ X.bo) ∧ Hs B (mlL l X M S) H'))) ?_ ?_
        · walk_at "ss"
          refine ifd (fun _ => ?_) (fun z => absurd hh z)
          walk_at "ss"
          refine ifd (fun h5 => ?_) (fun h5 => ?_)
          · walk_at "ss"
            refine ifn (fun h6 => ?_) (fun h6 => ?_)
            · walk_at "ss"
              rename_i H1 hs1
              have hs2 : Hs _ [_, _, _, _] _ := hs1.sel [1, 0, 2, 3]
              refine w_lstart hs2 fun H3 hs3 => ?_
              clear hs hs1 hs2
              walk_at "ss"
              rename_i H4 hs4
              exact ⟨rfl, .inl ⟨h5, h6, hs4.sel [1, 0, 2, 3]⟩⟩
            · walk_at "ss"
              exact ⟨rfl, .inr ⟨fun z => z.2 h6, hs⟩⟩
          · walk_at "ss"
            exact ⟨rfl, .inr ⟨fun z => h5 z.1, hs⟩⟩
        · rintro σ' H' ⟨rfl, hs7⟩
          clear hs
          walk_at "ss"
          refine w_cut (fun σ' H' => Hs B (mlL l (ansX X kind m) M (ansS X S kind m now)) H') ?_ ?_
          · rcases hs7 with ⟨h5, h6, hs7⟩ | ⟨h5, hs7⟩
            · have no : ¬ kind = "open" := fun z => absurd (h5.symm.trans z) (by decide +kernel)
              walk_at "ss"
              refine ifd (fun _ => ?_) (fun z => absurd hh z)
              walk_at "ss"
              refine ifd (fun z => absurd z no) (fun _ => ?_)
              walk_at "ss"
              unfold ansX ansS
              rw [if_pos ⟨h5, h6⟩, if_pos ⟨h5, h6⟩]
              exact hs7
            · walk_at "ss"
              refine ifd (fun _ => ?_) (fun z => absurd hh z)
              walk_at "ss"
              refine ifd (fun h7 => ?_) (fun h7 => ?_)
              · walk_at "ss"
                refine ifd (fun h8 => ?_) (fun h8 => ?_)
                · walk_at "ss"
                  refine ifd (fun h9 => ?_) (fun h9 => ?_)
                  · walk_at "ss"
                    rename_i Ha ha pt Hb hb Hc hc Hd hd
                    unfold ansX ansS
                    rw [if_neg h5, if_neg h5, if_pos ⟨h7, h8, by omega⟩, if_pos ⟨h7, h8, by omega⟩]
                    exact hd.tl
                  · walk_at "ss"
                    have hc : ¬ (kind = "open" ∧ m = X.bo ∧ m ≠ 0) := fun z => z.2.2 (by omega)
                    unfold ansX ansS
                    rw [if_neg h5, if_neg h5, if_neg hc, if_neg hc]
                    exact hs7
                · walk_at "ss"
                  have hc : ¬ (kind = "open" ∧ m = X.bo ∧ m ≠ 0) := fun z => h8 z.2.1
                  unfold ansX ansS
                  rw [if_neg h5, if_neg h5, if_neg hc, if_neg hc]
                  exact hs7
              · walk_at "ss"
                have hc : ¬ (kind = "open" ∧ m = X.bo ∧ m ≠ 0) := fun z => h7 z.1
                unfold ansX ansS
                rw [if_neg h5, if_neg h5, if_neg hc, if_neg hc]
                exact hs7
          · intro σ' H' hs8
            clear hs7
            walk_at "ss"
            rename_i D H9 hs9
            have := k D M.r H9
            unfold takeL takeX takeS at this
            rw [if_neg h3, if_neg h4, if_neg h3, if_neg h4, if_pos hh, if_neg h3, if_neg h4, if_pos hh] at this
            exact this hs9
      · have nh : ¬ X.st = "hailing" := hh
        refine w_cut (fun σ' H' => σ' = [some (.ref l), some (.ref g), some (.int now), some w0, some w1, some (.int sn), some w3, some (.int ep), some (.str kind), some (.int m), some (.str t)] ∧ Hs B (mlL l X M S) H') ?_ ?_
        · walk_at "ss"
          refine ifd (fun z => absurd z nh) (fun _ => ?_)
          walk_at "ss"
          exact ⟨rfl, hs⟩
        · rintro σ' H' ⟨rfl, hs7⟩
          clear hs
          walk_at "ss"
          refine w_cut (fun σ' H' => Hs B (mlL l X M S) H') ?_ ?_
          · walk_at "ss"
            refine ifd (fun z => absurd z nh) (fun _ => ?_)
            walk_at "ss"
            exact hs7
          · intro σ' H' hs8
            clear hs7
            walk_at "ss"
            rename_i D H9 hs9
            have := k D M.r H9
            unfold takeL takeX takeS at this
            rw [if_neg h3, if_neg h4, if_neg h3, if_neg h4, if_neg hh, if_neg h3, if_neg h4, if_neg hh] at this
            exact this hs9

  · have hg2 : H g = _ := hs.same _ _ hg
    have nh : ¬ X.st = "hailing" := by
      rw [hst]
      decide +kernel
    have no : ¬ X.st = "open" := by
      rw [hst]
      decide +kernel
    walk_at "ss"
    refine ifn (fun h1 => ?_) (fun h1 => ?_)
    · walk_at "ss"
      rename_i D H1 hs1
      exact k D H1 hs1
    walk_at "ss"
    refine ifn (fun h2 => ?_) (fun h2 => ?_)
    · walk_at "ss"
      rename_i D H1 hs1
      exact k D H1 hs1
    walk_at "ss"
    refine ifd (fun z => absurd z no) (fun _ => ?_)
    walk_at "ss"
    refine w_cut (fun σ' H' => σ' = [some (.ref l), some (.ref g), some (.int now), some w0, some w1, some (.int sn), some w3, some (.int ep), some (.str kind), some (.int m), some (.str t)] ∧ Hs B [(l, mlo X .non)] H') ?_ ?_
    · walk_at "ss"
      refine ifd (fun z => absurd z nh) (fun _ => ?_)
      walk_at "ss"
      exact ⟨rfl, hs⟩
    · rintro σ' H' ⟨rfl, hs7⟩
      clear hs
      walk_at "ss"
      refine w_cut (fun σ' H' => Hs B [(l, mlo X .non)] H') ?_ ?_
      · walk_at "ss"
        refine ifd (fun z => absurd z nh) (fun _ => ?_)
        walk_at "ss"
        exact hs7
      · intro σ' H' hs8
        clear hs7
        walk_at "ss"
        rename_i D H9 hs9
        exact k D H9 hs9

end
local macro_rules | `(tactic| walk_at "v") => `(tactic| first | exact v0 | exact v1 | exact v2 | exact v3 | exact v4 | exact v5 | exact v6 | exact v7 | exact v8)
local macro_rules | `(tactic| walk_at "vs") => `(tactic| first | exact st0 | exact st1 | exact st2 | exact st3 | exact st4 | exact st5 | exact st6 | exact st7 | exact st8)
local macro_rules | `(tactic| walk_at "s") => `(tactic| first
  | with_reducible refine w_dget ?_
  | ((with_reducible refine' w_dgetZ ?h ?nd ?hk ?hv ?_); (case h => walk_at "g"); (case nd => walk_at "nd"); (case hk => walk_at "k"); (case hv => walk_at "v"))
  | ((with_reducible refine' w_dputZ ?hs ?h ?nd ?hk ?hv ?hu ?hl ?_); (case hs => assumption); (case h => walk_at "p"); (case nd => walk_at "nd"); (case hk => walk_at "k"); (case hv => walk_at "v"); (case hu => walk_at "vs"); (case hl => decide); intro _ _)
  | with_reducible refine w_gsub ?_
  | with_reducible refine w_setD ?_
  | with_reducible refine w_disp ?_
  | ((with_reducible refine' w_newP ?hs ?_); (case hs => assumption); intro _ _ _)
  | with_reducible refine w_pcons ?_
  | with_reducible refine w_pnil ?_)

local macro_rules | `(tactic| walk_at "nd") => `(tactic| first | exact bK_nd | exact mK_nd | exact gK_nd)
local macro_rules | `(tactic| walk_at "k") => `(tactic| first | exact bK_first | exact bK_rows | exact bK_said | exact bK_next | exact bK_early | exact bK_when | exact bK_wait | exact bK_tries | exact bK_owes | exact mK_epoch | exact mK_boot | exact mK_state | exact mK_body | exact gK_epoch | exact gK_boot | exact gK_body | exact gK_awake)
section
variable {P : Program} [IsP P] {w : World} {K : PySem.W.Frag} {mg : Str → Option Value} {base : Heap} {a : Ad}
/-! ### the law's guest -/
abbrev mgo (X : GS) (b : Addr) : HO := .dK (zipK gK [.int X.ep, .int X.bo, .ref b, .bl (!X.quiet)])
abbrev mgL (g : Addr) (X : GS) (M : MB) (S : BS) : List (Addr × HO) := (g, mgo X M.b) :: mbL M S
/-- the body as the guest has it -/
def osG (X : GS) (S : BS) : Option BS := if X.ep = 0 then none else some S
/-- the plain body behind a segment -/
def gS1 (X : GS) (ep m now : Int) (kind t : Str) (S : BS) : BS := if kind = "hail" then (if m ≠ X.bo then S else if X.ep < ep then S0 else S) else if mineG X ep kind (osG X S) then hearsS S kind m t now else S
def sp__law_guest_take (K : PySem.W.Frag) : Sp := fun vs H Q _ => ∃ (B : Hp) (g z : Addr) (X : GS) (M : MB) (S : BS) (w0 w1 w2 w3 : V) (ep m now : Int) (kind t : Str), vs = [.ref g, .ref z, .int now] ∧ Hs B (mgL g X M S) H ∧ B z = some (.tup [w0, w1, w2, w3, .int ep, .str kind, .int m, .str t]) ∧
  BOk S ∧ KvOk (S.n + 4) S.kv ∧ PyData.strOk t = true ∧ S.kv.length ≤ 900 ∧
  ∀ p D1 D2 acc M' H', Hs B ((p, .tup [.ref D1, .ref D2]) :: (D1, .lst (gtakeL X ep m kind t (osG X S))) :: (D2, .lst acc) :: mgL g (gtakeG X ep m kind (osG X S)) M' (gS1 X ep m now kind t S)) H' → ImAll K H' acc ((gtakeT X ep m kind).map (segD 0 2 ep)) → Q (.ref p) H'
theorem ok__law_guest_take (T : Txt K mg a) : FnOk P w K mg base CX0 3 a._law_guest_take a.fd__law_guest_take ["g", "segment", "now"] (sp__law_guest_take K) := by
  have G__law_hear := ok__law_hear (P := P) (w := w) (base := base) T
  have G__law_body := ok__law_body (P := P) (w := w) (base := base) T
  refine T.fn__law_guest_take.ok sc__law_guest_take (fun vs H Q E h => ?_) (fun cdv A outer s H vs Q E hr h => ?_)
  · obtain ⟨_, _, _, _, _, _, _, _, _, _, _, _, _, _, _, rfl, _⟩ := h
    rfl
  have hu := hu_of hr
  refine ⟨_, (pss_cons (ps_asg (pv 1) (pg_tupK (K := K) rfl (pgs_cons (pg_name (i := 3) sc__law_guest_take.nd rfl (Or.inl rfl)) (pgs_cons (pg_name (i := 4) sc__law_guest_take.nd rfl (Or.inl rfl)) (pgs_cons (pg_name (i := 5) sc__law_guest_take.nd rfl (Or.inl rfl)) (pgs_cons (pg_name (i := 6) sc__law_guest_take.nd rfl (Or.inl rfl)) (pgs_cons (pg_name (i := 7) sc__law_guest_take.nd rfl (Or.inl rfl)) (pgs_cons (pg_name (i := 8) sc__law_guest_take.nd rfl (Or.inl rfl)) (pgs_cons (pg_name (i := 9) sc__law_guest_take.nd rfl (Or.inl rfl)) (pgs_cons (pg_name (i := 10) sc__law_guest_take.nd rfl (Or.inl rfl)) pgs_nil))))))))))
  (pss_cons (ps_if (pt_cmpR op_eq (pv 8) pe_str (nomark _))
  (pss_cons (ps_if (pt_cmpR op_ne (pv 9) (pe_dget hu (pv 0) pe_str (fun _ _ => rfl)) (nomark _))
  (pss_one (ps_ret (pe_tup (pa_cons (pe_lst pa_nil) (pa_cons (pe_lst (pa_cons (pe_tup (pa_cons pe_str (pa_cons pe_int (pa_cons pe_int (pa_cons pe_int (pa_cons (pv 7) (pa_cons pe_str (pa_cons (pe_dget hu (pv 0) pe_str (fun _ _ => rfl)) (pa_cons pe_str pa_nil))))))))) pa_nil)) pa_nil)))))
  pss_nil)
  (pss_cons (ps_if (pt_cmpR op_lt (pv 7) (pe_dget hu (pv 0) pe_str (fun _ _ => rfl)) (nomark _))
  (pss_one (ps_ret (pe_tup (pa_cons (pe_lst pa_nil) (pa_cons (pe_lst pa_nil) pa_nil)))))
  pss_nil)
  (C8.pss_cut (ps_if (pt_cmpR op_gt (pv 7) (pe_dget hu (pv 0) pe_str (fun _ _ => rfl)) (nomark _))
  (pss_one (ps_asg (pe_tup (pa_cons (pv 7) (pa_cons (pe_call0 G__law_body (hr.mono (by decide)) rfl T.mg__law_body T.kp__law_body T.bi__law_body .nil pass0) (pa_cons pe_bl pa_nil)))) (pg_tupK (K := K) rfl (pgs_cons (pg_sub (pv 0) pe_str (set_dict hu)) (pgs_cons (pg_sub (pv 0) pe_str (set_dict hu)) (pgs_cons (pg_sub (pv 0) pe_str (set_dict hu)) pgs_nil))))))
  pss_nil)
  (pss_one (ps_ret (pe_tup (pa_cons (pe_lst pa_nil) (pa_cons (pe_lst (pa_cons (pe_tup (pa_cons pe_str (pa_cons pe_int (pa_cons pe_int (pa_cons pe_int (pa_cons (pv 7) (pa_cons pe_str (pa_cons (pe_dget hu (pv 0) pe_str (fun _ _ => rfl)) (pa_cons pe_str pa_nil))))))))) pa_nil)) pa_nil))))))))
  pss_nil)
  (pss_cons (ps_if (PW.pt (pw_or (pt_cmpR op_eq (pe_dget hu (pv 0) pe_str (fun _ _ => rfl)) pe_int (nomark _)) (pw_or (pt_cmpR op_ne (pv 7) (pe_dget hu (pv 0) pe_str (fun _ _ => rfl)) (nomark _)) (pw_or1 (pt_cmpR (op_niK (K := K)) (pv 8) (pe_tup (pa_cons pe_str (pa_cons pe_str pa_nil))) (by rfl))))))
  (pss_one (ps_ret (pe_tup (pa_cons (pe_lst pa_nil) (pa_cons (pe_lst pa_nil) pa_nil)))))
  pss_nil)
  (pss_cons (ps_dput hu (pv 0) pe_str pe_bl rfl)
  (pss_one (ps_ret (pe_tup (pa_cons (pe_call G__law_hear (hr.mono (by decide)) rfl T.mg__law_hear T.kp__law_hear T.bi__law_hear .nil pass0 (pa_cons (pe_dget hu (pv 0) pe_str (fun _ _ => rfl)) (pa_cons (pv 8) (pa_cons (pv 9) (pa_cons (pv 10) (pa_cons (pv 2) pa_nil)))))) (pa_cons (pe_lst pa_nil) pa_nil))))))))), ?_⟩
  obtain ⟨B, g, z, X, M, S, w0, w1, w2, w3, ep, m, now, kind, t, rfl, hs, hg, ok, kok, tok, kl, k⟩ := h
  have hg2 : H z = _ := hs.same _ _ hg
  walk_at "ss"
  refine ifd (fun h1 => ?_) (fun h1 => ?_)
  · have eb : (ansG X ep m).bo = X.bo := by
      unfold ansG
      split
      · rfl
      · split <;> rfl
    walk_at "ss"
    refine ifn (fun h2 => ?_) (fun h2 => ?_)
    · walk_at "ss"
      rename_i D1 H1 hs1 T0 H2 hs2 D2 H3 hs3 p H4 hs4
      have := k p D1 D2 [.ref T0] M H4
      unfold gtakeL gtakeT gtakeG gS1 ansT ansG at this
      rw [if_pos h1, if_pos h1, if_pos h1, if_pos h1, if_pos h2, if_pos h2, if_pos h2] at this
      refine this (hs4.sel [0, 3, 1, 4, 5, 6, 7]) (.cons (.tup (hs4.get (i := 2) rfl) ?_) .nil)
      exact .cons (.str _) (.cons (.int _) (.cons (.int _) (.cons (.int _) (.cons (.int _) (.cons (.str _) (.cons (.int _) (.cons (.str _) .nil)))))))
    · walk_at "ss"
      refine ifd (fun h3 => ?_) (fun h3 => ?_)
      · walk_at "ss"
        rename_i D1 H1 hs1 D2 H3 hs3 p H4 hs4
        have hc : ¬ X.ep < ep := by omega
        have hm : ¬ m ≠ X.bo := fun q => q h2
        have := k p D1 D2 [] M H4
        unfold gtakeL gtakeT gtakeG gS1 ansT ansG at this
        rw [if_pos h1, if_pos h1, if_pos h1, if_pos h1, if_neg hm, if_neg hm, if_neg hm, if_neg hc, if_neg hc, if_pos h3] at this
        exact this (hs4.sel [0, 2, 1, 3, 4, 5, 6]) .nil
      · have hm : ¬ m ≠ X.bo := fun q => q h2
        walk_at "ss"
        refine w_cut (fun σ' H' => σ' = [some (.ref g), some (.ref z), some (.int now), some w0, some w1, some w2, some w3, some (.int ep), some (.str kind), some (.int m), some (.str t)] ∧ ∃ M', Hs B (mgL g (ansG X ep m) M' (if X.ep < ep then S0 else S)) H') ?_ ?_
        · have eg : ansG X ep m = if X.ep < ep then { X with ep := ep, quiet := true } else X := if_neg hm
          rw [eg]
          walk_at "ss"
          refine ifd (fun h4 => ?_) (fun h4 => ?_)
          · walk_at "ss"
            refine ⟨rfl, fun M2 H2 h2' => ?_⟩
            have hs2 : Hs B [_, _, _, _, _, _, _] H2 := hs.add h2'
            clear hs h2'
            walk_at "ss"
            rename_i pt Ha ha Hb hb Hc hc Hd hd
            refine ⟨rfl, M2, ?_⟩
            rw [if_pos h4, if_pos h4]
            exact hd.sel [4, 1, 2, 3]
          · walk_at "ss"
            refine ⟨rfl, M, ?_⟩
            rw [if_neg h4, if_neg h4]
            exact hs
        · rintro σ' H' ⟨rfl, M', hs2⟩
          clear hs
          walk_at "ss"
          rename_i D1 H1 hs1 T0 H2 hs2 D2 H3 hs3 p H4 hs4
          have := k p D1 D2 [.ref T0] M' H4
          have e1 : gtakeT X ep m kind = [(("open" : Str), X.bo, ("" : Str))] := by
            unfold gtakeT ansT
            rw [if_pos h1, if_neg hm, if_neg h3]
          have e2 : gtakeL X ep m kind t (osG X S) = [] := if_pos h1
          have e3 : gtakeG X ep m kind (osG X S) = ansG X ep m := if_pos h1
          have e4 : gS1 X ep m now kind t S = if X.ep < ep then S0 else S := by
            unfold gS1
            rw [if_pos h1, if_neg hm]
          rw [e1, e2, e3, e4] at this
          refine this (hs4.sel [0, 3, 1, 4, 5, 6, 7]) (.cons (.tup (hs4.get (i := 2) rfl) ?_) .nil)
          rw [eb]
          exact .cons (.str _) (.cons (.int _) (.cons (.int _) (.cons (.int _) (.cons (.int _) (.cons (.str _) (.cons (.int _) (.cons (.str _) .nil)))))))
  · have kno : ¬ mineG X ep kind (osG X S) → ∀ p D1 D2 H', Hs B ((p, .tup [.ref D1, .ref D2]) :: (D1, .lst []) :: (D2, .lst []) :: mgL g X M S) H' → Q (.ref p) H' := fun hn p D1 D2 H' h => by
      have := k p D1 D2 [] M H'
      unfold gtakeL gtakeT gtakeG gS1 at this
      rw [if_neg h1, if_neg hn, if_neg h1, if_neg hn, if_neg h1, if_neg hn, if_neg h1] at this
      exact this h .nil
    walk_at "ss"
    refine ifd (fun h2 => ?_) (fun h2 => ?_)
    · have hn : ¬ mineG X ep kind (osG X S) := fun q => by
        have q2 := q.2.1
        unfold osG at q2
        rw [if_pos h2] at q2
        cases q2
      walk_at "ss"
      rename_i D1 H1 hs1 D2 H3 hs3 p H4 hs4
      exact kno hn p D1 D2 H4 (hs4.sel [0, 2, 1, 3, 4, 5, 6])
    · walk_at "ss"
      refine ifn (fun h3 => ?_) (fun h3 => ?_)
      · walk_at "ss"
        rename_i D1 H1 hs1 D2 H3 hs3 p H4 hs4
        exact kno (fun q => h3 q.2.2) p D1 D2 H4 (hs4.sel [0, 2, 1, 3, 4, 5, 6])
      · walk_at "ss"
        rename_i p0 H1 hs1
        refine w_inT (SqT.of hs1.g0) rfl rfl ?_
        have hs2 := hs1.tl
        clear hs hs1
        by_cases hk : kind = "data" ∨ kind = "ack"
        · rw [in2 hk]
          refine ⟨false, rfl, iteF ?_⟩
          walk_at "ss"
          rename_i H2 hs3
          have hs4 : Hs _ (mbL M S ++ [_]) _ := hs3.sel [1, 2, 3, 0]
          refine w_lhear hs4 ok kok tok kl hk fun D r H4 hs5 => ?_
          clear hs2 hs3 hs4
          have hs : Hs B [_, _, _, _, _] H4 := hs5
          clear hs5
          walk_at "ss"
          rename_i D2 H5 hs5 p H6 hs6
          have eo : osG X S = some S := if_neg h2
          have hm : mineG X ep kind (osG X S) := ⟨hk, by rw [eo]; rfl, h3⟩
          have := k p D D2 [] { M with r := r } H6
          unfold gtakeL gtakeT gtakeG gS1 at this
          rw [if_neg h1, if_pos hm, if_neg h1, if_pos hm, if_neg h1, if_pos hm, if_neg h1, eo] at this
          exact this (hs6.sel [0, 2, 1, 6, 3, 4, 5]) .nil
        · rw [nin2 hk]
          refine ⟨true, rfl, iteT ?_⟩
          walk_at "ss"
          rename_i D1 H1 hs1 D2 H3 hs3 p H4 hs4
          exact kno (fun q => hk q.1) p D1 D2 H4 (hs4.sel [0, 2, 1, 3, 4, 5, 6])
end
local macro_rules | `(tactic| walk_at "v") => `(tactic| first | exact v0 | exact v1 | exact v2 | exact v3 | exact v4 | exact v5 | exact v6 | exact v7 | exact v8)
local macro_rules | `(tactic| walk_at "vs") => `(tactic| first | exact st0 | exact st1 | exact st2 | exact st3 | exact st4 | exact st5 | exact st6 | exact st7 | exact st8)
local macro_rules | `(tactic| walk_at "s") => `(tactic| first
  | with_reducible refine w_dget ?_
  | ((with_reducible refine' w_dgetZ ?h ?nd ?hk ?hv ?_); (case h => walk_at "g"); (case nd => walk_at "nd"); (case hk => walk_at "k"); (case hv => walk_at "v"))
  | ((with_reducible refine' w_dputZ ?hs ?h ?nd ?hk ?hv ?hu ?hl ?_); (case hs => assumption); (case h => walk_at "p"); (case nd => walk_at "nd"); (case hk => walk_at "k"); (case hv => walk_at "v"); (case hu => walk_at "vs"); (case hl => decide); intro _ _)
  | with_reducible refine w_gsub ?_
  | with_reducible refine w_setD ?_
  | with_reducible refine w_disp ?_
  | ((with_reducible refine' w_newP ?hs ?_); (case hs => assumption); intro _ _ _)
  | with_reducible refine w_pcons ?_
  | with_reducible refine w_pnil ?_)

local macro_rules | `(tactic| walk_at "nd") => `(tactic| first | exact bK_nd | exact mK_nd | exact gK_nd)
local macro_rules | `(tactic| walk_at "k") => `(tactic| first | exact bK_first | exact bK_rows | exact bK_said | exact bK_next | exact bK_early | exact bK_when | exact bK_wait | exact bK_tries | exact bK_owes | exact mK_epoch | exact mK_boot | exact mK_state | exact mK_body | exact gK_epoch | exact gK_boot | exact gK_body | exact gK_awake)
section
variable {P : Program} [IsP P] {w : World} {K : PySem.W.Frag} {mg : Str → Option Value} {base : Heap} {a : Ad}
theorem w_begin {B H : Hp} {Q : VK} {E : XK} {l dl : Addr} {X : LS} {A : BA} {S : BS} {ep now : Int} {R : List (Addr × HO)} (hs : Hs B (lineL a l dl X A S ++ R) H)
    (q1 : ep ≤ X.ep → ∀ d H', Hs B (((d, .xd [("state", .str "epoch")]) :: lineL a l dl X A S) ++ R) H' → E (.ref a.StateError) (some d) H')
    (q2 : X.ep < ep → ∀ A' H', Hs B (lineL a l dl ⟨ep, 0, "hailing", X.to⟩ A' { S0 with d := some now } ++ R) H' → Q .non H') : sp_Line_begin a [.ref l, .int ep, .int now] H Q E := by
  obtain ⟨_, h1, back⟩ := hs.frame (lineL a l dl X A S)
  exact ⟨_, l, dl, X, A, S, ep, now, rfl, h1, fun h d H' h2 => q1 h d H' (back _ _ h2), fun h A' H' h2 => q2 h A' H' (back _ _ h2)⟩
def sp__law_begun (a : Ad) : Sp := fun vs H Q _ => ∃ (B : Hp) (l dl ml : Addr) (X : LS) (A : BA) (S : BS) (b : V) (ep now : Int), vs = [.ref l, .ref ml, .int ep, .int now] ∧ Hs B (lineL a l dl X A S ++ [(ml, mlo X b)]) H ∧
  (ep ≤ X.ep → ∀ H', Hs B (lineL a l dl X A S ++ [(ml, mlo X b)]) H' → Q (.bl true) H') ∧
  (X.ep < ep → ∀ A' M' H', Hs B (lineL a l dl ⟨ep, 0, "hailing", X.to⟩ A' { S0 with d := some now } ++ mlL ml ⟨ep, 0, "hailing", X.to⟩ M' { S0 with d := some now }) H' → Q (.bl true) H')
theorem ok__law_begun (T : Txt K mg a) : FnOk P w K mg base CX0 6 a._law_begun a.fd__law_begun ["line", "m", "epoch", "now"] (sp__law_begun a) := by
  have G_Line_begin := ok_Line_begin (P := P) (w := w) (base := base) T
  have G__law_body := ok__law_body (P := P) (w := w) (base := base) T
  refine T.fn__law_begun.ok sc__law_begun (fun vs H Q E h => ?_) (fun cdv A outer s H vs Q E hr h => ?_)
  · obtain ⟨_, _, _, _, _, _, _, _, _, _, rfl, _⟩ := h
    rfl
  have hu := hu_of hr
  obtain ⟨B, l, dl, ml, X, A, S, b, ep, now, rfl, hs, k1, k2⟩ := h
  have c1 := T.cl_Line
  refine ⟨_, (pss_cons (ps_try_as (i := 4) rfl rfl sc__law_begun.nd rfl rfl ⟨rfl, by decide, .inl T.mg_StateError⟩ takes0 (fun W pn xe tk _ => by exact (pss_one (ps_expr (pe_methQ (pv 0) T.cl_Line T.me_Line_begin G_Line_begin (hr.mono (by decide)) T.bi_Line_begin (fun σ => passAt tk σ) (pa_cons (pv 2) (pa_cons (pv 3) pa_nil)))))) (fun a1 oe cls dd pn hz hf => by exact (pss_one (ps_ret (pe_and (pe_callB (call_isX hz hf) (by rfl) T.mg_isinstance (by decide +kernel) (pa_cons (pv 4) (pa_cons (pe_glob (v := .ref a.BridgeError) rfl T.mg_BridgeError rfl) pa_nil))) (pe_and (pe_cmpR op_eq (pe_xf T.xf_StateError T.no_StateError_state hz hf (pv 4)) pe_str (nomark _)) (pe_one (pe_cmpR op_le (pv 2) (pe_dget hu (pv 1) pe_str (fun _ _ => rfl)) (nomark _)))))))))
  (pss_cons (ps_set (i := 5) sc__law_begun.nd rfl (Or.inl rfl) (pe_cmpR op_gt (pv 2) (pe_dget hu (pv 1) pe_str (fun _ _ => rfl)) (nomark _)))
  (pss_cons (ps_asg (pe_tup (pa_cons (pv 2) (pa_cons pe_int (pa_cons pe_str (pa_cons (pe_call0 G__law_body (hr.mono (by decide)) rfl T.mg__law_body T.kp__law_body T.bi__law_body .nil pass0) pa_nil))))) (pg_tupK (K := K) rfl (pgs_cons (pg_sub (pv 1) pe_str (set_dict hu)) (pgs_cons (pg_sub (pv 1) pe_str (set_dict hu)) (pgs_cons (pg_sub (pv 1) pe_str (set_dict hu)) (pgs_cons (pg_sub (pv 1) pe_str (set_dict hu)) pgs_nil))))))
  (pss_cons (ps_dput hu (pe_dget hu (pv 1) pe_str (fun _ _ => rfl)) pe_str (pv 3) rfl)
  (pss_one (ps_ret (pv 5))))))), ?_⟩
  have hs : Hs B [_, _, _, _, _, _, _, _] H := hs
  walk_at "ss"
  refine w_begin (R := [_]) hs (fun h0 d H2 hs2 => ?_) (fun h0 A' H2 hs2 => ?_)
  · clear hs
    have hs2 : Hs B [_, _, _, _, _, _, _, _, _] H2 := hs2
    refine w_was T.te_StateError fun e he => ?_
    walk_at "ss"
    refine w_isX hs2.g0 T.xc_StateError T.is_StateError_BridgeError ?_
    walk_at "ss"
    refine ifd (fun _ => ?_) (fun z => absurd rfl z)
    walk_at "ss"
    rw [decide_eq_true h0]
    exact k1 h0 H2 hs2.tl
  · clear hs
    have hs2 : Hs B [_, _, _, _, _, _, _, _] H2 := hs2
    walk_at "ss"
    refine ⟨rfl, fun M H3 h3 => ?_⟩
    have hs3 : Hs B [_, _, _, _, _, _, _, _, _, _, _] H3 := hs2.add h3
    clear hs2 h3
    walk_at "ss"
    rename_i pt Ha ha Hb hb Hc hc Hd hd He he Hf hf
    rw [decide_eq_true h0]
    exact k2 h0 A' M Hf (hf.sel [4, 5, 6, 7, 8, 9, 10, 11, 1, 2, 3])
theorem w_send {B H : Hp} {Q : VK} {E : XK} {l dl : Addr} {X : LS} {A : BA} {S : BS} {t : Str} {R : List (Addr × HO)} (hs : Hs B (lineL a l dl X A S ++ R) H) (hl : S.rows.length ≤ 1000) (hx : X.st.length ≤ 1000)
    (q1 : ¬ (X.st = "hailing" ∨ X.st = "open") → ∀ d H', Hs B (((d, .xd [("state", .str X.st)]) :: lineL a l dl X A S) ++ R) H' → E (.ref a.StateError) (some d) H')
    (q2 : (X.st = "hailing" ∨ X.st = "open") → S.rows.length < 300 → ∀ H', Hs B (lineL a l dl X A { S with rows := S.rows ++ [t] } ++ R) H' → Q .non H')
    (q3 : (X.st = "hailing" ∨ X.st = "open") → 300 ≤ S.rows.length → ∀ d H', Hs B (((d, .xd [("place", .str "queue")]) :: lineL a l dl X A S) ++ R) H' → E (.ref a.RoomError) (some d) H') : sp_Line_send a [.ref l, .str t] H Q E := by
  obtain ⟨_, h1, back⟩ := hs.frame (lineL a l dl X A S)
  exact ⟨_, l, dl, X, A, S, t, rfl, h1, hl, hx, fun h d H' h2 => q1 h d H' (back _ _ h2), fun h h' H' h2 => q2 h h' H' (back _ _ h2), fun h h' d H' h2 => q3 h h' d H' (back _ _ h2)⟩
def sp__law_sent (a : Ad) : Sp := fun vs H Q _ => (∃ (B : Hp) (l dl ml : Addr) (X : LS) (A : BA) (S : BS) (b : V) (t : Str), vs = [.ref l, .ref ml, .str t] ∧ Hs B (lineL a l dl X A S ++ [(ml, mlo X b)]) H ∧ S.rows.length < 300 ∧ (X.st = "none" ∨ X.st = "failed") ∧
    ∀ H', Hs B (lineL a l dl X A S ++ [(ml, mlo X b)]) H' → Q (.bl true) H') ∨
  (∃ (B : Hp) (l dl ml : Addr) (X : LS) (A : BA) (M : MB) (S : BS) (t : Str), vs = [.ref l, .ref ml, .str t] ∧ Hs B (lineL a l dl X A S ++ mlL ml X M S) H ∧ S.rows.length < 300 ∧ (X.st = "hailing" ∨ X.st = "open") ∧
    ∀ H', Hs B (lineL a l dl X A { S with rows := S.rows ++ [t] } ++ mlL ml X M { S with rows := S.rows ++ [t] }) H' → Q (.bl true) H')
theorem ok__law_sent (T : Txt K mg a) : FnOk P w K mg base CX0 6 a._law_sent a.fd__law_sent ["line", "m", "text"] (sp__law_sent a) := by
  have G_Line_send := ok_Line_send (P := P) (w := w) (base := base) T
  refine T.fn__law_sent.ok sc__law_sent (fun vs H Q E h => ?_) (fun cdv A outer s H vs Q E hr h => ?_)
  · rcases h with ⟨_, _, _, _, _, _, _, _, _, rfl, _⟩ | ⟨_, _, _, _, _, _, _, _, _, rfl, _⟩ <;> rfl
  have hu := hu_of hr
  have c1 := T.cl_Line
  refine ⟨_, (pss_cons (ps_try_as (i := 3) rfl rfl sc__law_sent.nd rfl rfl ⟨rfl, by decide, .inl T.mg_StateError⟩ takes0 (fun W pn xe tk _ => by exact (pss_one (ps_expr (pe_methQ (pv 0) T.cl_Line T.me_Line_send G_Line_send (hr.mono (by decide)) T.bi_Line_send (fun σ => passAt tk σ) (pa_cons (pv 2) pa_nil))))) (fun a1 oe cls dd pn hz hf => by exact (pss_one (ps_ret (pe_and (pe_cmpR (op_inK (K := K)) (pe_dget hu (pv 1) pe_str (fun _ _ => rfl)) (pe_tup (pa_cons pe_str (pa_cons pe_str pa_nil))) (by rfl)) (pe_one (pe_cmpR op_eq (pe_xf T.xf_StateError T.no_StateError_state hz hf (pv 3)) (pe_dget hu (pv 1) pe_str (fun _ _ => rfl)) (nomark _))))))))
  (pss_cons (ps_if (pt_cmpR (op_inK (K := K)) (pe_dget hu (pv 1) pe_str (fun _ _ => rfl)) (pe_tup (pa_cons pe_str (pa_cons pe_str pa_nil))) (by rfl))
  (pss_one (ps_ret pe_bl))
  pss_nil)
  (pss_cons (ps_expr (pe_bmK (K := K) PySem.F.plainAttrs_list PySem.F.slot_list_append PySem.F.type_list_append mt_append (pe_dget hu (pe_dget hu (pv 1) pe_str (fun _ _ => rfl)) pe_str (fun _ _ => rfl)) (pa_cons (pv 2) pa_nil)))
  (pss_one (ps_ret pe_bl))))), ?_⟩
  rcases h with ⟨B, l, dl, ml, X, A, S, b, t, rfl, hs, hl, hx, k⟩ | ⟨B, l, dl, ml, X, A, M, S, t, rfl, hs, hl, hx, k⟩
  · have hs : Hs B [_, _, _, _, _, _, _, _] H := hs
    have hno : ¬ (X.st = "hailing" ∨ X.st = "open") := by
      rcases hx with e | e <;> rw [e] <;> decide +kernel
    have hz : X.st.length ≤ 1000 := by
      rcases hx with e | e <;> rw [e] <;> decide +kernel
    walk_at "ss"
    refine w_send (R := [_]) hs (by omega) hz (fun _ d H2 hs2 => ?_) (fun z => absurd z hno) (fun z => absurd z hno)
    clear hs
    have hs2 : Hs B [_, _, _, _, _, _, _, _, _] H2 := hs2
    refine w_was T.te_StateError fun e he => ?_
    walk_at "ss"
    rename_i p H3 hs3
    refine w_inT (SqT.of hs3.g0) rfl rfl ?_
    rw [in2 hx]
    refine ⟨true, rfl, iteT ?_⟩
    walk_at "ss"
    rw [decide_eq_true (rfl : X.st = X.st)]
    exact k H3 hs3.tl.tl
  · have hs : Hs B [_, _, _, _, _, _, _, _, _, _, _] H := hs
    have hz : X.st.length ≤ 1000 := by
      rcases hx with e | e <;> rw [e] <;> decide +kernel
    walk_at "ss"
    refine w_send (R := [_, _, _, _]) hs (by omega) hz (fun z => absurd hx z) (fun _ _ H2 hs2 => ?_) (fun _ z => absurd z (by omega))
    clear hs
    have hs2 : Hs B [_, _, _, _, _, _, _, _, _, _, _] H2 := hs2
    walk_at "ss"
    rename_i p H3 hs3
    refine w_inT (SqT.of hs3.g0) rfl rfl ?_
    have hno : ¬ (X.st = "none" ∨ X.st = "failed") := by
      rcases hx with e | e <;> rw [e] <;> decide +kernel
    rw [nin2 hno]
    refine ⟨false, rfl, iteF ?_⟩
    have hs4 := hs3.tl
    clear hs2 hs3
    walk_at "ss"
    rename_i H5 hs5
    have e : S.rows.map V.str ++ [.str t] = (S.rows ++ [t]).map V.str := by rw [List.map_append]; rfl
    rw [e] at hs5
    exact k H5 hs5
end
local macro_rules | `(tactic| walk_at "v") => `(tactic| first | exact v0 | exact v1 | exact v2 | exact v3 | exact v4 | exact v5 | exact v6 | exact v7 | exact v8)
local macro_rules | `(tactic| walk_at "vs") => `(tactic| first | exact st0 | exact st1 | exact st2 | exact st3 | exact st4 | exact st5 | exact st6 | exact st7 | exact st8)
local macro_rules | `(tactic| walk_at "s") => `(tactic| first
  | with_reducible refine w_dget ?_
  | ((with_reducible refine' w_dgetZ ?h ?nd ?hk ?hv ?_); (case h => walk_at "g"); (case nd => walk_at "nd"); (case hk => walk_at "k"); (case hv => walk_at "v"))
  | ((with_reducible refine' w_dputZ ?hs ?h ?nd ?hk ?hv ?hu ?hl ?_); (case hs => assumption); (case h => walk_at "p"); (case nd => walk_at "nd"); (case hk => walk_at "k"); (case hv => walk_at "v"); (case hu => walk_at "vs"); (case hl => decide); intro _ _)
  | with_reducible refine w_gsub ?_
  | with_reducible refine w_setD ?_
  | with_reducible refine w_disp ?_
  | ((with_reducible refine' w_newP ?hs ?_); (case hs => assumption); intro _ _ _)
  | with_reducible refine w_pcons ?_
  | with_reducible refine w_pnil ?_)

local macro_rules | `(tactic| walk_at "nd") => `(tactic| first | exact bK_nd | exact mK_nd | exact gK_nd)
local macro_rules | `(tactic| walk_at "k") => `(tactic| first | exact bK_first | exact bK_rows | exact bK_said | exact bK_next | exact bK_early | exact bK_when | exact bK_wait | exact bK_tries | exact bK_owes | exact mK_epoch | exact mK_boot | exact mK_state | exact mK_body | exact gK_epoch | exact gK_boot | exact gK_body | exact gK_awake)
section
variable {P : Program} [IsP P] {w : World} {K : PySem.W.Frag} {mg : Str → Option Value} {base : Heap} {a : Ad}
/-! ### the draws of the law -/
/-- what a state may be -/
def Good (m : Int) (cells : List Int) : Prop := 0 ≤ m ∧ m < 2147483648 ∧ cells.length ≤ 1000
abbrev sto (c : Addr) (m : Int) : HO := .lst [.ref c, .int m]
abbrev clo (cells : List Int) : HO := .lst (cells.map V.int)
def sp__law_state (K : PySem.W.Frag) : Sp := fun vs H Q _ => ∃ (x : Addr) (ns : List Int), vs = [.ref x] ∧ SqL K H x (ns.map V.int) ∧ ns.length ≤ 1000 ∧ ∀ s c m cells H', Hs H [(s, sto c m), (c, clo cells)] H' → Good m cells → Q (.ref s) H'
def sp__law_draw : Sp := fun vs H Q _ => ∃ (B : Hp) (s c : Addr) (m many : Int) (cells : List Int), vs = [.ref s, .int many] ∧ Hs B [(s, sto c m), (c, clo cells)] H ∧ Good m cells ∧ many < 1000000000 ∧
  ∀ r m' cells' H', Hs B [(s, sto c m'), (c, clo cells')] H' → Good m' cells' → (many < 1 → r = 0) → (1 ≤ many → 0 ≤ r ∧ r < many) → Q (.int r) H'
theorem abs_map (ns : List Int) (i : Nat) {x : V} (h : (ns.map V.int)[i]? = some x) : ∃ n, ns[i]? = some n ∧ x = .int n := by
  rw [List.getElem?_map] at h
  cases e : ns[i]? with
  | none =>
    rw [e] at h
    cases h
  | some n =>
    rw [e] at h
    exact ⟨n, rfl, (Option.some.inj h).symm⟩
theorem ok__law_state (T : Txt K mg a) : FnOk P w K mg base CX0 1 a._law_state a.fd__law_state ["script"] (sp__law_state K) := by
  refine T.fn__law_state.ok sc__law_state (fun vs H Q E h => ?_) (fun cdv A outer s H vs Q E hr h => ?_)
  · obtain ⟨_, _, rfl, _⟩ := h
    rfl
  · obtain ⟨x, ns, rfl, hx, hl, k⟩ := h
    refine ⟨_, (pss_cons (ps_set (i := 1) sc__law_state.nd rfl (Or.inl rfl) pe_int)
  (pss_cons (ps_for PassesOwn.never rfl (pi_listK (K := K) (pv 0)) (pg_name (i := 2) sc__law_state.nd rfl (Or.inl rfl))
  (pss_one (ps_set (i := 1) sc__law_state.nd rfl (Or.inl rfl) (pe_op op_mod (pe_callTy call_intQ (by rfl) T.mg_int (by decide +kernel) (pa_cons (pe_op op_add (pe_op op_mul (pv 1) pe_int) (pv 2)) pa_nil)) pe_int))))
  (pss_one (ps_ret (pe_lst (pa_cons (pe_lc (own := [("cell", 2)]) (g := (gName 2)) (tt := tYes) rfl sc__law_state.nd (pi_listK (K := K) (pv 0)) (blkOk_by (own := [("cell", 2)]) (N := N__law_state) (sc := defScope s__law_state) (by decide +kernel)) (fun _ _ _ _ _ => by exact (pg_name (i := 2) sc__law_state.nd rfl (Or.inl rfl))) (fun _ _ _ _ _ => pts_nil) (fun _ _ _ _ _ => by exact (pe_callB call_absQ (by rfl) T.mg_abs (by decide +kernel) (pa_cons (pv 2) pa_nil)))) (pa_cons (pe_op op_add (pv 1) pe_int) pa_nil))))))), ?_⟩
    have hs : Hs H [] H := Hs.start H
    walk_at "ss"
    refine w_forL hx (fun i σ H' => ∃ (m : Int) (v : Option V), σ = [some (.ref x), some (.int m), v] ∧ 0 ≤ m ∧ m < 1000003 ∧ Hs H [] H') (fun Q q => ⟨_, rfl, q⟩) ⟨7, none, rfl, by omega, by omega, hs⟩ (fun i σ H' _ ⟨_, _, _, _, _, hs⟩ => hs.sql hx) ?_ ?_
    · rintro i y σ H' hi ⟨m, v, rfl, h0, h1, hs⟩
      obtain ⟨n, _, rfl⟩ := abs_map ns i hi
      walk_at "ss"
      refine ⟨(m * 31 + n) % 1000003, _, rfl, ?_, ?_, hs⟩
      · exact Int.emod_nonneg _ (by decide)
      · exact Int.emod_lt_of_pos _ (by decide)
    · rintro σ H' ⟨m, v, rfl, h0, h1, hs⟩
      walk_at "ss"
      have hx1 : SqL K H' x (ns.map V.int) := Hs.sql (by assumption) hx
      refine w_lc hx1 (fun D i H2 => ∃ acc : List Int, acc.length = i ∧ Hs H [(D, clo acc)] H2) (fun Q q => ⟨_, rfl, q⟩) (fun D hD => ⟨[], rfl, Hs.new (by assumption) hD⟩) (fun D i H2 _ ⟨_, _, hs⟩ => hs.sql hx) ?_ ?_
      · rintro D i y H2 hi ⟨acc, ha, hs⟩
        obtain ⟨n, _, rfl⟩ := abs_map ns i hi
        have hin : i < ns.length := by
          have := (List.getElem?_eq_some_iff.mp hi).1
          rwa [List.length_map] at this
        walk_at "ss"
        refine ⟨rfl, ?_⟩
        walk_at "ss"
        try (with_reducible refine iteT ?_)
        walk_at "ss"
        refine ⟨_, hs.g0, ?_, acc ++ [if n < 0 then -n else n], ?_, ?_⟩
        · refine szl ?_
          rw [List.length_map]
          omega
        · rw [List.length_append, ha]
          rfl
        · have := hs.p0 (.lst ((acc.map V.int) ++ [V.int (if n < 0 then -n else n)]))
          unfold clo
          rw [List.map_append]
          exact this
      · rintro D H2 ⟨acc, ha, hs⟩
        rw [List.length_map] at ha
        walk_at "ss"
        refine k _ D (m + 1) acc _ (by assumption) ⟨by omega, by omega, by omega⟩
theorem ok__law_draw (T : Txt K mg a) : FnOk P w K mg base CX0 1 a._law_draw a.fd__law_draw ["state", "many"] sp__law_draw := by
  refine T.fn__law_draw.ok sc__law_draw (fun vs H Q E h => ?_) (fun cdv A outer s H vs Q E hr h => ?_)
  · obtain ⟨_, _, _, _, _, _, rfl, _⟩ := h
    rfl
  · obtain ⟨B, s, c, m, many, cells, rfl, hs, ⟨hm0, hm1, hl⟩, hmany, k⟩ := h
    refine ⟨_, (pss_cons (ps_if (pt_cmpR op_lt (pv 1) pe_int (nomark _))
  (pss_one (ps_ret pe_int))
  pss_nil)
  (pss_cons (ps_set (i := 2) sc__law_draw.nd rfl (Or.inl rfl) (pe_ix (ix_listK (K := K)) (pv 0) pe_int (fun _ _ => rfl)))
  (pss_cons (ps_while PassesOwn.never (PW.pt (pw_and (pt_cmpR op_gt (pe_callB (call_lenK (K := K)) (by rfl) T.mg_len PySem.boot_len (pa_cons (pv 2) pa_nil)) pe_int (nomark _)) (pw_and1 (pt_cmpR op_eq (pe_ix (ix_listK (K := K)) (pv 2) pe_int (fun _ _ => rfl)) pe_int (nomark _)))))
  (pss_one (ps_expr (pe_bmK (K := K) PySem.F.plainAttrs_list PySem.F.slot_list_pop PySem.F.type_list_pop mt_popAt (pv 2) (pa_cons pe_int pa_nil)))))
  (pss_cons (ps_if (pt_cmpR op_gt (pe_callB (call_lenK (K := K)) (by rfl) T.mg_len PySem.boot_len (pa_cons (pv 2) pa_nil)) pe_int (nomark _))
  (pss_cons (ps_set (i := 3) sc__law_draw.nd rfl (Or.inl rfl) (pe_ix (ix_listK (K := K)) (pv 2) pe_int (fun _ _ => rfl)))
  (pss_cons (ps_asg (pe_op op_fdivW (pv 3) (pv 1)) (pg_sub (pv 2) pe_int set_list))
  (pss_one (ps_ret (pe_op op_mod (pe_callTy call_intQ (by rfl) T.mg_int (by decide +kernel) (pa_cons (pv 3) pa_nil)) (pv 1))))))
  pss_nil)
  (pss_cons (ps_set (i := 4) sc__law_draw.nd rfl (Or.inl rfl) (pe_op op_mod (pe_callTy call_intQ (by rfl) T.mg_int (by decide +kernel) (pa_cons (pe_op op_add (pe_op op_mul (pe_ix (ix_listK (K := K)) (pv 0) pe_int (fun _ _ => rfl)) pe_int) pe_int) pa_nil)) pe_int))
  (pss_cons (ps_asg (pv 4) (pg_sub (pv 0) pe_int set_list))
  (pss_one (ps_ret (pe_op op_mod (pe_callTy call_intQ (by rfl) T.mg_int (by decide +kernel) (pa_cons (pe_op op_fdivW (pv 4) pe_int) pa_nil)) (pv 1)))))))))), ?_⟩
    walk_at "ss"
    refine ifd (fun h => ?_) (fun h => ?_)
    · walk_at "ss"
      exact k 0 m cells _ hs ⟨hm0, hm1, hl⟩ (fun _ => rfl) (fun q => by omega)
    walk_at "ss"
    refine w_while (fun n σ H' => ∃ cells : List Int, σ = [some (.ref s), some (.int many), some (.ref c), none, none] ∧ cells.length = n ∧ cells.length ≤ 1000 ∧ Hs B [(s, sto c m), (c, clo cells)] H') cells.length ⟨cells, rfl, rfl, hl, hs⟩ ?_
    clear hs
    clear hl cells
    rintro n σ H' ⟨cells, rfl, hn, hl, hs⟩
    walk_at "ss"
    cases cells with
    | nil =>
      show if decide ((0 : Int) < ((0 : Nat) : Int)) = true then _ else _
      refine iteF ?_
      try (with_reducible refine iteF ?_)
      walk_at "ss"
      refine iteF ?_
      walk_at "ss"
      rename_i H2 hs2
      clear hs
      have e1 : 0 ≤ (m * 48271 + 12345) % 2147483647 := Int.emod_nonneg _ (by decide)
      have e2 : (m * 48271 + 12345) % 2147483647 < 2147483647 := Int.emod_lt_of_pos _ (by decide)
      generalize (m * 48271 + 12345) % 2147483647 = mm at e1 e2 hs2 ⊢
      refine w_I ⟨by decide, by decide⟩ ?_
      walk_at "ss"
      refine k _ mm [] _ hs2 ⟨e1, by omega, by decide⟩ (fun q => by omega) fun q => ⟨Int.emod_nonneg _ (by omega), Int.emod_lt_of_pos _ (by omega)⟩
    | cons z cells =>
      refine ifd (fun _ => ?_) (fun q => absurd (show (0 : Int) < _ from by simp only [List.map_cons, List.length_cons]; omega) q)
      walk_at "ss"
      refine ifd (fun hz => ?_) (fun hz => ?_)
      · walk_at "ss"
        refine w_popAt (k := 0) hs (by walk_at "p") rfl rfl (by walk_at "z") fun H2 hs2 => ?_
        rw [List.length_cons] at hl hn
        exact ⟨cells.length, by omega, cells, rfl, rfl, by omega, hs2⟩
      · walk_at "ss"
        refine ifd (fun _ => ?_) (fun q => absurd (show (0 : Int) < _ from by simp only [List.map_cons, List.length_cons]; omega) q)
        walk_at "ss"
        refine w_I ⟨by omega, ?_⟩ ?_
        · refine PySem.Flt.log2_lt_of (by decide) (Nat.lt_of_lt_of_le (show many.natAbs < 2 ^ 30 by omega) (Nat.pow_le_pow_right (by decide) (by decide)))
        walk_at "ss"
        rename_i H2 hs2
        refine k _ m ((z / many) :: cells) _ hs2 ⟨hm0, hm1, by simpa using hl⟩ (fun q => by omega) fun q => ⟨Int.emod_nonneg _ (by omega), Int.emod_lt_of_pos _ (by omega)⟩

theorem w_draw {B H : Hp} {Q : VK} {E : XK} {s c : Addr} {m many : Int} {cells : List Int} {R : List (Addr × HO)} (hs : Hs B ((s, sto c m) :: (c, clo cells) :: R) H) (g : Good m cells) (hm : many < 1000000000)
    (q : ∀ r m' cells' H', Hs B ((s, sto c m') :: (c, clo cells') :: R) H' → Good m' cells' → (many < 1 → r = 0) → (1 ≤ many → 0 ≤ r ∧ r < many) → Q (.int r) H') : sp__law_draw [.ref s, .int many] H Q E := by
  obtain ⟨B', _, h1, back⟩ := hs.frame2
  exact ⟨B', s, c, m, many, cells, rfl, h1, g, hm, fun r m' cells' H' h2 => q r m' cells' H' (back _ _ h2)⟩

def sp__law_pick : Sp := fun vs H Q _ => ∃ (B : Hp) (s c r : Addr) (m : Int) (cells : List Int) (xs : List V), vs = [.ref s, .ref r] ∧ Hs B [(s, sto c m), (c, clo cells), (r, .lst xs)] H ∧ Good m cells ∧ xs ≠ [] ∧ xs.length ≤ 1000 ∧
  ∀ (i : Nat) (x : V) m' cells' H', xs[i]? = some x → Hs B [(s, sto c m'), (c, clo cells')] H' → Good m' cells' → Q x H'
theorem ok__law_pick (T : Txt K mg a) : FnOk P w K mg base CX0 2 a._law_pick a.fd__law_pick ["state", "row"] sp__law_pick := by
  have G__law_draw := ok__law_draw (P := P) (w := w) (base := base) T
  refine T.fn__law_pick.ok sc__law_pick (fun vs H Q E h => ?_) (fun cdv A outer s H vs Q E hr h => ?_)
  · obtain ⟨_, _, _, _, _, _, _, rfl, _⟩ := h
    rfl
  · obtain ⟨B, s, c, r, m, cells, xs, rfl, hs, g, hne, hl, k⟩ := h
    refine ⟨_, (pss_one (ps_ret (pe_ix (ix_listK (K := K)) (pv 1) (pe_call G__law_draw (hr.mono (by decide)) rfl T.mg__law_draw T.kp__law_draw T.bi__law_draw .nil pass0 (pa_cons (pv 0) (pa_cons (pe_callB (call_lenK (K := K)) (by rfl) T.mg_len PySem.boot_len (pa_cons (pv 1) pa_nil)) pa_nil))) (fun _ _ => rfl)))), ?_⟩
    walk_at "ss"
    have hpos : 0 < xs.length := List.length_pos_iff.mpr hne
    refine w_draw hs g (by omega) fun d m2 cells2 H2 hs2 g2 _ hd => ?_
    clear hs
    obtain ⟨d0, d1⟩ := hd (by omega)
    have hin : d.toNat < xs.length := by omega
    have ea : atI xs d = some xs[d.toNat] := at_of (j := d.toNat) (by omega) (List.getElem?_eq_getElem hin)
    refine w_ixL (SqL.of (hs2.get (i := 2) rfl)) ea ?_
    walk_at "ss"
    exact k d.toNat _ m2 cells2 H2 (List.getElem?_eq_getElem hin) (hs2.sel [0, 1]) g2
theorem w_pick {B H : Hp} {Q : VK} {E : XK} {s c r : Addr} {m : Int} {cells : List Int} {xs : List V} {R : List (Addr × HO)} (hs : Hs B ((s, sto c m) :: (c, clo cells) :: (r, .lst xs) :: R) H) (g : Good m cells) (hne : xs ≠ []) (hl : xs.length ≤ 1000)
    (q : ∀ (i : Nat) (x : V) m' cells' H', xs[i]? = some x → Hs B ((s, sto c m') :: (c, clo cells') :: R) H' → Good m' cells' → Q x H') : sp__law_pick [.ref s, .ref r] H Q E := by
  obtain ⟨B', _, h1, back⟩ := hs.frame3
  exact ⟨B', s, c, r, m, cells, xs, rfl, h1, g, hne, hl, fun i x m' cells' H' hx h2 => q i x m' cells' H' hx (back _ _ h2)⟩
def sn (k : Nat) : Str := ("t" : Str) ++ (toString (k : Int) : String)
theorem sn_all : ∀ k, k < 9 → PyData.strOk (sn k) = true ∧ Str.length (toString (k : Int) : String) ≤ 10 := by decide +kernel
def sp__law_segment : Sp := fun vs H Q _ => ∃ (B : Hp) (s c ml gl b2 : Addr) (m : Int) (cells : List Int) (X : LS) (b : V) (Y : GS), vs = [.ref s, .ref ml, .ref gl] ∧ Hs B [(s, sto c m), (c, clo cells), (ml, mlo X b), (gl, mgo Y b2)] H ∧ Good m cells ∧ 0 ≤ X.bo ∧ 0 ≤ Y.bo ∧ 0 ≤ X.ep ∧ 0 ≤ Y.ep ∧
  ∀ z (sd hp ep num : Int) (kind t : Str) m' cells' H', Hs B [(z, .tup [.str "segment", .int 2, .int sd, .int hp, .int ep, .str kind, .int num, .str t]), (s, sto c m'), (c, clo cells'), (ml, mlo X b), (gl, mgo Y b2)] H' → Good m' cells' → 0 ≤ num → 0 ≤ ep → PyData.strOk t = true → t.length ≤ 20 → Q (.ref z) H'
theorem ok__law_segment (T : Txt K mg a) : FnOk P w K mg base CX0 3 a._law_segment a.fd__law_segment ["state", "m", "g"] sp__law_segment := by
  have G__law_draw := ok__law_draw (P := P) (w := w) (base := base) T
  have G__law_pick := ok__law_pick (P := P) (w := w) (base := base) T
  refine T.fn__law_segment.ok sc__law_segment (fun vs H Q E h => ?_) (fun cdv A outer s H vs Q E hr h => ?_)
  · obtain ⟨_, _, _, _, _, _, _, _, _, _, _, rfl, _⟩ := h
    rfl
  · obtain ⟨B, s, c, ml, gl, b2, m, cells, X, b, Y, rfl, hs, g, hxb, hyb, hxe, hye, k⟩ := h
    have hu := hu_of hr
    refine ⟨_, (pss_cons (ps_set (i := 3) sc__law_segment.nd rfl (Or.inl rfl) (pe_call G__law_pick (hr.mono (by decide)) rfl T.mg__law_pick T.kp__law_pick T.bi__law_pick .nil pass0 (pa_cons (pv 0) (pa_cons (pe_lst (pa_cons pe_str (pa_cons pe_str (pa_cons pe_str (pa_cons pe_str (pa_cons pe_str (pa_cons pe_str (pa_cons pe_str pa_nil)))))))) pa_nil))))
  (pss_cons (ps_set (i := 4) sc__law_segment.nd rfl (Or.inl rfl) (pe_call G__law_pick (hr.mono (by decide)) rfl T.mg__law_pick T.kp__law_pick T.bi__law_pick .nil pass0 (pa_cons (pv 0) (pa_cons (pe_lst (pa_cons (pe_dget hu (pv 1) pe_str (fun _ _ => rfl)) (pa_cons (pe_dget hu (pv 1) pe_str (fun _ _ => rfl)) (pa_cons (pe_dget hu (pv 2) pe_str (fun _ _ => rfl)) (pa_cons pe_int (pa_cons pe_int (pa_cons pe_int pa_nil))))))) pa_nil))))
  (pss_cons (ps_set (i := 5) sc__law_segment.nd rfl (Or.inl rfl) (pe_call G__law_draw (hr.mono (by decide)) rfl T.mg__law_draw T.kp__law_draw T.bi__law_draw .nil pass0 (pa_cons (pv 0) (pa_cons pe_int pa_nil))))
  (C8.pss_cut (ps_if (pt_cmpR (op_inK (K := K)) (pv 3) (pe_tup (pa_cons pe_str (pa_cons pe_str (pa_cons pe_str pa_nil)))) (by rfl))
  (pss_one (ps_set (i := 5) sc__law_segment.nd rfl (Or.inl rfl) (pe_call G__law_pick (hr.mono (by decide)) rfl T.mg__law_pick T.kp__law_pick T.bi__law_pick .nil pass0 (pa_cons (pv 0) (pa_cons (pe_lst (pa_cons (pe_dget hu (pv 2) pe_str (fun _ _ => rfl)) (pa_cons (pe_dget hu (pv 2) pe_str (fun _ _ => rfl)) (pa_cons (pe_dget hu (pv 1) pe_str (fun _ _ => rfl)) (pa_cons pe_int (pa_cons pe_int pa_nil)))))) pa_nil)))))
  pss_nil)
  (pss_one (ps_ret (pe_tup (pa_cons pe_str (pa_cons pe_int (pa_cons (pe_call G__law_pick (hr.mono (by decide)) rfl T.mg__law_pick T.kp__law_pick T.bi__law_pick .nil pass0 (pa_cons (pv 0) (pa_cons (pe_lst (pa_cons pe_int (pa_cons pe_int (pa_cons pe_int (pa_cons pe_int pa_nil))))) pa_nil))) (pa_cons (pe_call G__law_draw (hr.mono (by decide)) rfl T.mg__law_draw T.kp__law_draw T.bi__law_draw .nil pass0 (pa_cons (pv 0) (pa_cons pe_int pa_nil))) (pa_cons (pv 4) (pa_cons (pv 3) (pa_cons (pv 5) (pa_cons (pe_op op_addS pe_str (pe_callTy call_strQ (by rfl) T.mg_str (by decide +kernel) (pa_cons (pe_call G__law_draw (hr.mono (by decide)) rfl T.mg__law_draw T.kp__law_draw T.bi__law_draw .nil pass0 (pa_cons (pv 0) (pa_cons pe_int pa_nil))) pa_nil))) pa_nil))))))))))))))), ?_⟩
    walk_at "ss"
    rename_i r1 H1 hs1
    have hs2 : Hs _ [_, _, _, _, _] _ := hs1.sel [1, 2, 0, 3, 4]
    refine w_pick hs2 g (fun z => nomatch z) (by decide) fun i x m cells H2 hx hs g => ?_
    clear hs1 hs2
    obtain ⟨kind, rfl⟩ : ∃ kind, x = .str kind := by
      match i, hx with
      | 0, hx | 1, hx | 2, hx | 3, hx | 4, hx | 5, hx | 6, hx => exact ⟨_, (Option.some.inj hx).symm⟩
    clear hx
    walk_at "ss"
    rename_i r1 H1 hs1
    have hs2 : Hs _ [_, _, _, _, _] _ := hs1.sel [1, 2, 0, 3, 4]
    clear hs
    refine w_pick hs2 g (fun z => nomatch z) (by simp only [List.length_cons, List.length_nil]; omega) fun i x m cells H2 hx hs g => ?_
    clear hs1 hs2
    obtain ⟨ep, rfl, hep⟩ : ∃ ep : Int, x = .int ep ∧ 0 ≤ ep := by
      match i, hx with
      | 0, hx => exact ⟨_, (Option.some.inj hx).symm, hxe⟩
      | 1, hx => exact ⟨_, (Option.some.inj hx).symm, hxe⟩
      | 2, hx => exact ⟨_, (Option.some.inj hx).symm, hye⟩
      | 3, hx => exact ⟨_, (Option.some.inj hx).symm, by decide⟩
      | 4, hx => exact ⟨_, (Option.some.inj hx).symm, by decide⟩
      | 5, hx => exact ⟨_, (Option.some.inj hx).symm, by decide⟩
    clear hx
    walk_at "ss"
    refine w_draw hs g (by decide) fun num m cells H2 hs2 g _ hd => ?_
    obtain ⟨n0, n1⟩ := hd (by decide)
    clear hs
    walk_at "ss"
    refine w_cut (fun σ' H' => ∃ (num m : Int) (cells : List Int), σ' = [some (.ref s), some (.ref ml), some (.ref gl), some (.str kind), some (.int ep), some (.int num)] ∧ 0 ≤ num ∧ Good m cells ∧ Hs B [(s, sto c m), (c, clo cells), (ml, mlo X b), (gl, mgo Y b2)] H') ?_ ?_
    · walk_at "ss"
      rename_i p0 H3 hs3
      refine w_inT (SqT.of hs3.g0) rfl rfl ?_
      have hs4 := hs3.tl
      clear hs2 hs3
      refine ⟨_, rfl, ?_⟩
      refine ifb (fun _ => ?_) (fun _ => ?_)
      · walk_at "ss"
        rename_i r1 H1 hs1
        have hs2 : Hs _ [_, _, _, _, _] _ := hs1.sel [1, 2, 0, 3, 4]
        clear hs4
        refine w_pick hs2 g (fun z => nomatch z) (by simp only [List.length_cons, List.length_nil]; omega) fun i x m cells H2 hx hs g => ?_
        clear hs1 hs2
        obtain ⟨nu, rfl, hnu⟩ : ∃ nu : Int, x = .int nu ∧ 0 ≤ nu := by
          match i, hx with
          | 0, hx => exact ⟨_, (Option.some.inj hx).symm, hyb⟩
          | 1, hx => exact ⟨_, (Option.some.inj hx).symm, hyb⟩
          | 2, hx => exact ⟨_, (Option.some.inj hx).symm, hxb⟩
          | 3, hx => exact ⟨_, (Option.some.inj hx).symm, by decide⟩
          | 4, hx => exact ⟨_, (Option.some.inj hx).symm, by decide⟩
        walk_at "ss"
        exact ⟨nu, m, cells, rfl, hnu, g, hs⟩
      · walk_at "ss"
        exact ⟨num, m, cells, rfl, n0, g, hs4⟩
    · rintro σ' H' ⟨num, m, cells, rfl, n0, g, hs⟩
      clear hs2
      walk_at "ss"
      rename_i r1 H1 hs1
      have hs2 : Hs _ [_, _, _, _, _] _ := hs1.sel [1, 2, 0, 3, 4]
      clear hs
      refine w_pick hs2 g (fun z => nomatch z) (by simp only [List.length_cons, List.length_nil]; omega) fun i x m cells H2 hx hs g => ?_
      clear hs1 hs2
      obtain ⟨sd, rfl⟩ : ∃ sd : Int, x = .int sd := by
        match i, hx with
        | 0, hx | 1, hx | 2, hx | 3, hx => exact ⟨_, (Option.some.inj hx).symm⟩
      clear hx
      walk_at "ss"
      refine w_draw hs g (by decide) fun hp m cells H3 hs3 g _ _ => ?_
      clear hs
      walk_at "ss"
      refine w_draw hs3 g (by decide) fun d9 m cells H4 hs4 g _ hd9 => ?_
      clear hs3
      obtain ⟨d0, d1⟩ := hd9 (by decide)
      obtain ⟨j, rfl⟩ : ∃ j : Nat, d9 = (j : Int) := ⟨d9.toNat, by omega⟩
      obtain ⟨ht1, ht2⟩ := sn_all j (by omega)
      have hn1 : Str.length ("t" : Str) ≤ 10 := by decide +kernel
      walk_at "ss"
      refine w_str (by omega) ?_
      walk_at "ss"
      refine w_addS (sz (by omega)) ?_
      walk_at "ss"
      rename_i z H5 hs5
      refine k z sd hp ep num kind (sn j) m cells H5 hs5 g n0 hep ht1 ?_
      unfold sn
      rw [Str.length_append]
      omega
end
section
variable {K : PySem.W.Frag} {a : Ad}
/-! ### what holds of a body at every turn -/
structure BG (n : Nat) (S : BS) : Prop where
  s0 : 0 ≤ S.s
  s4 : S.s ≤ 4
  sl : S.s ≤ S.rows.length
  rl : S.rows.length ≤ n
  kl : S.kv.length ≤ n
  w0 : 0 ≤ S.w
  w1 : S.w ≤ 16
  kv : KvOk (S.n + 4) S.kv
  rs : ∀ t ∈ S.rows, PyData.strOk t = true
theorem BG.ok {n : Nat} {S : BS} (h : BG n S) (hn : n ≤ 900) : BOk S := ⟨h.s0, h.s4, h.sl, Nat.le_trans h.rl (by omega), Nat.le_trans h.kl (by omega), h.w0, h.w1⟩
theorem BG.mono {n k : Nat} {S : BS} (h : BG n S) (e : n ≤ k) : BG k S := ⟨h.s0, h.s4, h.sl, Nat.le_trans h.rl e, Nat.le_trans h.kl e, h.w0, h.w1, h.kv, h.rs⟩
theorem BG.zero {n : Nat} : BG n S0 := ⟨by decide, by decide, by decide, Nat.zero_le _, Nat.zero_le _, by decide, by decide, fun _ h => absurd h List.not_mem_nil, fun _ h => absurd h List.not_mem_nil⟩
theorem BG.when {n : Nat} {S : BS} (h : BG n S) {d : Option Int} {t w : Int} (w0 : 0 ≤ w) (w1 : w ≤ 16) : BG n { S with t := t, w := w, d := d } := ⟨h.s0, h.s4, h.sl, h.rl, h.kl, w0, w1, h.kv, h.rs⟩
theorem due_w {t w n : Int} {d : Option Int} (w0 : 0 ≤ w) (w1 : w ≤ 16) : 0 ≤ (dueB t w d n).2.1 ∧ (dueB t w d n).2.1 ≤ 16 := by
  unfold dueB
  split
  · constructor
    · show 0 ≤ min (w * 2) 16
      omega
    · show min (w * 2) 16 ≤ 16
      omega
  · exact ⟨w0, w1⟩
theorem BG.due {n : Nat} {S : BS} {now : Int} (h : BG n S) : BG n { S with t := (dueB S.t S.w S.d now).1, w := (dueB S.t S.w S.d now).2.1, d := (dueB S.t S.w S.d now).2.2 } :=
  h.when (due_w h.w0 h.w1).1 (due_w h.w0 h.w1).2
theorem BG.says {n : Nat} {S : BS} {now : Int} (h : BG n S) : BG n (saysS S now) := by
  have e1 : 0 ≤ hiS S := by
    unfold hiS
    omega
  have e2 : hiS S ≤ 4 := by
    unfold hiS
    omega
  have e3 : hiS S ≤ S.rows.length := by
    unfold hiS
    omega
  unfold saysS
  split
  · split
    · exact ⟨e1, e2, e3, h.rl, h.kl, h.w0, h.w1, h.kv, h.rs⟩
    · exact ⟨e1, e2, e3, h.rl, h.kl, (by decide : (0 : Int) ≤ 2), (by decide : (2 : Int) ≤ 16), h.kv, h.rs⟩
  · exact ⟨e1, e2, e3, h.rl, h.kl, (due_w h.w0 h.w1).1, (due_w h.w0 h.w1).2, h.kv, h.rs⟩
theorem BG.line {n : Nat} {X : LS} {S : BS} {now : Int} (h : BG n S) : BG n (lineS X S now) := by
  unfold lineS
  split
  · exact h.says
  · split
    · exact h.due
    · exact h
theorem BG.put {n : Nat} {S : BS} {t : Str} (h : BG n S) (ht : PyData.strOk t = true) : BG (n + 1) { S with rows := S.rows ++ [t] } := by
  refine ⟨h.s0, h.s4, ?_, ?_, Nat.le_trans h.kl (Nat.le_succ n), h.w0, h.w1, h.kv, ?_⟩
  · show S.s ≤ ((S.rows ++ [t]).length : Int)
    rw [List.length_append, List.length_singleton]
    have := h.sl
    omega
  · show (S.rows ++ [t]).length ≤ n + 1
    rw [List.length_append, List.length_singleton]
    have := h.rl
    omega
  · intro x hx
    rcases List.mem_append.mp hx with m | m
    · exact h.rs x m
    · rw [List.mem_singleton.mp m]
      exact ht
theorem BG.ack {n : Nat} {S : BS} {m now : Int} (h : BG n S) : BG n (ackS S m now) := by
  unfold ackS
  split
  · next c =>
    have hs := h.s0
    have h4 := h.s4
    have hl := h.sl
    have hr := h.rl
    have b0 : 0 ≤ S.s - (m - S.f) := by omega
    have b1 : S.s - (m - S.f) ≤ 4 := by omega
    have b2 : S.s - (m - S.f) ≤ ((S.rows.drop (m - S.f).toNat).length : Int) := by
      rw [List.length_drop]
      omega
    have b3 : (S.rows.drop (m - S.f).toNat).length ≤ n := by
      rw [List.length_drop]
      omega
    have b4 : ∀ t ∈ S.rows.drop (m - S.f).toNat, PyData.strOk t = true := fun t ht => h.rs t (List.mem_of_mem_drop ht)
    split
    · exact ⟨b0, b1, b2, b3, h.kl, (by decide : (0 : Int) ≤ 2), (by decide : (2 : Int) ≤ 16), h.kv, b4⟩
    · exact ⟨b0, b1, b2, b3, h.kl, h.w0, h.w1, h.kv, b4⟩
  · exact h
theorem BG.dat {n : Nat} {S : BS} {m : Int} {t : Str} (h : BG n S) (ht : PyData.strOk t = true) : BG (n + 1) (datS S m t) := by
  obtain ⟨k1, k2⟩ := keep1_ok (m := m) h.kv ht
  obtain ⟨l1, l2, l3⟩ := later_ok (kept S m t).length S.n (S.n + 4) _ k1
  have hk := h.kl
  refine ⟨h.s0, h.s4, h.sl, Nat.le_trans h.rl (Nat.le_succ n), ?_, h.w0, h.w1, ?_, h.rs⟩
  · show (later (kept S m t).length S.n (kept S m t)).2.length ≤ n + 1
    have l3' : (later (kept S m t).length S.n (kept S m t)).2.length ≤ (kept S m t).length := l3
    have k2' : (kept S m t).length ≤ S.kv.length + 1 := k2
    omega
  · exact KvOk.mono l1 (by
      show S.n + 4 ≤ (later (kept S m t).length S.n (kept S m t)).1 + 4
      have l2' : S.n ≤ (later (kept S m t).length S.n (kept S m t)).1 := l2
      omega)
theorem BG.hears {n : Nat} {S : BS} {kind t : Str} {m now : Int} (h : BG n S) (ht : PyData.strOk t = true) : BG (n + 1) (hearsS S kind m t now) := by
  unfold hearsS
  split
  · exact h.dat ht
  · split
    · exact h.ack.mono (Nat.le_succ n)
    · exact h.mono (Nat.le_succ n)
theorem BG.ans {n : Nat} {X : LS} {S : BS} {kind : Str} {m now : Int} (h : BG n S) : BG n (ansS X S kind m now) := by
  unfold ansS
  split
  · exact ⟨h.s0, h.s4, h.sl, h.rl, h.kl, (by decide : (0 : Int) ≤ 2), (by decide : (2 : Int) ≤ 16), h.kv, h.rs⟩
  · split
    · exact ⟨h.s0, h.s4, h.sl, h.rl, h.kl, h.w0, h.w1, h.kv, h.rs⟩
    · exact h
theorem BG.take {n : Nat} {X : LS} {S : BS} {sn ep m now : Int} {kind t : Str} (h : BG n S) (ht : PyData.strOk t = true) : BG (n + 1) (takeS X S sn ep kind m t now) := by
  unfold takeS
  split
  · exact h.mono (Nat.le_succ n)
  · split
    · exact h.hears ht
    · split
      · exact h.ans.mono (Nat.le_succ n)
      · exact h.mono (Nat.le_succ n)
/-! ### what is said is data that can be compared -/
theorem hearsL_str {n : Nat} {S : BS} {kind t : Str} {m : Int} (h : BG n S) (ht : PyData.strOk t = true) : ∃ ts : List Str, hearsL S kind m t = ts.map V.str ∧ ∀ t ∈ ts, PyData.strOk t = true := by
  unfold hearsL
  split
  · exact ready_str _ _ _ _ (keep1_ok (m := m) h.kv ht).1
  · exact ⟨[], rfl, fun _ h => absurd h List.not_mem_nil⟩
/-- a triple whose texts can be laid -/
def TriOk (z : Str × Int × Str) : Prop := PyData.strOk z.1 = true ∧ PyData.strOk z.2.2 = true
theorem seg_ok {to sn ep : Int} {zs : List (Str × Int × Str)} (h : ∀ z ∈ zs, TriOk z) : ∀ d ∈ zs.map (segD to sn ep), d.canLay0 = true ∧ d.depth ≤ 60 := by
  intro d hd
  obtain ⟨z, hz, rfl⟩ := List.mem_map.mp hd
  obtain ⟨h1, h2⟩ := h z hz
  have h3 : PyData.strOk ("segment" : Str) = true := by decide +kernel
  unfold segD
  constructor
  · simp only [PyData.canLay0, PyData.canLayAll0, h1, h2, h3, Bool.and_self]
  · simp [PyData.depth, PyData.depthAll]
theorem saysT_ok {n : Nat} {S : BS} {now : Int} (h : BG n S) : ∀ z ∈ saysT S now, TriOk z := by
  rw [saysT_eq]
  intro z hz
  rcases List.mem_append.mp hz with m | m
  · unfold ackT at m
    split at m
    · rw [List.mem_singleton.mp m]
      exact ⟨by show PyData.strOk ("ack" : Str) = true; decide +kernel, by show PyData.strOk ("" : Str) = true; decide +kernel⟩
    · exact absurd m List.not_mem_nil
  · obtain ⟨y, hy, rfl⟩ := List.mem_map.mp m
    refine ⟨by show PyData.strOk ("data" : Str) = true; decide +kernel, ?_⟩
    have hp : ∀ lo hi, y ∈ prz S lo hi → PyData.strOk y.2 = true := by
      intro lo hi hm
      unfold prz at hm
      obtain ⟨i, _, rfl⟩ := List.mem_map.mp hm
      show PyData.strOk (S.rows.getD (lo + (i : Int)).toNat Str.empty) = true
      rw [List.getD_eq_getElem?_getD]
      cases q : S.rows[(lo + (i : Int)).toNat]? with
      | none => decide +kernel
      | some t => exact h.rs t (List.mem_of_getElem? q)
    unfold rowZ at hy
    split at hy
    · exact hp _ _ hy
    · split at hy
      · exact hp _ _ hy
      · exact absurd hy List.not_mem_nil
theorem lineT_ok {n : Nat} {X : LS} {S : BS} {now : Int} (h : BG n S) : ∀ z ∈ lineT X S now, TriOk z := by
  unfold lineT
  split
  · exact saysT_ok h
  · split
    · intro z hz
      rw [List.mem_singleton.mp hz]
      exact ⟨by show PyData.strOk ("hail" : Str) = true; decide +kernel, by show PyData.strOk ("" : Str) = true; decide +kernel⟩
    · exact fun _ h => absurd h List.not_mem_nil
theorem ansT_ok {X : GS} {ep m : Int} : ∀ z ∈ ansT X ep m, TriOk z := by
  have e : PyData.strOk ("" : Str) = true := by decide +kernel
  unfold ansT
  split
  · intro z hz
    rw [List.mem_singleton.mp hz]
    exact ⟨by show PyData.strOk ("here" : Str) = true; decide +kernel, e⟩
  · split
    · exact fun _ h => absurd h List.not_mem_nil
    · intro z hz
      rw [List.mem_singleton.mp hz]
      exact ⟨by show PyData.strOk ("open" : Str) = true; decide +kernel, e⟩
theorem gtakeT_ok {X : GS} {ep m : Int} {kind : Str} : ∀ z ∈ gtakeT X ep m kind, TriOk z := by
  unfold gtakeT
  split
  · exact ansT_ok
  · exact fun _ h => absurd h List.not_mem_nil
end
section
variable {P : Program} [IsP P] {w : World} {K : PySem.W.Frag} {mg : Str → Option Value} {base : Heap} {a : Ad}
/-! ### the calls of the law, among other things -/
/-- a guest's and a plain line's parts: the head stands, what hangs on it may be nothing -/
def bG : Option (BA × BS) → V
  | none => .non
  | some (A, _) => .ref A.b
def tailG (a : Ad) : Option (BA × BS) → List (Addr × HO)
  | none => []
  | some (A, S) => bodyL a A S
theorem guestL_eq {g dg : Addr} {Y : GS} {o : Option (BA × BS)} : guestL a g dg Y o = (g, guestO a dg Y (bG o)) :: tailG a o := by
  match o with
  | none => rfl
  | some (A, S) => rfl
def bM : Option MB → V
  | none => .non
  | some M => .ref M.b
def tailM : Option MB → BS → List (Addr × HO)
  | none, _ => []
  | some M, S => mbL M S
section
variable {B H : Hp} {Q : VK} {E : XK} {l dl ml g dg gm z : Addr} {X : LS} {A : BA} {S SG : BS} {Y : GS} {M MG : MB} {o : Option (BA × BS)} {om : Option MB} {R : List (Addr × HO)} {ep m now sd : Int} {kind t : Str} {w0 w1 w2 w3 : V}
theorem w_ltick (hs : Hs B (lineL a l dl X A S ++ R) H) (ok : BOk S) (q : ∀ D acc H', Hs B (((D, .lst acc) :: lineL a l dl (tickX X S now) A (lineS X S now)) ++ R) H' → ImAll K H' acc ((lineT X S now).map (segD X.to 0 X.ep)) → Q (.ref D) H') : sp_Line_tick K a [.ref l, .int now] H Q E := by
  obtain ⟨_, h1, back⟩ := hs.frame (lineL a l dl X A S)
  exact ⟨_, l, dl, X, A, S, now, rfl, h1, ok, fun D acc H' h2 h3 => q D acc H' (back _ _ h2) h3⟩
theorem w_ltake {to : Int} (hs : Hs B (lineL a l dl X A S ++ R) H) (hz : B z = some (.tup [w0, .int to, .int sd, w3, .int ep, .str kind, .int m, .str t])) (ok : BOk S)
    (q : ∀ D r H', Hs B (((D, .lst (takeL X S sd ep kind m t)) :: lineL a l dl (takeX X sd ep kind m) { A with r := r } (takeS X S sd ep kind m t now)) ++ R) H' → Q (.ref D) H') : sp_Line_take a [.ref l, .ref z, .int now] H Q E := by
  obtain ⟨sb, h1, back⟩ := hs.frame (lineL a l dl X A S)
  exact ⟨_, l, dl, z, X, A, S, w0, w3, to, sd, ep, m, now, kind, t, rfl, h1, sb _ _ hz, ok, fun D r H' h2 => q D r H' (back _ _ h2)⟩
theorem w_gtick (hs : Hs B (guestL a g dg Y o ++ R) H) (ok : okO o) (hq : Y.quiet = false → o.isSome = true) (q : ∀ D acc H', Hs B (((D, .lst acc) :: guestL a g dg Y (gtickO Y now o)) ++ R) H' → ImAll K H' acc ((gtickT Y now o).map (segD 0 Y.own Y.ep)) → Q (.ref D) H') : sp_Guest_tick K a [.ref g, .int now] H Q E := by
  obtain ⟨_, h1, back⟩ := hs.frame (guestL a g dg Y o)
  exact ⟨_, g, dg, Y, o, now, rfl, h1, ok, hq, fun D acc H' h2 h3 => q D acc H' (back _ _ h2) h3⟩
theorem w_gsend (hs : Hs B (guestL a g dg Y o ++ R) H) (ok : okO o) (fit : fitO o) (q : ∀ H', Hs B (guestL a g dg Y (putO t o) ++ R) H' → Q .non H') : sp_Guest_send a [.ref g, .str t] H Q E := by
  obtain ⟨_, h1, back⟩ := hs.frame (guestL a g dg Y o)
  exact ⟨_, g, dg, Y, o, t, rfl, h1, ok, fun _ H' h2 => q H' (back _ _ h2), fun h => absurd fit h⟩
theorem w_gtake (hs : Hs B (guestL a g dg Y o ++ R) H) (hz : B z = some (.tup [w0, w1, w2, w3, .int ep, .str kind, .int m, .str t])) (ok : okO o)
    (q : ∀ p D1 D2 acc o' H', o'.map (·.2) = gtakeO Y ep m now kind t (o.map (·.2)) → Hs B (((p, .tup [.ref D1, .ref D2]) :: (D1, .lst (gtakeL Y ep m kind t (o.map (·.2)))) :: (D2, .lst acc) :: guestL a g dg (gtakeG Y ep m kind (o.map (·.2))) o') ++ R) H' → ImAll K H' acc ((gtakeT Y ep m kind).map (segD 0 Y.own ep)) → Q (.ref p) H') : sp_Guest_take K a [.ref g, .ref z, .int now] H Q E := by
  obtain ⟨sb, h1, back⟩ := hs.frame (guestL a g dg Y o)
  exact ⟨_, g, dg, z, Y, o, w0, w1, w2, w3, ep, m, now, kind, t, rfl, h1, sb _ _ hz, ok, fun p D1 D2 acc o' H' e h2 h3 => q p D1 D2 acc o' H' e (back _ _ h2) h3⟩
theorem w_lgtake (hs : Hs B (mgL gm Y MG SG ++ R) H) (hz : B z = some (.tup [w0, w1, w2, w3, .int ep, .str kind, .int m, .str t])) (ok : BOk SG) (kok : KvOk (SG.n + 4) SG.kv) (tok : PyData.strOk t = true) (kl : SG.kv.length ≤ 900)
    (q : ∀ p D1 D2 acc M' H', Hs B (((p, .tup [.ref D1, .ref D2]) :: (D1, .lst (gtakeL Y ep m kind t (osG Y SG))) :: (D2, .lst acc) :: mgL gm (gtakeG Y ep m kind (osG Y SG)) M' (gS1 Y ep m now kind t SG)) ++ R) H' → ImAll K H' acc ((gtakeT Y ep m kind).map (segD 0 2 ep)) → Q (.ref p) H') : sp__law_guest_take K [.ref gm, .ref z, .int now] H Q E := by
  obtain ⟨sb, h1, back⟩ := hs.frame (mgL gm Y MG SG)
  exact ⟨_, gm, z, Y, MG, SG, w0, w1, w2, w3, ep, m, now, kind, t, rfl, h1, sb _ _ hz, ok, kok, tok, kl, fun p D1 D2 acc M' H' h2 h3 => q p D1 D2 acc M' H' (back _ _ h2) h3⟩
/-- the plain line, whose body may be none -/
theorem w_lltick (hs : Hs B (((ml, mlo X (bM om)) :: tailM om S) ++ R) H) (ok : BOk S) (hn : om = none → X.st = "none")
    (q : ∀ D acc H', Hs B (((D, .lst acc) :: (ml, mlo (ltickX X S now) (bM om)) :: tailM om (lineS X S now)) ++ R) H' → ImAll K H' acc ((lineT X S now).map (segD 2 0 X.ep)) → Q (.ref D) H') : sp__law_line_tick K [.ref ml, .int now] H Q E := by
  obtain ⟨_, h1, back⟩ := hs.frame ((ml, mlo X (bM om)) :: tailM om S)
  match om, hn, h1, q, back with
  | some M, _, h1, q, back => exact .inl ⟨_, ml, X, M, S, now, rfl, h1, ok, fun D acc H' h2 h3 => q D acc H' (back _ _ h2) h3⟩
  | none, hn, h1, q, back =>
    have hst := hn rfl
    have n1 : ¬ X.st = "hailing" := by
      rw [hst]
      decide +kernel
    have n2 : ¬ X.st = "open" := by
      rw [hst]
      decide +kernel
    refine .inr ⟨_, ml, X, now, rfl, h1, hst, fun D H' h2 => q D [] H' ?_ ?_⟩
    · have e : ltickX X S now = X := if_neg (fun z => z.1.elim n1 n2)
      rw [e]
      exact back _ _ h2
    · have e : lineT X S now = [] := by
        unfold lineT
        rw [if_neg n2, if_neg (fun z => n1 z.1)]
      rw [e]
      exact .nil
theorem w_lltake (hs : Hs B (((ml, mlo X (bM om)) :: tailM om S) ++ R) H) (hz : B z = some (.tup [w0, w1, .int sd, w3, .int ep, .str kind, .int m, .str t])) (hto : X.to = 2) (hm : 0 ≤ m) (ok : BOk S) (kok : KvOk (S.n + 4) S.kv) (tok : PyData.strOk t = true) (kl : S.kv.length ≤ 900) (hn : om = none → X.st = "none")
    (q : ∀ D om' H', (om' = none → om = none) → Hs B (((D, .lst (takeL X S sd ep kind m t)) :: (ml, mlo (takeX X sd ep kind m) (bM om')) :: tailM om' (takeS X S sd ep kind m t now)) ++ R) H' → Q (.ref D) H') : sp__law_line_take [.ref ml, .ref z, .int now] H Q E := by
  obtain ⟨sb, h1, back⟩ := hs.frame ((ml, mlo X (bM om)) :: tailM om S)
  match om, hn, h1, q, back with
  | some M, _, h1, q, back => exact .inl ⟨_, ml, z, X, M, S, w0, w1, w3, sd, ep, m, now, kind, t, rfl, h1, sb _ _ hz, hto, hm, ok, kok, tok, kl, fun D r H' h2 => q D (some { M with r := r }) H' (fun z => nomatch z) (back _ _ h2)⟩
  | none, hn, h1, q, back =>
    have hst := hn rfl
    have n1 : ¬ X.st = "hailing" := by
      rw [hst]
      decide +kernel
    have n2 : ¬ X.st = "open" := by
      rw [hst]
      decide +kernel
    refine .inr ⟨_, ml, z, X, w0, w1, w3, sd, ep, m, now, kind, t, rfl, h1, sb _ _ hz, hst, fun D H' h2 => q D none H' id ?_⟩
    have e1 : takeL X S sd ep kind m t = [] := by
      unfold takeL
      by_cases hc : sd ≠ X.to ∨ ep ≠ X.ep
      · rw [if_pos hc]
      · rw [if_neg hc, if_neg n2]
    have e2 : takeX X sd ep kind m = X := by
      unfold takeX
      by_cases hc : sd ≠ X.to ∨ ep ≠ X.ep
      · rw [if_pos hc]
      · rw [if_neg hc, if_neg n2, if_neg n1]
    rw [e1, e2]
    exact back _ _ h2
end
/-! ### who stands in front -/
section
variable {α : Type} (s c l m g n : α) (b t u v : List α)
theorem pmL : (s :: c :: l :: m :: g :: n :: (b ++ (t ++ (u ++ v)))).Perm ((l :: b) ++ (s :: c :: m :: g :: n :: (t ++ (u ++ v)))) := by
  classical
  rw [List.perm_iff_count]
  intro x
  simp only [List.count_cons, List.count_append, List.cons_append]
  omega
theorem pmM : (s :: c :: l :: m :: g :: n :: (b ++ (t ++ (u ++ v)))).Perm ((m :: t) ++ (s :: c :: l :: g :: n :: (b ++ (u ++ v)))) := by
  classical
  rw [List.perm_iff_count]
  intro x
  simp only [List.count_cons, List.count_append, List.cons_append]
  omega
theorem pmG : (s :: c :: l :: m :: g :: n :: (b ++ (t ++ (u ++ v)))).Perm ((g :: u) ++ (s :: c :: l :: m :: n :: (b ++ (t ++ v)))) := by
  classical
  rw [List.perm_iff_count]
  intro x
  simp only [List.count_cons, List.count_append, List.cons_append]
  omega
theorem pmN : (s :: c :: l :: m :: g :: n :: (b ++ (t ++ (u ++ v)))).Perm ((n :: v) ++ (s :: c :: l :: m :: g :: (b ++ (t ++ u)))) := by
  classical
  rw [List.perm_iff_count]
  intro x
  simp only [List.count_cons, List.count_append, List.cons_append]
  omega
/-- the line and the plain line -/
theorem pmLM : (s :: c :: l :: m :: g :: n :: (b ++ (t ++ (u ++ v)))).Perm (((l :: b) ++ (m :: t)) ++ (s :: c :: g :: n :: (u ++ v))) := by
  classical
  rw [List.perm_iff_count]
  intro x
  simp only [List.count_cons, List.count_append, List.cons_append]
  omega
/-- the state, and both dicts -/
theorem pmS : (s :: c :: l :: m :: g :: n :: b).Perm (s :: c :: m :: n :: l :: g :: b) := by
  classical
  rw [List.perm_iff_count]
  intro x
  simp only [List.count_cons]
  omega
theorem pmB : (s :: c :: l :: m :: g :: n :: (b ++ (t ++ (u ++ v)))).Perm (((l :: b) ++ [m]) ++ (t ++ (s :: c :: g :: n :: (u ++ v)))) := by
  classical
  rw [List.perm_iff_count]
  intro x
  simp only [List.count_cons, List.count_append, List.cons_append, List.count_nil]
  omega
/-- a new line and plain line for old parts t -/
theorem pmB2 (t' : List α) : (t' ++ (s :: c :: l :: m :: g :: n :: (b ++ (t ++ (u ++ v))))).Perm (((l :: b) ++ (m :: t)) ++ (t' ++ (s :: c :: g :: n :: (u ++ v)))) := by
  classical
  rw [List.perm_iff_count]
  intro x
  simp only [List.count_cons, List.count_append, List.cons_append]
  omega
end
section
variable {B H : Hp} {Q : VK} {E : XK} {l dl ml gl s c b2 : Addr} {X : LS} {A : BA} {S : BS} {M : MB} {Y : GS} {b : V} {R : List (Addr × HO)} {ep now m0 : Int} {t : Str} {cells : List Int}
theorem w_begun (hs : Hs B ((lineL a l dl X A S ++ [(ml, mlo X b)]) ++ R) H) (q1 : ep ≤ X.ep → ∀ H', Hs B ((lineL a l dl X A S ++ [(ml, mlo X b)]) ++ R) H' → Q (.bl true) H')
    (q2 : X.ep < ep → ∀ A' M' H', Hs B ((lineL a l dl ⟨ep, 0, "hailing", X.to⟩ A' { S0 with d := some now } ++ mlL ml ⟨ep, 0, "hailing", X.to⟩ M' { S0 with d := some now }) ++ R) H' → Q (.bl true) H') : sp__law_begun a [.ref l, .ref ml, .int ep, .int now] H Q E := by
  obtain ⟨_, h1, back⟩ := hs.frame (lineL a l dl X A S ++ [(ml, mlo X b)])
  exact ⟨_, l, dl, ml, X, A, S, b, ep, now, rfl, h1, fun h H' h2 => q1 h H' (back _ _ h2), fun h A' M' H' h2 => q2 h A' M' H' (back _ _ h2)⟩
theorem w_sentA (hs : Hs B ((lineL a l dl X A S ++ [(ml, mlo X b)]) ++ R) H) (hl : S.rows.length < 300) (hx : X.st = "none" ∨ X.st = "failed") (q : ∀ H', Hs B ((lineL a l dl X A S ++ [(ml, mlo X b)]) ++ R) H' → Q (.bl true) H') : sp__law_sent a [.ref l, .ref ml, .str t] H Q E := by
  obtain ⟨_, h1, back⟩ := hs.frame (lineL a l dl X A S ++ [(ml, mlo X b)])
  exact .inl ⟨_, l, dl, ml, X, A, S, b, t, rfl, h1, hl, hx, fun H' h2 => q H' (back _ _ h2)⟩
theorem w_sentB (hs : Hs B ((lineL a l dl X A S ++ mlL ml X M S) ++ R) H) (hl : S.rows.length < 300) (hx : X.st = "hailing" ∨ X.st = "open") (q : ∀ H', Hs B ((lineL a l dl X A { S with rows := S.rows ++ [t] } ++ mlL ml X M { S with rows := S.rows ++ [t] }) ++ R) H' → Q (.bl true) H') : sp__law_sent a [.ref l, .ref ml, .str t] H Q E := by
  obtain ⟨_, h1, back⟩ := hs.frame (lineL a l dl X A S ++ mlL ml X M S)
  exact .inr ⟨_, l, dl, ml, X, A, M, S, t, rfl, h1, hl, hx, fun H' h2 => q H' (back _ _ h2)⟩
theorem w_seg (hs : Hs B ((s, sto c m0) :: (c, clo cells) :: (ml, mlo X b) :: (gl, mgo Y b2) :: R) H) (g : Good m0 cells) (h1 : 0 ≤ X.bo) (h2 : 0 ≤ Y.bo) (h3 : 0 ≤ X.ep) (h4 : 0 ≤ Y.ep)
    (q : ∀ z (sd hp ep num : Int) (kind t : Str) m' cells' H', Hs B ((z, .tup [.str "segment", .int 2, .int sd, .int hp, .int ep, .str kind, .int num, .str t]) :: (s, sto c m') :: (c, clo cells') :: (ml, mlo X b) :: (gl, mgo Y b2) :: R) H' → Good m' cells' → 0 ≤ num → 0 ≤ ep → PyData.strOk t = true → Q (.ref z) H') : sp__law_segment [.ref s, .ref ml, .ref gl] H Q E := by
  obtain ⟨B', _, e, back⟩ := hs.frame4
  exact ⟨B', s, c, ml, gl, b2, m0, cells, X, b, Y, rfl, e, g, h1, h2, h3, h4, fun z sd hp ep num kind t m' cells' H' h5 h6 h7 h8 h9 _ => q z sd hp ep num kind t m' cells' H' (back _ _ h5) h6 h7 h8 h9⟩
end
theorem shp_tup {ds : List PyData} (h : ∀ d ∈ ds, d.canLay0 = true ∧ d.depth ≤ 61) : SeqAt.shaped (.tuple ds) = true := by
  have e := depth_all ds fun d hd => (h d hd).2
  have l := lay_all ds fun d hd => (h d hd).1
  unfold SeqAt.shaped PyData.canLay0 PyData.depth
  rw [l]
  simp only [Bool.true_and, decide_eq_true_eq]
  omega
theorem w_neD {H : Hp} {Q : VK} {p q : Addr} {d : PyData} (h1 : Dp K H (.ref p) d) (h2 : Dp K H (.ref q) d) (h : SeqAt.shaped d = true) (k : Q (.bl false) H) : rNeD K (.ref p) (.ref q) H Q :=
  ⟨d, d, h1, h2, h, h, by
    rw [SeqAt.eqv_refl _ (by unfold SeqAt.shaped at h; exact (Bool.and_eq_true_iff.mp h).1)]
    exact k⟩
theorem w_neT {H : Hp} {Q : VK} {p q : Addr} {xs ys : List V} {ds : List PyData} (hp : H p = some (.tup xs)) (hq : H q = some (.tup ys)) (h1 : ImAll K H xs ds) (h2 : ImAll K H ys ds) (h : ∀ d ∈ ds, d.canLay0 = true ∧ d.depth ≤ 61) (k : Q (.bl false) H) : rNeD K (.ref p) (.ref q) H Q :=
  w_neD (.tup (SqT.of hp) h1.dp) (.tup (SqT.of hq) h2.dp) (shp_tup h) k
theorem str_ok {ts : List Str} (h : ∀ t ∈ ts, PyData.strOk t = true) : ∀ d ∈ ts.map PyData.str, d.canLay0 = true ∧ d.depth ≤ 60 := fun d hd => by
  obtain ⟨t, ht, rfl⟩ := List.mem_map.mp hd
  exact ⟨by simpa only [PyData.canLay0] using h t ht, by simp [PyData.depth]⟩
theorem takeL_str {n : Nat} {X : LS} {S : BS} {sd ep m : Int} {kind t : Str} (h : BG n S) (ht : PyData.strOk t = true) : ∃ ts : List Str, takeL X S sd ep kind m t = ts.map V.str ∧ ∀ t ∈ ts, PyData.strOk t = true := by
  unfold takeL
  by_cases hc : sd ≠ X.to ∨ ep ≠ X.ep
  · rw [if_pos hc]
    exact ⟨[], rfl, fun _ h => absurd h List.not_mem_nil⟩
  · rw [if_neg hc]
    by_cases h2 : X.st = "open"
    · rw [if_pos h2]
      exact hearsL_str h ht
    · rw [if_neg h2]
      exact ⟨[], rfl, fun _ h => absurd h List.not_mem_nil⟩
theorem takeX_cases {X : LS} {sd ep m : Int} {kind : Str} : takeX X sd ep kind m = X ∨ (X.st = "hailing" ∧ takeX X sd ep kind m = { X with bo := m }) ∨ (X.st = "hailing" ∧ takeX X sd ep kind m = { X with st := "open" }) := by
  unfold takeX
  by_cases hc : sd ≠ X.to ∨ ep ≠ X.ep
  · exact .inl (if_pos hc)
  · rw [if_neg hc]
    by_cases h2 : X.st = "open"
    · exact .inl (if_pos h2)
    · rw [if_neg h2]
      by_cases h3 : X.st = "hailing"
      · rw [if_pos h3]
        unfold ansX
        by_cases h4 : kind = "here" ∧ m ≠ X.bo
        · rw [if_pos h4]
          exact .inr (.inl ⟨h3, rfl⟩)
        · rw [if_neg h4]
          by_cases h5 : kind = "open" ∧ m = X.bo ∧ m ≠ 0
          · rw [if_pos h5]
            exact .inr (.inr ⟨h3, rfl⟩)
          · exact .inl (if_neg h5)
      · exact .inl (if_neg h3)
theorem gtake_map {Y : GS} {SG : BS} {ep m now : Int} {kind t : Str} (hy : 0 ≤ Y.ep) : gtakeO Y ep m now kind t (osG Y SG) = osG (gtakeG Y ep m kind (osG Y SG)) (gS1 Y ep m now kind t SG) := by
  unfold gtakeO gtakeG gS1
  by_cases h1 : kind = "hail"
  · rw [if_pos h1, if_pos h1, if_pos h1]
    unfold ansO ansG
    by_cases h2 : m ≠ Y.bo
    · rw [if_pos h2, if_pos h2, if_pos h2]
    · rw [if_neg h2, if_neg h2, if_neg h2]
      by_cases h3 : Y.ep < ep
      · rw [if_pos h3, if_pos h3, if_pos h3]
        have hz : ¬ ep = 0 := by omega
        exact (if_neg hz).symm
      · rw [if_neg h3, if_neg h3, if_neg h3]
  · rw [if_neg h1, if_neg h1, if_neg h1]
    by_cases h2 : mineG Y ep kind (osG Y SG)
    · rw [if_pos h2, if_pos h2, if_pos h2]
      have h3 := h2.2.1
      by_cases h4 : Y.ep = 0
      · have e : osG Y SG = none := if_pos h4
        rw [e] at h3
        cases h3
      · have e : osG Y SG = some SG := if_neg h4
        rw [e]
        exact (if_neg h4).symm
    · rw [if_neg h2, if_neg h2, if_neg h2]
theorem BG.g1 {n : Nat} {Y : GS} {SG : BS} {ep m now : Int} {kind t : Str} (h : BG n SG) (ht : PyData.strOk t = true) : BG (n + 1) (gS1 Y ep m now kind t SG) := by
  unfold gS1
  by_cases h1 : kind = "hail"
  · rw [if_pos h1]
    by_cases h2 : m ≠ Y.bo
    · rw [if_pos h2]
      exact h.mono (Nat.le_succ n)
    · rw [if_neg h2]
      by_cases h3 : Y.ep < ep
      · rw [if_pos h3]
        exact BG.zero
      · rw [if_neg h3]
        exact h.mono (Nat.le_succ n)
  · rw [if_neg h1]
    by_cases h2 : mineG Y ep kind (osG Y SG)
    · rw [if_pos h2]
      exact h.hears ht
    · rw [if_neg h2]
      exact h.mono (Nat.le_succ n)
theorem tailM_nt {om : Option MB} {S : BS} : (tailM om S).all (fun e => ntB e.2) = true := by
  match om with
  | none => rfl
  | some M => rfl
theorem tailG_nt {o : Option (BA × BS)} : (tailG a o).all (fun e => ntB e.2) = true := by
  match o with
  | none => rfl
  | some (A, S) => rfl
theorem list_ok {ds : List PyData} (h : ∀ d ∈ ds, d.canLay0 = true ∧ d.depth ≤ 60) : (PyData.list ds).canLay0 = true ∧ (PyData.list ds).depth ≤ 61 := by
  have e := depth_all ds fun d hd => (h d hd).2
  have l := lay_all ds fun d hd => (h d hd).1
  unfold PyData.canLay0 PyData.depth
  exact ⟨l, by omega⟩
theorem gtakeL_str {n : Nat} {Y : GS} {SG : BS} {ep m : Int} {kind t : Str} (h : BG n SG) (ht : PyData.strOk t = true) : ∃ ts : List Str, gtakeL Y ep m kind t (osG Y SG) = ts.map V.str ∧ ∀ t ∈ ts, PyData.strOk t = true := by
  unfold gtakeL
  by_cases h1 : kind = "hail"
  · rw [if_pos h1]
    exact ⟨[], rfl, fun _ h => absurd h List.not_mem_nil⟩
  · rw [if_neg h1]
    by_cases h2 : mineG Y ep kind (osG Y SG)
    · rw [if_pos h2]
      have h3 := h2.2.1
      by_cases h4 : Y.ep = 0
      · have e : osG Y SG = none := if_pos h4
        rw [e] at h3
        cases h3
      · have e : osG Y SG = some SG := if_neg h4
        rw [e]
        exact hearsL_str h ht
    · rw [if_neg h2]
      exact ⟨[], rfl, fun _ h => absurd h List.not_mem_nil⟩
/-- two pairs of a list of texts and a list of data are equal -/
theorem w_nePair {H : Hp} {Q : VK} {p q D1 D2 E1 E2 : Addr} {ts : List Str} {ds : List PyData} {acc acc' : List V} (hp : H p = some (.tup [.ref D1, .ref D2])) (hq : H q = some (.tup [.ref E1, .ref E2])) (d1 : H D1 = some (lst ts)) (d2 : H D2 = some (.lst acc)) (e1 : H E1 = some (lst ts)) (e2 : H E2 = some (.lst acc'))
    (h1 : ImAll K H acc ds) (h2 : ImAll K H acc' ds) (ht : ∀ t ∈ ts, PyData.strOk t = true) (hd : ∀ d ∈ ds, d.canLay0 = true ∧ d.depth ≤ 60) (k : Q (.bl false) H) : rNeD K (.ref p) (.ref q) H Q := by
  refine w_neD (d := .tuple [.list (ts.map PyData.str), .list ds]) (.tup (SqT.of hp) (.cons (.lst (SqL.of d1) (ima_str ts).dp) (.cons (.lst (SqL.of d2) h1.dp) .nil))) (.tup (SqT.of hq) (.cons (.lst (SqL.of e1) (ima_str ts).dp) (.cons (.lst (SqL.of e2) h2.dp) .nil))) (shp_tup fun d hd' => ?_) k
  rcases List.mem_cons.mp hd' with rfl | hd'
  · exact list_ok (str_ok ht)
  · rw [List.mem_singleton.mp hd']
    exact list_ok hd
end
local macro_rules | `(tactic| walk_at "v") => `(tactic| first | exact v0 | exact v1 | exact v2 | exact v3 | exact v4 | exact v5 | exact v6 | exact v7 | exact v8)
local macro_rules | `(tactic| walk_at "vs") => `(tactic| first | exact st0 | exact st1 | exact st2 | exact st3 | exact st4 | exact st5 | exact st6 | exact st7 | exact st8)
local macro_rules | `(tactic| walk_at "s") => `(tactic| first
  | with_reducible refine w_dget ?_
  | ((with_reducible refine' w_dgetZ ?h ?nd ?hk ?hv ?_); (case h => walk_at "g"); (case nd => walk_at "nd"); (case hk => walk_at "k"); (case hv => walk_at "v"))
  | ((with_reducible refine' w_dputZ ?hs ?h ?nd ?hk ?hv ?hu ?hl ?_); (case hs => assumption); (case h => walk_at "p"); (case nd => walk_at "nd"); (case hk => walk_at "k"); (case hv => walk_at "v"); (case hu => walk_at "vs"); (case hl => decide); intro _ _)
  | with_reducible refine w_gsub ?_
  | with_reducible refine w_setD ?_
  | with_reducible refine w_disp ?_
  | ((with_reducible refine' w_newP ?hs ?_); (case hs => assumption); intro _ _ _)
  | with_reducible refine w_pcons ?_
  | with_reducible refine w_pnil ?_)

local macro_rules | `(tactic| walk_at "nd") => `(tactic| first | exact bK_nd | exact mK_nd | exact gK_nd)
local macro_rules | `(tactic| walk_at "k") => `(tactic| first | exact bK_first | exact bK_rows | exact bK_said | exact bK_next | exact bK_early | exact bK_when | exact bK_wait | exact bK_tries | exact bK_owes | exact mK_epoch | exact mK_boot | exact mK_state | exact mK_body | exact gK_epoch | exact gK_boot | exact gK_body | exact gK_awake)
section
variable {P : Program} [IsP P] {w : World} {K : PySem.W.Frag} {mg : Str → Option Value} {base : Heap} {a : Ad}
def sp_law (K : PySem.W.Frag) : Sp := fun vs H Q _ => ∃ (x : Addr) (ns : List Int), vs = [.ref x] ∧ SqL K H x (ns.map V.int) ∧ ns.length ≤ 63 ∧ ∀ H', Q (.bl true) H'
/-- the addresses of the law -/
structure Ad7 where
  (st c l dl g dg ml gm : Addr)
/-- what the law holds: a literal beginning, and what hangs on it -/
abbrev lawL (a : Ad) (z : Ad7) (m0 : Int) (cells : List Int) (X : LS) (A : BA) (S : BS) (om : Option MB) (Y : GS) (o : Option (BA × BS)) (MG : MB) (SG : BS) : List (Addr × HO) :=
  (z.st, sto z.c m0) :: (z.c, clo cells) :: (z.l, lineO a z.dl X A.b) :: (z.ml, mlo X (bM om)) :: (z.g, guestO a z.dg Y (bG o)) :: (z.gm, mgo Y MG.b) :: (bodyL a A S ++ (tailM om S ++ (tailG a o ++ mbL MG SG)))
/-- what holds between two turns -/
structure I7 (n : Nat) (X : LS) (S : BS) (om : Option MB) (Y : GS) (o : Option (BA × BS)) (SG : BS) (m0 : Int) (cells : List Int) : Prop where
  g : Good m0 cells
  b1 : BG n S
  b2 : BG n SG
  st : X.st = "none" ∨ X.st = "failed" ∨ X.st = "hailing" ∨ X.st = "open"
  nn : om = none → X.st = "none"
  nt : X.st = "none" → S.t = 0
  to : X.to = 2
  own : Y.own = 2
  oo : o.map (·.2) = osG Y SG
  xe : 0 ≤ X.ep
  xb : 0 ≤ X.bo
  ye : 0 ≤ Y.ep
  yb : 0 ≤ Y.bo
  qu : Y.quiet = false → Y.ep ≠ 0
theorem take_nt {X : LS} {S : BS} {sd ep m now : Int} {kind t : Str} (h : X.st = "none" → S.t = 0) : (takeX X sd ep kind m).st = "none" → (takeS X S sd ep kind m t now).t = 0 := by
  intro e
  have hn : X.st = "none" := by
    rcases takeX_cases (X := X) (sd := sd) (ep := ep) (m := m) (kind := kind) with q | ⟨q0, q⟩ | ⟨q0, q⟩
    · rw [q] at e
      exact e
    · rw [q] at e
      exact e
    · rw [q] at e
      exact absurd e (by show ¬ ("open" : Str) = "none"; decide +kernel)
  have n1 : ¬ X.st = "hailing" := by
    rw [hn]
    decide +kernel
  have n2 : ¬ X.st = "open" := by
    rw [hn]
    decide +kernel
  have e2 : takeS X S sd ep kind m t now = S := by
    unfold takeS
    by_cases hc : sd ≠ X.to ∨ ep ≠ X.ep
    · rw [if_pos hc]
    · rw [if_neg hc, if_neg n2, if_neg n1]
  rw [e2]
  exact h hn
/-! ### a tick -/
def saidT (Y : GS) (now : Int) (SG : BS) : List (Str × Int × Str) := if Y.ep = 0 then [] else if Y.quiet then [] else saysT SG now
def saidS (Y : GS) (now : Int) (SG : BS) : BS := if Y.ep = 0 then SG else if Y.quiet then SG else saysS SG now
theorem said_T {o : Option (BA × BS)} {Y : GS} {SG : BS} {now : Int} (h : o.map (·.2) = osG Y SG) : gtickT Y now o = saidT Y now SG := by
  unfold osG at h
  unfold saidT
  by_cases hc : Y.ep = 0
  · rw [if_pos hc] at h ⊢
    match o, h with
    | none, _ => rfl
  · rw [if_neg hc] at h ⊢
    match o, h with
    | some (A, S), h =>
      have e : S = SG := Option.some.inj h
      subst e
      rfl
theorem said_O {o : Option (BA × BS)} {Y : GS} {SG : BS} {now : Int} (h : o.map (·.2) = osG Y SG) : (gtickO Y now o).map (·.2) = osG Y (saidS Y now SG) := by
  unfold osG at h ⊢
  unfold saidS
  by_cases hc : Y.ep = 0
  · rw [if_pos hc] at h
    rw [if_pos hc]
    match o, h with
    | none, _ => rfl
  · rw [if_neg hc] at h
    rw [if_neg hc, if_neg hc]
    match o, h with
    | some (A, S), h =>
      have e : S = SG := Option.some.inj h
      subst e
      unfold gtickO
      cases Y.quiet <;> rfl
theorem saidT_len {Y : GS} {SG : BS} {now : Int} (ok : BOk SG) : (saidT Y now SG).length ≤ 5 := by
  unfold saidT
  split
  · exact Nat.zero_le _
  · split
    · exact Nat.zero_le _
    · exact saysT_len ok
theorem saidT_ok {n : Nat} {Y : GS} {SG : BS} {now : Int} (h : BG n SG) : ∀ z ∈ saidT Y now SG, TriOk z := by
  unfold saidT
  split
  · exact fun _ h => absurd h List.not_mem_nil
  · split
    · exact fun _ h => absurd h List.not_mem_nil
    · exact saysT_ok h
theorem BG.said {n : Nat} {Y : GS} {SG : BS} {now : Int} (h : BG n SG) : BG n (saidS Y now SG) := by
  unfold saidS
  split
  · exact h
  · split
    · exact h
    · exact h.says
theorem tick_eq {X : LS} {S : BS} {now : Int} (h1 : X.st = "none" ∨ X.st = "failed" ∨ X.st = "hailing" ∨ X.st = "open") (h2 : X.st = "none" → S.t = 0) : tickX X S now = ltickX X S now := by
  unfold tickX ltickX
  by_cases hc : 6 ≤ (lineS X S now).t
  · rw [if_pos hc]
    rcases h1 with e | e | e | e
    · have n1 : ¬ X.st = "hailing" := by
        rw [e]
        decide +kernel
      have n2 : ¬ X.st = "open" := by
        rw [e]
        decide +kernel
      unfold lineS at hc
      rw [if_neg n2, if_neg n1] at hc
      have := h2 e
      omega
    · have n1 : ¬ X.st = "hailing" := by
        rw [e]
        decide +kernel
      have n2 : ¬ X.st = "open" := by
        rw [e]
        decide +kernel
      rw [if_neg (fun z => z.1.elim n1 n2)]
      obtain ⟨x1, x2, x3, x4⟩ := X
      cases (show x3 = "failed" from e)
      rfl
    · rw [if_pos ⟨.inl e, hc⟩]
    · rw [if_pos ⟨.inr e, hc⟩]
  · rw [if_neg hc, if_neg (fun z => hc z.2)]
theorem ltickX_cases {X : LS} {S : BS} {now : Int} : ltickX X S now = X ∨ ((X.st = "hailing" ∨ X.st = "open") ∧ ltickX X S now = { X with st := "failed" }) := by
  unfold ltickX
  by_cases hc : (X.st = "hailing" ∨ X.st = "open") ∧ 6 ≤ (lineS X S now).t
  · exact .inr ⟨hc.1, if_pos hc⟩
  · exact .inl (if_neg hc)
theorem tick_nt {X : LS} {S : BS} {now : Int} (h : X.st = "none" → S.t = 0) : (ltickX X S now).st = "none" → (lineS X S now).t = 0 := by
  intro e
  rcases ltickX_cases (X := X) (S := S) (now := now) with q | ⟨q0, q⟩
  · rw [q] at e
    have n1 : ¬ X.st = "hailing" := by
      rw [e]
      decide +kernel
    have n2 : ¬ X.st = "open" := by
      rw [e]
      decide +kernel
    unfold lineS
    rw [if_neg n2, if_neg n1]
    exact h e
  · rw [q] at e
    exact absurd e (by show ¬ ("failed" : Str) = "none"; decide +kernel)
theorem pmJ {α : Type} {J L P R : List α} (h : L.Perm (P ++ R)) : (J ++ L).Perm (P ++ (J ++ R)) := (h.append_left J).trans (List.perm_append_comm_assoc J P R)
theorem _root_.Hb.Hs.toF {B H : Hp} {J L P R : List (Addr × HO)} (hs : Hs B (J ++ L) H) (h : L.Perm (P ++ R)) : Hs B (P ++ (J ++ R)) H := hs.perm (pmJ h).symm
theorem _root_.Hb.Hs.fromF {B H : Hp} {e : Addr × HO} {J L P R : List (Addr × HO)} (hs : Hs B ((e :: P) ++ (J ++ R)) H) (h : L.Perm (P ++ R)) : Hs B ((e :: J) ++ L) H := hs.perm ((pmJ h).cons e)
theorem sk_all : ∀ k : Nat, k < 41 → PyData.strOk (("s" : Str) ++ (toString (k : Int) : String)) = true ∧ PyData.strOk (("u" : Str) ++ (toString (k : Int) : String)) = true ∧ Str.length (toString (k : Int) : String) ≤ 10 := by decide +kernel
theorem o_facts {o : Option (BA × BS)} {Y : GS} {SG : BS} {n : Nat} (h : o.map (·.2) = osG Y SG) (b : BG n SG) (hn : n ≤ 100) : okO o ∧ fitO o := by
  match o, h with
  | none, _ => exact ⟨trivial, trivial⟩
  | some (A, S), h =>
    have e : S = SG := by
      unfold osG at h
      by_cases hc : Y.ep = 0
      · rw [if_pos hc] at h
        cases h
      · rw [if_neg hc] at h
        exact Option.some.inj h
    subst e
    have hr := b.rl
    exact ⟨b.ok (by omega), show S.rows.length < 300 by omega⟩
theorem put_map {o : Option (BA × BS)} {Y : GS} {SG : BS} {t : Str} (h : o.map (·.2) = osG Y SG) (hc : Y.ep ≠ 0) : (putO t o).map (·.2) = osG Y { SG with rows := SG.rows ++ [t] } := by
  unfold osG at h ⊢
  rw [if_neg hc] at h ⊢
  match o, h with
  | some (A, S), h =>
    have e : S = SG := Option.some.inj h
    subst e
    rfl
theorem put_map0 {o : Option (BA × BS)} {Y : GS} {SG : BS} {t : Str} (h : o.map (·.2) = osG Y SG) (hc : Y.ep = 0) : (putO t o).map (·.2) = osG Y SG := by
  unfold osG at h ⊢
  rw [if_pos hc] at h ⊢
  match o, h with
  | none, _ => rfl
theorem w_sent {B H : Hp} {Q : VK} {E : XK} {z : Ad7} {m0 : Int} {cells : List Int} {X : LS} {A : BA} {S : BS} {om : Option MB} {Y : GS} {o : Option (BA × BS)} {MG : MB} {SG : BS} {n : Nat} {t : Str} (hs : Hs B (lawL a z m0 cells X A S om Y o MG SG) H) (I : I7 n X S om Y o SG m0 cells) (hn : n ≤ 100) (ht : PyData.strOk t = true)
    (q : ∀ S' H', BG (n + 1) S' → S'.t = S.t → Hs B (lawL a z m0 cells X A S' om Y o MG SG) H' → Q (.bl true) H') : sp__law_sent a [.ref z.l, .ref z.ml, .str t] H Q E := by
  have hr := I.b1.rl
  by_cases hx : X.st = "hailing" ∨ X.st = "open"
  · match om, hs, I, q with
    | none, hs, I, q =>
      have := I.nn rfl
      rw [this] at hx
      exact absurd hx (by decide +kernel)
    | some M, hs, I, q =>
      have hs2 : Hs B ((lineL a z.l z.dl X A S ++ mlL z.ml X M S) ++ _) H := hs.perm (pmLM _ _ _ _ _ _ _ _ _ _).symm
      exact w_sentB hs2 (by omega) hx fun H' hs3 => q _ H' (I.b1.put ht) rfl (hs3.perm (pmLM _ _ _ _ _ _ _ _ _ _))
  · have hx2 : X.st = "none" ∨ X.st = "failed" := by
      rcases I.st with e | e | e | e
      · exact .inl e
      · exact .inr e
      · exact absurd (.inl e) hx
      · exact absurd (.inr e) hx
    have hs2 : Hs B ((lineL a z.l z.dl X A S ++ [(z.ml, mlo X (bM om))]) ++ _) H := hs.perm (pmB _ _ _ _ _ _ _ _ _ _).symm
    exact w_sentA hs2 (by omega) hx2 fun H' hs3 => q S H' (I.b1.mono (Nat.le_succ n)) rfl (hs3.perm (pmB _ _ _ _ _ _ _ _ _ _))
end
local macro_rules | `(tactic| walk_at "v") => `(tactic| first | exact v0 | exact v1 | exact v2 | exact v3 | exact v4 | exact v5 | exact v6 | exact v7 | exact v8)
local macro_rules | `(tactic| walk_at "vs") => `(tactic| first | exact st0 | exact st1 | exact st2 | exact st3 | exact st4 | exact st5 | exact st6 | exact st7 | exact st8)
local macro_rules | `(tactic| walk_at "s") => `(tactic| first
  | with_reducible refine w_dget ?_
  | ((with_reducible refine' w_dgetZ ?h ?nd ?hk ?hv ?_); (case h => walk_at "g"); (case nd => walk_at "nd"); (case hk => walk_at "k"); (case hv => walk_at "v"))
  | ((with_reducible refine' w_dputZ ?hs ?h ?nd ?hk ?hv ?hu ?hl ?_); (case hs => assumption); (case h => walk_at "p"); (case nd => walk_at "nd"); (case hk => walk_at "k"); (case hv => walk_at "v"); (case hu => walk_at "vs"); (case hl => decide); intro _ _)
  | with_reducible refine w_gsub ?_
  | with_reducible refine w_setD ?_
  | with_reducible refine w_disp ?_
  | ((with_reducible refine' w_newP ?hs ?_); (case hs => assumption); intro _ _ _)
  | with_reducible refine w_pcons ?_
  | with_reducible refine w_pnil ?_)

local macro_rules | `(tactic| walk_at "nd") => `(tactic| first | exact bK_nd | exact mK_nd | exact gK_nd)
local macro_rules | `(tactic| walk_at "k") => `(tactic| first | exact bK_first | exact bK_rows | exact bK_said | exact bK_next | exact bK_early | exact bK_when | exact bK_wait | exact bK_tries | exact bK_owes | exact mK_epoch | exact mK_boot | exact mK_state | exact mK_body | exact gK_epoch | exact gK_boot | exact gK_body | exact gK_awake)
section
variable {P : Program} [IsP P] {w : World} {K : PySem.W.Frag} {mg : Str → Option Value} {base : Heap} {a : Ad}
theorem ok_law (T : Txt K mg a) : FnOk P w K mg base CX0 7 a.law a.fd_law ["script"] (sp_law K) := by
  have G__law_state := ok__law_state (P := P) (w := w) (base := base) T
  have G__law_draw := ok__law_draw (P := P) (w := w) (base := base) T
  have G_Line_init := ok_Line_init (P := P) (w := w) (base := base) T
  have G_Guest_init := ok_Guest_init (P := P) (w := w) (base := base) T
  have G__law_body := ok__law_body (P := P) (w := w) (base := base) T
  have G__law_segment := ok__law_segment (P := P) (w := w) (base := base) T
  have G__law_say := ok__law_say (P := P) (w := w) (base := base) T
  have G_Line_tick := ok_Line_tick (P := P) (w := w) (base := base) T
  have G_Line_take := ok_Line_take (P := P) (w := w) (base := base) T
  have G_Guest_tick := ok_Guest_tick (P := P) (w := w) (base := base) T
  have G_Guest_take := ok_Guest_take (P := P) (w := w) (base := base) T
  have G_Guest_send := ok_Guest_send (P := P) (w := w) (base := base) T
  have G__law_line_tick := ok__law_line_tick (P := P) (w := w) (base := base) T
  have G__law_line_take := ok__law_line_take (P := P) (w := w) (base := base) T
  have G__law_guest_take := ok__law_guest_take (P := P) (w := w) (base := base) T
  have G__law_begun := ok__law_begun (P := P) (w := w) (base := base) T
  have G__law_sent := ok__law_sent (P := P) (w := w) (base := base) T
  have G__law_pick := ok__law_pick (P := P) (w := w) (base := base) T
  refine T.fn_law.ok sc_law (fun vs H Q E h => ?_) (fun cdv A outer s H vs Q E hr h => ?_)
  · obtain ⟨_, _, rfl, _⟩ := h
    rfl
  · obtain ⟨x, ns, rfl, hx, hl, k⟩ := h
    have hu := hu_of hr
    have c1 := T.cl_Line
    have c2 := T.cl_Guest
    have n1 := T.na_Line_epoch
    have n2 := T.na_Line_boot
    have n3 := T.na_Line_state
    have n4 := T.na_Guest_epoch
    have n5 := T.na_Guest_boot
    refine ⟨_, (pss_cons (ps_set (i := 1) sc_law.nd rfl (Or.inl rfl) (pe_call G__law_state (hr.mono (by decide)) rfl T.mg__law_state T.kp__law_state T.bi__law_state .nil pass0 (pa_cons (pv 0) pa_nil)))
  (pss_cons (ps_set (i := 2) sc_law.nd rfl (Or.inl rfl) (pe_op op_add pe_int (pe_call G__law_draw (hr.mono (by decide)) rfl T.mg__law_draw T.kp__law_draw T.bi__law_draw .nil pass0 (pa_cons (pv 1) (pa_cons pe_int pa_nil)))))
  (pss_cons (ps_par (i := 3) (j := 4) rfl sc_law.nd rfl rfl (by decide) rfl rfl (pa_cons (pe_make T.mk_Line G_Line_init (hr.mono (by decide)) rfl T.mg_Line T.bi_Line_init .nil pass0 (pa_cons pe_int pa_nil)) (pa_cons (pe_make T.mk_Guest G_Guest_init (hr.mono (by decide)) rfl T.mg_Guest T.bi_Guest_init .nil pass0 (pa_cons pe_int (pa_cons (pv 2) pa_nil))) pa_nil)) (by rfl))
  (pss_cons (ps_set (i := 5) sc_law.nd rfl (Or.inl rfl) (pe_disp (pps_cons pe_str pe_int (pps_cons pe_str pe_int (pps_cons pe_str pe_str (pps_cons pe_str pe_non pps_nil)))) (by rfl) (by rfl) (fun z => by cases z) (by decide)))
  (pss_cons (ps_set (i := 6) sc_law.nd rfl (Or.inr rfl) (pe_disp (pps_cons pe_str pe_int (pps_cons pe_str (pv 2) (pps_cons pe_str (pe_call0 G__law_body (hr.mono (by decide)) rfl T.mg__law_body T.kp__law_body T.bi__law_body .nil pass0) (pps_cons pe_str pe_bl pps_nil)))) (by rfl) (by rfl) (fun z => by cases z) (by decide)))
  (pss_cons (ps_set (i := 7) sc_law.nd rfl (Or.inl rfl) pe_int)
  (pss_cons (ps_for PassesOwn.never rfl (pi_range1 rfl T.mg_range (pa_cons (pe_op op_add pe_int (pe_call G__law_draw (hr.mono (by decide)) rfl T.mg__law_draw T.kp__law_draw T.bi__law_draw .nil pass0 (pa_cons (pv 1) (pa_cons pe_int pa_nil)))) pa_nil)) (pg_name (i := 8) sc_law.nd rfl (Or.inl rfl))
  (pss_cons (ps_set (i := 9) sc_law.nd rfl (Or.inl rfl) (pe_call G__law_draw (hr.mono (by decide)) rfl T.mg__law_draw T.kp__law_draw T.bi__law_draw .nil pass0 (pa_cons (pv 1) (pa_cons pe_int pa_nil))))
  (pss_cons (ps_set (i := 10) sc_law.nd rfl (Or.inl rfl) (pe_call G__law_segment (hr.mono (by decide)) rfl T.mg__law_segment T.kp__law_segment T.bi__law_segment .nil pass0 (pa_cons (pv 1) (pa_cons (pv 5) (pa_cons (pv 6) pa_nil)))))
  (C8.pss_cut (ps_if (pt_cmpR op_lt (pv 9) pe_int (nomark _))
  (pss_cons (ps_set (i := 7) sc_law.nd rfl (Or.inl rfl) (pe_op op_add (pe_op op_add (pv 7) pe_int) (pe_call G__law_draw (hr.mono (by decide)) rfl T.mg__law_draw T.kp__law_draw T.bi__law_draw .nil pass0 (pa_cons (pv 1) (pa_cons pe_int pa_nil)))))
  (C8.pss_cut (ps_set (i := 11) sc_law.nd rfl (Or.inl rfl) (pe_ifExp (PW.pt (pw_or (pt_cmpR op_eq (pe_dget hu (pv 6) pe_str (fun _ _ => rfl)) pe_int (nomark _)) (pw_or1 (pt_not (pt_val (pe_dget hu (pv 6) pe_str (fun _ _ => rfl))))))) (pe_lst pa_nil) (pe_call G__law_say (hr.mono (by decide)) rfl T.mg__law_say T.kp__law_say T.bi__law_say .nil pass0 (pa_cons (pe_dget hu (pv 6) pe_str (fun _ _ => rfl)) (pa_cons (pv 7) pa_nil)))))
  (pss_cons (ps_setLc (i := 12) (own := [("row", 13)]) (g := (gName 13)) (tt := tYes) rfl sc_law.nd rfl rfl (sw_true rfl rfl rfl (by decide +kernel)) (pi_listK (K := K) (pv 11)) (blkOk_by (own := [("row", 13)]) (N := N_law) (sc := defScope s_law) (by decide +kernel)) (fun _ _ _ _ _ => by exact (pg_name (i := 13) sc_law.nd rfl (Or.inl rfl))) (fun _ _ _ _ _ => pts_nil) (fun _ _ _ _ _ => by exact (pe_op (op_catTK (K := K)) (pe_tup (pa_cons pe_str (pa_cons pe_int (pa_cons pe_int (pa_cons pe_int (pa_cons (pe_dget hu (pv 6) pe_str (fun _ _ => rfl)) pa_nil)))))) (pv 13))))
  (pss_one (ps_if (PW.pt (pw_or (pt_cmpR (op_neDK (K := K) hr.units) (pe_meth (pv 3) T.cl_Line T.me_Line_tick G_Line_tick (hr.mono (by decide)) T.bi_Line_tick .nil pass0 (pa_cons (pv 7) pa_nil)) (pe_call G__law_line_tick (hr.mono (by decide)) rfl T.mg__law_line_tick T.kp__law_line_tick T.bi__law_line_tick .nil pass0 (pa_cons (pv 5) (pa_cons (pv 7) pa_nil))) (nomark _)) (pw_or1 (pt_cmpR (op_neDK (K := K) hr.units) (pe_meth (pv 4) T.cl_Guest T.me_Guest_tick G_Guest_tick (hr.mono (by decide)) T.bi_Guest_tick .nil pass0 (pa_cons (pv 7) pa_nil)) (pv 12) (nomark _)))))
  (pss_one (ps_ret pe_bl))
  pss_nil)))))
  (pss_one (ps_if (pt_cmpR op_eq (pv 9) pe_int (nomark _))
  (pss_one (ps_if (pt_not (pt_val (pe_call G__law_begun (hr.mono (by decide)) rfl T.mg__law_begun T.kp__law_begun T.bi__law_begun .nil pass0 (pa_cons (pv 3) (pa_cons (pv 5) (pa_cons (pe_call G__law_pick (hr.mono (by decide)) rfl T.mg__law_pick T.kp__law_pick T.bi__law_pick .nil pass0 (pa_cons (pv 1) (pa_cons (pe_lst (pa_cons (pe_op op_add (pe_dget hu (pv 5) pe_str (fun _ _ => rfl)) pe_int) (pa_cons (pe_op op_add (pe_dget hu (pv 5) pe_str (fun _ _ => rfl)) pe_int) (pa_cons (pe_dget hu (pv 5) pe_str (fun _ _ => rfl)) (pa_cons pe_int pa_nil))))) pa_nil))) (pa_cons (pv 7) pa_nil)))))))
  (pss_one (ps_ret pe_bl))
  pss_nil))
  (pss_one (ps_if (pt_cmpR op_lt (pv 9) pe_int (nomark _))
  (pss_cons (ps_if (pt_not (pt_val (pe_call G__law_sent (hr.mono (by decide)) rfl T.mg__law_sent T.kp__law_sent T.bi__law_sent .nil pass0 (pa_cons (pv 3) (pa_cons (pv 5) (pa_cons (pe_op op_addS pe_str (pe_callTy call_strQ (by rfl) T.mg_str (by decide +kernel) (pa_cons (pv 8) pa_nil))) pa_nil))))))
  (pss_one (ps_ret pe_bl))
  pss_nil)
  (pss_cons (ps_expr (pe_meth (pv 4) T.cl_Guest T.me_Guest_send G_Guest_send (hr.mono (by decide)) T.bi_Guest_send .nil passL (pa_cons (pe_op op_addS pe_str (pe_callTy call_strQ (by rfl) T.mg_str (by decide +kernel) (pa_cons (pv 8) pa_nil))) pa_nil)))
  (pss_one (ps_if (pt_cmpR op_gt (pe_dget hu (pv 6) pe_str (fun _ _ => rfl)) pe_int (nomark _))
  (pss_one (ps_expr (pe_bmK (K := K) PySem.F.plainAttrs_list PySem.F.slot_list_append PySem.F.type_list_append mt_append (pe_dget hu (pe_dget hu (pv 6) pe_str (fun _ _ => rfl)) pe_str (fun _ _ => rfl)) (pa_cons (pe_op op_addS pe_str (pe_callTy call_strQ (by rfl) T.mg_str (by decide +kernel) (pa_cons (pv 8) pa_nil))) pa_nil))))
  pss_nil))))
  (pss_one (ps_if (pt_cmpR op_lt (pv 9) pe_int (nomark _))
  (pss_one (ps_if (pt_cmpR (op_neDK (K := K) hr.units) (pe_meth (pv 3) T.cl_Line T.me_Line_take G_Line_take (hr.mono (by decide)) T.bi_Line_take .nil pass0 (pa_cons (pv 10) (pa_cons (pv 7) pa_nil))) (pe_call G__law_line_take (hr.mono (by decide)) rfl T.mg__law_line_take T.kp__law_line_take T.bi__law_line_take .nil pass0 (pa_cons (pv 5) (pa_cons (pv 10) (pa_cons (pv 7) pa_nil)))) (nomark _))
  (pss_one (ps_ret pe_bl))
  pss_nil))
  (pss_one (ps_if (pt_cmpR (op_neDK (K := K) hr.units) (pe_meth (pv 4) T.cl_Guest T.me_Guest_take G_Guest_take (hr.mono (by decide)) T.bi_Guest_take .nil pass0 (pa_cons (pv 10) (pa_cons (pv 7) pa_nil))) (pe_call G__law_guest_take (hr.mono (by decide)) rfl T.mg__law_guest_take T.kp__law_guest_take T.bi__law_guest_take .nil pass0 (pa_cons (pv 6) (pa_cons (pv 10) (pa_cons (pv 7) pa_nil)))) (nomark _))
  (pss_one (ps_ret pe_bl))
  pss_nil)))))))))
  (pss_one (ps_if (PW.pt (pw_or (pt_cmpR (op_neDK (K := K) hr.units) (pe_tup (pa_cons (pe_fldK (K := K) (pv 3)) (pa_cons (pe_fldK (K := K) (pv 3)) (pa_cons (pe_fldK (K := K) (pv 3)) pa_nil)))) (pe_tup (pa_cons (pe_dget hu (pv 5) pe_str (fun _ _ => rfl)) (pa_cons (pe_dget hu (pv 5) pe_str (fun _ _ => rfl)) (pa_cons (pe_dget hu (pv 5) pe_str (fun _ _ => rfl)) pa_nil)))) (nomark _)) (pw_or1 (pt_cmpR op_ne (pe_fldK (K := K) (pv 4)) (pe_dget hu (pv 6) pe_str (fun _ _ => rfl)) (nomark _)))))
  (pss_one (ps_ret pe_bl))
  pss_nil))))))
  (pss_one (ps_ret (pe_cmpR op_eq (pe_fldK (K := K) (pv 4)) (pv 2) (nomark _))))))))))), ?_⟩
    walk_at "ss"
    refine ⟨x, ns, rfl, hx, by omega, fun st c m cells H1 hs g => ?_⟩
    walk_at "ss"
    refine w_draw hs g (by decide) fun d3 m cells H2 hs2 g _ hd => ?_
    obtain ⟨d30, d31⟩ := hd (by decide)
    clear hs
    walk_at "ss"
    refine w_mkr hs2 fun l dl H3 hs3 => ?_
    obtain ⟨B', _, h1, back⟩ := hs3.frame1
    refine ⟨B', l, dl, _, rfl, h1, fun A4 H4 h4 => ⟨rfl, ?_⟩⟩
    have hs4 : Hs _ [_, _, _, _, _, _, _, _, _] _ := back _ _ h4
    clear hs2 hs3 h1 back h4
    walk_at "ss"
    refine w_mkr hs4 fun g2 dg H3 hs3 => ?_
    obtain ⟨B', _, h1, back⟩ := hs3.frame1
    refine ⟨B', g2, dg, _, _, rfl, h1, fun H5 h5 => ⟨rfl, ?_⟩⟩
    have hs5 : Hs _ [_, _, _, _, _, _, _, _, _, _] _ := back _ _ h5
    clear hs4 hs3 h1 back h5
    walk_at "ss"
    rename_i pm H6 hs6
    refine w_dispZ mK [.int 0, .int 0, .str "none", .non] hs6 (by walk_at "p") mK_nd (by decide) rfl fun H7 hs7 => ?_
    clear hs5 hs6
    walk_at "ss"
    rename_i pg H8 hs8
    refine ⟨rfl, fun MG H9 h9 => ?_⟩
    have hs9 : Hs _ [_, _, _, _, _, _, _, _, _, _, _, _, _, _, _] _ := hs8.add h9
    clear hs7 hs8 h9
    walk_at "ss"
    refine w_dispZ gK [.int 0, .int (1 + d3), .ref MG.b, .bl false] hs9 (by walk_at "p") gK_nd (by decide) rfl fun H10 hs10 => ?_
    clear hs9
    walk_at "ss"
    refine w_for1 ?_
    walk_at "ss"
    have hs : Hs H (lawL a ⟨st, c, l, dl, g2, dg, pm, pg⟩ m cells ⟨0, 0, "none", 2⟩ A4 S0 none ⟨0, 1 + d3, 2, true⟩ none MG S0) H10 := hs10.sel [13, 14, 6, 4, 5, 3, 7, 8, 9, 10, 11, 12, 0, 1, 2]
    clear hs10
    refine w_draw hs g (by decide) fun many m cells H11 hs g _ hmany => ?_
    obtain ⟨hm0, hm1⟩ := hmany (by decide)
    walk_at "ss"
    refine w_forR (n := 8 + many) (by omega) (fun i σ H' => ∃ (now : Int) (v8 v9 v10 v11 v12 : Option V) (m0 : Int) (cells : List Int) (X : LS) (A : BA) (S : BS) (om : Option MB) (Y : GS) (o : Option (BA × BS)) (MG : MB) (SG : BS),
      σ = [some (.ref x), some (.ref st), some (.int (1 + d3)), some (.ref l), some (.ref g2), some (.ref pm), some (.ref pg), some (.int now), v8, v9, v10, v11, v12, none] ∧
      Hs H (lawL a ⟨st, c, l, dl, g2, dg, pm, pg⟩ m0 cells X A S om Y o MG SG) H' ∧ I7 i X S om Y o SG m0 cells ∧ Y.bo = 1 + d3) (fun Q q => q) (by omega)
      ⟨0, none, none, none, none, none, _, _, _, A4, _, none, _, none, MG, _, rfl, hs, ⟨g, BG.zero, BG.zero, .inl rfl, fun _ => rfl, fun _ => rfl, rfl, rfl, rfl, Int.le_refl 0, Int.le_refl 0, Int.le_refl 0, by show 0 ≤ 1 + d3; omega, fun z => nomatch z⟩, rfl⟩ ?_ ?_
    · clear hs g
      rintro i σ H11 hi ⟨now, v8, v9, v10, v11, v12, m0, cells, X, A, S, om, Y, o, MG, SG, rfl, hs, I, hbo⟩
      walk_at "ss"
      refine w_draw hs I.g (by decide) fun kind m0 cells H12 hs2 g _ hkind => ?_
      clear hs
      walk_at "ss"
      have hs3 : Hs H ((st, sto c m0) :: (c, clo cells) :: (pm, mlo X (bM om)) :: (pg, mgo Y MG.b) :: (l, lineO a dl X A.b) :: (g2, guestO a dg Y (bG o)) :: (bodyL a A S ++ (tailM om S ++ (tailG a o ++ mbL MG SG)))) H12 := hs2.perm (pmS _ _ _ _ _ _ _).symm
      clear hs2
      refine w_seg hs3 g I.xb I.yb I.xe I.ye fun z sd hp ep num tk tt m0 cells H13 hs4 g pn pe ptt => ?_
      clear hs3
      obtain ⟨zb, hs5⟩ := hs4.freeze
      have hz : upd H z (.tup [.str "segment", .int 2, .int sd, .int hp, .int ep, .str tk, .int num, .str tt]) z = some (.tup [.str "segment", .int 2, .int sd, .int hp, .int ep, .str tk, .int num, .str tt]) := upd_same
      generalize upd H z (.tup [.str "segment", .int 2, .int sd, .int hp, .int ep, .str tk, .int num, .str tt]) = B2 at zb hs5 hz
      have hs : Hs B2 (lawL a ⟨st, c, l, dl, g2, dg, pm, pg⟩ m0 cells X A S om Y o MG SG) H13 := hs5.perm (pmS _ _ _ _ _ _ _)
      clear hs4 hs5
      have I : I7 i X S om Y o SG m0 cells := ⟨g, I.b1, I.b2, I.st, I.nn, I.nt, I.to, I.own, I.oo, I.xe, I.xb, I.ye, I.yb, I.qu⟩
      walk_at "ss"
      refine w_cut (fun σ' H' => ∃ (now : Int) (v11 v12 : Option V) (m0 : Int) (cells : List Int) (X : LS) (A : BA) (S : BS) (om : Option MB) (Y : GS) (o : Option (BA × BS)) (MG : MB) (SG : BS),
        σ' = [some (.ref x), some (.ref st), some (.int (1 + d3)), some (.ref l), some (.ref g2), some (.ref pm), some (.ref pg), some (.int now), some (.int i), some (.int kind), some (.ref z), v11, v12, none] ∧
        Hs H (lawL a ⟨st, c, l, dl, g2, dg, pm, pg⟩ m0 cells X A S om Y o MG SG) H' ∧ I7 (i + 1) X S om Y o SG m0 cells ∧ Y.bo = 1 + d3) ?_ ?_
      · walk_at "ss"
        refine ifd (fun k1 => ?_) (fun k1 => ?_)
        · walk_at "ss"
          refine w_draw hs I.g (by decide) fun d9 m0 cells H14 hs2 g _ hd9 => ?_
          clear hs
          have hs3 : Hs B2 (mgL pg Y MG SG ++ ((st, sto c m0) :: (c, clo cells) :: (l, lineO a dl X A.b) :: (pm, mlo X (bM om)) :: (g2, guestO a dg Y (bG o)) :: (bodyL a A S ++ (tailM om S ++ tailG a o)))) H14 := hs2.perm (pmN _ _ _ _ _ _ _ _ _ (mbL MG SG)).symm
          clear hs2
          walk_at "ss"
          refine w_cut (fun σ' H' => ∃ (D : Addr) (acc : List V) (B3 : Hp), σ' = [some (.ref x), some (.ref st), some (.int (1 + d3)), some (.ref l), some (.ref g2), some (.ref pm), some (.ref pg), some (.int (now + 1 + d9)), some (.int i), some (.int kind), some (.ref z), some (.ref D), v12, none] ∧ Same B2 B3 ∧
            Hs B3 ((D, .lst acc) :: (mgL pg Y MG (saidS Y (now + 1 + d9) SG) ++ ((st, sto c m0) :: (c, clo cells) :: (l, lineO a dl X A.b) :: (pm, mlo X (bM om)) :: (g2, guestO a dg Y (bG o)) :: (bodyL a A S ++ (tailM om S ++ tailG a o))))) H' ∧ ImAll K B3 acc ((saidT Y (now + 1 + d9) SG).map triD)) ?_ ?_
          · walk_at "ss"
            refine ifd (fun e0 => ?_) (fun e0 => ?_)
            · walk_at "ss"
              rename_i D1 H15 hs4
              refine ⟨D1, [], B2, rfl, Same.refl _, ?_, ?_⟩
              · unfold saidS
                rw [if_pos e0]
                exact hs4
              · unfold saidT
                rw [if_pos e0]
                exact .nil
            · walk_at "ss"
              cases hq : Y.quiet with
              | true =>
                refine iteT ?_
                walk_at "ss"
                rename_i D1 H15 hs4
                refine ⟨D1, [], B2, rfl, Same.refl _, ?_, ?_⟩
                · unfold saidS
                  rw [if_neg e0, if_pos hq]
                  exact hs4
                · unfold saidT
                  rw [if_neg e0, if_pos hq]
                  exact .nil
              | false =>
                refine iteF ?_
                walk_at "ss"
                have hs4 : Hs B2 (mbL MG SG ++ ((pg, mgo Y MG.b) :: (st, sto c m0) :: (c, clo cells) :: (l, lineO a dl X A.b) :: (pm, mlo X (bM om)) :: (g2, guestO a dg Y (bG o)) :: (bodyL a A S ++ (tailM om S ++ tailG a o)))) H14 := hs3.perm List.perm_middle
                clear hs3
                refine w_lsay hs4 (I.b2.ok (by omega)) fun D1 acc H15 hs5 hi => ?_
                clear hs4
                walk_at "ss"
                have hs6 : Hs B2 ((D1, .lst acc) :: (mgL pg Y MG (saysS SG (now + 1 + d9)) ++ ((st, sto c m0) :: (c, clo cells) :: (l, lineO a dl X A.b) :: (pm, mlo X (bM om)) :: (g2, guestO a dg Y (bG o)) :: (bodyL a A S ++ (tailM om S ++ tailG a o))))) H15 := hs5.perm ((List.perm_middle (l₁ := mbL MG (saysS SG (now + 1 + d9)))).symm.cons _)
                clear hs5
                refine ⟨D1, acc, _, rfl, hs6.rebase.1, ?_, ?_⟩
                · unfold saidS
                  rw [if_neg e0, if_neg (by rw [hq]; exact Bool.false_ne_true)]
                  exact hs6.rebase.2
                · unfold saidT
                  rw [if_neg e0, if_neg (by rw [hq]; exact Bool.false_ne_true)]
                  refine im_around (hs_nt hs6 ?_) hi
                  simp only [List.all_cons, List.all_append, tailM_nt, tailG_nt]
                  rfl
          · rintro σ' H' ⟨D, acc, B3, rfl, sb, hs4, hi⟩
            clear hs3
            walk_at "ss"
            have hl1 := hi.len
            have hl2 := saidT_len (Y := Y) (now := now + 1 + d9) (I.b2.ok (by omega))
            rw [List.length_map] at hl1
            refine w_lcD (K := K) (SqL.of hs4.g0) (by omega) ((saidT Y (now + 1 + d9) SG).map (segD 0 2 Y.ep)) (by rw [List.length_map, hl1]) (fun Q q => ⟨_, rfl, q⟩) ?_ (fun D2 acc2 H15 h1 h2 => ?_) ?_
            · intro j y d H3 Q' hx hd hS kk
              rw [List.getElem?_map] at hd
              cases e : (saidT Y (now + 1 + d9) SG)[j]? with
              | none =>
                rw [e] at hd
                cases hd
              | some tr =>
                rw [e] at hd
                cases hd
                have h3 := hi.get hx (by rw [List.getElem?_map, e]; rfl : ((saidT Y (now + 1 + d9) SG).map triD)[j]? = some (triD tr))
                obtain ⟨q, rfl, hq⟩ := im_tri (h3.same (hs4.same.trans hS))
                have g1 := hS _ _ (hs4.get (i := 1) rfl)
                have hs5 := Hs.start H3
                clear hs4
                refine ⟨rfl, ?_⟩
                walk_at "ss"
                rename_i p5 H4 hs4
                have hq4 : H4 q = _ := hs4.same _ _ hq
                refine w_catT hs4 (SqT.of hs4.g0) (SqT.of hq4) (fun z => nomatch z) (fun z => nomatch z) (by simp only [List.length_cons, List.length_nil]; omega) fun p8 H5 hs5 => ?_
                refine kk _ _ hs5.same ?_
                refine .tup hs5.g0 ?_
                exact .cons (.str _) (.cons (.int _) (.cons (.int _) (.cons (.int _) (.cons (.int _) (.cons (.str _) (.cons (.int _) (.cons (.str _) .nil)))))))
            · have hs5 := hs4.add h1
              clear hs4 h1
              have hs6 := hs5.m1.tl
              clear hs5
              have hs7 : Hs B3 ((D2, .lst acc2) :: (mgL pg Y MG (saidS Y (now + 1 + d9) SG) ++ ((st, sto c m0) :: (c, clo cells) :: (l, lineO a dl X A.b) :: (pm, mlo X (bM om)) :: (g2, guestO a dg Y (bG o)) :: (bodyL a A S ++ (tailM om S ++ tailG a o))))) H15 := hs6
              clear hs6
              have hi2 := im_around (hs_nt hs7 (by simp only [List.all_cons, List.all_append, tailM_nt, tailG_nt]; rfl)) h2
              obtain ⟨qb, hs8⟩ := hs7.rebase
              generalize around _ H15 = B4 at qb hs8 hi2
              clear hs7 h2
              have hs9 : Hs B4 ([(D2, .lst acc2)] ++ ((st, sto c m0) :: (c, clo cells) :: (l, lineO a dl X A.b) :: (pm, mlo X (bM om)) :: (g2, guestO a dg Y (bG o)) :: (pg, mgo Y MG.b) :: (bodyL a A S ++ (tailM om S ++ (tailG a o ++ mbL MG (saidS Y (now + 1 + d9) SG)))))) H15 := hs8.perm ((pmN _ _ _ _ _ _ _ _ _ (mbL MG (saidS Y (now + 1 + d9) SG))).cons _)
              clear hs8
              have hs10 : Hs B4 (lineL a l dl X A S ++ ([(D2, .lst acc2)] ++ ((st, sto c m0) :: (c, clo cells) :: (pm, mlo X (bM om)) :: (g2, guestO a dg Y (bG o)) :: (pg, mgo Y MG.b) :: (tailM om S ++ (tailG a o ++ mbL MG (saidS Y (now + 1 + d9) SG)))))) H15 := hs9.toF (pmL _ _ _ _ _ _ (bodyL a A S) (tailM om S) (tailG a o) (mbL MG (saidS Y (now + 1 + d9) SG)))
              clear hs9
              walk_at "ss"
              refine w_ltick hs10 (I.b1.ok (by omega)) fun E1 a1 H16 hs11 h3 => ?_
              clear hs10
              rw [tick_eq I.st I.nt] at hs11
              have hs12 : Hs B4 ([(E1, .lst a1), (D2, .lst acc2)] ++ ((st, sto c m0) :: (c, clo cells) :: (l, lineO a dl (ltickX X S (now + 1 + d9)) A.b) :: (pm, mlo X (bM om)) :: (g2, guestO a dg Y (bG o)) :: (pg, mgo Y MG.b) :: (bodyL a A (lineS X S (now + 1 + d9)) ++ (tailM om S ++ (tailG a o ++ mbL MG (saidS Y (now + 1 + d9) SG)))))) H16 := Hs.fromF (P := lineL a l dl (ltickX X S (now + 1 + d9)) A (lineS X S (now + 1 + d9))) (J := [(D2, .lst acc2)]) hs11 (pmL _ _ _ _ _ _ (bodyL a A (lineS X S (now + 1 + d9))) (tailM om S) (tailG a o) (mbL MG (saidS Y (now + 1 + d9) SG)))
              clear hs11
              have hi3 := im_around (hs_nt hs12 (by simp only [List.all_cons, List.all_append, tailM_nt, tailG_nt]; rfl)) h3
              obtain ⟨rb, hs13⟩ := hs12.rebase
              generalize around _ H16 = B5 at rb hs13 hi3
              clear hs12 h3
              have hs14 : Hs B5 (((pm, mlo X (bM om)) :: tailM om S) ++ ([(E1, .lst a1), (D2, .lst acc2)] ++ ((st, sto c m0) :: (c, clo cells) :: (l, lineO a dl (ltickX X S (now + 1 + d9)) A.b) :: (g2, guestO a dg Y (bG o)) :: (pg, mgo Y MG.b) :: (bodyL a A (lineS X S (now + 1 + d9)) ++ (tailG a o ++ mbL MG (saidS Y (now + 1 + d9) SG)))))) H16 := hs13.toF (pmM _ _ _ _ _ _ (bodyL a A (lineS X S (now + 1 + d9))) (tailM om S) (tailG a o) (mbL MG (saidS Y (now + 1 + d9) SG)))
              clear hs13
              walk_at "ss"
              refine w_lltick hs14 (I.b1.ok (by omega)) I.nn fun E2 a2 H17 hs15 h4 => ?_
              clear hs14
              have hs16 : Hs B5 ([(E2, .lst a2), (E1, .lst a1), (D2, .lst acc2)] ++ ((st, sto c m0) :: (c, clo cells) :: (l, lineO a dl (ltickX X S (now + 1 + d9)) A.b) :: (pm, mlo (ltickX X S (now + 1 + d9)) (bM om)) :: (g2, guestO a dg Y (bG o)) :: (pg, mgo Y MG.b) :: (bodyL a A (lineS X S (now + 1 + d9)) ++ (tailM om (lineS X S (now + 1 + d9)) ++ (tailG a o ++ mbL MG (saidS Y (now + 1 + d9) SG)))))) H17 := Hs.fromF (P := (pm, mlo (ltickX X S (now + 1 + d9)) (bM om)) :: tailM om (lineS X S (now + 1 + d9))) (J := [(E1, .lst a1), (D2, .lst acc2)]) hs15 (pmM _ _ _ _ _ _ (bodyL a A (lineS X S (now + 1 + d9))) (tailM om (lineS X S (now + 1 + d9))) (tailG a o) (mbL MG (saidS Y (now + 1 + d9) SG)))
              clear hs15
              walk_at "ss"
              rw [I.to] at hi3
              refine w_neL (hs16.get (i := 1) rfl) hs16.g0 (hi3.same hs16.same) h4 (seg_ok (lineT_ok I.b1)) ?_
              refine ⟨false, rfl, iteF ?_⟩
              have hs17 : Hs B5 (((g2, guestO a dg Y (bG o)) :: tailG a o) ++ ([(E2, .lst a2), (E1, .lst a1), (D2, .lst acc2)] ++ ((st, sto c m0) :: (c, clo cells) :: (l, lineO a dl (ltickX X S (now + 1 + d9)) A.b) :: (pm, mlo (ltickX X S (now + 1 + d9)) (bM om)) :: (pg, mgo Y MG.b) :: (bodyL a A (lineS X S (now + 1 + d9)) ++ (tailM om (lineS X S (now + 1 + d9)) ++ mbL MG (saidS Y (now + 1 + d9) SG)))))) H17 := hs16.toF (pmG _ _ _ _ _ _ (bodyL a A (lineS X S (now + 1 + d9))) (tailM om (lineS X S (now + 1 + d9))) (tailG a o) (mbL MG (saidS Y (now + 1 + d9) SG)))
              clear hs16
              walk_at "ss"
              rw [← guestL_eq] at hs17
              refine w_gtick hs17 (o_facts I.oo I.b2 (by omega)).1 (fun q => ?_) fun E3 a3 H18 hs18 h5 => ?_
              · have q2 := I.qu q
                have q3 := I.oo
                unfold osG at q3
                rw [if_neg q2] at q3
                match o, q3 with
                | some _, _ => rfl
              clear hs17
              rw [guestL_eq] at hs18
              have hs19 : Hs B5 ([(E3, .lst a3), (E2, .lst a2), (E1, .lst a1), (D2, .lst acc2)] ++ ((st, sto c m0) :: (c, clo cells) :: (l, lineO a dl (ltickX X S (now + 1 + d9)) A.b) :: (pm, mlo (ltickX X S (now + 1 + d9)) (bM om)) :: (g2, guestO a dg Y (bG (gtickO Y (now + 1 + d9) o))) :: (pg, mgo Y MG.b) :: (bodyL a A (lineS X S (now + 1 + d9)) ++ (tailM om (lineS X S (now + 1 + d9)) ++ (tailG a (gtickO Y (now + 1 + d9) o) ++ mbL MG (saidS Y (now + 1 + d9) SG)))))) H18 := Hs.fromF (P := (g2, guestO a dg Y (bG (gtickO Y (now + 1 + d9) o))) :: tailG a (gtickO Y (now + 1 + d9) o)) (J := [(E2, .lst a2), (E1, .lst a1), (D2, .lst acc2)]) hs18 (pmG _ _ _ _ _ _ (bodyL a A (lineS X S (now + 1 + d9))) (tailM om (lineS X S (now + 1 + d9))) (tailG a (gtickO Y (now + 1 + d9) o)) (mbL MG (saidS Y (now + 1 + d9) SG)))
              clear hs18
              walk_at "ss"
              rw [said_T I.oo, I.own] at h5
              refine w_neL hs19.g0 (hs19.get (i := 3) rfl) h5 ((hi2.same rb).same hs19.same) (seg_ok (saidT_ok I.b2)) ?_
              refine ⟨false, rfl, iteF ?_⟩
              walk_at "ss"
              refine ⟨now + 1 + d9, _, _, m0, cells, ltickX X S (now + 1 + d9), A, lineS X S (now + 1 + d9), om, Y, gtickO Y (now + 1 + d9) o, MG, saidS Y (now + 1 + d9) SG, rfl, ((((hs19.tl.tl.tl.tl.base rb).base qb).base sb).base zb), ?_, hbo⟩
              refine ⟨g, I.b1.line.mono (Nat.le_succ i), I.b2.said.mono (Nat.le_succ i), ?_, ?_, tick_nt I.nt, ?_, I.own, said_O I.oo, ?_, ?_, I.ye, I.yb, I.qu⟩
              · rcases ltickX_cases (X := X) (S := S) (now := now + 1 + d9) with e | ⟨e0, e⟩ <;> rw [e]
                · exact I.st
                · exact .inr (.inl rfl)
              · intro e9
                have hn := I.nn e9
                rcases ltickX_cases (X := X) (S := S) (now := now + 1 + d9) with e | ⟨e0, e⟩
                · rw [e]
                  exact hn
                · rw [hn] at e0
                  exact absurd e0 (by decide +kernel)
              · rcases ltickX_cases (X := X) (S := S) (now := now + 1 + d9) with e | ⟨e0, e⟩ <;> rw [e] <;> exact I.to
              · rcases ltickX_cases (X := X) (S := S) (now := now + 1 + d9) with e | ⟨e0, e⟩ <;> rw [e] <;> exact I.xe
              · rcases ltickX_cases (X := X) (S := S) (now := now + 1 + d9) with e | ⟨e0, e⟩ <;> rw [e] <;> exact I.xb
            · exact fun x σ H R R' hR h => hR _ _ h
        walk_at "ss"
        refine ifd (fun k2 => ?_) (fun k2 => ?_)
        · walk_at "ss"
          rename_i r1 H14 hs1
          have hs2 : Hs B2 ((st, sto c m0) :: (c, clo cells) :: (r1, .lst [.int (X.ep + 1), .int (X.ep + 3), .int X.ep, .int 0]) :: _) H14 := hs1.m2.m2
          clear hs hs1
          refine w_pick hs2 I.g (fun z => nomatch z) (by simp only [List.length_cons, List.length_nil]; omega) fun j xx m0 cells H15 hx hs g => ?_
          clear hs2
          have hxe := I.xe
          obtain ⟨ne, rfl, hne⟩ : ∃ ne : Int, xx = .int ne ∧ 0 ≤ ne := by
            match j, hx with
            | 0, hx => exact ⟨_, (Option.some.inj hx).symm, by omega⟩
            | 1, hx => exact ⟨_, (Option.some.inj hx).symm, by omega⟩
            | 2, hx => exact ⟨_, (Option.some.inj hx).symm, hxe⟩
            | 3, hx => exact ⟨_, (Option.some.inj hx).symm, by decide⟩
          clear hx
          walk_at "ss"
          have hs3 : Hs B2 ((lineL a l dl X A S ++ [(pm, mlo X (bM om))]) ++ (tailM om S ++ ((st, sto c m0) :: (c, clo cells) :: (g2, guestO a dg Y (bG o)) :: (pg, mgo Y MG.b) :: (tailG a o ++ mbL MG SG)))) H15 := hs.perm (pmB _ _ _ _ _ _ _ _ _ _).symm
          clear hs
          refine w_begun hs3 (fun h0 H16 hs4 => ?_) (fun h0 A' M' H16 hs4 => ?_)
          · clear hs3
            have hs5 : Hs B2 (lawL a ⟨st, c, l, dl, g2, dg, pm, pg⟩ m0 cells X A S om Y o MG SG) H16 := hs4.perm (pmB _ _ _ _ _ _ _ _ _ _)
            clear hs4
            walk_at "ss"
            refine iteF ?_
            walk_at "ss"
            exact ⟨now, _, _, m0, cells, X, A, S, om, Y, o, MG, SG, rfl, hs5.base zb, ⟨g, I.b1.mono (Nat.le_succ i), I.b2.mono (Nat.le_succ i), I.st, I.nn, I.nt, I.to, I.own, I.oo, I.xe, I.xb, I.ye, I.yb, I.qu⟩, hbo⟩
          · clear hs3
            have hs5 : Hs B2 (tailM om S ++ lawL a ⟨st, c, l, dl, g2, dg, pm, pg⟩ m0 cells ⟨ne, 0, "hailing", X.to⟩ A' { S0 with d := some now } (some M') Y o MG SG) H16 := hs4.perm (pmB2 _ _ _ _ _ _ _ _ _ _ _)
            have hs6 := hs5.sub (List.sublist_append_right _ _)
            clear hs4 hs5
            walk_at "ss"
            refine iteF ?_
            walk_at "ss"
            exact ⟨now, _, _, m0, cells, _, A', _, some M', Y, o, MG, SG, rfl, hs6.base zb, ⟨g, BG.zero.when (by decide) (by decide), I.b2.mono (Nat.le_succ i), .inr (.inr (.inl rfl)), (fun z => nomatch z), (fun z => absurd (show ("hailing" : Str) = "none" from z) (by decide +kernel)), I.to, I.own, I.oo, hne, Int.le_refl 0, I.ye, I.yb, I.qu⟩, hbo⟩
        walk_at "ss"
        refine ifd (fun k3 => ?_) (fun k3 => ?_)
        · obtain ⟨ks, ku, kl⟩ := sk_all i (by omega)
          have hn1 : Str.length ("s" : Str) ≤ 10 := by decide +kernel
          have hn2 : Str.length ("u" : Str) ≤ 10 := by decide +kernel
          walk_at "ss"
          refine w_str (by omega) ?_
          walk_at "ss"
          refine w_addS (sz (by omega)) ?_
          walk_at "ss"
          refine w_sent (z := ⟨st, c, l, dl, g2, dg, pm, pg⟩) hs I (by omega) ks fun S' H14 hb ht hs2 => ?_
          clear hs
          walk_at "ss"
          refine iteF ?_
          walk_at "ss"
          refine w_str (by omega) ?_
          walk_at "ss"
          refine w_addS (sz (by omega)) ?_
          walk_at "ss"
          have hs3 : Hs B2 (guestL a g2 dg Y o ++ ((st, sto c m0) :: (c, clo cells) :: (l, lineO a dl X A.b) :: (pm, mlo X (bM om)) :: (pg, mgo Y MG.b) :: (bodyL a A S' ++ (tailM om S' ++ mbL MG SG)))) H14 := by
            rw [guestL_eq]
            exact hs2.perm (pmG _ _ _ _ _ _ _ _ _ _).symm
          clear hs2
          obtain ⟨oko, fito⟩ := o_facts I.oo I.b2 (by omega)
          refine w_gsend hs3 oko fito fun H15 hs4 => ?_
          clear hs3
          rw [guestL_eq] at hs4
          have hs5 : Hs B2 (lawL a ⟨st, c, l, dl, g2, dg, pm, pg⟩ m0 cells X A S' om Y (putO (("u" : Str) ++ (toString (i : Int) : String)) o) MG SG) H15 := hs4.perm (pmG _ _ _ _ _ _ _ _ _ _)
          clear hs4
          have hs6 : Hs B2 ((pg, mgo Y MG.b) :: (MG.b, mbo SG MG.r MG.e) :: (MG.r, lst SG.rows) :: (MG.e, .dK SG.kv) :: ((st, sto c m0) :: (c, clo cells) :: (l, lineO a dl X A.b) :: (pm, mlo X (bM om)) :: (g2, guestO a dg Y (bG (putO (("u" : Str) ++ (toString (i : Int) : String)) o))) :: (bodyL a A S' ++ (tailM om S' ++ tailG a (putO (("u" : Str) ++ (toString (i : Int) : String)) o))))) H15 := hs5.perm (pmN _ _ _ _ _ _ _ _ _ (mbL MG SG)).symm
          clear hs5
          walk_at "ss"
          refine ifd (fun k9 => ?_) (fun k9 => ?_)
          · have hr2 : SG.rows.length ≤ 1000 := Nat.le_trans I.b2.rl (by omega)
            walk_at "ss"
            refine w_str (by omega) ?_
            walk_at "ss"
            refine w_addS (sz (by omega)) ?_
            walk_at "ss"
            rename_i H16 hs7
            have e : SG.rows.map V.str ++ [.str (("u" : Str) ++ (toString (i : Int) : String))] = (SG.rows ++ [("u" : Str) ++ (toString (i : Int) : String)]).map V.str := by rw [List.map_append]; rfl
            rw [e] at hs7
            have hs8 : Hs B2 (lawL a ⟨st, c, l, dl, g2, dg, pm, pg⟩ m0 cells X A S' om Y (putO (("u" : Str) ++ (toString (i : Int) : String)) o) MG { SG with rows := SG.rows ++ [("u" : Str) ++ (toString (i : Int) : String)] }) H16 := hs7.perm (pmN _ _ _ _ _ _ _ _ _ _)
            exact ⟨now, _, _, m0, cells, X, A, S', om, Y, _, MG, _, rfl, hs8.base zb, ⟨g, hb, I.b2.put ku, I.st, I.nn, (fun e => ht.trans (I.nt e)), I.to, I.own, put_map I.oo (by omega), I.xe, I.xb, I.ye, I.yb, I.qu⟩, hbo⟩
          · walk_at "ss"
            have hye := I.ye
            have hs8 : Hs B2 (lawL a ⟨st, c, l, dl, g2, dg, pm, pg⟩ m0 cells X A S' om Y (putO (("u" : Str) ++ (toString (i : Int) : String)) o) MG SG) H15 := hs6.perm (pmN _ _ _ _ _ _ _ _ _ _)
            exact ⟨now, _, _, m0, cells, X, A, S', om, Y, _, MG, SG, rfl, hs8.base zb, ⟨g, hb, I.b2.mono (Nat.le_succ i), I.st, I.nn, (fun e => ht.trans (I.nt e)), I.to, I.own, put_map0 I.oo (by omega), I.xe, I.xb, I.ye, I.yb, I.qu⟩, hbo⟩
        walk_at "ss"
        refine ifd (fun k4 => ?_) (fun k4 => ?_)
        · walk_at "ss"
          have hs2 : Hs B2 (lineL a l dl X A S ++ _) H13 := hs.perm (pmL _ _ _ _ _ _ _ _ _ _).symm
          have hto := I.to
          refine w_ltake hs2 hz (I.b1.ok (by omega)) fun D r H14 hs3 => ?_
          have hs4 : Hs B2 ((D, .lst (takeL X S sd ep tk num tt)) :: (st, sto c m0) :: (c, clo cells) :: (l, lineO a dl (takeX X sd ep tk num) A.b) :: (pm, mlo X (bM om)) :: (g2, guestO a dg Y (bG o)) :: (pg, mgo Y MG.b) :: (bodyL a { A with r := r } (takeS X S sd ep tk num tt now) ++ (tailM om S ++ (tailG a o ++ mbL MG SG)))) H14 := hs3.perm ((pmL _ _ _ _ _ _ _ _ _ _).cons _)
          clear hs2 hs3
          have hs5 : Hs B2 (((pm, mlo X (bM om)) :: tailM om S) ++ ((D, .lst (takeL X S sd ep tk num tt)) :: (st, sto c m0) :: (c, clo cells) :: (l, lineO a dl (takeX X sd ep tk num) A.b) :: (g2, guestO a dg Y (bG o)) :: (pg, mgo Y MG.b) :: (bodyL a { A with r := r } (takeS X S sd ep tk num tt now) ++ (tailG a o ++ mbL MG SG)))) H14 := hs4.perm (List.perm_middle.trans ((pmM _ _ _ _ _ _ _ _ _ _).symm.cons _))
          clear hs4
          walk_at "ss"
          refine w_lltake hs5 hz I.to pn (I.b1.ok (by omega)) I.b1.kv ptt (Nat.le_trans I.b1.kl (by omega)) I.nn fun D2 om' H15 hom hs6 => ?_
          clear hs5
          have hs7 : Hs B2 ((D2, .lst (takeL X S sd ep tk num tt)) :: (D, .lst (takeL X S sd ep tk num tt)) :: lawL a ⟨st, c, l, dl, g2, dg, pm, pg⟩ m0 cells (takeX X sd ep tk num) { A with r := r } (takeS X S sd ep tk num tt now) om' Y o MG SG) H15 := hs6.perm ((((pmM _ _ _ _ _ _ _ _ _ _).cons _).trans List.perm_middle.symm).cons _)
          clear hs6
          obtain ⟨ts, e1, e2⟩ := takeL_str (X := X) (sd := sd) (ep := ep) (m := num) (kind := tk) I.b1 ptt
          rw [e1] at hs7
          walk_at "ss"
          refine w_neL (hs7.get (i := 1) rfl) hs7.g0 (ima_str ts) (ima_str ts) (str_ok e2) ?_
          refine ⟨false, rfl, iteF ?_⟩
          walk_at "ss"
          refine ⟨now, _, _, m0, cells, takeX X sd ep tk num, _, takeS X S sd ep tk num tt now, om', Y, o, MG, SG, rfl, hs7.tl.tl.base zb, ?_, hbo⟩
          refine ⟨I.g, I.b1.take ptt, I.b2.mono (Nat.le_succ i), ?_, ?_, take_nt I.nt, ?_, I.own, I.oo, ?_, ?_, I.ye, I.yb, I.qu⟩
          · rcases takeX_cases (X := X) (sd := sd) (ep := ep) (m := num) (kind := tk) with e | ⟨e0, e⟩ | ⟨e0, e⟩ <;> rw [e]
            · exact I.st
            · exact I.st
            · exact .inr (.inr (.inr rfl))
          · intro e9
            have hn := I.nn (hom e9)
            rcases takeX_cases (X := X) (sd := sd) (ep := ep) (m := num) (kind := tk) with e | ⟨e0, e⟩ | ⟨e0, e⟩
            · rw [e]
              exact hn
            · exact absurd (hn.symm.trans e0) (by decide +kernel)
            · exact absurd (hn.symm.trans e0) (by decide +kernel)
          · rcases takeX_cases (X := X) (sd := sd) (ep := ep) (m := num) (kind := tk) with e | ⟨e0, e⟩ | ⟨e0, e⟩ <;> rw [e] <;> exact I.to
          · rcases takeX_cases (X := X) (sd := sd) (ep := ep) (m := num) (kind := tk) with e | ⟨e0, e⟩ | ⟨e0, e⟩ <;> rw [e] <;> exact I.xe
          · rcases takeX_cases (X := X) (sd := sd) (ep := ep) (m := num) (kind := tk) with e | ⟨e0, e⟩ | ⟨e0, e⟩ <;> rw [e]
            · exact I.xb
            · exact pn
            · exact I.xb
        · walk_at "ss"
          have hs2 : Hs B2 (guestL a g2 dg Y o ++ ((st, sto c m0) :: (c, clo cells) :: (l, lineO a dl X A.b) :: (pm, mlo X (bM om)) :: (pg, mgo Y MG.b) :: (bodyL a A S ++ (tailM om S ++ mbL MG SG)))) H13 := by
            rw [guestL_eq]
            exact hs.perm (pmG _ _ _ _ _ _ _ _ _ _).symm
          clear hs
          refine w_gtake hs2 hz (o_facts I.oo I.b2 (by omega)).1 fun p D1 D2 acc o' H14 e hs3 hi => ?_
          clear hs2
          rw [I.oo] at e hs3
          rw [I.own] at hi
          rw [guestL_eq] at hs3
          have hs3' : Hs B2 ((p, .tup [.ref D1, .ref D2]) :: (D1, .lst (gtakeL Y ep num tk tt (osG Y SG))) :: (D2, .lst acc) :: (g2, guestO a dg (gtakeG Y ep num tk (osG Y SG)) (bG o')) :: (tailG a o' ++ ((st, sto c m0) :: (c, clo cells) :: (l, lineO a dl X A.b) :: (pm, mlo X (bM om)) :: (pg, mgo Y MG.b) :: (bodyL a A S ++ (tailM om S ++ mbL MG SG))))) H14 := hs3
          clear hs3
          obtain ⟨pb, hs4⟩ := hs3'.freeze
          have hp : upd B2 p (.tup [.ref D1, .ref D2]) p = some (.tup [.ref D1, .ref D2]) := upd_same
          generalize upd B2 p (.tup [.ref D1, .ref D2]) = B3 at pb hs4 hp
          clear hs3'
          have hi2 := im_around (hs_nt hs4 (by simp only [List.all_cons, List.all_append, tailM_nt, tailG_nt]; rfl)) hi
          obtain ⟨qb, hs5⟩ := hs4.rebase
          generalize around _ H14 = B4 at qb hs5 hi2
          clear hs4 hi
          have hs6 : Hs B4 ((D1, .lst (gtakeL Y ep num tk tt (osG Y SG))) :: (D2, .lst acc) :: (st, sto c m0) :: (c, clo cells) :: (l, lineO a dl X A.b) :: (pm, mlo X (bM om)) :: (g2, guestO a dg (gtakeG Y ep num tk (osG Y SG)) (bG o')) :: (pg, mgo Y MG.b) :: (bodyL a A S ++ (tailM om S ++ (tailG a o' ++ mbL MG SG)))) H14 := hs5.perm (((pmG _ _ _ _ _ _ _ _ _ _).cons _).cons _)
          clear hs5
          have hs7 : Hs B4 (mgL pg Y MG SG ++ ((D1, .lst (gtakeL Y ep num tk tt (osG Y SG))) :: (D2, .lst acc) :: (st, sto c m0) :: (c, clo cells) :: (l, lineO a dl X A.b) :: (pm, mlo X (bM om)) :: (g2, guestO a dg (gtakeG Y ep num tk (osG Y SG)) (bG o')) :: (bodyL a A S ++ (tailM om S ++ tailG a o')))) H14 := hs6.perm (List.perm_middle.trans (.cons _ (List.perm_middle.trans (.cons _ (pmN _ _ _ _ _ _ _ _ _ (mbL MG SG)).symm))))
          clear hs6
          walk_at "ss"
          refine w_lgtake hs7 (qb _ _ (pb _ _ hz)) (I.b2.ok (by omega)) I.b2.kv ptt (Nat.le_trans I.b2.kl (by omega)) fun p' E1 E2 acc' MG' H15 hs8 hi' => ?_
          clear hs7
          have hs9 : Hs B4 ((p', .tup [.ref E1, .ref E2]) :: (E1, .lst (gtakeL Y ep num tk tt (osG Y SG))) :: (E2, .lst acc') :: (D1, .lst (gtakeL Y ep num tk tt (osG Y SG))) :: (D2, .lst acc) :: lawL a ⟨st, c, l, dl, g2, dg, pm, pg⟩ m0 cells X A S om (gtakeG Y ep num tk (osG Y SG)) o' MG' (gS1 Y ep num now tk tt SG)) H15 :=
            hs8.perm (((((((pmN _ _ _ _ _ _ _ _ _ (mbL MG' (gS1 Y ep num now tk tt SG))).cons _).cons _).trans (List.perm_middle.symm.cons _)).trans List.perm_middle.symm).cons _ |>.cons _ |>.cons _))
          clear hs8
          obtain ⟨ts, e1, e2⟩ := gtakeL_str (Y := Y) (ep := ep) (m := num) (kind := tk) I.b2 ptt
          rw [e1] at hs9
          walk_at "ss"
          refine w_nePair (hs9.same _ _ (qb _ _ hp)) hs9.g0 (hs9.get (i := 3) rfl) (hs9.get (i := 4) rfl) (hs9.get (i := 1) rfl) (hs9.get (i := 2) rfl) (hi2.same hs9.same) hi' e2 (seg_ok gtakeT_ok) ?_
          refine ⟨false, rfl, iteF ?_⟩
          walk_at "ss"
          have hgc : gtakeG Y ep num tk (osG Y SG) = Y ∨ (Y.ep < ep ∧ gtakeG Y ep num tk (osG Y SG) = { Y with ep := ep, quiet := true }) ∨ (Y.ep ≠ 0 ∧ gtakeG Y ep num tk (osG Y SG) = { Y with quiet := false }) := by
            unfold gtakeG
            by_cases q1 : tk = "hail"
            · rw [if_pos q1]
              unfold ansG
              by_cases q2 : num ≠ Y.bo
              · exact .inl (if_pos q2)
              · rw [if_neg q2]
                by_cases q3 : Y.ep < ep
                · exact .inr (.inl ⟨q3, if_pos q3⟩)
                · exact .inl (if_neg q3)
            · rw [if_neg q1]
              by_cases q2 : mineG Y ep tk (osG Y SG)
              · refine .inr (.inr ⟨fun q4 => ?_, if_pos q2⟩)
                have q3 := q2.2.1
                have q5 : osG Y SG = none := if_pos q4
                rw [q5] at q3
                cases q3
              · exact .inl (if_neg q2)
          refine ⟨now, _, _, m0, cells, X, A, S, om, _, o', MG', _, rfl, (((hs9.tl.tl.tl.tl.tl.base qb).base pb).base zb), ⟨g, I.b1.mono (Nat.le_succ i), I.b2.g1 ptt, I.st, I.nn, I.nt, I.to, ?_, e.trans (gtake_map I.ye), I.xe, I.xb, ?_, ?_, ?_⟩, ?_⟩
          · rcases hgc with q | ⟨q0, q⟩ | ⟨q0, q⟩ <;> rw [q] <;> exact I.own
          · rcases hgc with q | ⟨q0, q⟩ | ⟨q0, q⟩ <;> rw [q]
            · exact I.ye
            · exact pe
            · exact I.ye
          · rcases hgc with q | ⟨q0, q⟩ | ⟨q0, q⟩ <;> rw [q] <;> exact I.yb
          · rcases hgc with q | ⟨q0, q⟩ | ⟨q0, q⟩ <;> rw [q]
            · exact I.qu
            · exact fun z => nomatch z
            · exact fun _ => q0
          · rcases hgc with q | ⟨q0, q⟩ | ⟨q0, q⟩ <;> rw [q] <;> exact hbo
      · rintro σ' H' ⟨now, v11, v12, m0, cells, X, A, S, om, Y, o, MG, SG, rfl, hs2, I2, hbo2⟩
        clear hs
        have hst : PyData.strOk X.st = true := by
          rcases I2.st with e | e | e | e <;> rw [e] <;> decide +kernel
        walk_at "ss"
        rename_i t1 Ha ha t2 Hb hb
        refine w_neT (hb.get (i := 1) rfl) hb.g0 (ds := [.int X.ep, .int X.bo, .str X.st]) (.cons (.int _) (.cons (.int _) (.cons (.str _) .nil))) (.cons (.int _) (.cons (.int _) (.cons (.str _) .nil))) ?_ ?_
        · intro d hd
          rcases List.mem_cons.mp hd with rfl | hd
          · exact ⟨by simp [PyData.canLay0], by simp [PyData.depth]⟩
          rcases List.mem_cons.mp hd with rfl | hd
          · exact ⟨by simp [PyData.canLay0], by simp [PyData.depth]⟩
          rw [List.mem_singleton.mp hd]
          exact ⟨by simpa only [PyData.canLay0] using hst, by simp [PyData.depth]⟩
        refine ⟨false, rfl, iteF ?_⟩
        walk_at "ss"
        refine ifn (fun z => absurd rfl z) (fun _ => ?_)
        walk_at "ss"
        exact ⟨now, _, _, _, _, _, m0, cells, X, A, S, om, Y, o, MG, SG, rfl, hb.tl.tl, I2, hbo2⟩
    · clear hs g
      rintro σ H11 ⟨now, v8, v9, v10, v11, v12, m0, cells, X, A, S, om, Y, o, MG, SG, rfl, hs, I, hbo⟩
      walk_at "ss"
      rw [hbo, decide_eq_true (rfl : 1 + d3 = 1 + d3)]
      exact k _
end
theorem all_mk {l : PySem.W.OpenLaw} {w : World} {K : PySem.W.Frag} {h : Heap} {mg : Str → Option Value} {fa : Addr} (hl : l.prog = PySem.Challenge.pw_hangbridge_k07_sessions_step_by_step) (X : K.In h) (G : h.Ns mainGlobals mg) (hfa : mg "law" = some (.ref fa))
    {A_BridgeError A_RoomError A_StateError A_Sender A_Inbox A_Beat A_Body A_Line A_Guest A_RoomError_init cc_RoomError_init ca_RoomError_init A_StateError_init cc_StateError_init ca_StateError_init A_Sender_init A_Sender_put A_Sender_numbered A_Sender_fresh A_Sender_again A_Sender_heard A_Inbox_init A_Inbox_take A_Beat_init A_Beat_start A_Beat_stop A_Beat_hurry A_Beat_runs A_Beat_due A_segments_of A_Body_init A_Body_says A_Body_hears_ack A_Body_hears A_Line_init A_Line_begin A_Line_send A_Line_says A_Line_tick A_Line_hears_answer A_Line_take A_Guest_init A_Guest_send A_Guest_tick A_Guest_answers A_Guest_take A__law_state A__law_draw A__law_pick A__law_body A__law_start A__law_due A__law_say A__law_hear A__law_line_tick A__law_line_take A__law_guest_take A__law_begun A__law_sent A__law_segment A_law : Addr} {od_RoomError_init an_RoomError_init cod_RoomError_init cod2_RoomError_init od_StateError_init an_StateError_init cod_StateError_init cod2_StateError_init od_Sender_init an_Sender_init od_Sender_put an_Sender_put od_Sender_numbered an_Sender_numbered od_Sender_fresh an_Sender_fresh od_Sender_again an_Sender_again od_Sender_heard an_Sender_heard od_Inbox_init an_Inbox_init od_Inbox_take an_Inbox_take od_Beat_init an_Beat_init od_Beat_start an_Beat_start od_Beat_stop an_Beat_stop od_Beat_hurry an_Beat_hurry od_Beat_runs an_Beat_runs od_Beat_due an_Beat_due od_segments_of an_segments_of od_Body_init an_Body_init od_Body_says an_Body_says od_Body_hears_ack an_Body_hears_ack od_Body_hears an_Body_hears od_Line_init an_Line_init od_Line_begin an_Line_begin od_Line_send an_Line_send od_Line_says an_Line_says od_Line_tick an_Line_tick od_Line_hears_answer an_Line_hears_answer od_Line_take an_Line_take od_Guest_init an_Guest_init od_Guest_send an_Guest_send od_Guest_tick an_Guest_tick od_Guest_answers an_Guest_answers od_Guest_take an_Guest_take od__law_state an__law_state od__law_draw an__law_draw od__law_pick an__law_pick od__law_body an__law_body od__law_start an__law_start od__law_due an__law_due od__law_say an__law_say od__law_hear an__law_hear od__law_line_tick an__law_line_tick od__law_line_take an__law_line_take od__law_guest_take an__law_guest_take od__law_begun an__law_begun od__law_sent an__law_sent od__law_segment an__law_segment od_law an_law : Option Addr} {sl_RoomError_init csl_RoomError_init csl2_RoomError_init sl_StateError_init csl_StateError_init csl2_StateError_init sl_Sender_init sl_Sender_put sl_Sender_numbered sl_Sender_fresh sl_Sender_again sl_Sender_heard sl_Inbox_init sl_Inbox_take sl_Beat_init sl_Beat_start sl_Beat_stop sl_Beat_hurry sl_Beat_runs sl_Beat_due sl_segments_of sl_Body_init sl_Body_says sl_Body_hears_ack sl_Body_hears sl_Line_init sl_Line_begin sl_Line_send sl_Line_says sl_Line_tick sl_Line_hears_answer sl_Line_take sl_Guest_init sl_Guest_send sl_Guest_tick sl_Guest_answers sl_Guest_take sl__law_state sl__law_draw sl__law_pick sl__law_body sl__law_start sl__law_due sl__law_say sl__law_hear sl__law_line_tick sl__law_line_take sl__law_guest_take sl__law_begun sl__law_sent sl__law_segment sl_law : Array (Option Value)} {oc_RoomError_init kV_RoomError_init dc_RoomError_init pm_RoomError_init ct_RoomError_init cl_RoomError_init cl2_RoomError_init oc_StateError_init kV_StateError_init dc_StateError_init pm_StateError_init ct_StateError_init cl_StateError_init cl2_StateError_init oc_Sender_init kV_Sender_init dc_Sender_init pm_Sender_init cd_Sender_init ct_Sender_init oc_Sender_put kV_Sender_put dc_Sender_put pm_Sender_put cd_Sender_put ct_Sender_put oc_Sender_numbered kV_Sender_numbered dc_Sender_numbered pm_Sender_numbered cd_Sender_numbered ct_Sender_numbered oc_Sender_fresh kV_Sender_fresh dc_Sender_fresh pm_Sender_fresh cd_Sender_fresh ct_Sender_fresh oc_Sender_again kV_Sender_again dc_Sender_again pm_Sender_again cd_Sender_again ct_Sender_again oc_Sender_heard kV_Sender_heard dc_Sender_heard pm_Sender_heard cd_Sender_heard ct_Sender_heard oc_Inbox_init kV_Inbox_init dc_Inbox_init pm_Inbox_init cd_Inbox_init ct_Inbox_init oc_Inbox_take kV_Inbox_take dc_Inbox_take pm_Inbox_take cd_Inbox_take ct_Inbox_take oc_Beat_init kV_Beat_init dc_Beat_init pm_Beat_init cd_Beat_init ct_Beat_init oc_Beat_start kV_Beat_start dc_Beat_start pm_Beat_start cd_Beat_start ct_Beat_start oc_Beat_stop kV_Beat_stop dc_Beat_stop pm_Beat_stop cd_Beat_stop ct_Beat_stop oc_Beat_hurry kV_Beat_hurry dc_Beat_hurry pm_Beat_hurry cd_Beat_hurry ct_Beat_hurry oc_Beat_runs kV_Beat_runs dc_Beat_runs pm_Beat_runs cd_Beat_runs ct_Beat_runs oc_Beat_due kV_Beat_due dc_Beat_due pm_Beat_due cd_Beat_due ct_Beat_due oc_segments_of kV_segments_of dc_segments_of pm_segments_of cd_segments_of ct_segments_of oc_Body_init kV_Body_init dc_Body_init pm_Body_init cd_Body_init ct_Body_init oc_Body_says kV_Body_says dc_Body_says pm_Body_says cd_Body_says ct_Body_says oc_Body_hears_ack kV_Body_hears_ack dc_Body_hears_ack pm_Body_hears_ack cd_Body_hears_ack ct_Body_hears_ack oc_Body_hears kV_Body_hears dc_Body_hears pm_Body_hears cd_Body_hears ct_Body_hears oc_Line_init kV_Line_init dc_Line_init pm_Line_init cd_Line_init ct_Line_init oc_Line_begin kV_Line_begin dc_Line_begin pm_Line_begin cd_Line_begin ct_Line_begin oc_Line_send kV_Line_send dc_Line_send pm_Line_send cd_Line_send ct_Line_send oc_Line_says kV_Line_says dc_Line_says pm_Line_says cd_Line_says ct_Line_says oc_Line_tick kV_Line_tick dc_Line_tick pm_Line_tick cd_Line_tick ct_Line_tick oc_Line_hears_answer kV_Line_hears_answer dc_Line_hears_answer pm_Line_hears_answer cd_Line_hears_answer ct_Line_hears_answer oc_Line_take kV_Line_take dc_Line_take pm_Line_take cd_Line_take ct_Line_take oc_Guest_init kV_Guest_init dc_Guest_init pm_Guest_init cd_Guest_init ct_Guest_init oc_Guest_send kV_Guest_send dc_Guest_send pm_Guest_send cd_Guest_send ct_Guest_send oc_Guest_tick kV_Guest_tick dc_Guest_tick pm_Guest_tick cd_Guest_tick ct_Guest_tick oc_Guest_answers kV_Guest_answers dc_Guest_answers pm_Guest_answers cd_Guest_answers ct_Guest_answers oc_Guest_take kV_Guest_take dc_Guest_take pm_Guest_take cd_Guest_take ct_Guest_take oc__law_state kV__law_state dc__law_state pm__law_state cd__law_state ct__law_state oc__law_draw kV__law_draw dc__law_draw pm__law_draw cd__law_draw ct__law_draw oc__law_pick kV__law_pick dc__law_pick pm__law_pick cd__law_pick ct__law_pick oc__law_body kV__law_body dc__law_body pm__law_body cd__law_body ct__law_body oc__law_start kV__law_start dc__law_start pm__law_start cd__law_start ct__law_start oc__law_due kV__law_due dc__law_due pm__law_due cd__law_due ct__law_due oc__law_say kV__law_say dc__law_say pm__law_say cd__law_say ct__law_say oc__law_hear kV__law_hear dc__law_hear pm__law_hear cd__law_hear ct__law_hear oc__law_line_tick kV__law_line_tick dc__law_line_tick pm__law_line_tick cd__law_line_tick ct__law_line_tick oc__law_line_take kV__law_line_take dc__law_line_take pm__law_line_take cd__law_line_take ct__law_line_take oc__law_guest_take kV__law_guest_take dc__law_guest_take pm__law_guest_take cd__law_guest_take ct__law_guest_take oc__law_begun kV__law_begun dc__law_begun pm__law_begun cd__law_begun ct__law_begun oc__law_sent kV__law_sent dc__law_sent pm__law_sent cd__law_sent ct__law_sent oc__law_segment kV__law_segment dc__law_segment pm__law_segment cd__law_segment ct__law_segment oc_law kV_law dc_law pm_law cd_law ct_law : Value} {tk_MOST_MESSAGES tk_WINDOW tk_FIRST_WAIT tk_LONGEST_WAIT tk_CONTROLLER tk_HOPS tk_MOST_TRIES : Tok} {nm_RoomError q_RoomError : Str} {N_RoomError : Addr} {bs_RoomError : List Value} {sn_RoomError : List Str} {sub_RoomError : List Value} {ab_RoomError : Bool} {col_RoomError : Option Bool} {dd_RoomError : Option Addr} {k0_RoomError k1_RoomError k2_RoomError k3_RoomError k5_RoomError : Option Value} {nm_StateError q_StateError : Str} {N_StateError : Addr} {bs_StateError : List Value} {sn_StateError : List Str} {sub_StateError : List Value} {ab_StateError : Bool} {col_StateError : Option Bool} {dd_StateError : Option Addr} {k0_StateError k1_StateError k2_StateError k3_StateError k5_StateError : Option Value} {vs_RoomError_init : Array Value} {fi_RoomError_init : Str} {tf_RoomError_init : Tok} {cz_RoomError_init : ClassData} {vs_StateError_init : Array Value} {fi_StateError_init : Str} {tf_StateError_init : Tok} {cz_StateError_init : ClassData}
        (h_cBridgeError : PySem.W.nsIn K mainGlobals "BridgeError" = some (some (.ref A_BridgeError)))
    (h_rdBridgeError : PySem.W.readsIn K A_BridgeError (.type "type") = true)
    (h_gaBridgeError : PySem.W.specialIn K (.ref A_BridgeError) "__getattribute__" = some (some (.builtin "type.__getattribute__")))
    (h_cvBridgeError : PySem.W.findCls K (.ref A_BridgeError) (.type "type") "__init__" = some (.val (.builtin "ValueError.__init__")))
    (h_cRoomError : PySem.W.nsIn K mainGlobals "RoomError" = some (some (.ref A_RoomError)))
    (h_lkRoomError : K.lookup A_RoomError = some (excClassObj nm_RoomError q_RoomError A_RoomError N_RoomError bs_RoomError [.ref A_BridgeError, .type "ValueError", .type "Exception", .type "BaseException", .type "object"] true sn_RoomError sub_RoomError ab_RoomError col_RoomError dd_RoomError k0_RoomError k1_RoomError k2_RoomError k3_RoomError k5_RoomError "ValueError.__new__"))
    (h_saRoomError : PySem.W.findIn K (.ref A_RoomError) "__setattr__" = some (some (.builtin "object.__setattr__")))
    (h_exRoomError : PySem.W.subIn K (.ref A_RoomError) (.type "BaseException") = some true)
    (h_tyRoomError : PySem.W.typeIn K (.ref A_RoomError) = some (.type "type"))
    (h_kcRoomError : PySem.W.keepIn K (.ref A_RoomError) = true)
    (h_noRoomError : PySem.W.findIn K (.ref A_RoomError) "place" = some none)
    (h_gaRoomError : PySem.W.findIn K (.ref A_RoomError) "__getattribute__" = some (some (.builtin "BaseException.__getattribute__")))
    (h_ggRoomError : PySem.W.findIn K (.ref A_RoomError) "__getattr__" = some none)
    (h_hdRoomError : PySem.W.hasDictIn K A_RoomError = true)
    (h_icRoomError : PySem.W.isClsIn K A_RoomError = true)
    (h_scRoomError : PySem.W.subIn K (.ref A_RoomError) (.ref A_RoomError) = some true)
    (h_caRoomError : PySem.W.findIn K (.ref A_RoomError) "__class__" = some (some (.builtin "object.__class__")))
    (h_moRoomError : PySem.W.mroIn K A_RoomError (.type "object") = some true)
    (h_gdRoomError : PySem.W.specialIn K (.builtin "object.__class__") "__get__" = some (some (.builtin "getset_descriptor.__get__")))
    (h_tkRoomError : PySem.W.takesIn K (.builtin "object.__class__") = some true)
    (h_ibRoomErrorBridgeError : PySem.W.isClsIn K A_BridgeError = true)
    (h_itRoomErrorBridgeError : PySem.W.typeIn K (.ref A_BridgeError) = some (.type "type"))
    (h_isRoomErrorBridgeError : PySem.W.subIn K (.ref A_RoomError) (.ref A_BridgeError) = some true)
    (h_cStateError : PySem.W.nsIn K mainGlobals "StateError" = some (some (.ref A_StateError)))
    (h_lkStateError : K.lookup A_StateError = some (excClassObj nm_StateError q_StateError A_StateError N_StateError bs_StateError [.ref A_BridgeError, .type "ValueError", .type "Exception", .type "BaseException", .type "object"] true sn_StateError sub_StateError ab_StateError col_StateError dd_StateError k0_StateError k1_StateError k2_StateError k3_StateError k5_StateError "ValueError.__new__"))
    (h_saStateError : PySem.W.findIn K (.ref A_StateError) "__setattr__" = some (some (.builtin "object.__setattr__")))
    (h_exStateError : PySem.W.subIn K (.ref A_StateError) (.type "BaseException") = some true)
    (h_tyStateError : PySem.W.typeIn K (.ref A_StateError) = some (.type "type"))
    (h_kcStateError : PySem.W.keepIn K (.ref A_StateError) = true)
    (h_noStateError : PySem.W.findIn K (.ref A_StateError) "state" = some none)
    (h_gaStateError : PySem.W.findIn K (.ref A_StateError) "__getattribute__" = some (some (.builtin "BaseException.__getattribute__")))
    (h_ggStateError : PySem.W.findIn K (.ref A_StateError) "__getattr__" = some none)
    (h_hdStateError : PySem.W.hasDictIn K A_StateError = true)
    (h_icStateError : PySem.W.isClsIn K A_StateError = true)
    (h_scStateError : PySem.W.subIn K (.ref A_StateError) (.ref A_StateError) = some true)
    (h_caStateError : PySem.W.findIn K (.ref A_StateError) "__class__" = some (some (.builtin "object.__class__")))
    (h_moStateError : PySem.W.mroIn K A_StateError (.type "object") = some true)
    (h_gdStateError : PySem.W.specialIn K (.builtin "object.__class__") "__get__" = some (some (.builtin "getset_descriptor.__get__")))
    (h_tkStateError : PySem.W.takesIn K (.builtin "object.__class__") = some true)
    (h_ibStateErrorBridgeError : PySem.W.isClsIn K A_BridgeError = true)
    (h_itStateErrorBridgeError : PySem.W.typeIn K (.ref A_BridgeError) = some (.type "type"))
    (h_isStateErrorBridgeError : PySem.W.subIn K (.ref A_StateError) (.ref A_BridgeError) = some true)
    (h_cSender : PySem.W.nsIn K mainGlobals "Sender" = some (some (.ref A_Sender)))
    (h_pgSender : PySem.W.plainGet K A_Sender Str.empty = true)
    (h_hdSender : PySem.W.hasDictIn K A_Sender = true)
    (h_poSender : PySem.W.plainOver K A_Sender = true)
    (h_saSender : PySem.W.findIn K (.ref A_Sender) "__setattr__" = some (some (.builtin "object.__setattr__")))
    (h_mkSender : PySem.W.makesIn K A_Sender = true)
    (h_kcSender : PySem.W.keepIn K (.ref A_Sender) = true)
    (h_naSender_first : PySem.W.findIn K (.ref A_Sender) "first" = some none)
    (h_naSender_rows : PySem.W.findIn K (.ref A_Sender) "rows" = some none)
    (h_naSender_said : PySem.W.findIn K (.ref A_Sender) "said" = some none)
    (h_cInbox : PySem.W.nsIn K mainGlobals "Inbox" = some (some (.ref A_Inbox)))
    (h_pgInbox : PySem.W.plainGet K A_Inbox Str.empty = true)
    (h_hdInbox : PySem.W.hasDictIn K A_Inbox = true)
    (h_poInbox : PySem.W.plainOver K A_Inbox = true)
    (h_saInbox : PySem.W.findIn K (.ref A_Inbox) "__setattr__" = some (some (.builtin "object.__setattr__")))
    (h_mkInbox : PySem.W.makesIn K A_Inbox = true)
    (h_kcInbox : PySem.W.keepIn K (.ref A_Inbox) = true)
    (h_naInbox_next : PySem.W.findIn K (.ref A_Inbox) "next" = some none)
    (h_naInbox__early : PySem.W.findIn K (.ref A_Inbox) "_early" = some none)
    (h_cBeat : PySem.W.nsIn K mainGlobals "Beat" = some (some (.ref A_Beat)))
    (h_pgBeat : PySem.W.plainGet K A_Beat Str.empty = true)
    (h_hdBeat : PySem.W.hasDictIn K A_Beat = true)
    (h_poBeat : PySem.W.plainOver K A_Beat = true)
    (h_saBeat : PySem.W.findIn K (.ref A_Beat) "__setattr__" = some (some (.builtin "object.__setattr__")))
    (h_mkBeat : PySem.W.makesIn K A_Beat = true)
    (h_kcBeat : PySem.W.keepIn K (.ref A_Beat) = true)
    (h_naBeat_tries : PySem.W.findIn K (.ref A_Beat) "tries" = some none)
    (h_naBeat__wait : PySem.W.findIn K (.ref A_Beat) "_wait" = some none)
    (h_naBeat__due_at : PySem.W.findIn K (.ref A_Beat) "_due_at" = some none)
    (h_cBody : PySem.W.nsIn K mainGlobals "Body" = some (some (.ref A_Body)))
    (h_pgBody : PySem.W.plainGet K A_Body Str.empty = true)
    (h_hdBody : PySem.W.hasDictIn K A_Body = true)
    (h_poBody : PySem.W.plainOver K A_Body = true)
    (h_saBody : PySem.W.findIn K (.ref A_Body) "__setattr__" = some (some (.builtin "object.__setattr__")))
    (h_mkBody : PySem.W.makesIn K A_Body = true)
    (h_kcBody : PySem.W.keepIn K (.ref A_Body) = true)
    (h_naBody_sender : PySem.W.findIn K (.ref A_Body) "sender" = some none)
    (h_naBody_inbox : PySem.W.findIn K (.ref A_Body) "inbox" = some none)
    (h_naBody_beat : PySem.W.findIn K (.ref A_Body) "beat" = some none)
    (h_naBody_owes : PySem.W.findIn K (.ref A_Body) "owes" = some none)
    (h_cLine : PySem.W.nsIn K mainGlobals "Line" = some (some (.ref A_Line)))
    (h_pgLine : PySem.W.plainGet K A_Line Str.empty = true)
    (h_hdLine : PySem.W.hasDictIn K A_Line = true)
    (h_poLine : PySem.W.plainOver K A_Line = true)
    (h_saLine : PySem.W.findIn K (.ref A_Line) "__setattr__" = some (some (.builtin "object.__setattr__")))
    (h_mkLine : PySem.W.makesIn K A_Line = true)
    (h_kcLine : PySem.W.keepIn K (.ref A_Line) = true)
    (h_naLine_epoch : PySem.W.findIn K (.ref A_Line) "epoch" = some none)
    (h_naLine_boot : PySem.W.findIn K (.ref A_Line) "boot" = some none)
    (h_naLine_state : PySem.W.findIn K (.ref A_Line) "state" = some none)
    (h_naLine__to : PySem.W.findIn K (.ref A_Line) "_to" = some none)
    (h_naLine__body : PySem.W.findIn K (.ref A_Line) "_body" = some none)
    (h_cGuest : PySem.W.nsIn K mainGlobals "Guest" = some (some (.ref A_Guest)))
    (h_pgGuest : PySem.W.plainGet K A_Guest Str.empty = true)
    (h_hdGuest : PySem.W.hasDictIn K A_Guest = true)
    (h_poGuest : PySem.W.plainOver K A_Guest = true)
    (h_saGuest : PySem.W.findIn K (.ref A_Guest) "__setattr__" = some (some (.builtin "object.__setattr__")))
    (h_mkGuest : PySem.W.makesIn K A_Guest = true)
    (h_kcGuest : PySem.W.keepIn K (.ref A_Guest) = true)
    (h_naGuest_epoch : PySem.W.findIn K (.ref A_Guest) "epoch" = some none)
    (h_naGuest_boot : PySem.W.findIn K (.ref A_Guest) "boot" = some none)
    (h_naGuest__own : PySem.W.findIn K (.ref A_Guest) "_own" = some none)
    (h_naGuest__body : PySem.W.findIn K (.ref A_Guest) "_body" = some none)
    (h_naGuest__quiet : PySem.W.findIn K (.ref A_Guest) "_quiet" = some none)
    (h_aRoomError_init : PySem.W.findIn K (.ref A_RoomError) "__init__" = some (some (.ref A_RoomError_init)))
    (h_tiRoomError : PySem.W.typeIn K (.ref A_RoomError_init) = some (.type "function"))
    (h_lRoomError_init : K.lookup A_RoomError_init = some ⟨oc_RoomError_init, od_RoomError_init, .func (PySem.W.fnX "__init__" "RoomError.__init__" (defArgs s_RoomError_init) (defBody s_RoomError_init) (defScope s_RoomError_init) [("__class__", cc_RoomError_init)] .none kV_RoomError_init dc_RoomError_init pm_RoomError_init an_RoomError_init (.ref ca_RoomError_init) ct_RoomError_init), sl_RoomError_init⟩)
    (h_cdRoomError_init : PySem.W.codeIn K (.ref ca_RoomError_init) "RoomError.__init__" = true)
    (h_lcRoomError_init : K.lookup ca_RoomError_init = some ⟨cl_RoomError_init, cod_RoomError_init, .fields vs_RoomError_init, csl_RoomError_init⟩)
    (h_vsRoomError_init : vs_RoomError_init[2]? = some (.str fi_RoomError_init tf_RoomError_init))
    (h_fiRoomError_init : ((PySem.Challenge.pw_hangbridge_k07_sessions_step_by_step.main.file : Str) == fi_RoomError_init) = true)
    (h_ccRoomError_init : K.lookup cc_RoomError_init = some ⟨cl2_RoomError_init, cod2_RoomError_init, .cell (some (.ref A_RoomError)), csl2_RoomError_init⟩)
    (h_czRoomError_init : PySem.W.clsIn K A_RoomError = some cz_RoomError_init)
    (h_msRoomError_init : PySem.W.mroIn K A_RoomError (.ref A_RoomError) = some true)
    (h_suRoomError_init : PySem.W.nsIn K mainGlobals "super" = some none)
    (h_anRoomError_init : PySem.W.nsIn K cStatics "thirdparty.any" = some none)
    (h_spRoomError_init : PySem.W.ks_superIn K A_RoomError A_RoomError "__init__" = some (some (.builtin "ValueError.__init__")))
    (h_ivRoomError_init : PySem.W.subIn K (.ref A_RoomError) (.type "ValueError") = some true)
    (h_tpRoomError_init : (PySem.Challenge.pw_hangbridge_k07_sessions_step_by_step.main.scope.names.lookup ("super" : Str)).isSome = false)
    (h_aStateError_init : PySem.W.findIn K (.ref A_StateError) "__init__" = some (some (.ref A_StateError_init)))
    (h_tiStateError : PySem.W.typeIn K (.ref A_StateError_init) = some (.type "function"))
    (h_lStateError_init : K.lookup A_StateError_init = some ⟨oc_StateError_init, od_StateError_init, .func (PySem.W.fnX "__init__" "StateError.__init__" (defArgs s_StateError_init) (defBody s_StateError_init) (defScope s_StateError_init) [("__class__", cc_StateError_init)] .none kV_StateError_init dc_StateError_init pm_StateError_init an_StateError_init (.ref ca_StateError_init) ct_StateError_init), sl_StateError_init⟩)
    (h_cdStateError_init : PySem.W.codeIn K (.ref ca_StateError_init) "StateError.__init__" = true)
    (h_lcStateError_init : K.lookup ca_StateError_init = some ⟨cl_StateError_init, cod_StateError_init, .fields vs_StateError_init, csl_StateError_init⟩)
    (h_vsStateError_init : vs_StateError_init[2]? = some (.str fi_StateError_init tf_StateError_init))
    (h_fiStateError_init : ((PySem.Challenge.pw_hangbridge_k07_sessions_step_by_step.main.file : Str) == fi_StateError_init) = true)
    (h_ccStateError_init : K.lookup cc_StateError_init = some ⟨cl2_StateError_init, cod2_StateError_init, .cell (some (.ref A_StateError)), csl2_StateError_init⟩)
    (h_czStateError_init : PySem.W.clsIn K A_StateError = some cz_StateError_init)
    (h_msStateError_init : PySem.W.mroIn K A_StateError (.ref A_StateError) = some true)
    (h_suStateError_init : PySem.W.nsIn K mainGlobals "super" = some none)
    (h_anStateError_init : PySem.W.nsIn K cStatics "thirdparty.any" = some none)
    (h_spStateError_init : PySem.W.ks_superIn K A_StateError A_StateError "__init__" = some (some (.builtin "ValueError.__init__")))
    (h_ivStateError_init : PySem.W.subIn K (.ref A_StateError) (.type "ValueError") = some true)
    (h_tpStateError_init : (PySem.Challenge.pw_hangbridge_k07_sessions_step_by_step.main.scope.names.lookup ("super" : Str)).isSome = false)
    (h_aSender_init : PySem.W.findIn K (.ref A_Sender) "__init__" = some (some (.ref A_Sender_init)))
    (h_iSender_init : PySem.W.isFn K (.ref A_Sender_init) = true)
    (h_lSender_init : K.lookup A_Sender_init = some ⟨oc_Sender_init, od_Sender_init, .func (PySem.W.fnOf "__init__" "Sender.__init__" (defArgs s_Sender_init) (defBody s_Sender_init) (defScope s_Sender_init) .none kV_Sender_init dc_Sender_init pm_Sender_init an_Sender_init cd_Sender_init ct_Sender_init), sl_Sender_init⟩)
    (h_cdSender_init : PySem.W.codeIn K cd_Sender_init "Sender.__init__" = true)
    (h_kSender_init : PySem.W.keepIn K (.ref A_Sender_init) = true)
    (h_aSender_put : PySem.W.findIn K (.ref A_Sender) "put" = some (some (.ref A_Sender_put)))
    (h_iSender_put : PySem.W.isFn K (.ref A_Sender_put) = true)
    (h_lSender_put : K.lookup A_Sender_put = some ⟨oc_Sender_put, od_Sender_put, .func (PySem.W.fnOf "put" "Sender.put" (defArgs s_Sender_put) (defBody s_Sender_put) (defScope s_Sender_put) .none kV_Sender_put dc_Sender_put pm_Sender_put an_Sender_put cd_Sender_put ct_Sender_put), sl_Sender_put⟩)
    (h_cdSender_put : PySem.W.codeIn K cd_Sender_put "Sender.put" = true)
    (h_kSender_put : PySem.W.keepIn K (.ref A_Sender_put) = true)
    (h_aSender_numbered : PySem.W.findIn K (.ref A_Sender) "_numbered" = some (some (.ref A_Sender_numbered)))
    (h_iSender_numbered : PySem.W.isFn K (.ref A_Sender_numbered) = true)
    (h_lSender_numbered : K.lookup A_Sender_numbered = some ⟨oc_Sender_numbered, od_Sender_numbered, .func (PySem.W.fnOf "_numbered" "Sender._numbered" (defArgs s_Sender_numbered) (defBody s_Sender_numbered) (defScope s_Sender_numbered) .none kV_Sender_numbered dc_Sender_numbered pm_Sender_numbered an_Sender_numbered cd_Sender_numbered ct_Sender_numbered), sl_Sender_numbered⟩)
    (h_cdSender_numbered : PySem.W.codeIn K cd_Sender_numbered "Sender._numbered" = true)
    (h_kSender_numbered : PySem.W.keepIn K (.ref A_Sender_numbered) = true)
    (h_aSender_fresh : PySem.W.findIn K (.ref A_Sender) "fresh" = some (some (.ref A_Sender_fresh)))
    (h_iSender_fresh : PySem.W.isFn K (.ref A_Sender_fresh) = true)
    (h_lSender_fresh : K.lookup A_Sender_fresh = some ⟨oc_Sender_fresh, od_Sender_fresh, .func (PySem.W.fnOf "fresh" "Sender.fresh" (defArgs s_Sender_fresh) (defBody s_Sender_fresh) (defScope s_Sender_fresh) .none kV_Sender_fresh dc_Sender_fresh pm_Sender_fresh an_Sender_fresh cd_Sender_fresh ct_Sender_fresh), sl_Sender_fresh⟩)
    (h_cdSender_fresh : PySem.W.codeIn K cd_Sender_fresh "Sender.fresh" = true)
    (h_kSender_fresh : PySem.W.keepIn K (.ref A_Sender_fresh) = true)
    (h_aSender_again : PySem.W.findIn K (.ref A_Sender) "again" = some (some (.ref A_Sender_again)))
    (h_iSender_again : PySem.W.isFn K (.ref A_Sender_again) = true)
    (h_lSender_again : K.lookup A_Sender_again = some ⟨oc_Sender_again, od_Sender_again, .func (PySem.W.fnOf "again" "Sender.again" (defArgs s_Sender_again) (defBody s_Sender_again) (defScope s_Sender_again) .none kV_Sender_again dc_Sender_again pm_Sender_again an_Sender_again cd_Sender_again ct_Sender_again), sl_Sender_again⟩)
    (h_cdSender_again : PySem.W.codeIn K cd_Sender_again "Sender.again" = true)
    (h_kSender_again : PySem.W.keepIn K (.ref A_Sender_again) = true)
    (h_aSender_heard : PySem.W.findIn K (.ref A_Sender) "heard" = some (some (.ref A_Sender_heard)))
    (h_iSender_heard : PySem.W.isFn K (.ref A_Sender_heard) = true)
    (h_lSender_heard : K.lookup A_Sender_heard = some ⟨oc_Sender_heard, od_Sender_heard, .func (PySem.W.fnOf "heard" "Sender.heard" (defArgs s_Sender_heard) (defBody s_Sender_heard) (defScope s_Sender_heard) .none kV_Sender_heard dc_Sender_heard pm_Sender_heard an_Sender_heard cd_Sender_heard ct_Sender_heard), sl_Sender_heard⟩)
    (h_cdSender_heard : PySem.W.codeIn K cd_Sender_heard "Sender.heard" = true)
    (h_kSender_heard : PySem.W.keepIn K (.ref A_Sender_heard) = true)
    (h_aInbox_init : PySem.W.findIn K (.ref A_Inbox) "__init__" = some (some (.ref A_Inbox_init)))
    (h_iInbox_init : PySem.W.isFn K (.ref A_Inbox_init) = true)
    (h_lInbox_init : K.lookup A_Inbox_init = some ⟨oc_Inbox_init, od_Inbox_init, .func (PySem.W.fnOf "__init__" "Inbox.__init__" (defArgs s_Inbox_init) (defBody s_Inbox_init) (defScope s_Inbox_init) .none kV_Inbox_init dc_Inbox_init pm_Inbox_init an_Inbox_init cd_Inbox_init ct_Inbox_init), sl_Inbox_init⟩)
    (h_cdInbox_init : PySem.W.codeIn K cd_Inbox_init "Inbox.__init__" = true)
    (h_kInbox_init : PySem.W.keepIn K (.ref A_Inbox_init) = true)
    (h_aInbox_take : PySem.W.findIn K (.ref A_Inbox) "take" = some (some (.ref A_Inbox_take)))
    (h_iInbox_take : PySem.W.isFn K (.ref A_Inbox_take) = true)
    (h_lInbox_take : K.lookup A_Inbox_take = some ⟨oc_Inbox_take, od_Inbox_take, .func (PySem.W.fnOf "take" "Inbox.take" (defArgs s_Inbox_take) (defBody s_Inbox_take) (defScope s_Inbox_take) .none kV_Inbox_take dc_Inbox_take pm_Inbox_take an_Inbox_take cd_Inbox_take ct_Inbox_take), sl_Inbox_take⟩)
    (h_cdInbox_take : PySem.W.codeIn K cd_Inbox_take "Inbox.take" = true)
    (h_kInbox_take : PySem.W.keepIn K (.ref A_Inbox_take) = true)
    (h_aBeat_init : PySem.W.findIn K (.ref A_Beat) "__init__" = some (some (.ref A_Beat_init)))
    (h_iBeat_init : PySem.W.isFn K (.ref A_Beat_init) = true)
    (h_lBeat_init : K.lookup A_Beat_init = some ⟨oc_Beat_init, od_Beat_init, .func (PySem.W.fnOf "__init__" "Beat.__init__" (defArgs s_Beat_init) (defBody s_Beat_init) (defScope s_Beat_init) .none kV_Beat_init dc_Beat_init pm_Beat_init an_Beat_init cd_Beat_init ct_Beat_init), sl_Beat_init⟩)
    (h_cdBeat_init : PySem.W.codeIn K cd_Beat_init "Beat.__init__" = true)
    (h_kBeat_init : PySem.W.keepIn K (.ref A_Beat_init) = true)
    (h_aBeat_start : PySem.W.findIn K (.ref A_Beat) "start" = some (some (.ref A_Beat_start)))
    (h_iBeat_start : PySem.W.isFn K (.ref A_Beat_start) = true)
    (h_lBeat_start : K.lookup A_Beat_start = some ⟨oc_Beat_start, od_Beat_start, .func (PySem.W.fnOf "start" "Beat.start" (defArgs s_Beat_start) (defBody s_Beat_start) (defScope s_Beat_start) .none kV_Beat_start dc_Beat_start pm_Beat_start an_Beat_start cd_Beat_start ct_Beat_start), sl_Beat_start⟩)
    (h_cdBeat_start : PySem.W.codeIn K cd_Beat_start "Beat.start" = true)
    (h_kBeat_start : PySem.W.keepIn K (.ref A_Beat_start) = true)
    (h_aBeat_stop : PySem.W.findIn K (.ref A_Beat) "stop" = some (some (.ref A_Beat_stop)))
    (h_iBeat_stop : PySem.W.isFn K (.ref A_Beat_stop) = true)
    (h_lBeat_stop : K.lookup A_Beat_stop = some ⟨oc_Beat_stop, od_Beat_stop, .func (PySem.W.fnOf "stop" "Beat.stop" (defArgs s_Beat_stop) (defBody s_Beat_stop) (defScope s_Beat_stop) .none kV_Beat_stop dc_Beat_stop pm_Beat_stop an_Beat_stop cd_Beat_stop ct_Beat_stop), sl_Beat_stop⟩)
    (h_cdBeat_stop : PySem.W.codeIn K cd_Beat_stop "Beat.stop" = true)
    (h_kBeat_stop : PySem.W.keepIn K (.ref A_Beat_stop) = true)
    (h_aBeat_hurry : PySem.W.findIn K (.ref A_Beat) "hurry" = some (some (.ref A_Beat_hurry)))
    (h_iBeat_hurry : PySem.W.isFn K (.ref A_Beat_hurry) = true)
    (h_lBeat_hurry : K.lookup A_Beat_hurry = some ⟨oc_Beat_hurry, od_Beat_hurry, .func (PySem.W.fnOf "hurry" "Beat.hurry" (defArgs s_Beat_hurry) (defBody s_Beat_hurry) (defScope s_Beat_hurry) .none kV_Beat_hurry dc_Beat_hurry pm_Beat_hurry an_Beat_hurry cd_Beat_hurry ct_Beat_hurry), sl_Beat_hurry⟩)
    (h_cdBeat_hurry : PySem.W.codeIn K cd_Beat_hurry "Beat.hurry" = true)
    (h_kBeat_hurry : PySem.W.keepIn K (.ref A_Beat_hurry) = true)
    (h_aBeat_runs : PySem.W.findIn K (.ref A_Beat) "runs" = some (some (.ref A_Beat_runs)))
    (h_iBeat_runs : PySem.W.isFn K (.ref A_Beat_runs) = true)
    (h_lBeat_runs : K.lookup A_Beat_runs = some ⟨oc_Beat_runs, od_Beat_runs, .func (PySem.W.fnOf "runs" "Beat.runs" (defArgs s_Beat_runs) (defBody s_Beat_runs) (defScope s_Beat_runs) .none kV_Beat_runs dc_Beat_runs pm_Beat_runs an_Beat_runs cd_Beat_runs ct_Beat_runs), sl_Beat_runs⟩)
    (h_cdBeat_runs : PySem.W.codeIn K cd_Beat_runs "Beat.runs" = true)
    (h_kBeat_runs : PySem.W.keepIn K (.ref A_Beat_runs) = true)
    (h_aBeat_due : PySem.W.findIn K (.ref A_Beat) "due" = some (some (.ref A_Beat_due)))
    (h_iBeat_due : PySem.W.isFn K (.ref A_Beat_due) = true)
    (h_lBeat_due : K.lookup A_Beat_due = some ⟨oc_Beat_due, od_Beat_due, .func (PySem.W.fnOf "due" "Beat.due" (defArgs s_Beat_due) (defBody s_Beat_due) (defScope s_Beat_due) .none kV_Beat_due dc_Beat_due pm_Beat_due an_Beat_due cd_Beat_due ct_Beat_due), sl_Beat_due⟩)
    (h_cdBeat_due : PySem.W.codeIn K cd_Beat_due "Beat.due" = true)
    (h_kBeat_due : PySem.W.keepIn K (.ref A_Beat_due) = true)
    (h_asegments_of : PySem.W.nsIn K mainGlobals "segments_of" = some (some (.ref A_segments_of)))
    (h_lsegments_of : K.lookup A_segments_of = some ⟨oc_segments_of, od_segments_of, .func (PySem.W.fnOf "segments_of" "segments_of" (defArgs s_segments_of) (defBody s_segments_of) (defScope s_segments_of) .none kV_segments_of dc_segments_of pm_segments_of an_segments_of cd_segments_of ct_segments_of), sl_segments_of⟩)
    (h_cdsegments_of : PySem.W.codeIn K cd_segments_of "segments_of" = true)
    (h_ksegments_of : PySem.W.keepIn K (.ref A_segments_of) = true)
    (h_aBody_init : PySem.W.findIn K (.ref A_Body) "__init__" = some (some (.ref A_Body_init)))
    (h_iBody_init : PySem.W.isFn K (.ref A_Body_init) = true)
    (h_lBody_init : K.lookup A_Body_init = some ⟨oc_Body_init, od_Body_init, .func (PySem.W.fnOf "__init__" "Body.__init__" (defArgs s_Body_init) (defBody s_Body_init) (defScope s_Body_init) .none kV_Body_init dc_Body_init pm_Body_init an_Body_init cd_Body_init ct_Body_init), sl_Body_init⟩)
    (h_cdBody_init : PySem.W.codeIn K cd_Body_init "Body.__init__" = true)
    (h_kBody_init : PySem.W.keepIn K (.ref A_Body_init) = true)
    (h_aBody_says : PySem.W.findIn K (.ref A_Body) "says" = some (some (.ref A_Body_says)))
    (h_iBody_says : PySem.W.isFn K (.ref A_Body_says) = true)
    (h_lBody_says : K.lookup A_Body_says = some ⟨oc_Body_says, od_Body_says, .func (PySem.W.fnOf "says" "Body.says" (defArgs s_Body_says) (defBody s_Body_says) (defScope s_Body_says) .none kV_Body_says dc_Body_says pm_Body_says an_Body_says cd_Body_says ct_Body_says), sl_Body_says⟩)
    (h_cdBody_says : PySem.W.codeIn K cd_Body_says "Body.says" = true)
    (h_kBody_says : PySem.W.keepIn K (.ref A_Body_says) = true)
    (h_aBody_hears_ack : PySem.W.findIn K (.ref A_Body) "_hears_ack" = some (some (.ref A_Body_hears_ack)))
    (h_iBody_hears_ack : PySem.W.isFn K (.ref A_Body_hears_ack) = true)
    (h_lBody_hears_ack : K.lookup A_Body_hears_ack = some ⟨oc_Body_hears_ack, od_Body_hears_ack, .func (PySem.W.fnOf "_hears_ack" "Body._hears_ack" (defArgs s_Body_hears_ack) (defBody s_Body_hears_ack) (defScope s_Body_hears_ack) .none kV_Body_hears_ack dc_Body_hears_ack pm_Body_hears_ack an_Body_hears_ack cd_Body_hears_ack ct_Body_hears_ack), sl_Body_hears_ack⟩)
    (h_cdBody_hears_ack : PySem.W.codeIn K cd_Body_hears_ack "Body._hears_ack" = true)
    (h_kBody_hears_ack : PySem.W.keepIn K (.ref A_Body_hears_ack) = true)
    (h_aBody_hears : PySem.W.findIn K (.ref A_Body) "hears" = some (some (.ref A_Body_hears)))
    (h_iBody_hears : PySem.W.isFn K (.ref A_Body_hears) = true)
    (h_lBody_hears : K.lookup A_Body_hears = some ⟨oc_Body_hears, od_Body_hears, .func (PySem.W.fnOf "hears" "Body.hears" (defArgs s_Body_hears) (defBody s_Body_hears) (defScope s_Body_hears) .none kV_Body_hears dc_Body_hears pm_Body_hears an_Body_hears cd_Body_hears ct_Body_hears), sl_Body_hears⟩)
    (h_cdBody_hears : PySem.W.codeIn K cd_Body_hears "Body.hears" = true)
    (h_kBody_hears : PySem.W.keepIn K (.ref A_Body_hears) = true)
    (h_aLine_init : PySem.W.findIn K (.ref A_Line) "__init__" = some (some (.ref A_Line_init)))
    (h_iLine_init : PySem.W.isFn K (.ref A_Line_init) = true)
    (h_lLine_init : K.lookup A_Line_init = some ⟨oc_Line_init, od_Line_init, .func (PySem.W.fnOf "__init__" "Line.__init__" (defArgs s_Line_init) (defBody s_Line_init) (defScope s_Line_init) .none kV_Line_init dc_Line_init pm_Line_init an_Line_init cd_Line_init ct_Line_init), sl_Line_init⟩)
    (h_cdLine_init : PySem.W.codeIn K cd_Line_init "Line.__init__" = true)
    (h_kLine_init : PySem.W.keepIn K (.ref A_Line_init) = true)
    (h_aLine_begin : PySem.W.findIn K (.ref A_Line) "begin" = some (some (.ref A_Line_begin)))
    (h_iLine_begin : PySem.W.isFn K (.ref A_Line_begin) = true)
    (h_lLine_begin : K.lookup A_Line_begin = some ⟨oc_Line_begin, od_Line_begin, .func (PySem.W.fnOf "begin" "Line.begin" (defArgs s_Line_begin) (defBody s_Line_begin) (defScope s_Line_begin) .none kV_Line_begin dc_Line_begin pm_Line_begin an_Line_begin cd_Line_begin ct_Line_begin), sl_Line_begin⟩)
    (h_cdLine_begin : PySem.W.codeIn K cd_Line_begin "Line.begin" = true)
    (h_kLine_begin : PySem.W.keepIn K (.ref A_Line_begin) = true)
    (h_aLine_send : PySem.W.findIn K (.ref A_Line) "send" = some (some (.ref A_Line_send)))
    (h_iLine_send : PySem.W.isFn K (.ref A_Line_send) = true)
    (h_lLine_send : K.lookup A_Line_send = some ⟨oc_Line_send, od_Line_send, .func (PySem.W.fnOf "send" "Line.send" (defArgs s_Line_send) (defBody s_Line_send) (defScope s_Line_send) .none kV_Line_send dc_Line_send pm_Line_send an_Line_send cd_Line_send ct_Line_send), sl_Line_send⟩)
    (h_cdLine_send : PySem.W.codeIn K cd_Line_send "Line.send" = true)
    (h_kLine_send : PySem.W.keepIn K (.ref A_Line_send) = true)
    (h_aLine_says : PySem.W.findIn K (.ref A_Line) "_says" = some (some (.ref A_Line_says)))
    (h_iLine_says : PySem.W.isFn K (.ref A_Line_says) = true)
    (h_lLine_says : K.lookup A_Line_says = some ⟨oc_Line_says, od_Line_says, .func (PySem.W.fnOf "_says" "Line._says" (defArgs s_Line_says) (defBody s_Line_says) (defScope s_Line_says) .none kV_Line_says dc_Line_says pm_Line_says an_Line_says cd_Line_says ct_Line_says), sl_Line_says⟩)
    (h_cdLine_says : PySem.W.codeIn K cd_Line_says "Line._says" = true)
    (h_kLine_says : PySem.W.keepIn K (.ref A_Line_says) = true)
    (h_aLine_tick : PySem.W.findIn K (.ref A_Line) "tick" = some (some (.ref A_Line_tick)))
    (h_iLine_tick : PySem.W.isFn K (.ref A_Line_tick) = true)
    (h_lLine_tick : K.lookup A_Line_tick = some ⟨oc_Line_tick, od_Line_tick, .func (PySem.W.fnOf "tick" "Line.tick" (defArgs s_Line_tick) (defBody s_Line_tick) (defScope s_Line_tick) .none kV_Line_tick dc_Line_tick pm_Line_tick an_Line_tick cd_Line_tick ct_Line_tick), sl_Line_tick⟩)
    (h_cdLine_tick : PySem.W.codeIn K cd_Line_tick "Line.tick" = true)
    (h_kLine_tick : PySem.W.keepIn K (.ref A_Line_tick) = true)
    (h_aLine_hears_answer : PySem.W.findIn K (.ref A_Line) "_hears_answer" = some (some (.ref A_Line_hears_answer)))
    (h_iLine_hears_answer : PySem.W.isFn K (.ref A_Line_hears_answer) = true)
    (h_lLine_hears_answer : K.lookup A_Line_hears_answer = some ⟨oc_Line_hears_answer, od_Line_hears_answer, .func (PySem.W.fnOf "_hears_answer" "Line._hears_answer" (defArgs s_Line_hears_answer) (defBody s_Line_hears_answer) (defScope s_Line_hears_answer) .none kV_Line_hears_answer dc_Line_hears_answer pm_Line_hears_answer an_Line_hears_answer cd_Line_hears_answer ct_Line_hears_answer), sl_Line_hears_answer⟩)
    (h_cdLine_hears_answer : PySem.W.codeIn K cd_Line_hears_answer "Line._hears_answer" = true)
    (h_kLine_hears_answer : PySem.W.keepIn K (.ref A_Line_hears_answer) = true)
    (h_aLine_take : PySem.W.findIn K (.ref A_Line) "take" = some (some (.ref A_Line_take)))
    (h_iLine_take : PySem.W.isFn K (.ref A_Line_take) = true)
    (h_lLine_take : K.lookup A_Line_take = some ⟨oc_Line_take, od_Line_take, .func (PySem.W.fnOf "take" "Line.take" (defArgs s_Line_take) (defBody s_Line_take) (defScope s_Line_take) .none kV_Line_take dc_Line_take pm_Line_take an_Line_take cd_Line_take ct_Line_take), sl_Line_take⟩)
    (h_cdLine_take : PySem.W.codeIn K cd_Line_take "Line.take" = true)
    (h_kLine_take : PySem.W.keepIn K (.ref A_Line_take) = true)
    (h_aGuest_init : PySem.W.findIn K (.ref A_Guest) "__init__" = some (some (.ref A_Guest_init)))
    (h_iGuest_init : PySem.W.isFn K (.ref A_Guest_init) = true)
    (h_lGuest_init : K.lookup A_Guest_init = some ⟨oc_Guest_init, od_Guest_init, .func (PySem.W.fnOf "__init__" "Guest.__init__" (defArgs s_Guest_init) (defBody s_Guest_init) (defScope s_Guest_init) .none kV_Guest_init dc_Guest_init pm_Guest_init an_Guest_init cd_Guest_init ct_Guest_init), sl_Guest_init⟩)
    (h_cdGuest_init : PySem.W.codeIn K cd_Guest_init "Guest.__init__" = true)
    (h_kGuest_init : PySem.W.keepIn K (.ref A_Guest_init) = true)
    (h_aGuest_send : PySem.W.findIn K (.ref A_Guest) "send" = some (some (.ref A_Guest_send)))
    (h_iGuest_send : PySem.W.isFn K (.ref A_Guest_send) = true)
    (h_lGuest_send : K.lookup A_Guest_send = some ⟨oc_Guest_send, od_Guest_send, .func (PySem.W.fnOf "send" "Guest.send" (defArgs s_Guest_send) (defBody s_Guest_send) (defScope s_Guest_send) .none kV_Guest_send dc_Guest_send pm_Guest_send an_Guest_send cd_Guest_send ct_Guest_send), sl_Guest_send⟩)
    (h_cdGuest_send : PySem.W.codeIn K cd_Guest_send "Guest.send" = true)
    (h_kGuest_send : PySem.W.keepIn K (.ref A_Guest_send) = true)
    (h_aGuest_tick : PySem.W.findIn K (.ref A_Guest) "tick" = some (some (.ref A_Guest_tick)))
    (h_iGuest_tick : PySem.W.isFn K (.ref A_Guest_tick) = true)
    (h_lGuest_tick : K.lookup A_Guest_tick = some ⟨oc_Guest_tick, od_Guest_tick, .func (PySem.W.fnOf "tick" "Guest.tick" (defArgs s_Guest_tick) (defBody s_Guest_tick) (defScope s_Guest_tick) .none kV_Guest_tick dc_Guest_tick pm_Guest_tick an_Guest_tick cd_Guest_tick ct_Guest_tick), sl_Guest_tick⟩)
    (h_cdGuest_tick : PySem.W.codeIn K cd_Guest_tick "Guest.tick" = true)
    (h_kGuest_tick : PySem.W.keepIn K (.ref A_Guest_tick) = true)
    (h_aGuest_answers : PySem.W.findIn K (.ref A_Guest) "_answers" = some (some (.ref A_Guest_answers)))
    (h_iGuest_answers : PySem.W.isFn K (.ref A_Guest_answers) = true)
    (h_lGuest_answers : K.lookup A_Guest_answers = some ⟨oc_Guest_answers, od_Guest_answers, .func (PySem.W.fnOf "_answers" "Guest._answers" (defArgs s_Guest_answers) (defBody s_Guest_answers) (defScope s_Guest_answers) .none kV_Guest_answers dc_Guest_answers pm_Guest_answers an_Guest_answers cd_Guest_answers ct_Guest_answers), sl_Guest_answers⟩)
    (h_cdGuest_answers : PySem.W.codeIn K cd_Guest_answers "Guest._answers" = true)
    (h_kGuest_answers : PySem.W.keepIn K (.ref A_Guest_answers) = true)
    (h_aGuest_take : PySem.W.findIn K (.ref A_Guest) "take" = some (some (.ref A_Guest_take)))
    (h_iGuest_take : PySem.W.isFn K (.ref A_Guest_take) = true)
    (h_lGuest_take : K.lookup A_Guest_take = some ⟨oc_Guest_take, od_Guest_take, .func (PySem.W.fnOf "take" "Guest.take" (defArgs s_Guest_take) (defBody s_Guest_take) (defScope s_Guest_take) .none kV_Guest_take dc_Guest_take pm_Guest_take an_Guest_take cd_Guest_take ct_Guest_take), sl_Guest_take⟩)
    (h_cdGuest_take : PySem.W.codeIn K cd_Guest_take "Guest.take" = true)
    (h_kGuest_take : PySem.W.keepIn K (.ref A_Guest_take) = true)
    (h_a_law_state : PySem.W.nsIn K mainGlobals "_law_state" = some (some (.ref A__law_state)))
    (h_l_law_state : K.lookup A__law_state = some ⟨oc__law_state, od__law_state, .func (PySem.W.fnOf "_law_state" "_law_state" (defArgs s__law_state) (defBody s__law_state) (defScope s__law_state) .none kV__law_state dc__law_state pm__law_state an__law_state cd__law_state ct__law_state), sl__law_state⟩)
    (h_cd_law_state : PySem.W.codeIn K cd__law_state "_law_state" = true)
    (h_k_law_state : PySem.W.keepIn K (.ref A__law_state) = true)
    (h_a_law_draw : PySem.W.nsIn K mainGlobals "_law_draw" = some (some (.ref A__law_draw)))
    (h_l_law_draw : K.lookup A__law_draw = some ⟨oc__law_draw, od__law_draw, .func (PySem.W.fnOf "_law_draw" "_law_draw" (defArgs s__law_draw) (defBody s__law_draw) (defScope s__law_draw) .none kV__law_draw dc__law_draw pm__law_draw an__law_draw cd__law_draw ct__law_draw), sl__law_draw⟩)
    (h_cd_law_draw : PySem.W.codeIn K cd__law_draw "_law_draw" = true)
    (h_k_law_draw : PySem.W.keepIn K (.ref A__law_draw) = true)
    (h_a_law_pick : PySem.W.nsIn K mainGlobals "_law_pick" = some (some (.ref A__law_pick)))
    (h_l_law_pick : K.lookup A__law_pick = some ⟨oc__law_pick, od__law_pick, .func (PySem.W.fnOf "_law_pick" "_law_pick" (defArgs s__law_pick) (defBody s__law_pick) (defScope s__law_pick) .none kV__law_pick dc__law_pick pm__law_pick an__law_pick cd__law_pick ct__law_pick), sl__law_pick⟩)
    (h_cd_law_pick : PySem.W.codeIn K cd__law_pick "_law_pick" = true)
    (h_k_law_pick : PySem.W.keepIn K (.ref A__law_pick) = true)
    (h_a_law_body : PySem.W.nsIn K mainGlobals "_law_body" = some (some (.ref A__law_body)))
    (h_l_law_body : K.lookup A__law_body = some ⟨oc__law_body, od__law_body, .func (PySem.W.fnOf "_law_body" "_law_body" (defArgs s__law_body) (defBody s__law_body) (defScope s__law_body) .none kV__law_body dc__law_body pm__law_body an__law_body cd__law_body ct__law_body), sl__law_body⟩)
    (h_cd_law_body : PySem.W.codeIn K cd__law_body "_law_body" = true)
    (h_k_law_body : PySem.W.keepIn K (.ref A__law_body) = true)
    (h_a_law_start : PySem.W.nsIn K mainGlobals "_law_start" = some (some (.ref A__law_start)))
    (h_l_law_start : K.lookup A__law_start = some ⟨oc__law_start, od__law_start, .func (PySem.W.fnOf "_law_start" "_law_start" (defArgs s__law_start) (defBody s__law_start) (defScope s__law_start) .none kV__law_start dc__law_start pm__law_start an__law_start cd__law_start ct__law_start), sl__law_start⟩)
    (h_cd_law_start : PySem.W.codeIn K cd__law_start "_law_start" = true)
    (h_k_law_start : PySem.W.keepIn K (.ref A__law_start) = true)
    (h_a_law_due : PySem.W.nsIn K mainGlobals "_law_due" = some (some (.ref A__law_due)))
    (h_l_law_due : K.lookup A__law_due = some ⟨oc__law_due, od__law_due, .func (PySem.W.fnOf "_law_due" "_law_due" (defArgs s__law_due) (defBody s__law_due) (defScope s__law_due) .none kV__law_due dc__law_due pm__law_due an__law_due cd__law_due ct__law_due), sl__law_due⟩)
    (h_cd_law_due : PySem.W.codeIn K cd__law_due "_law_due" = true)
    (h_k_law_due : PySem.W.keepIn K (.ref A__law_due) = true)
    (h_a_law_say : PySem.W.nsIn K mainGlobals "_law_say" = some (some (.ref A__law_say)))
    (h_l_law_say : K.lookup A__law_say = some ⟨oc__law_say, od__law_say, .func (PySem.W.fnOf "_law_say" "_law_say" (defArgs s__law_say) (defBody s__law_say) (defScope s__law_say) .none kV__law_say dc__law_say pm__law_say an__law_say cd__law_say ct__law_say), sl__law_say⟩)
    (h_cd_law_say : PySem.W.codeIn K cd__law_say "_law_say" = true)
    (h_k_law_say : PySem.W.keepIn K (.ref A__law_say) = true)
    (h_a_law_hear : PySem.W.nsIn K mainGlobals "_law_hear" = some (some (.ref A__law_hear)))
    (h_l_law_hear : K.lookup A__law_hear = some ⟨oc__law_hear, od__law_hear, .func (PySem.W.fnOf "_law_hear" "_law_hear" (defArgs s__law_hear) (defBody s__law_hear) (defScope s__law_hear) .none kV__law_hear dc__law_hear pm__law_hear an__law_hear cd__law_hear ct__law_hear), sl__law_hear⟩)
    (h_cd_law_hear : PySem.W.codeIn K cd__law_hear "_law_hear" = true)
    (h_k_law_hear : PySem.W.keepIn K (.ref A__law_hear) = true)
    (h_a_law_line_tick : PySem.W.nsIn K mainGlobals "_law_line_tick" = some (some (.ref A__law_line_tick)))
    (h_l_law_line_tick : K.lookup A__law_line_tick = some ⟨oc__law_line_tick, od__law_line_tick, .func (PySem.W.fnOf "_law_line_tick" "_law_line_tick" (defArgs s__law_line_tick) (defBody s__law_line_tick) (defScope s__law_line_tick) .none kV__law_line_tick dc__law_line_tick pm__law_line_tick an__law_line_tick cd__law_line_tick ct__law_line_tick), sl__law_line_tick⟩)
    (h_cd_law_line_tick : PySem.W.codeIn K cd__law_line_tick "_law_line_tick" = true)
    (h_k_law_line_tick : PySem.W.keepIn K (.ref A__law_line_tick) = true)
    (h_a_law_line_take : PySem.W.nsIn K mainGlobals "_law_line_take" = some (some (.ref A__law_line_take)))
    (h_l_law_line_take : K.lookup A__law_line_take = some ⟨oc__law_line_take, od__law_line_take, .func (PySem.W.fnOf "_law_line_take" "_law_line_take" (defArgs s__law_line_take) (defBody s__law_line_take) (defScope s__law_line_take) .none kV__law_line_take dc__law_line_take pm__law_line_take an__law_line_take cd__law_line_take ct__law_line_take), sl__law_line_take⟩)
    (h_cd_law_line_take : PySem.W.codeIn K cd__law_line_take "_law_line_take" = true)
    (h_k_law_line_take : PySem.W.keepIn K (.ref A__law_line_take) = true)
    (h_a_law_guest_take : PySem.W.nsIn K mainGlobals "_law_guest_take" = some (some (.ref A__law_guest_take)))
    (h_l_law_guest_take : K.lookup A__law_guest_take = some ⟨oc__law_guest_take, od__law_guest_take, .func (PySem.W.fnOf "_law_guest_take" "_law_guest_take" (defArgs s__law_guest_take) (defBody s__law_guest_take) (defScope s__law_guest_take) .none kV__law_guest_take dc__law_guest_take pm__law_guest_take an__law_guest_take cd__law_guest_take ct__law_guest_take), sl__law_guest_take⟩)
    (h_cd_law_guest_take : PySem.W.codeIn K cd__law_guest_take "_law_guest_take" = true)
    (h_k_law_guest_take : PySem.W.keepIn K (.ref A__law_guest_take) = true)
    (h_a_law_begun : PySem.W.nsIn K mainGlobals "_law_begun" = some (some (.ref A__law_begun)))
    (h_l_law_begun : K.lookup A__law_begun = some ⟨oc__law_begun, od__law_begun, .func (PySem.W.fnOf "_law_begun" "_law_begun" (defArgs s__law_begun) (defBody s__law_begun) (defScope s__law_begun) .none kV__law_begun dc__law_begun pm__law_begun an__law_begun cd__law_begun ct__law_begun), sl__law_begun⟩)
    (h_cd_law_begun : PySem.W.codeIn K cd__law_begun "_law_begun" = true)
    (h_k_law_begun : PySem.W.keepIn K (.ref A__law_begun) = true)
    (h_a_law_sent : PySem.W.nsIn K mainGlobals "_law_sent" = some (some (.ref A__law_sent)))
    (h_l_law_sent : K.lookup A__law_sent = some ⟨oc__law_sent, od__law_sent, .func (PySem.W.fnOf "_law_sent" "_law_sent" (defArgs s__law_sent) (defBody s__law_sent) (defScope s__law_sent) .none kV__law_sent dc__law_sent pm__law_sent an__law_sent cd__law_sent ct__law_sent), sl__law_sent⟩)
    (h_cd_law_sent : PySem.W.codeIn K cd__law_sent "_law_sent" = true)
    (h_k_law_sent : PySem.W.keepIn K (.ref A__law_sent) = true)
    (h_a_law_segment : PySem.W.nsIn K mainGlobals "_law_segment" = some (some (.ref A__law_segment)))
    (h_l_law_segment : K.lookup A__law_segment = some ⟨oc__law_segment, od__law_segment, .func (PySem.W.fnOf "_law_segment" "_law_segment" (defArgs s__law_segment) (defBody s__law_segment) (defScope s__law_segment) .none kV__law_segment dc__law_segment pm__law_segment an__law_segment cd__law_segment ct__law_segment), sl__law_segment⟩)
    (h_cd_law_segment : PySem.W.codeIn K cd__law_segment "_law_segment" = true)
    (h_k_law_segment : PySem.W.keepIn K (.ref A__law_segment) = true)
    (h_alaw : PySem.W.nsIn K mainGlobals "law" = some (some (.ref A_law)))
    (h_llaw : K.lookup A_law = some ⟨oc_law, od_law, .func (PySem.W.fnOf "law" "law" (defArgs s_law) (defBody s_law) (defScope s_law) .none kV_law dc_law pm_law an_law cd_law ct_law), sl_law⟩)
    (h_cdlaw : PySem.W.codeIn K cd_law "law" = true)
    (h_klaw : PySem.W.keepIn K (.ref A_law) = true)
    (h_gMOST_MESSAGES : PySem.W.nsIn K mainGlobals "MOST_MESSAGES" = some (some (.int 300 tk_MOST_MESSAGES)))
    (h_gWINDOW : PySem.W.nsIn K mainGlobals "WINDOW" = some (some (.int 4 tk_WINDOW)))
    (h_gFIRST_WAIT : PySem.W.nsIn K mainGlobals "FIRST_WAIT" = some (some (.int 2 tk_FIRST_WAIT)))
    (h_gLONGEST_WAIT : PySem.W.nsIn K mainGlobals "LONGEST_WAIT" = some (some (.int 16 tk_LONGEST_WAIT)))
    (h_gCONTROLLER : PySem.W.nsIn K mainGlobals "CONTROLLER" = some (some (.int 0 tk_CONTROLLER)))
    (h_gHOPS : PySem.W.nsIn K mainGlobals "HOPS" = some (some (.int 12 tk_HOPS)))
    (h_gMOST_TRIES : PySem.W.nsIn K mainGlobals "MOST_TRIES" = some (some (.int 6 tk_MOST_TRIES)))
    (h_blen : PySem.W.nsIn K mainGlobals "len" = some none)
    (h_brange : PySem.W.nsIn K mainGlobals "range" = some none)
    (h_bmin : PySem.W.nsIn K mainGlobals "min" = some none)
    (h_babs : PySem.W.nsIn K mainGlobals "abs" = some none)
    (h_bint : PySem.W.nsIn K mainGlobals "int" = some none)
    (h_bmax : PySem.W.nsIn K mainGlobals "max" = some none)
    (h_bisinstance : PySem.W.nsIn K mainGlobals "isinstance" = some none)
    (h_bstr : PySem.W.nsIn K mainGlobals "str" = some none) :
    ∃ fd : FuncData, (∀ (s : Shared) (v : Value), BindsTo s fd ⟨[v], []⟩ [("script", v)]) ∧ ∀ base : Heap, K.In base → base.Ns mainGlobals mg → FnOk l.prog w K mg base CX0 7 fa fd ["script"] (sp_law K) := by
  haveI : IsP l.prog := ⟨hl⟩
  have e := hfa.symm.trans (PySem.W.mg_of X G h_alaw)
  have e2 : fa = A_law := Value.ref.inj (Option.some.inj e)
  rw [e2]
  have T : Txt K mg ⟨A_BridgeError, A_RoomError, A_StateError, A_Sender, A_Inbox, A_Beat, A_Body, A_Line, A_Guest, A_RoomError_init, (PySem.W.fnX "__init__" "RoomError.__init__" (defArgs s_RoomError_init) (defBody s_RoomError_init) (defScope s_RoomError_init) [("__class__", cc_RoomError_init)] .none kV_RoomError_init dc_RoomError_init pm_RoomError_init an_RoomError_init (.ref ca_RoomError_init) ct_RoomError_init), A_StateError_init, (PySem.W.fnX "__init__" "StateError.__init__" (defArgs s_StateError_init) (defBody s_StateError_init) (defScope s_StateError_init) [("__class__", cc_StateError_init)] .none kV_StateError_init dc_StateError_init pm_StateError_init an_StateError_init (.ref ca_StateError_init) ct_StateError_init), A_Sender_init, (PySem.W.fnOf "__init__" "Sender.__init__" (defArgs s_Sender_init) (defBody s_Sender_init) (defScope s_Sender_init) .none kV_Sender_init dc_Sender_init pm_Sender_init an_Sender_init cd_Sender_init ct_Sender_init), A_Sender_put, (PySem.W.fnOf "put" "Sender.put" (defArgs s_Sender_put) (defBody s_Sender_put) (defScope s_Sender_put) .none kV_Sender_put dc_Sender_put pm_Sender_put an_Sender_put cd_Sender_put ct_Sender_put), A_Sender_numbered, (PySem.W.fnOf "_numbered" "Sender._numbered" (defArgs s_Sender_numbered) (defBody s_Sender_numbered) (defScope s_Sender_numbered) .none kV_Sender_numbered dc_Sender_numbered pm_Sender_numbered an_Sender_numbered cd_Sender_numbered ct_Sender_numbered), A_Sender_fresh, (PySem.W.fnOf "fresh" "Sender.fresh" (defArgs s_Sender_fresh) (defBody s_Sender_fresh) (defScope s_Sender_fresh) .none kV_Sender_fresh dc_Sender_fresh pm_Sender_fresh an_Sender_fresh cd_Sender_fresh ct_Sender_fresh), A_Sender_again, (PySem.W.fnOf "again" "Sender.again" (defArgs s_Sender_again) (defBody s_Sender_again) (defScope s_Sender_again) .none kV_Sender_again dc_Sender_again pm_Sender_again an_Sender_again cd_Sender_again ct_Sender_again), A_Sender_heard, (PySem.W.fnOf "heard" "Sender.heard" (defArgs s_Sender_heard) (defBody s_Sender_heard) (defScope s_Sender_heard) .none kV_Sender_heard dc_Sender_heard pm_Sender_heard an_Sender_heard cd_Sender_heard ct_Sender_heard), A_Inbox_init, (PySem.W.fnOf "__init__" "Inbox.__init__" (defArgs s_Inbox_init) (defBody s_Inbox_init) (defScope s_Inbox_init) .none kV_Inbox_init dc_Inbox_init pm_Inbox_init an_Inbox_init cd_Inbox_init ct_Inbox_init), A_Inbox_take, (PySem.W.fnOf "take" "Inbox.take" (defArgs s_Inbox_take) (defBody s_Inbox_take) (defScope s_Inbox_take) .none kV_Inbox_take dc_Inbox_take pm_Inbox_take an_Inbox_take cd_Inbox_take ct_Inbox_take), A_Beat_init, (PySem.W.fnOf "__init__" "Beat.__init__" (defArgs s_Beat_init) (defBody s_Beat_init) (defScope s_Beat_init) .none kV_Beat_init dc_Beat_init pm_Beat_init an_Beat_init cd_Beat_init ct_Beat_init), A_Beat_start, (PySem.W.fnOf "start" "Beat.start" (defArgs s_Beat_start) (defBody s_Beat_start) (defScope s_Beat_start) .none kV_Beat_start dc_Beat_start pm_Beat_start an_Beat_start cd_Beat_start ct_Beat_start), A_Beat_stop, (PySem.W.fnOf "stop" "Beat.stop" (defArgs s_Beat_stop) (defBody s_Beat_stop) (defScope s_Beat_stop) .none kV_Beat_stop dc_Beat_stop pm_Beat_stop an_Beat_stop cd_Beat_stop ct_Beat_stop), A_Beat_hurry, (PySem.W.fnOf "hurry" "Beat.hurry" (defArgs s_Beat_hurry) (defBody s_Beat_hurry) (defScope s_Beat_hurry) .none kV_Beat_hurry dc_Beat_hurry pm_Beat_hurry an_Beat_hurry cd_Beat_hurry ct_Beat_hurry), A_Beat_runs, (PySem.W.fnOf "runs" "Beat.runs" (defArgs s_Beat_runs) (defBody s_Beat_runs) (defScope s_Beat_runs) .none kV_Beat_runs dc_Beat_runs pm_Beat_runs an_Beat_runs cd_Beat_runs ct_Beat_runs), A_Beat_due, (PySem.W.fnOf "due" "Beat.due" (defArgs s_Beat_due) (defBody s_Beat_due) (defScope s_Beat_due) .none kV_Beat_due dc_Beat_due pm_Beat_due an_Beat_due cd_Beat_due ct_Beat_due), A_segments_of, (PySem.W.fnOf "segments_of" "segments_of" (defArgs s_segments_of) (defBody s_segments_of) (defScope s_segments_of) .none kV_segments_of dc_segments_of pm_segments_of an_segments_of cd_segments_of ct_segments_of), A_Body_init, (PySem.W.fnOf "__init__" "Body.__init__" (defArgs s_Body_init) (defBody s_Body_init) (defScope s_Body_init) .none kV_Body_init dc_Body_init pm_Body_init an_Body_init cd_Body_init ct_Body_init), A_Body_says, (PySem.W.fnOf "says" "Body.says" (defArgs s_Body_says) (defBody s_Body_says) (defScope s_Body_says) .none kV_Body_says dc_Body_says pm_Body_says an_Body_says cd_Body_says ct_Body_says), A_Body_hears_ack, (PySem.W.fnOf "_hears_ack" "Body._hears_ack" (defArgs s_Body_hears_ack) (defBody s_Body_hears_ack) (defScope s_Body_hears_ack) .none kV_Body_hears_ack dc_Body_hears_ack pm_Body_hears_ack an_Body_hears_ack cd_Body_hears_ack ct_Body_hears_ack), A_Body_hears, (PySem.W.fnOf "hears" "Body.hears" (defArgs s_Body_hears) (defBody s_Body_hears) (defScope s_Body_hears) .none kV_Body_hears dc_Body_hears pm_Body_hears an_Body_hears cd_Body_hears ct_Body_hears), A_Line_init, (PySem.W.fnOf "__init__" "Line.__init__" (defArgs s_Line_init) (defBody s_Line_init) (defScope s_Line_init) .none kV_Line_init dc_Line_init pm_Line_init an_Line_init cd_Line_init ct_Line_init), A_Line_begin, (PySem.W.fnOf "begin" "Line.begin" (defArgs s_Line_begin) (defBody s_Line_begin) (defScope s_Line_begin) .none kV_Line_begin dc_Line_begin pm_Line_begin an_Line_begin cd_Line_begin ct_Line_begin), A_Line_send, (PySem.W.fnOf "send" "Line.send" (defArgs s_Line_send) (defBody s_Line_send) (defScope s_Line_send) .none kV_Line_send dc_Line_send pm_Line_send an_Line_send cd_Line_send ct_Line_send), A_Line_says, (PySem.W.fnOf "_says" "Line._says" (defArgs s_Line_says) (defBody s_Line_says) (defScope s_Line_says) .none kV_Line_says dc_Line_says pm_Line_says an_Line_says cd_Line_says ct_Line_says), A_Line_tick, (PySem.W.fnOf "tick" "Line.tick" (defArgs s_Line_tick) (defBody s_Line_tick) (defScope s_Line_tick) .none kV_Line_tick dc_Line_tick pm_Line_tick an_Line_tick cd_Line_tick ct_Line_tick), A_Line_hears_answer, (PySem.W.fnOf "_hears_answer" "Line._hears_answer" (defArgs s_Line_hears_answer) (defBody s_Line_hears_answer) (defScope s_Line_hears_answer) .none kV_Line_hears_answer dc_Line_hears_answer pm_Line_hears_answer an_Line_hears_answer cd_Line_hears_answer ct_Line_hears_answer), A_Line_take, (PySem.W.fnOf "take" "Line.take" (defArgs s_Line_take) (defBody s_Line_take) (defScope s_Line_take) .none kV_Line_take dc_Line_take pm_Line_take an_Line_take cd_Line_take ct_Line_take), A_Guest_init, (PySem.W.fnOf "__init__" "Guest.__init__" (defArgs s_Guest_init) (defBody s_Guest_init) (defScope s_Guest_init) .none kV_Guest_init dc_Guest_init pm_Guest_init an_Guest_init cd_Guest_init ct_Guest_init), A_Guest_send, (PySem.W.fnOf "send" "Guest.send" (defArgs s_Guest_send) (defBody s_Guest_send) (defScope s_Guest_send) .none kV_Guest_send dc_Guest_send pm_Guest_send an_Guest_send cd_Guest_send ct_Guest_send), A_Guest_tick, (PySem.W.fnOf "tick" "Guest.tick" (defArgs s_Guest_tick) (defBody s_Guest_tick) (defScope s_Guest_tick) .none kV_Guest_tick dc_Guest_tick pm_Guest_tick an_Guest_tick cd_Guest_tick ct_Guest_tick), A_Guest_answers, (PySem.W.fnOf "_answers" "Guest._answers" (defArgs s_Guest_answers) (defBody s_Guest_answers) (defScope s_Guest_answers) .none kV_Guest_answers dc_Guest_answers pm_Guest_answers an_Guest_answers cd_Guest_answers ct_Guest_answers), A_Guest_take, (PySem.W.fnOf "take" "Guest.take" (defArgs s_Guest_take) (defBody s_Guest_take) (defScope s_Guest_take) .none kV_Guest_take dc_Guest_take pm_Guest_take an_Guest_take cd_Guest_take ct_Guest_take), A__law_state, (PySem.W.fnOf "_law_state" "_law_state" (defArgs s__law_state) (defBody s__law_state) (defScope s__law_state) .none kV__law_state dc__law_state pm__law_state an__law_state cd__law_state ct__law_state), A__law_draw, (PySem.W.fnOf "_law_draw" "_law_draw" (defArgs s__law_draw) (defBody s__law_draw) (defScope s__law_draw) .none kV__law_draw dc__law_draw pm__law_draw an__law_draw cd__law_draw ct__law_draw), A__law_pick, (PySem.W.fnOf "_law_pick" "_law_pick" (defArgs s__law_pick) (defBody s__law_pick) (defScope s__law_pick) .none kV__law_pick dc__law_pick pm__law_pick an__law_pick cd__law_pick ct__law_pick), A__law_body, (PySem.W.fnOf "_law_body" "_law_body" (defArgs s__law_body) (defBody s__law_body) (defScope s__law_body) .none kV__law_body dc__law_body pm__law_body an__law_body cd__law_body ct__law_body), A__law_start, (PySem.W.fnOf "_law_start" "_law_start" (defArgs s__law_start) (defBody s__law_start) (defScope s__law_start) .none kV__law_start dc__law_start pm__law_start an__law_start cd__law_start ct__law_start), A__law_due, (PySem.W.fnOf "_law_due" "_law_due" (defArgs s__law_due) (defBody s__law_due) (defScope s__law_due) .none kV__law_due dc__law_due pm__law_due an__law_due cd__law_due ct__law_due), A__law_say, (PySem.W.fnOf "_law_say" "_law_say" (defArgs s__law_say) (defBody s__law_say) (defScope s__law_say) .none kV__law_say dc__law_say pm__law_say an__law_say cd__law_say ct__law_say), A__law_hear, (PySem.W.fnOf "_law_hear" "_law_hear" (defArgs s__law_hear) (defBody s__law_hear) (defScope s__law_hear) .none kV__law_hear dc__law_hear pm__law_hear an__law_hear cd__law_hear ct__law_hear), A__law_line_tick, (PySem.W.fnOf "_law_line_tick" "_law_line_tick" (defArgs s__law_line_tick) (defBody s__law_line_tick) (defScope s__law_line_tick) .none kV__law_line_tick dc__law_line_tick pm__law_line_tick an__law_line_tick cd__law_line_tick ct__law_line_tick), A__law_line_take, (PySem.W.fnOf "_law_line_take" "_law_line_take" (defArgs s__law_line_take) (defBody s__law_line_take) (defScope s__law_line_take) .none kV__law_line_take dc__law_line_take pm__law_line_take an__law_line_take cd__law_line_take ct__law_line_take), A__law_guest_take, (PySem.W.fnOf "_law_guest_take" "_law_guest_take" (defArgs s__law_guest_take) (defBody s__law_guest_take) (defScope s__law_guest_take) .none kV__law_guest_take dc__law_guest_take pm__law_guest_take an__law_guest_take cd__law_guest_take ct__law_guest_take), A__law_begun, (PySem.W.fnOf "_law_begun" "_law_begun" (defArgs s__law_begun) (defBody s__law_begun) (defScope s__law_begun) .none kV__law_begun dc__law_begun pm__law_begun an__law_begun cd__law_begun ct__law_begun), A__law_sent, (PySem.W.fnOf "_law_sent" "_law_sent" (defArgs s__law_sent) (defBody s__law_sent) (defScope s__law_sent) .none kV__law_sent dc__law_sent pm__law_sent an__law_sent cd__law_sent ct__law_sent), A__law_segment, (PySem.W.fnOf "_law_segment" "_law_segment" (defArgs s__law_segment) (defBody s__law_segment) (defScope s__law_segment) .none kV__law_segment dc__law_segment pm__law_segment an__law_segment cd__law_segment ct__law_segment), A_law, (PySem.W.fnOf "law" "law" (defArgs s_law) (defBody s_law) (defScope s_law) .none kV_law dc_law pm_law an_law cd_law ct_law)⟩ := {
    mg_BridgeError := PySem.W.mg_of X G h_cBridgeError
    rd_BridgeError := ⟨h_rdBridgeError, h_gaBridgeError⟩
    cv_BridgeError := h_cvBridgeError
    mg_RoomError := PySem.W.mg_of X G h_cRoomError
    ox_RoomError := ⟨⟨_, _, _, _, _, _, _, _, _, _, _, _, _, _, _, h_lkRoomError, rfl⟩, h_saRoomError, h_exRoomError, h_tyRoomError, h_kcRoomError⟩
    iC_RoomError := h_aRoomError_init
    tI_RoomError := h_tiRoomError
    no_RoomError_place := h_noRoomError
    xf_RoomError := ⟨h_gaRoomError, h_ggRoomError, h_exRoomError, h_hdRoomError⟩
    xc_RoomError := ⟨h_icRoomError, h_gaRoomError, h_ggRoomError, h_exRoomError, h_caRoomError, h_gdRoomError, h_tkRoomError, h_moRoomError⟩
    te_RoomError := PySem.W.exm_ref h_exRoomError h_hdRoomError h_tyRoomError h_scRoomError
    is_RoomError_BridgeError := kit_ownT h_ibRoomErrorBridgeError h_itRoomErrorBridgeError h_isRoomErrorBridgeError
    mg_StateError := PySem.W.mg_of X G h_cStateError
    ox_StateError := ⟨⟨_, _, _, _, _, _, _, _, _, _, _, _, _, _, _, h_lkStateError, rfl⟩, h_saStateError, h_exStateError, h_tyStateError, h_kcStateError⟩
    iC_StateError := h_aStateError_init
    tI_StateError := h_tiStateError
    no_StateError_state := h_noStateError
    xf_StateError := ⟨h_gaStateError, h_ggStateError, h_exStateError, h_hdStateError⟩
    xc_StateError := ⟨h_icStateError, h_gaStateError, h_ggStateError, h_exStateError, h_caStateError, h_gdStateError, h_tkStateError, h_moStateError⟩
    te_StateError := PySem.W.exm_ref h_exStateError h_hdStateError h_tyStateError h_scStateError
    is_StateError_BridgeError := kit_ownT h_ibStateErrorBridgeError h_itStateErrorBridgeError h_isStateErrorBridgeError
    cl_Sender := ⟨h_pgSender, h_hdSender, h_poSender, h_saSender⟩
    mg_Sender := PySem.W.mg_of X G h_cSender
    na_Sender_first := h_naSender_first
    na_Sender_rows := h_naSender_rows
    na_Sender_said := h_naSender_said
    cl_Inbox := ⟨h_pgInbox, h_hdInbox, h_poInbox, h_saInbox⟩
    mg_Inbox := PySem.W.mg_of X G h_cInbox
    na_Inbox_next := h_naInbox_next
    na_Inbox__early := h_naInbox__early
    cl_Beat := ⟨h_pgBeat, h_hdBeat, h_poBeat, h_saBeat⟩
    mg_Beat := PySem.W.mg_of X G h_cBeat
    na_Beat_tries := h_naBeat_tries
    na_Beat__wait := h_naBeat__wait
    na_Beat__due_at := h_naBeat__due_at
    cl_Body := ⟨h_pgBody, h_hdBody, h_poBody, h_saBody⟩
    mg_Body := PySem.W.mg_of X G h_cBody
    na_Body_sender := h_naBody_sender
    na_Body_inbox := h_naBody_inbox
    na_Body_beat := h_naBody_beat
    na_Body_owes := h_naBody_owes
    cl_Line := ⟨h_pgLine, h_hdLine, h_poLine, h_saLine⟩
    mg_Line := PySem.W.mg_of X G h_cLine
    na_Line_epoch := h_naLine_epoch
    na_Line_boot := h_naLine_boot
    na_Line_state := h_naLine_state
    na_Line__to := h_naLine__to
    na_Line__body := h_naLine__body
    cl_Guest := ⟨h_pgGuest, h_hdGuest, h_poGuest, h_saGuest⟩
    mg_Guest := PySem.W.mg_of X G h_cGuest
    na_Guest_epoch := h_naGuest_epoch
    na_Guest_boot := h_naGuest_boot
    na_Guest__own := h_naGuest__own
    na_Guest__body := h_naGuest__body
    na_Guest__quiet := h_naGuest__quiet
    fn_RoomError_init := ⟨⟨_, _, _, _, _, _, _, _, _, _, _, _, _, _, _, _, _, _, _, rfl, h_lRoomError_init, h_cdRoomError_init, h_lcRoomError_init, h_vsRoomError_init, h_fiRoomError_init, h_ccRoomError_init⟩, ⟨_, h_czRoomError_init⟩, h_msRoomError_init, PySem.W.mg_none_of X G h_suRoomError_init, h_anRoomError_init, h_spRoomError_init, h_ivRoomError_init, h_tpRoomError_init⟩
    bi_RoomError_init := FunS.binds (P := PySem.Challenge.pw_hangbridge_k07_sessions_step_by_step) (mg := mg) (C := A_RoomError) (x := "__init__") (qual := "RoomError.__init__") (st := s_RoomError_init) (f := A_RoomError_init) (ps := ["self", "place"]) ⟨⟨_, _, _, _, _, _, _, _, _, _, _, _, _, _, _, _, _, _, _, rfl, h_lRoomError_init, h_cdRoomError_init, h_lcRoomError_init, h_vsRoomError_init, h_fiRoomError_init, h_ccRoomError_init⟩, ⟨_, h_czRoomError_init⟩, h_msRoomError_init, PySem.W.mg_none_of X G h_suRoomError_init, h_anRoomError_init, h_spRoomError_init, h_ivRoomError_init, h_tpRoomError_init⟩ fun _ _ _ _ _ _ _ us hl => match us, hl with | [_, _], _ => rfl
    fn_StateError_init := ⟨⟨_, _, _, _, _, _, _, _, _, _, _, _, _, _, _, _, _, _, _, rfl, h_lStateError_init, h_cdStateError_init, h_lcStateError_init, h_vsStateError_init, h_fiStateError_init, h_ccStateError_init⟩, ⟨_, h_czStateError_init⟩, h_msStateError_init, PySem.W.mg_none_of X G h_suStateError_init, h_anStateError_init, h_spStateError_init, h_ivStateError_init, h_tpStateError_init⟩
    bi_StateError_init := FunS.binds (P := PySem.Challenge.pw_hangbridge_k07_sessions_step_by_step) (mg := mg) (C := A_StateError) (x := "__init__") (qual := "StateError.__init__") (st := s_StateError_init) (f := A_StateError_init) (ps := ["self", "state"]) ⟨⟨_, _, _, _, _, _, _, _, _, _, _, _, _, _, _, _, _, _, _, rfl, h_lStateError_init, h_cdStateError_init, h_lcStateError_init, h_vsStateError_init, h_fiStateError_init, h_ccStateError_init⟩, ⟨_, h_czStateError_init⟩, h_msStateError_init, PySem.W.mg_none_of X G h_suStateError_init, h_anStateError_init, h_spStateError_init, h_ivStateError_init, h_tpStateError_init⟩ fun _ _ _ _ _ _ _ us hl => match us, hl with | [_, _], _ => rfl
    fn_Sender_init := fun_mk (st := s_Sender_init) h_lSender_init h_cdSender_init h_kSender_init
    bi_Sender_init := (fun_mk (st := s_Sender_init) h_lSender_init h_cdSender_init h_kSender_init).binds (ps := ["self"]) fun _ _ _ _ _ _ us hl => match us, hl with | [_], _ => rfl
    mk_Sender := ⟨h_mkSender, h_aSender_init, h_iSender_init, h_kcSender⟩
    fn_Sender_put := fun_mk (st := s_Sender_put) h_lSender_put h_cdSender_put h_kSender_put
    bi_Sender_put := (fun_mk (st := s_Sender_put) h_lSender_put h_cdSender_put h_kSender_put).binds (ps := ["self", "body"]) fun _ _ _ _ _ _ us hl => match us, hl with | [_, _], _ => rfl
    me_Sender_put := ⟨h_aSender_put, h_iSender_put, h_kSender_put⟩
    fn_Sender_numbered := fun_mk (st := s_Sender_numbered) h_lSender_numbered h_cdSender_numbered h_kSender_numbered
    bi_Sender_numbered := (fun_mk (st := s_Sender_numbered) h_lSender_numbered h_cdSender_numbered h_kSender_numbered).binds (ps := ["self", "start", "stop"]) fun _ _ _ _ _ _ us hl => match us, hl with | [_, _, _], _ => rfl
    me_Sender_numbered := ⟨h_aSender_numbered, h_iSender_numbered, h_kSender_numbered⟩
    fn_Sender_fresh := fun_mk (st := s_Sender_fresh) h_lSender_fresh h_cdSender_fresh h_kSender_fresh
    bi_Sender_fresh := (fun_mk (st := s_Sender_fresh) h_lSender_fresh h_cdSender_fresh h_kSender_fresh).binds (ps := ["self"]) fun _ _ _ _ _ _ us hl => match us, hl with | [_], _ => rfl
    me_Sender_fresh := ⟨h_aSender_fresh, h_iSender_fresh, h_kSender_fresh⟩
    fn_Sender_again := fun_mk (st := s_Sender_again) h_lSender_again h_cdSender_again h_kSender_again
    bi_Sender_again := (fun_mk (st := s_Sender_again) h_lSender_again h_cdSender_again h_kSender_again).binds (ps := ["self"]) fun _ _ _ _ _ _ us hl => match us, hl with | [_], _ => rfl
    me_Sender_again := ⟨h_aSender_again, h_iSender_again, h_kSender_again⟩
    fn_Sender_heard := fun_mk (st := s_Sender_heard) h_lSender_heard h_cdSender_heard h_kSender_heard
    bi_Sender_heard := (fun_mk (st := s_Sender_heard) h_lSender_heard h_cdSender_heard h_kSender_heard).binds (ps := ["self", "ack"]) fun _ _ _ _ _ _ us hl => match us, hl with | [_, _], _ => rfl
    me_Sender_heard := ⟨h_aSender_heard, h_iSender_heard, h_kSender_heard⟩
    fn_Inbox_init := fun_mk (st := s_Inbox_init) h_lInbox_init h_cdInbox_init h_kInbox_init
    bi_Inbox_init := (fun_mk (st := s_Inbox_init) h_lInbox_init h_cdInbox_init h_kInbox_init).binds (ps := ["self"]) fun _ _ _ _ _ _ us hl => match us, hl with | [_], _ => rfl
    mk_Inbox := ⟨h_mkInbox, h_aInbox_init, h_iInbox_init, h_kcInbox⟩
    fn_Inbox_take := fun_mk (st := s_Inbox_take) h_lInbox_take h_cdInbox_take h_kInbox_take
    bi_Inbox_take := (fun_mk (st := s_Inbox_take) h_lInbox_take h_cdInbox_take h_kInbox_take).binds (ps := ["self", "number", "body"]) fun _ _ _ _ _ _ us hl => match us, hl with | [_, _, _], _ => rfl
    me_Inbox_take := ⟨h_aInbox_take, h_iInbox_take, h_kInbox_take⟩
    fn_Beat_init := fun_mk (st := s_Beat_init) h_lBeat_init h_cdBeat_init h_kBeat_init
    bi_Beat_init := (fun_mk (st := s_Beat_init) h_lBeat_init h_cdBeat_init h_kBeat_init).binds (ps := ["self"]) fun _ _ _ _ _ _ us hl => match us, hl with | [_], _ => rfl
    mk_Beat := ⟨h_mkBeat, h_aBeat_init, h_iBeat_init, h_kcBeat⟩
    fn_Beat_start := fun_mk (st := s_Beat_start) h_lBeat_start h_cdBeat_start h_kBeat_start
    bi_Beat_start := (fun_mk (st := s_Beat_start) h_lBeat_start h_cdBeat_start h_kBeat_start).binds (ps := ["self", "now"]) fun _ _ _ _ _ _ us hl => match us, hl with | [_, _], _ => rfl
    me_Beat_start := ⟨h_aBeat_start, h_iBeat_start, h_kBeat_start⟩
    fn_Beat_stop := fun_mk (st := s_Beat_stop) h_lBeat_stop h_cdBeat_stop h_kBeat_stop
    bi_Beat_stop := (fun_mk (st := s_Beat_stop) h_lBeat_stop h_cdBeat_stop h_kBeat_stop).binds (ps := ["self"]) fun _ _ _ _ _ _ us hl => match us, hl with | [_], _ => rfl
    me_Beat_stop := ⟨h_aBeat_stop, h_iBeat_stop, h_kBeat_stop⟩
    fn_Beat_hurry := fun_mk (st := s_Beat_hurry) h_lBeat_hurry h_cdBeat_hurry h_kBeat_hurry
    bi_Beat_hurry := (fun_mk (st := s_Beat_hurry) h_lBeat_hurry h_cdBeat_hurry h_kBeat_hurry).binds (ps := ["self", "now"]) fun _ _ _ _ _ _ us hl => match us, hl with | [_, _], _ => rfl
    me_Beat_hurry := ⟨h_aBeat_hurry, h_iBeat_hurry, h_kBeat_hurry⟩
    fn_Beat_runs := fun_mk (st := s_Beat_runs) h_lBeat_runs h_cdBeat_runs h_kBeat_runs
    bi_Beat_runs := (fun_mk (st := s_Beat_runs) h_lBeat_runs h_cdBeat_runs h_kBeat_runs).binds (ps := ["self"]) fun _ _ _ _ _ _ us hl => match us, hl with | [_], _ => rfl
    me_Beat_runs := ⟨h_aBeat_runs, h_iBeat_runs, h_kBeat_runs⟩
    fn_Beat_due := fun_mk (st := s_Beat_due) h_lBeat_due h_cdBeat_due h_kBeat_due
    bi_Beat_due := (fun_mk (st := s_Beat_due) h_lBeat_due h_cdBeat_due h_kBeat_due).binds (ps := ["self", "now"]) fun _ _ _ _ _ _ us hl => match us, hl with | [_, _], _ => rfl
    me_Beat_due := ⟨h_aBeat_due, h_iBeat_due, h_kBeat_due⟩
    fn_segments_of := fun_mk (st := s_segments_of) h_lsegments_of h_cdsegments_of h_ksegments_of
    bi_segments_of := (fun_mk (st := s_segments_of) h_lsegments_of h_cdsegments_of h_ksegments_of).binds (ps := ["to", "sender", "epoch", "triples"]) fun _ _ _ _ _ _ us hl => match us, hl with | [_, _, _, _], _ => rfl
    mg_segments_of := PySem.W.mg_of X G h_asegments_of
    kp_segments_of := h_ksegments_of
    fn_Body_init := fun_mk (st := s_Body_init) h_lBody_init h_cdBody_init h_kBody_init
    bi_Body_init := (fun_mk (st := s_Body_init) h_lBody_init h_cdBody_init h_kBody_init).binds (ps := ["self"]) fun _ _ _ _ _ _ us hl => match us, hl with | [_], _ => rfl
    mk_Body := ⟨h_mkBody, h_aBody_init, h_iBody_init, h_kcBody⟩
    fn_Body_says := fun_mk (st := s_Body_says) h_lBody_says h_cdBody_says h_kBody_says
    bi_Body_says := (fun_mk (st := s_Body_says) h_lBody_says h_cdBody_says h_kBody_says).binds (ps := ["self", "now"]) fun _ _ _ _ _ _ us hl => match us, hl with | [_, _], _ => rfl
    me_Body_says := ⟨h_aBody_says, h_iBody_says, h_kBody_says⟩
    fn_Body_hears_ack := fun_mk (st := s_Body_hears_ack) h_lBody_hears_ack h_cdBody_hears_ack h_kBody_hears_ack
    bi_Body_hears_ack := (fun_mk (st := s_Body_hears_ack) h_lBody_hears_ack h_cdBody_hears_ack h_kBody_hears_ack).binds (ps := ["self", "number", "now"]) fun _ _ _ _ _ _ us hl => match us, hl with | [_, _, _], _ => rfl
    me_Body_hears_ack := ⟨h_aBody_hears_ack, h_iBody_hears_ack, h_kBody_hears_ack⟩
    fn_Body_hears := fun_mk (st := s_Body_hears) h_lBody_hears h_cdBody_hears h_kBody_hears
    bi_Body_hears := (fun_mk (st := s_Body_hears) h_lBody_hears h_cdBody_hears h_kBody_hears).binds (ps := ["self", "kind", "number", "text", "now"]) fun _ _ _ _ _ _ us hl => match us, hl with | [_, _, _, _, _], _ => rfl
    me_Body_hears := ⟨h_aBody_hears, h_iBody_hears, h_kBody_hears⟩
    fn_Line_init := fun_mk (st := s_Line_init) h_lLine_init h_cdLine_init h_kLine_init
    bi_Line_init := (fun_mk (st := s_Line_init) h_lLine_init h_cdLine_init h_kLine_init).binds (ps := ["self", "to"]) fun _ _ _ _ _ _ us hl => match us, hl with | [_, _], _ => rfl
    mk_Line := ⟨h_mkLine, h_aLine_init, h_iLine_init, h_kcLine⟩
    fn_Line_begin := fun_mk (st := s_Line_begin) h_lLine_begin h_cdLine_begin h_kLine_begin
    bi_Line_begin := (fun_mk (st := s_Line_begin) h_lLine_begin h_cdLine_begin h_kLine_begin).binds (ps := ["self", "epoch", "now"]) fun _ _ _ _ _ _ us hl => match us, hl with | [_, _, _], _ => rfl
    me_Line_begin := ⟨h_aLine_begin, h_iLine_begin, h_kLine_begin⟩
    fn_Line_send := fun_mk (st := s_Line_send) h_lLine_send h_cdLine_send h_kLine_send
    bi_Line_send := (fun_mk (st := s_Line_send) h_lLine_send h_cdLine_send h_kLine_send).binds (ps := ["self", "text"]) fun _ _ _ _ _ _ us hl => match us, hl with | [_, _], _ => rfl
    me_Line_send := ⟨h_aLine_send, h_iLine_send, h_kLine_send⟩
    fn_Line_says := fun_mk (st := s_Line_says) h_lLine_says h_cdLine_says h_kLine_says
    bi_Line_says := (fun_mk (st := s_Line_says) h_lLine_says h_cdLine_says h_kLine_says).binds (ps := ["self", "now"]) fun _ _ _ _ _ _ us hl => match us, hl with | [_, _], _ => rfl
    me_Line_says := ⟨h_aLine_says, h_iLine_says, h_kLine_says⟩
    fn_Line_tick := fun_mk (st := s_Line_tick) h_lLine_tick h_cdLine_tick h_kLine_tick
    bi_Line_tick := (fun_mk (st := s_Line_tick) h_lLine_tick h_cdLine_tick h_kLine_tick).binds (ps := ["self", "now"]) fun _ _ _ _ _ _ us hl => match us, hl with | [_, _], _ => rfl
    me_Line_tick := ⟨h_aLine_tick, h_iLine_tick, h_kLine_tick⟩
    fn_Line_hears_answer := fun_mk (st := s_Line_hears_answer) h_lLine_hears_answer h_cdLine_hears_answer h_kLine_hears_answer
    bi_Line_hears_answer := (fun_mk (st := s_Line_hears_answer) h_lLine_hears_answer h_cdLine_hears_answer h_kLine_hears_answer).binds (ps := ["self", "kind", "number", "now"]) fun _ _ _ _ _ _ us hl => match us, hl with | [_, _, _, _], _ => rfl
    me_Line_hears_answer := ⟨h_aLine_hears_answer, h_iLine_hears_answer, h_kLine_hears_answer⟩
    fn_Line_take := fun_mk (st := s_Line_take) h_lLine_take h_cdLine_take h_kLine_take
    bi_Line_take := (fun_mk (st := s_Line_take) h_lLine_take h_cdLine_take h_kLine_take).binds (ps := ["self", "segment", "now"]) fun _ _ _ _ _ _ us hl => match us, hl with | [_, _, _], _ => rfl
    me_Line_take := ⟨h_aLine_take, h_iLine_take, h_kLine_take⟩
    fn_Guest_init := fun_mk (st := s_Guest_init) h_lGuest_init h_cdGuest_init h_kGuest_init
    bi_Guest_init := (fun_mk (st := s_Guest_init) h_lGuest_init h_cdGuest_init h_kGuest_init).binds (ps := ["self", "own", "boot"]) fun _ _ _ _ _ _ us hl => match us, hl with | [_, _, _], _ => rfl
    mk_Guest := ⟨h_mkGuest, h_aGuest_init, h_iGuest_init, h_kcGuest⟩
    fn_Guest_send := fun_mk (st := s_Guest_send) h_lGuest_send h_cdGuest_send h_kGuest_send
    bi_Guest_send := (fun_mk (st := s_Guest_send) h_lGuest_send h_cdGuest_send h_kGuest_send).binds (ps := ["self", "text"]) fun _ _ _ _ _ _ us hl => match us, hl with | [_, _], _ => rfl
    me_Guest_send := ⟨h_aGuest_send, h_iGuest_send, h_kGuest_send⟩
    fn_Guest_tick := fun_mk (st := s_Guest_tick) h_lGuest_tick h_cdGuest_tick h_kGuest_tick
    bi_Guest_tick := (fun_mk (st := s_Guest_tick) h_lGuest_tick h_cdGuest_tick h_kGuest_tick).binds (ps := ["self", "now"]) fun _ _ _ _ _ _ us hl => match us, hl with | [_, _], _ => rfl
    me_Guest_tick := ⟨h_aGuest_tick, h_iGuest_tick, h_kGuest_tick⟩
    fn_Guest_answers := fun_mk (st := s_Guest_answers) h_lGuest_answers h_cdGuest_answers h_kGuest_answers
    bi_Guest_answers := (fun_mk (st := s_Guest_answers) h_lGuest_answers h_cdGuest_answers h_kGuest_answers).binds (ps := ["self", "epoch", "number"]) fun _ _ _ _ _ _ us hl => match us, hl with | [_, _, _], _ => rfl
    me_Guest_answers := ⟨h_aGuest_answers, h_iGuest_answers, h_kGuest_answers⟩
    fn_Guest_take := fun_mk (st := s_Guest_take) h_lGuest_take h_cdGuest_take h_kGuest_take
    bi_Guest_take := (fun_mk (st := s_Guest_take) h_lGuest_take h_cdGuest_take h_kGuest_take).binds (ps := ["self", "segment", "now"]) fun _ _ _ _ _ _ us hl => match us, hl with | [_, _, _], _ => rfl
    me_Guest_take := ⟨h_aGuest_take, h_iGuest_take, h_kGuest_take⟩
    fn__law_state := fun_mk (st := s__law_state) h_l_law_state h_cd_law_state h_k_law_state
    bi__law_state := (fun_mk (st := s__law_state) h_l_law_state h_cd_law_state h_k_law_state).binds (ps := ["script"]) fun _ _ _ _ _ _ us hl => match us, hl with | [_], _ => rfl
    mg__law_state := PySem.W.mg_of X G h_a_law_state
    kp__law_state := h_k_law_state
    fn__law_draw := fun_mk (st := s__law_draw) h_l_law_draw h_cd_law_draw h_k_law_draw
    bi__law_draw := (fun_mk (st := s__law_draw) h_l_law_draw h_cd_law_draw h_k_law_draw).binds (ps := ["state", "many"]) fun _ _ _ _ _ _ us hl => match us, hl with | [_, _], _ => rfl
    mg__law_draw := PySem.W.mg_of X G h_a_law_draw
    kp__law_draw := h_k_law_draw
    fn__law_pick := fun_mk (st := s__law_pick) h_l_law_pick h_cd_law_pick h_k_law_pick
    bi__law_pick := (fun_mk (st := s__law_pick) h_l_law_pick h_cd_law_pick h_k_law_pick).binds (ps := ["state", "row"]) fun _ _ _ _ _ _ us hl => match us, hl with | [_, _], _ => rfl
    mg__law_pick := PySem.W.mg_of X G h_a_law_pick
    kp__law_pick := h_k_law_pick
    fn__law_body := fun_mk (st := s__law_body) h_l_law_body h_cd_law_body h_k_law_body
    bi__law_body := (fun_mk (st := s__law_body) h_l_law_body h_cd_law_body h_k_law_body).binds (ps := []) fun _ _ _ _ _ _ us hl => match us, hl with | [], _ => rfl
    mg__law_body := PySem.W.mg_of X G h_a_law_body
    kp__law_body := h_k_law_body
    fn__law_start := fun_mk (st := s__law_start) h_l_law_start h_cd_law_start h_k_law_start
    bi__law_start := (fun_mk (st := s__law_start) h_l_law_start h_cd_law_start h_k_law_start).binds (ps := ["b", "now"]) fun _ _ _ _ _ _ us hl => match us, hl with | [_, _], _ => rfl
    mg__law_start := PySem.W.mg_of X G h_a_law_start
    kp__law_start := h_k_law_start
    fn__law_due := fun_mk (st := s__law_due) h_l_law_due h_cd_law_due h_k_law_due
    bi__law_due := (fun_mk (st := s__law_due) h_l_law_due h_cd_law_due h_k_law_due).binds (ps := ["b", "now"]) fun _ _ _ _ _ _ us hl => match us, hl with | [_, _], _ => rfl
    mg__law_due := PySem.W.mg_of X G h_a_law_due
    kp__law_due := h_k_law_due
    fn__law_say := fun_mk (st := s__law_say) h_l_law_say h_cd_law_say h_k_law_say
    bi__law_say := (fun_mk (st := s__law_say) h_l_law_say h_cd_law_say h_k_law_say).binds (ps := ["b", "now"]) fun _ _ _ _ _ _ us hl => match us, hl with | [_, _], _ => rfl
    mg__law_say := PySem.W.mg_of X G h_a_law_say
    kp__law_say := h_k_law_say
    fn__law_hear := fun_mk (st := s__law_hear) h_l_law_hear h_cd_law_hear h_k_law_hear
    bi__law_hear := (fun_mk (st := s__law_hear) h_l_law_hear h_cd_law_hear h_k_law_hear).binds (ps := ["b", "kind", "number", "text", "now"]) fun _ _ _ _ _ _ us hl => match us, hl with | [_, _, _, _, _], _ => rfl
    mg__law_hear := PySem.W.mg_of X G h_a_law_hear
    kp__law_hear := h_k_law_hear
    fn__law_line_tick := fun_mk (st := s__law_line_tick) h_l_law_line_tick h_cd_law_line_tick h_k_law_line_tick
    bi__law_line_tick := (fun_mk (st := s__law_line_tick) h_l_law_line_tick h_cd_law_line_tick h_k_law_line_tick).binds (ps := ["m", "now"]) fun _ _ _ _ _ _ us hl => match us, hl with | [_, _], _ => rfl
    mg__law_line_tick := PySem.W.mg_of X G h_a_law_line_tick
    kp__law_line_tick := h_k_law_line_tick
    fn__law_line_take := fun_mk (st := s__law_line_take) h_l_law_line_take h_cd_law_line_take h_k_law_line_take
    bi__law_line_take := (fun_mk (st := s__law_line_take) h_l_law_line_take h_cd_law_line_take h_k_law_line_take).binds (ps := ["m", "segment", "now"]) fun _ _ _ _ _ _ us hl => match us, hl with | [_, _, _], _ => rfl
    mg__law_line_take := PySem.W.mg_of X G h_a_law_line_take
    kp__law_line_take := h_k_law_line_take
    fn__law_guest_take := fun_mk (st := s__law_guest_take) h_l_law_guest_take h_cd_law_guest_take h_k_law_guest_take
    bi__law_guest_take := (fun_mk (st := s__law_guest_take) h_l_law_guest_take h_cd_law_guest_take h_k_law_guest_take).binds (ps := ["g", "segment", "now"]) fun _ _ _ _ _ _ us hl => match us, hl with | [_, _, _], _ => rfl
    mg__law_guest_take := PySem.W.mg_of X G h_a_law_guest_take
    kp__law_guest_take := h_k_law_guest_take
    fn__law_begun := fun_mk (st := s__law_begun) h_l_law_begun h_cd_law_begun h_k_law_begun
    bi__law_begun := (fun_mk (st := s__law_begun) h_l_law_begun h_cd_law_begun h_k_law_begun).binds (ps := ["line", "m", "epoch", "now"]) fun _ _ _ _ _ _ us hl => match us, hl with | [_, _, _, _], _ => rfl
    mg__law_begun := PySem.W.mg_of X G h_a_law_begun
    kp__law_begun := h_k_law_begun
    fn__law_sent := fun_mk (st := s__law_sent) h_l_law_sent h_cd_law_sent h_k_law_sent
    bi__law_sent := (fun_mk (st := s__law_sent) h_l_law_sent h_cd_law_sent h_k_law_sent).binds (ps := ["line", "m", "text"]) fun _ _ _ _ _ _ us hl => match us, hl with | [_, _, _], _ => rfl
    mg__law_sent := PySem.W.mg_of X G h_a_law_sent
    kp__law_sent := h_k_law_sent
    fn__law_segment := fun_mk (st := s__law_segment) h_l_law_segment h_cd_law_segment h_k_law_segment
    bi__law_segment := (fun_mk (st := s__law_segment) h_l_law_segment h_cd_law_segment h_k_law_segment).binds (ps := ["state", "m", "g"]) fun _ _ _ _ _ _ us hl => match us, hl with | [_, _, _], _ => rfl
    mg__law_segment := PySem.W.mg_of X G h_a_law_segment
    kp__law_segment := h_k_law_segment
    fn_law := fun_mk (st := s_law) h_llaw h_cdlaw h_klaw
    bi_law := (fun_mk (st := s_law) h_llaw h_cdlaw h_klaw).binds (ps := ["script"]) fun _ _ _ _ _ _ us hl => match us, hl with | [_], _ => rfl
    mg_law := PySem.W.mg_of X G h_alaw
    kp_law := h_klaw
    mg_MOST_MESSAGES := ⟨_, PySem.W.mg_of X G h_gMOST_MESSAGES⟩
    mg_WINDOW := ⟨_, PySem.W.mg_of X G h_gWINDOW⟩
    mg_FIRST_WAIT := ⟨_, PySem.W.mg_of X G h_gFIRST_WAIT⟩
    mg_LONGEST_WAIT := ⟨_, PySem.W.mg_of X G h_gLONGEST_WAIT⟩
    mg_CONTROLLER := ⟨_, PySem.W.mg_of X G h_gCONTROLLER⟩
    mg_HOPS := ⟨_, PySem.W.mg_of X G h_gHOPS⟩
    mg_MOST_TRIES := ⟨_, PySem.W.mg_of X G h_gMOST_TRIES⟩
    mg_len := PySem.W.mg_none_of X G h_blen
    mg_range := PySem.W.mg_none_of X G h_brange
    mg_min := PySem.W.mg_none_of X G h_bmin
    mg_abs := PySem.W.mg_none_of X G h_babs
    mg_int := PySem.W.mg_none_of X G h_bint
    mg_max := PySem.W.mg_none_of X G h_bmax
    mg_isinstance := PySem.W.mg_none_of X G h_bisinstance
    mg_str := PySem.W.mg_none_of X G h_bstr }
  exact ⟨_, fun s v => .of_eq rfl, fun base _ _ => ok_law T⟩
theorem walk {l : PySem.W.OpenLaw} {q : Program} {loose : List Str} {XP : (Str → Option Value) → Heap → Prop} {YP : World → Heap → Prop} {d : DefRec} {K : Params → PySem.W.Frag} (hn : l.most = some 63) (hdf : d.params.defaults = [])
    (hY : ∀ (w : World) (h : Heap), YP w h → (K w.params).In h)
    (F : ∀ (w : World) (mg : Str → Option Value) (fa : Addr) (h : Heap), (K w.params).In h → h.Ns mainGlobals mg → mg d.name = some (.ref fa) →
      ∃ fd : FuncData, (∀ (s : Shared) (u : Value), BindsTo s fd ⟨[u], []⟩ [("script", u)]) ∧ ∀ base : Heap, (K w.params).In base → base.Ns mainGlobals mg → FnOk l.prog w (K w.params) mg base CX0 7 fa fd ["script"] (sp_law (K w.params))) :
    PySem.W.WalkO q loose XP YP l.row.toRowW d [] (fun f vs => PySem.call f vs) :=
  L2.walk_of (n := 63) (k := 7) (x := "script") (CX := fun _ => CX0) (sp := fun w => sp_law (K w.params)) hn (by decide) hdf ⟨rfl, by decide, by decide⟩ hY F (fun _ _ a ns hl _ hS => ⟨a, ns, rfl, hS, hl, fun _ => rfl⟩) fun _ _ _ _ _ z => z
end K7

open PySem PySem.W PyProof.Rows in
set_option maxRecDepth 100000 in
set_option maxHeartbeats 0 in
theorem PySem.Challenge.cw_hangbridge_k07_sessions_step_by_step_holds : PySem.Challenge.rw_hangbridge_k07_sessions_step_by_step.Holds := by
  w_on; o_law; k_head; (case hw => w_witness2)
  k_fill
  refine K7.walk (l := PySem.Challenge.rw_hangbridge_k07_sessions_step_by_step) rfl rfl (fun w h Y => PySem.W.kIn_of Y) ?F
  case F =>
    intro w mg fa h KX G hmg
    refine' K7.all_mk (l := PySem.Challenge.rw_hangbridge_k07_sessions_step_by_step) rfl KX G hmg ?h_cBridgeError ?h_rdBridgeError ?h_gaBridgeError ?h_cvBridgeError ?h_cRoomError ?h_lkRoomError ?h_saRoomError ?h_exRoomError ?h_tyRoomError ?h_kcRoomError ?h_noRoomError ?h_gaRoomError ?h_ggRoomError ?h_hdRoomError ?h_icRoomError ?h_scRoomError ?h_caRoomError ?h_moRoomError ?h_gdRoomError ?h_tkRoomError ?h_ibRoomErrorBridgeError ?h_itRoomErrorBridgeError ?h_isRoomErrorBridgeError ?h_cStateError ?h_lkStateError ?h_saStateError ?h_exStateError ?h_tyStateError ?h_kcStateError ?h_noStateError ?h_gaStateError ?h_ggStateError ?h_hdStateError ?h_icStateError ?h_scStateError ?h_caStateError ?h_moStateError ?h_gdStateError ?h_tkStateError ?h_ibStateErrorBridgeError ?h_itStateErrorBridgeError ?h_isStateErrorBridgeError ?h_cSender ?h_pgSender ?h_hdSender ?h_poSender ?h_saSender ?h_mkSender ?h_kcSender ?h_naSender_first ?h_naSender_rows ?h_naSender_said ?h_cInbox ?h_pgInbox ?h_hdInbox ?h_poInbox ?h_saInbox ?h_mkInbox ?h_kcInbox ?h_naInbox_next ?h_naInbox__early ?h_cBeat ?h_pgBeat ?h_hdBeat ?h_poBeat ?h_saBeat ?h_mkBeat ?h_kcBeat ?h_naBeat_tries ?h_naBeat__wait ?h_naBeat__due_at ?h_cBody ?h_pgBody ?h_hdBody ?h_poBody ?h_saBody ?h_mkBody ?h_kcBody ?h_naBody_sender ?h_naBody_inbox ?h_naBody_beat ?h_naBody_owes ?h_cLine ?h_pgLine ?h_hdLine ?h_poLine ?h_saLine ?h_mkLine ?h_kcLine ?h_naLine_epoch ?h_naLine_boot ?h_naLine_state ?h_naLine__to ?h_naLine__body ?h_cGuest ?h_pgGuest ?h_hdGuest ?h_poGuest ?h_saGuest ?h_mkGuest ?h_kcGuest ?h_naGuest_epoch ?h_naGuest_boot ?h_naGuest__own ?h_naGuest__body ?h_naGuest__quiet ?h_aRoomError_init ?h_tiRoomError ?h_lRoomError_init ?h_cdRoomError_init ?h_lcRoomError_init ?h_vsRoomError_init ?h_fiRoomError_init ?h_ccRoomError_init ?h_czRoomError_init ?h_msRoomError_init ?h_suRoomError_init ?h_anRoomError_init ?h_spRoomError_init ?h_ivRoomError_init ?h_tpRoomError_init ?h_aStateError_init ?h_tiStateError ?h_lStateError_init ?h_cdStateError_init ?h_lcStateError_init ?h_vsStateError_init ?h_fiStateError_init ?h_ccStateError_init ?h_czStateError_init ?h_msStateError_init ?h_suStateError_init ?h_anStateError_init ?h_spStateError_init ?h_ivStateError_init ?h_tpStateError_init ?h_aSender_init ?h_iSender_init ?h_lSender_init ?h_cdSender_init ?h_kSender_init ?h_aSender_put ?h_iSender_put ?h_lSender_put ?h_cdSender_put ?h_kSender_put ?h_aSender_numbered ?h_iSender_numbered ?h_lSender_numbered ?h_cdSender_numbered ?h_kSender_numbered ?h_aSender_fresh ?h_iSender_fresh ?h_lSender_fresh ?h_cdSender_fresh ?h_kSender_fresh ?h_aSender_again ?h_iSender_again ?h_lSender_again ?h_cdSender_again ?h_kSender_again ?h_aSender_heard ?h_iSender_heard ?h_lSender_heard ?h_cdSender_heard ?h_kSender_heard ?h_aInbox_init ?h_iInbox_init ?h_lInbox_init ?h_cdInbox_init ?h_kInbox_init ?h_aInbox_take ?h_iInbox_take ?h_lInbox_take ?h_cdInbox_take ?h_kInbox_take ?h_aBeat_init ?h_iBeat_init ?h_lBeat_init ?h_cdBeat_init ?h_kBeat_init ?h_aBeat_start ?h_iBeat_start ?h_lBeat_start ?h_cdBeat_start ?h_kBeat_start ?h_aBeat_stop ?h_iBeat_stop ?h_lBeat_stop ?h_cdBeat_stop ?h_kBeat_stop ?h_aBeat_hurry ?h_iBeat_hurry ?h_lBeat_hurry ?h_cdBeat_hurry ?h_kBeat_hurry ?h_aBeat_runs ?h_iBeat_runs ?h_lBeat_runs ?h_cdBeat_runs ?h_kBeat_runs ?h_aBeat_due ?h_iBeat_due ?h_lBeat_due ?h_cdBeat_due ?h_kBeat_due ?h_asegments_of ?h_lsegments_of ?h_cdsegments_of ?h_ksegments_of ?h_aBody_init ?h_iBody_init ?h_lBody_init ?h_cdBody_init ?h_kBody_init ?h_aBody_says ?h_iBody_says ?h_lBody_says ?h_cdBody_says ?h_kBody_says ?h_aBody_hears_ack ?h_iBody_hears_ack ?h_lBody_hears_ack ?h_cdBody_hears_ack ?h_kBody_hears_ack ?h_aBody_hears ?h_iBody_hears ?h_lBody_hears ?h_cdBody_hears ?h_kBody_hears ?h_aLine_init ?h_iLine_init ?h_lLine_init ?h_cdLine_init ?h_kLine_init ?h_aLine_begin ?h_iLine_begin ?h_lLine_begin ?h_cdLine_begin ?h_kLine_begin ?h_aLine_send ?h_iLine_send ?h_lLine_send ?h_cdLine_send ?h_kLine_send ?h_aLine_says ?h_iLine_says ?h_lLine_says ?h_cdLine_says ?h_kLine_says ?h_aLine_tick ?h_iLine_tick ?h_lLine_tick ?h_cdLine_tick ?h_kLine_tick ?h_aLine_hears_answer ?h_iLine_hears_answer ?h_lLine_hears_answer ?h_cdLine_hears_answer ?h_kLine_hears_answer ?h_aLine_take ?h_iLine_take ?h_lLine_take ?h_cdLine_take ?h_kLine_take ?h_aGuest_init ?h_iGuest_init ?h_lGuest_init ?h_cdGuest_init ?h_kGuest_init ?h_aGuest_send ?h_iGuest_send ?h_lGuest_send ?h_cdGuest_send ?h_kGuest_send ?h_aGuest_tick ?h_iGuest_tick ?h_lGuest_tick ?h_cdGuest_tick ?h_kGuest_tick ?h_aGuest_answers ?h_iGuest_answers ?h_lGuest_answers ?h_cdGuest_answers ?h_kGuest_answers ?h_aGuest_take ?h_iGuest_take ?h_lGuest_take ?h_cdGuest_take ?h_kGuest_take ?h_a_law_state ?h_l_law_state ?h_cd_law_state ?h_k_law_state ?h_a_law_draw ?h_l_law_draw ?h_cd_law_draw ?h_k_law_draw ?h_a_law_pick ?h_l_law_pick ?h_cd_law_pick ?h_k_law_pick ?h_a_law_body ?h_l_law_body ?h_cd_law_body ?h_k_law_body ?h_a_law_start ?h_l_law_start ?h_cd_law_start ?h_k_law_start ?h_a_law_due ?h_l_law_due ?h_cd_law_due ?h_k_law_due ?h_a_law_say ?h_l_law_say ?h_cd_law_say ?h_k_law_say ?h_a_law_hear ?h_l_law_hear ?h_cd_law_hear ?h_k_law_hear ?h_a_law_line_tick ?h_l_law_line_tick ?h_cd_law_line_tick ?h_k_law_line_tick ?h_a_law_line_take ?h_l_law_line_take ?h_cd_law_line_take ?h_k_law_line_take ?h_a_law_guest_take ?h_l_law_guest_take ?h_cd_law_guest_take ?h_k_law_guest_take ?h_a_law_begun ?h_l_law_begun ?h_cd_law_begun ?h_k_law_begun ?h_a_law_sent ?h_l_law_sent ?h_cd_law_sent ?h_k_law_sent ?h_a_law_segment ?h_l_law_segment ?h_cd_law_segment ?h_k_law_segment ?h_alaw ?h_llaw ?h_cdlaw ?h_klaw ?h_gMOST_MESSAGES ?h_gWINDOW ?h_gFIRST_WAIT ?h_gLONGEST_WAIT ?h_gCONTROLLER ?h_gHOPS ?h_gMOST_TRIES ?h_blen ?h_brange ?h_bmin ?h_babs ?h_bint ?h_bmax ?h_bisinstance ?h_bstr
    (case h_cBridgeError => k_is)
    (case h_rdBridgeError => k_is)
    (case h_gaBridgeError => k_is)
    (case h_cvBridgeError => k_is)
    (case h_cRoomError => k_is)
    (case h_lkRoomError => k_is)
    (case h_saRoomError => k_is)
    (case h_exRoomError => k_is)
    (case h_tyRoomError => k_is)
    (case h_kcRoomError => k_is)
    (case h_noRoomError => k_is)
    (case h_gaRoomError => k_is)
    (case h_ggRoomError => k_is)
    (case h_hdRoomError => k_is)
    (case h_icRoomError => k_is)
    (case h_scRoomError => k_is)
    (case h_caRoomError => k_is)
    (case h_moRoomError => k_is)
    (case h_gdRoomError => k_is)
    (case h_tkRoomError => k_is)
    (case h_ibRoomErrorBridgeError => k_is)
    (case h_itRoomErrorBridgeError => k_is)
    (case h_isRoomErrorBridgeError => k_is)
    (case h_cStateError => k_is)
    (case h_lkStateError => k_is)
    (case h_saStateError => k_is)
    (case h_exStateError => k_is)
    (case h_tyStateError => k_is)
    (case h_kcStateError => k_is)
    (case h_noStateError => k_is)
    (case h_gaStateError => k_is)
    (case h_ggStateError => k_is)
    (case h_hdStateError => k_is)
    (case h_icStateError => k_is)
    (case h_scStateError => k_is)
    (case h_caStateError => k_is)
    (case h_moStateError => k_is)
    (case h_gdStateError => k_is)
    (case h_tkStateError => k_is)
    (case h_ibStateErrorBridgeError => k_is)
    (case h_itStateErrorBridgeError => k_is)
    (case h_isStateErrorBridgeError => k_is)
    (case h_cSender => k_is)
    (case h_pgSender => k_is)
    (case h_hdSender => k_is)
    (case h_poSender => k_is)
    (case h_saSender => k_is)
    (case h_mkSender => k_is)
    (case h_kcSender => k_is)
    (case h_naSender_first => k_is)
    (case h_naSender_rows => k_is)
    (case h_naSender_said => k_is)
    (case h_cInbox => k_is)
    (case h_pgInbox => k_is)
    (case h_hdInbox => k_is)
    (case h_poInbox => k_is)
    (case h_saInbox => k_is)
    (case h_mkInbox => k_is)
    (case h_kcInbox => k_is)
    (case h_naInbox_next => k_is)
    (case h_naInbox__early => k_is)
    (case h_cBeat => k_is)
    (case h_pgBeat => k_is)
    (case h_hdBeat => k_is)
    (case h_poBeat => k_is)
    (case h_saBeat => k_is)
    (case h_mkBeat => k_is)
    (case h_kcBeat => k_is)
    (case h_naBeat_tries => k_is)
    (case h_naBeat__wait => k_is)
    (case h_naBeat__due_at => k_is)
    (case h_cBody => k_is)
    (case h_pgBody => k_is)
    (case h_hdBody => k_is)
    (case h_poBody => k_is)
    (case h_saBody => k_is)
    (case h_mkBody => k_is)
    (case h_kcBody => k_is)
    (case h_naBody_sender => k_is)
    (case h_naBody_inbox => k_is)
    (case h_naBody_beat => k_is)
    (case h_naBody_owes => k_is)
    (case h_cLine => k_is)
    (case h_pgLine => k_is)
    (case h_hdLine => k_is)
    (case h_poLine => k_is)
    (case h_saLine => k_is)
    (case h_mkLine => k_is)
    (case h_kcLine => k_is)
    (case h_naLine_epoch => k_is)
    (case h_naLine_boot => k_is)
    (case h_naLine_state => k_is)
    (case h_naLine__to => k_is)
    (case h_naLine__body => k_is)
    (case h_cGuest => k_is)
    (case h_pgGuest => k_is)
    (case h_hdGuest => k_is)
    (case h_poGuest => k_is)
    (case h_saGuest => k_is)
    (case h_mkGuest => k_is)
    (case h_kcGuest => k_is)
    (case h_naGuest_epoch => k_is)
    (case h_naGuest_boot => k_is)
    (case h_naGuest__own => k_is)
    (case h_naGuest__body => k_is)
    (case h_naGuest__quiet => k_is)
    (case h_aRoomError_init => k_is)
    (case h_tiRoomError => k_is)
    (case h_lRoomError_init => k_is)
    (case h_cdRoomError_init => k_is)
    (case h_lcRoomError_init => k_is)
    (case h_vsRoomError_init => rfl)
    (case h_fiRoomError_init => first | rfl | decide +kernel)
    (case h_ccRoomError_init => k_is)
    (case h_czRoomError_init => k_is)
    (case h_msRoomError_init => k_is)
    (case h_suRoomError_init => k_is)
    (case h_anRoomError_init => k_is)
    (case h_spRoomError_init => ks_is)
    (case h_ivRoomError_init => k_is)
    (case h_tpRoomError_init => first | rfl | decide +kernel)
    (case h_aStateError_init => k_is)
    (case h_tiStateError => k_is)
    (case h_lStateError_init => k_is)
    (case h_cdStateError_init => k_is)
    (case h_lcStateError_init => k_is)
    (case h_vsStateError_init => rfl)
    (case h_fiStateError_init => first | rfl | decide +kernel)
    (case h_ccStateError_init => k_is)
    (case h_czStateError_init => k_is)
    (case h_msStateError_init => k_is)
    (case h_suStateError_init => k_is)
    (case h_anStateError_init => k_is)
    (case h_spStateError_init => ks_is)
    (case h_ivStateError_init => k_is)
    (case h_tpStateError_init => first | rfl | decide +kernel)
    (case h_aSender_init => k_is)
    (case h_iSender_init => k_is)
    (case h_lSender_init => k_is)
    (case h_cdSender_init => k_is)
    (case h_kSender_init => k_is)
    (case h_aSender_put => k_is)
    (case h_iSender_put => k_is)
    (case h_lSender_put => k_is)
    (case h_cdSender_put => k_is)
    (case h_kSender_put => k_is)
    (case h_aSender_numbered => k_is)
    (case h_iSender_numbered => k_is)
    (case h_lSender_numbered => k_is)
    (case h_cdSender_numbered => k_is)
    (case h_kSender_numbered => k_is)
    (case h_aSender_fresh => k_is)
    (case h_iSender_fresh => k_is)
    (case h_lSender_fresh => k_is)
    (case h_cdSender_fresh => k_is)
    (case h_kSender_fresh => k_is)
    (case h_aSender_again => k_is)
    (case h_iSender_again => k_is)
    (case h_lSender_again => k_is)
    (case h_cdSender_again => k_is)
    (case h_kSender_again => k_is)
    (case h_aSender_heard => k_is)
    (case h_iSender_heard => k_is)
    (case h_lSender_heard => k_is)
    (case h_cdSender_heard => k_is)
    (case h_kSender_heard => k_is)
    (case h_aInbox_init => k_is)
    (case h_iInbox_init => k_is)
    (case h_lInbox_init => k_is)
    (case h_cdInbox_init => k_is)
    (case h_kInbox_init => k_is)
    (case h_aInbox_take => k_is)
    (case h_iInbox_take => k_is)
    (case h_lInbox_take => k_is)
    (case h_cdInbox_take => k_is)
    (case h_kInbox_take => k_is)
    (case h_aBeat_init => k_is)
    (case h_iBeat_init => k_is)
    (case h_lBeat_init => k_is)
    (case h_cdBeat_init => k_is)
    (case h_kBeat_init => k_is)
    (case h_aBeat_start => k_is)
    (case h_iBeat_start => k_is)
    (case h_lBeat_start => k_is)
    (case h_cdBeat_start => k_is)
    (case h_kBeat_start => k_is)
    (case h_aBeat_stop => k_is)
    (case h_iBeat_stop => k_is)
    (case h_lBeat_stop => k_is)
    (case h_cdBeat_stop => k_is)
    (case h_kBeat_stop => k_is)
    (case h_aBeat_hurry => k_is)
    (case h_iBeat_hurry => k_is)
    (case h_lBeat_hurry => k_is)
    (case h_cdBeat_hurry => k_is)
    (case h_kBeat_hurry => k_is)
    (case h_aBeat_runs => k_is)
    (case h_iBeat_runs => k_is)
    (case h_lBeat_runs => k_is)
    (case h_cdBeat_runs => k_is)
    (case h_kBeat_runs => k_is)
    (case h_aBeat_due => k_is)
    (case h_iBeat_due => k_is)
    (case h_lBeat_due => k_is)
    (case h_cdBeat_due => k_is)
    (case h_kBeat_due => k_is)
    (case h_asegments_of => k_is)
    (case h_lsegments_of => k_is)
    (case h_cdsegments_of => k_is)
    (case h_ksegments_of => k_is)
    (case h_aBody_init => k_is)
    (case h_iBody_init => k_is)
    (case h_lBody_init => k_is)
    (case h_cdBody_init => k_is)
    (case h_kBody_init => k_is)
    (case h_aBody_says => k_is)
    (case h_iBody_says => k_is)
    (case h_lBody_says => k_is)
    (case h_cdBody_says => k_is)
    (case h_kBody_says => k_is)
    (case h_aBody_hears_ack => k_is)
    (case h_iBody_hears_ack => k_is)
    (case h_lBody_hears_ack => k_is)
    (case h_cdBody_hears_ack => k_is)
    (case h_kBody_hears_ack => k_is)
    (case h_aBody_hears => k_is)
    (case h_iBody_hears => k_is)
    (case h_lBody_hears => k_is)
    (case h_cdBody_hears => k_is)
    (case h_kBody_hears => k_is)
    (case h_aLine_init => k_is)
    (case h_iLine_init => k_is)
    (case h_lLine_init => k_is)
    (case h_cdLine_init => k_is)
    (case h_kLine_init => k_is)
    (case h_aLine_begin => k_is)
    (case h_iLine_begin => k_is)
    (case h_lLine_begin => k_is)
    (case h_cdLine_begin => k_is)
    (case h_kLine_begin => k_is)
    (case h_aLine_send => k_is)
    (case h_iLine_send => k_is)
    (case h_lLine_send => k_is)
    (case h_cdLine_send => k_is)
    (case h_kLine_send => k_is)
    (case h_aLine_says => k_is)
    (case h_iLine_says => k_is)
    (case h_lLine_says => k_is)
    (case h_cdLine_says => k_is)
    (case h_kLine_says => k_is)
    (case h_aLine_tick => k_is)
    (case h_iLine_tick => k_is)
    (case h_lLine_tick => k_is)
    (case h_cdLine_tick => k_is)
    (case h_kLine_tick => k_is)
    (case h_aLine_hears_answer => k_is)
    (case h_iLine_hears_answer => k_is)
    (case h_lLine_hears_answer => k_is)
    (case h_cdLine_hears_answer => k_is)
    (case h_kLine_hears_answer => k_is)
    (case h_aLine_take => k_is)
    (case h_iLine_take => k_is)
    (case h_lLine_take => k_is)
    (case h_cdLine_take => k_is)
    (case h_kLine_take => k_is)
    (case h_aGuest_init => k_is)
    (case h_iGuest_init => k_is)
    (case h_lGuest_init => k_is)
    (case h_cdGuest_init => k_is)
    (case h_kGuest_init => k_is)
    (case h_aGuest_send => k_is)
    (case h_iGuest_send => k_is)
    (case h_lGuest_send => k_is)
    (case h_cdGuest_send => k_is)
    (case h_kGuest_send => k_is)
    (case h_aGuest_tick => k_is)
    (case h_iGuest_tick => k_is)
    (case h_lGuest_tick => k_is)
    (case h_cdGuest_tick => k_is)
    (case h_kGuest_tick => k_is)
    (case h_aGuest_answers => k_is)
    (case h_iGuest_answers => k_is)
    (case h_lGuest_answers => k_is)
    (case h_cdGuest_answers => k_is)
    (case h_kGuest_answers => k_is)
    (case h_aGuest_take => k_is)
    (case h_iGuest_take => k_is)
    (case h_lGuest_take => k_is)
    (case h_cdGuest_take => k_is)
    (case h_kGuest_take => k_is)
    (case h_a_law_state => k_is)
    (case h_l_law_state => k_is)
    (case h_cd_law_state => k_is)
    (case h_k_law_state => k_is)
    (case h_a_law_draw => k_is)
    (case h_l_law_draw => k_is)
    (case h_cd_law_draw => k_is)
    (case h_k_law_draw => k_is)
    (case h_a_law_pick => k_is)
    (case h_l_law_pick => k_is)
    (case h_cd_law_pick => k_is)
    (case h_k_law_pick => k_is)
    (case h_a_law_body => k_is)
    (case h_l_law_body => k_is)
    (case h_cd_law_body => k_is)
    (case h_k_law_body => k_is)
    (case h_a_law_start => k_is)
    (case h_l_law_start => k_is)
    (case h_cd_law_start => k_is)
    (case h_k_law_start => k_is)
    (case h_a_law_due => k_is)
    (case h_l_law_due => k_is)
    (case h_cd_law_due => k_is)
    (case h_k_law_due => k_is)
    (case h_a_law_say => k_is)
    (case h_l_law_say => k_is)
    (case h_cd_law_say => k_is)
    (case h_k_law_say => k_is)
    (case h_a_law_hear => k_is)
    (case h_l_law_hear => k_is)
    (case h_cd_law_hear => k_is)
    (case h_k_law_hear => k_is)
    (case h_a_law_line_tick => k_is)
    (case h_l_law_line_tick => k_is)
    (case h_cd_law_line_tick => k_is)
    (case h_k_law_line_tick => k_is)
    (case h_a_law_line_take => k_is)
    (case h_l_law_line_take => k_is)
    (case h_cd_law_line_take => k_is)
    (case h_k_law_line_take => k_is)
    (case h_a_law_guest_take => k_is)
    (case h_l_law_guest_take => k_is)
    (case h_cd_law_guest_take => k_is)
    (case h_k_law_guest_take => k_is)
    (case h_a_law_begun => k_is)
    (case h_l_law_begun => k_is)
    (case h_cd_law_begun => k_is)
    (case h_k_law_begun => k_is)
    (case h_a_law_sent => k_is)
    (case h_l_law_sent => k_is)
    (case h_cd_law_sent => k_is)
    (case h_k_law_sent => k_is)
    (case h_a_law_segment => k_is)
    (case h_l_law_segment => k_is)
    (case h_cd_law_segment => k_is)
    (case h_k_law_segment => k_is)
    (case h_alaw => k_is)
    (case h_llaw => k_is)
    (case h_cdlaw => k_is)
    (case h_klaw => k_is)
    (case h_gMOST_MESSAGES => k_is)
    (case h_gWINDOW => k_is)
    (case h_gFIRST_WAIT => k_is)
    (case h_gLONGEST_WAIT => k_is)
    (case h_gCONTROLLER => k_is)
    (case h_gHOPS => k_is)
    (case h_gMOST_TRIES => k_is)
    (case h_blen => k_is)
    (case h_brange => k_is)
    (case h_bmin => k_is)
    (case h_babs => k_is)
    (case h_bint => k_is)
    (case h_bmax => k_is)
    (case h_bisinstance => k_is)
    (case h_bstr => k_is)
