import PyProof.Rows.All
import Wide.All
import OpenK.AllK
import Wide.FinOn
import HandS.ForMost
import HandS.Flow
import HandS.More
import HandS.IsInst
import HandS.Wide
import HandS.Style
import HandS.FStr
import HandS.Exc
import HandS.ExcInit
import HandS.ExcOwn
import HandS.ExcField
import HandS.ExcIs
import HandS.ClsMeth
import HandS.Codes
import HandS.TryOnly
import HandS.WordsExc
import KE.KExcIs
import KE.KIsAll
import KE.KExcSuper
import PySem.Challenge.RW_hangbridge_k05_windows_and_beats
set_option Elab.async false
set_option maxRecDepth 100000
set_option maxHeartbeats 4000000
/-! A heap as what stood and what is our own; steps of readings over it. -/
namespace Hb
open PySem L2

/-- B stood and is kept; L are our own objects, each once -/
structure Hs (B : Hp) (L : List (Addr × HO)) (H : Hp) : Prop where
  same : Same B H
  nd : (L.map (·.1)).Nodup
  out : ∀ e ∈ L, B e.1 = none
  at_ : ∀ e ∈ L, H e.1 = some e.2

section
variable {B H H' : Hp} {L R A : List (Addr × HO)} {p l : Addr} {o o' : HO} {i : Nat}
theorem Hs.start (H : Hp) : Hs H [] H := ⟨Same.refl H, List.nodup_nil, (fun _ h => nomatch h), (fun _ h => nomatch h)⟩
theorem Hs.of_same (h : Same B H) : Hs B [] H := ⟨h, List.nodup_nil, (fun _ h => nomatch h), (fun _ h => nomatch h)⟩
theorem Hs.get (hs : Hs B L H) (h : L[i]? = some (p, o)) : H p = some o := hs.at_ (p, o) (List.mem_of_getElem? h)
theorem Hs.mem (hs : Hs B L H) (h : (p, o) ∈ L) : H p = some o := hs.at_ (p, o) h
theorem Hs.g0 (hs : Hs B ((p, o) :: L) H) : H p = some o := hs.get (i := 0) rfl
theorem Hs.g1 {x} (hs : Hs B (x :: (p, o) :: L) H) : H p = some o := hs.get (i := 1) rfl
theorem Hs.g2 {x y} (hs : Hs B (x :: y :: (p, o) :: L) H) : H p = some o := hs.get (i := 2) rfl
theorem Hs.g3 {x y z} (hs : Hs B (x :: y :: z :: (p, o) :: L) H) : H p = some o := hs.get (i := 3) rfl
theorem Hs.g4 {x y z w} (hs : Hs B (x :: y :: z :: w :: (p, o) :: L) H) : H p = some o := hs.get (i := 4) rfl
theorem Hs.g5 {x y z w v} (hs : Hs B (x :: y :: z :: w :: v :: (p, o) :: L) H) : H p = some o := hs.get (i := 5) rfl
theorem Hs.g6 {x y z w v u} (hs : Hs B (x :: y :: z :: w :: v :: u :: (p, o) :: L) H) : H p = some o := hs.get (i := 6) rfl
theorem Hs.g7 {x y z w v u t} (hs : Hs B (x :: y :: z :: w :: v :: u :: t :: (p, o) :: L) H) : H p = some o := hs.get (i := 7) rfl
theorem Hs.g8 {x y z w v u t s} (hs : Hs B (x :: y :: z :: w :: v :: u :: t :: s :: (p, o) :: L) H) : H p = some o := hs.get (i := 8) rfl
theorem Hs.g9 {x y z w v u t s r} (hs : Hs B (x :: y :: z :: w :: v :: u :: t :: s :: r :: (p, o) :: L) H) : H p = some o := hs.get (i := 9) rfl
theorem Hs.g10 {x y z w v u t s r q} (hs : Hs B (x :: y :: z :: w :: v :: u :: t :: s :: r :: q :: (p, o) :: L) H) : H p = some o := hs.get (i := 10) rfl
theorem Hs.g11 {x y z w v u t s r q n} (hs : Hs B (x :: y :: z :: w :: v :: u :: t :: s :: r :: q :: n :: (p, o) :: L) H) : H p = some o := hs.get (i := 11) rfl
theorem Hs.g12 {x y z w v u t s r q n m} (hs : Hs B (x :: y :: z :: w :: v :: u :: t :: s :: r :: q :: n :: m :: (p, o) :: L) H) : H p = some o := hs.get (i := 12) rfl
theorem Hs.g13 {x y z w v u t s r q n m k} (hs : Hs B (x :: y :: z :: w :: v :: u :: t :: s :: r :: q :: n :: m :: k :: (p, o) :: L) H) : H p = some o := hs.get (i := 13) rfl
theorem Hs.g14 {x y z w v u t s r q n m k j} (hs : Hs B (x :: y :: z :: w :: v :: u :: t :: s :: r :: q :: n :: m :: k :: j :: (p, o) :: L) H) : H p = some o := hs.get (i := 14) rfl
theorem Hs.g15 {x y z w v u t s r q n m k j h} (hs : Hs B (x :: y :: z :: w :: v :: u :: t :: s :: r :: q :: n :: m :: k :: j :: h :: (p, o) :: L) H) : H p = some o := hs.get (i := 15) rfl
theorem Hs.sql {K : PySem.W.Frag} {xs : List V} (hs : Hs B L H) (h : SqL K B p xs) : SqL K H p xs := hs.same.seq h
theorem Hs.old (hs : Hs B L H) (h : B p = some o) : H p = some o := hs.same _ _ h
theorem Hs.fresh (hs : Hs B L H) (h : H p = none) : p ∉ L.map (·.1) := fun m => by
  obtain ⟨e, he, rfl⟩ := List.mem_map.mp m
  rw [hs.at_ e he] at h
  cases h
/-- a new object -/
theorem Hs.new (hs : Hs B L H) (h : H p = none) : Hs B ((p, o) :: L) (upd H p o) := by
  have hf := hs.fresh h
  refine ⟨fun b u e => ?_, ?_, fun e he => ?_, fun e he => ?_⟩
  · rw [upd_ne (ne_of_none (hs.same b u e) h)]
    exact hs.same b u e
  · rw [List.map_cons, List.nodup_cons]
    exact ⟨hf, hs.nd⟩
  · rcases List.mem_cons.mp he with rfl | he
    · exact hs.same.free h
    · exact hs.out e he
  · rcases List.mem_cons.mp he with rfl | he
    · exact upd_same
    · rw [upd_ne (ne_of_none (hs.at_ e he) h)]
      exact hs.at_ e he
theorem set_fst : ∀ {L : List (Addr × HO)} {i : Nat} {p : Addr} {o o' : HO}, L[i]? = some (p, o) → (L.set i (p, o')).map (·.1) = L.map (·.1)
  | [], _, _, _, _, h => by simp at h
  | x :: L, 0, p, o, o', h => by
    have e : x = (p, o) := by simpa using h
    subst e
    rfl
  | x :: L, i + 1, p, o, o', h => by
    have := set_fst (L := L) (i := i) (o' := o') (by simpa using h)
    show _ :: ((L.set i (p, o')).map (·.1)) = _ :: L.map (·.1)
    rw [this]
theorem nd_only : ∀ {L : List (Addr × HO)} {e : Addr × HO} {i : Nat} {p : Addr} {o o' : HO}, (L.map (·.1)).Nodup → L[i]? = some (p, o) → e ∈ L.set i (p, o') → e = (p, o') ∨ (e ∈ L ∧ e.1 ≠ p)
  | [], _, _, _, _, _, _, h, _ => by simp at h
  | x :: L, e, 0, p, o, o', nd, h, m => by
    have ex : x = (p, o) := by simpa using h
    subst ex
    rcases List.mem_cons.mp m with rfl | m
    · exact .inl rfl
    · refine .inr ⟨List.mem_cons_of_mem _ m, fun q => ?_⟩
      rw [List.map_cons, List.nodup_cons] at nd
      exact nd.1 (List.mem_map.mpr ⟨e, m, q⟩)
  | x :: L, e, i + 1, p, o, o', nd, h, m => by
    rw [List.map_cons, List.nodup_cons] at nd
    have h' : L[i]? = some (p, o) := by simpa using h
    rcases List.mem_cons.mp m with rfl | m
    · refine .inr ⟨List.mem_cons_self, fun q => ?_⟩
      exact nd.1 (List.mem_map.mpr ⟨(p, o), List.mem_of_getElem? h', q.symm⟩)
    · rcases nd_only nd.2 h' m with r | ⟨r, q⟩
      · exact .inl r
      · exact .inr ⟨List.mem_cons_of_mem _ r, q⟩
/-- a store to one's own object -/
theorem Hs.put (hs : Hs B L H) (h : L[i]? = some (p, o)) : Hs B (L.set i (p, o')) (upd H p o') := by
  have hp : B p = none := hs.out (p, o) (List.mem_of_getElem? h)
  refine ⟨fun b u e => ?_, ?_, fun e he => ?_, fun e he => ?_⟩
  · have n : b ≠ p := fun q => by
      rw [q, hp] at e
      cases e
    rw [upd_ne n]
    exact hs.same b u e
  · rw [set_fst h]
    exact hs.nd
  · rcases nd_only hs.nd h he with rfl | ⟨m, _⟩
    · exact hp
    · exact hs.out e m
  · rcases nd_only hs.nd h he with rfl | ⟨m, q⟩
    · exact upd_same
    · rw [upd_ne q]
      exact hs.at_ e m
theorem Hs.p0 (o' : HO) (hs : Hs B ((p, o) :: L) H) : Hs B ((p, o') :: L) (upd H p o') := hs.put (i := 0) rfl
theorem Hs.p1 (o' : HO) {x} (hs : Hs B (x :: (p, o) :: L) H) : Hs B (x :: (p, o') :: L) (upd H p o') := hs.put (i := 1) rfl
theorem Hs.p2 (o' : HO) {x y} (hs : Hs B (x :: y :: (p, o) :: L) H) : Hs B (x :: y :: (p, o') :: L) (upd H p o') := hs.put (i := 2) rfl
theorem Hs.p3 (o' : HO) {x y z} (hs : Hs B (x :: y :: z :: (p, o) :: L) H) : Hs B (x :: y :: z :: (p, o') :: L) (upd H p o') := hs.put (i := 3) rfl
theorem Hs.p4 (o' : HO) {x y z w} (hs : Hs B (x :: y :: z :: w :: (p, o) :: L) H) : Hs B (x :: y :: z :: w :: (p, o') :: L) (upd H p o') := hs.put (i := 4) rfl
theorem Hs.p5 (o' : HO) {x y z w v} (hs : Hs B (x :: y :: z :: w :: v :: (p, o) :: L) H) : Hs B (x :: y :: z :: w :: v :: (p, o') :: L) (upd H p o') := hs.put (i := 5) rfl
theorem Hs.p6 (o' : HO) {x y z w v u} (hs : Hs B (x :: y :: z :: w :: v :: u :: (p, o) :: L) H) : Hs B (x :: y :: z :: w :: v :: u :: (p, o') :: L) (upd H p o') := hs.put (i := 6) rfl
theorem Hs.p7 (o' : HO) {x y z w v u t} (hs : Hs B (x :: y :: z :: w :: v :: u :: t :: (p, o) :: L) H) : Hs B (x :: y :: z :: w :: v :: u :: t :: (p, o') :: L) (upd H p o') := hs.put (i := 7) rfl
/-- L with o' in the place of o at p -/
inductive Put : List (Addr × HO) → Addr → HO → HO → List (Addr × HO) → Prop
  | here {p : Addr} {o o' : HO} {L : List (Addr × HO)} : Put ((p, o) :: L) p o o' ((p, o') :: L)
  | there {p : Addr} {o o' : HO} {x : Addr × HO} {L L' : List (Addr × HO)} : Put L p o o' L' → Put (x :: L) p o o' (x :: L')
theorem Put.ix {L' : List (Addr × HO)} (h : Put L p o o' L') : ∃ i : Nat, L[i]? = some (p, o) ∧ L' = L.set i (p, o') := by
  induction h with
  | here => exact ⟨0, rfl, rfl⟩
  | there _ ih =>
    obtain ⟨i, h1, h2⟩ := ih
    exact ⟨i + 1, by simpa using h1, by rw [h2]; rfl⟩
theorem Hs.puts {L' : List (Addr × HO)} (hs : Hs B L H) (h : Put L p o o' L') : Hs B L' (upd H p o') := by
  obtain ⟨i, h1, rfl⟩ := h.ix
  exact hs.put h1
theorem Hs.gets {L' : List (Addr × HO)} (hs : Hs B L H) (h : Put L p o o' L') : H p = some o := by
  obtain ⟨i, h1, _⟩ := h.ix
  exact hs.get h1
/-- any part of our own, in any order -/
theorem Hs.sub (hs : Hs B L H) (h : R.Sublist L) : Hs B R H :=
  ⟨hs.same, hs.nd.sublist (h.map _), fun e he => hs.out e (h.subset he), fun e he => hs.at_ e (h.subset he)⟩
theorem Hs.perm (hs : Hs B L H) (h : R.Perm L) : Hs B R H :=
  ⟨hs.same, (h.map (·.1)).nodup_iff.mpr hs.nd, fun e he => hs.out e (h.subset he), fun e he => hs.at_ e (h.subset he)⟩
theorem Hs.tl {x} (hs : Hs B (x :: L) H) : Hs B L H := hs.sub (List.sublist_cons_self _ _)
/-- the i-th ahead -/
theorem up_perm : ∀ {L : List (Addr × HO)} {i : Nat} {x : Addr × HO}, L[i]? = some x → (x :: L.eraseIdx i).Perm L
  | [], _, _, h => by simp at h
  | y :: L, 0, x, h => by
    have e : y = x := by simpa using h
    subst e
    exact .refl _
  | y :: L, i + 1, x, h => (List.Perm.swap y x _).trans ((up_perm (L := L) (i := i) (by simpa using h)).cons y)
theorem Hs.up (i : Nat) (hs : Hs B L H) {x} (h : L[i]? = some x := by rfl) : Hs B (x :: L.eraseIdx i) H := by
  exact hs.perm (up_perm h)
theorem Hs.del (i : Nat) (hs : Hs B L H) : Hs B (L.eraseIdx i) H := hs.sub (List.eraseIdx_sublist _ _)
theorem Hs.m1 {a b} (hs : Hs B (a :: b :: L) H) : Hs B (b :: a :: L) H := hs.up 1
theorem Hs.m2 {a b c} (hs : Hs B (a :: b :: c :: L) H) : Hs B (c :: a :: b :: L) H := hs.up 2
theorem Hs.m3 {a b c d} (hs : Hs B (a :: b :: c :: d :: L) H) : Hs B (d :: a :: b :: c :: L) H := hs.up 3
theorem Hs.m4 {a b c d e} (hs : Hs B (a :: b :: c :: d :: e :: L) H) : Hs B (e :: a :: b :: c :: d :: L) H := hs.up 4
theorem Hs.m5 {a b c d e f} (hs : Hs B (a :: b :: c :: d :: e :: f :: L) H) : Hs B (f :: a :: b :: c :: d :: e :: L) H := hs.up 5
theorem Hs.m6 {a b c d e f g} (hs : Hs B (a :: b :: c :: d :: e :: f :: g :: L) H) : Hs B (g :: a :: b :: c :: d :: e :: f :: L) H := hs.up 6
theorem Hs.m7 {a b c d e f g h} (hs : Hs B (a :: b :: c :: d :: e :: f :: g :: h :: L) H) : Hs B (h :: a :: b :: c :: d :: e :: f :: g :: L) H := hs.up 7
theorem Hs.d1 {a b} (hs : Hs B (a :: b :: L) H) : Hs B (a :: L) H := hs.del 1
theorem Hs.d2 {a b c} (hs : Hs B (a :: b :: c :: L) H) : Hs B (a :: b :: L) H := hs.del 2
theorem Hs.d3 {a b c d} (hs : Hs B (a :: b :: c :: d :: L) H) : Hs B (a :: b :: c :: L) H := hs.del 3
theorem Hs.d4 {a b c d e} (hs : Hs B (a :: b :: c :: d :: e :: L) H) : Hs B (a :: b :: c :: d :: L) H := hs.del 4
theorem Hs.d5 {a b c d e f} (hs : Hs B (a :: b :: c :: d :: e :: f :: L) H) : Hs B (a :: b :: c :: d :: e :: L) H := hs.del 5
theorem Hs.d6 {a b c d e f g} (hs : Hs B (a :: b :: c :: d :: e :: f :: g :: L) H) : Hs B (a :: b :: c :: d :: e :: f :: L) H := hs.del 6
theorem sel_mem {idx : List Nat} {e : Addr × HO} (h : e ∈ idx.filterMap (fun i => L[i]?)) : ∃ i ∈ idx, L[i]? = some e := by
  obtain ⟨i, hi, e⟩ := List.mem_filterMap.mp h
  exact ⟨i, hi, e⟩
theorem sel_nd (nd : (L.map (·.1)).Nodup) : ∀ {idx : List Nat}, idx.Nodup → ((idx.filterMap (fun i => L[i]?)).map (·.1)).Nodup
  | [], _ => List.nodup_nil
  | i :: idx, h => by
    rw [List.nodup_cons] at h
    rw [List.filterMap_cons]
    cases e : L[i]? with
    | none => exact sel_nd nd h.2
    | some x =>
      rw [List.map_cons, List.nodup_cons]
      refine ⟨fun m => ?_, sel_nd nd h.2⟩
      obtain ⟨y, hy, q⟩ := List.mem_map.mp m
      obtain ⟨j, hj, ej⟩ := sel_mem hy
      have a : (L.map (·.1))[i]? = some x.1 := by rw [List.getElem?_map, e]; rfl
      have b : (L.map (·.1))[j]? = some x.1 := by rw [List.getElem?_map, ej]; exact congrArg some q
      rw [nd_ix nd a b] at h
      exact h.1 hj
/-- some of our own, by places -/
theorem Hs.sel (hs : Hs B L H) (idx : List Nat) (h : idx.Nodup := by decide) : Hs B (idx.filterMap (fun i => L[i]?)) H :=
  ⟨hs.same, sel_nd hs.nd h, fun e he => by
    obtain ⟨i, _, q⟩ := sel_mem he
    exact hs.out e (List.mem_of_getElem? q), fun e he => by
    obtain ⟨i, _, q⟩ := sel_mem he
    exact hs.at_ e (List.mem_of_getElem? q)⟩
/-- a callee that owns A; what else is ours stands for it -/
def around (A : List (Addr × HO)) (H : Hp) : Hp := fun a => if a ∈ A.map (·.1) then none else H a
theorem around_out {a : Addr} (h : a ∉ A.map (·.1)) : around A H a = H a := if_neg h
theorem Hs.frame (A : List (Addr × HO)) (hs : Hs B (A ++ R) H) : Same B (around A H) ∧ Hs (around A H) A H ∧ ∀ A' H', Hs (around A H) A' H' → Hs B (A' ++ R) H' := by
  have nd := hs.nd
  rw [List.map_append, List.nodup_append] at nd
  obtain ⟨n1, n2, n3⟩ := nd
  have sb : Same B (around A H) := fun b u e => by
    rw [around_out fun m => ?_]
    · exact hs.same b u e
    · obtain ⟨z, hz, rfl⟩ := List.mem_map.mp m
      rw [hs.out z (List.mem_append_left _ hz)] at e
      cases e
  refine ⟨sb, ⟨fun b u e => ?_, n1, fun e he => if_pos (List.mem_map.mpr ⟨e, he, rfl⟩), fun e he => hs.at_ e (List.mem_append_left _ he)⟩, fun A' H' h => ?_⟩
  · unfold around at e
    split at e
    · cases e
    · exact e
  · have fr : ∀ e ∈ R, around A H e.1 = some e.2 := fun e he => by
      rw [around_out fun m => n3 _ m _ (List.mem_map.mpr ⟨e, he, rfl⟩) rfl]
      exact hs.at_ e (List.mem_append_right _ he)
    refine ⟨fun b u e => h.same b u (sb b u e), ?_, fun e he => ?_, fun e he => ?_⟩
    · rw [List.map_append, List.nodup_append]
      refine ⟨h.nd, n2, fun a ha b hb q => ?_⟩
      subst q
      obtain ⟨x, hx, rfl⟩ := List.mem_map.mp ha
      obtain ⟨y, hy, q⟩ := List.mem_map.mp hb
      have h1 := h.out x hx
      have h2 := fr y hy
      rw [q, h1] at h2
      cases h2
    · rcases List.mem_append.mp he with he | he
      · exact sb.free (h.out e he)
      · exact hs.out e (List.mem_append_right _ he)
    · rcases List.mem_append.mp he with he | he
      · exact h.at_ e he
      · exact h.same _ _ (fr e he)
theorem Hs.frame1 {x} (hs : Hs B (x :: R) H) : ∃ B', Same B B' ∧ Hs B' [x] H ∧ ∀ A' H', Hs B' A' H' → Hs B (A' ++ R) H' := ⟨_, hs.frame [x]⟩
theorem Hs.frame2 {x y} (hs : Hs B (x :: y :: R) H) : ∃ B', Same B B' ∧ Hs B' [x, y] H ∧ ∀ A' H', Hs B' A' H' → Hs B (A' ++ R) H' := ⟨_, hs.frame [x, y]⟩
theorem Hs.frame3 {x y z} (hs : Hs B (x :: y :: z :: R) H) : ∃ B', Same B B' ∧ Hs B' [x, y, z] H ∧ ∀ A' H', Hs B' A' H' → Hs B (A' ++ R) H' := ⟨_, hs.frame [x, y, z]⟩
theorem Hs.frame4 {x y z w} (hs : Hs B (x :: y :: z :: w :: R) H) : ∃ B', Same B B' ∧ Hs B' [x, y, z, w] H ∧ ∀ A' H', Hs B' A' H' → Hs B (A' ++ R) H' := ⟨_, hs.frame [x, y, z, w]⟩
theorem Hs.frame5 {x y z w v} (hs : Hs B (x :: y :: z :: w :: v :: R) H) : ∃ B', Same B B' ∧ Hs B' [x, y, z, w, v] H ∧ ∀ A' H', Hs B' A' H' → Hs B (A' ++ R) H' := ⟨_, hs.frame [x, y, z, w, v]⟩
theorem Hs.frame6 {x y z w v u} (hs : Hs B (x :: y :: z :: w :: v :: u :: R) H) : ∃ B', Same B B' ∧ Hs B' [x, y, z, w, v, u] H ∧ ∀ A' H', Hs B' A' H' → Hs B (A' ++ R) H' := ⟨_, hs.frame [x, y, z, w, v, u]⟩
/-- a callee that only makes objects -/
theorem Hs.add {N : List (Addr × HO)} (hs : Hs B L H) (h : Hs H N H') : Hs B (N ++ L) H' := by
  refine ⟨fun b u e => h.same b u (hs.same b u e), ?_, fun e he => ?_, fun e he => ?_⟩
  · rw [List.map_append, List.nodup_append]
    refine ⟨h.nd, hs.nd, fun a ha b hb q => ?_⟩
    subst q
    obtain ⟨x, hx, rfl⟩ := List.mem_map.mp ha
    obtain ⟨y, hy, q⟩ := List.mem_map.mp hb
    have h1 := h.out x hx
    have h2 := hs.at_ y hy
    rw [q, h1] at h2
    cases h2
  · rcases List.mem_append.mp he with he | he
    · exact hs.same.free (h.out e he)
    · exact hs.out e he
  · rcases List.mem_append.mp he with he | he
    · exact h.at_ e he
    · exact h.same _ _ (hs.at_ e he)
/-- a new object that nobody changes any more: it stands -/
theorem Hs.freeze (hs : Hs B ((p, o) :: L) H) : Same B (upd B p o) ∧ Hs (upd B p o) L H := by
  have hp := hs.out (p, o) List.mem_cons_self
  have nd := hs.nd
  rw [List.map_cons, List.nodup_cons] at nd
  refine ⟨fun b u e => ?_, ⟨fun b u e => ?_, nd.2, fun e he => ?_, fun e he => hs.at_ e (List.mem_cons_of_mem _ he)⟩⟩
  · rw [upd_ne (ne_of_none e hp)]
    exact e
  · unfold upd at e
    split at e
    · next q =>
      subst q
      cases e
      exact hs.g0
    · exact hs.same b u e
  · have n : e.1 ≠ p := fun q => nd.1 (by rw [← q]; exact List.mem_map.mpr ⟨e, he, rfl⟩)
    rw [upd_ne n]
    exact hs.out e (List.mem_cons_of_mem _ he)
end

/-! ### steps: a reading's head, what is left -/
section
variable {K : PySem.W.Frag} {σ : St} {H : Hp} {Q : VK} {D : Ends} {ta tb tc te tv to ti : TE} {t u tr : TS} {c d : TT} {r r' : R2} {g : TG} {i : Nat} {v x y : V} {E : XK} {ts : TA} {f m : Str} {p : Addr}
theorem w_var (h : σ[i]? = some (some v)) (q : Q v H) : tVar i σ H Q := ⟨v, h, q⟩
theorem w_c (q : Q v H) : tC v σ H Q := q
theorem w_seq (q : t { D with nx := u D } σ H) : tSeq t u D σ H := q
theorem w_next (q : D.nx σ H) : tNext D σ H := q
theorem w_brk (q : D.bk σ H) : tBreak D σ H := q
theorem w_cont (q : D.ct σ H) : tCont D σ H := q
theorem w_drop (q : te σ H fun _ H1 => D.nx σ H1) : tDrop te D σ H := q
theorem w_ret (q : te σ H D.rt) : tRet te D σ H := q
theorem w_retN (q : D.rt .non H) : tRetN D σ H := q
theorem w_asg (q : te σ H fun x H1 => g x σ H1 D.nx) : tAsg te g D σ H := q
theorem w_name {Q : St → Hp → Prop} (q : Q (σ.set i (some v)) H) : gName i v σ H Q := q
theorem w_if (q : c σ H fun b H1 => if b = true then t D σ H1 else u D σ H1) : tIfS c t u D σ H := q
theorem w_test {Q : Bool → Hp → Prop} (q : te σ H fun x H1 => ∃ k, x = .bl k ∧ Q k H1) : tTest te σ H Q := q
theorem w_B {Q : Bool → Hp → Prop} (q : te σ H fun x H1 => ∃ k, x = .bl k ∧ Q k H1) : tB te σ H Q := q
theorem w_exb {b : Bool} {P : Bool → Prop} (q : P b) : ∃ k, V.bl b = .bl k ∧ P k := ⟨b, rfl, q⟩
theorem w_not {Q : Bool → Hp → Prop} (q : c σ H fun b H1 => Q (!b) H1) : tNot c σ H Q := q
theorem w_and {Q : Bool → Hp → Prop} (q : c σ H fun b H1 => if b = true then d σ H1 Q else Q false H1) : tAnd c d σ H Q := q
theorem w_or {Q : Bool → Hp → Prop} (q : c σ H fun b H1 => if b = true then Q true H1 else d σ H1 Q) : tOr c d σ H Q := q
theorem w_andV (q : ta σ H fun x H1 => ∃ k, x = .bl k ∧ if k = true then tb σ H1 Q else Q (.bl false) H1) : tAndV ta tb σ H Q := q
theorem w_orV (q : ta σ H fun x H1 => ∃ k, x = .bl k ∧ if k = true then Q (.bl true) H1 else tb σ H1 Q) : tOrV ta tb σ H Q := q
theorem w_notV (q : ta σ H fun x H1 => ∃ k, x = .bl k ∧ Q (.bl (!k)) H1) : tNotV ta σ H Q := q
theorem w_ifE (q : c σ H fun b H1 => if b = true then ta σ H1 Q else tb σ H1 Q) : tIf c ta tb σ H Q := q
theorem w_op (q : ta σ H fun x H1 => tb σ H1 fun y H2 => r x y H2 Q) : tOp r ta tb σ H Q := q
theorem w_un {r : V → Hp → VK → Prop} (q : ta σ H fun x H1 => r x H1 Q) : tUn r ta σ H Q := q
theorem w_chain (q : ta σ H fun x H1 => tb σ H1 fun y H2 => r x y H2 fun z H3 => ∃ k, z = .bl k ∧ if k = true then tc σ H3 fun w H4 => r' y w H4 Q else Q (.bl false) H3) : tChain r r' ta tb tc σ H Q := q
theorem w_I0 {g : Int → Int → V} {a b : Int} (q : Q (g a b) H) : rI0 g (.int a) (.int b) H Q := ⟨a, b, rfl, rfl, q⟩
theorem w_I {C : Int → Int → Prop} {g : Int → Int → V} {a b : Int} (h : C a b) (q : Q (g a b) H) : rI C g (.int a) (.int b) H Q := ⟨a, b, rfl, rfl, h, q⟩
theorem w_U {g : Int → V} {a : Int} (q : Q (g a) H) : rU g (.int a) H Q := ⟨a, rfl, q⟩
theorem w_eqI {a b : Int} (q : Q (.bl (decide (a = b))) H) : rEq (.int a) (.int b) H Q := ⟨rfl, by
  have e : decide (V.int a = V.int b) = decide (a = b) := by
    rw [dec_int]
    by_cases h : a = b
    · rw [decide_eq_true h]
      exact beq_iff_eq.mpr h
    · rw [decide_eq_false h]
      exact beq_eq_false_iff_ne.mpr h
  rw [e]
  exact q⟩
theorem w_neI {a b : Int} (q : Q (.bl (!decide (a = b))) H) : rNe (.int a) (.int b) H Q := ⟨rfl, by
  have e : decide (V.int a = V.int b) = decide (a = b) := by
    rw [dec_int]
    by_cases h : a = b
    · rw [decide_eq_true h]
      exact beq_iff_eq.mpr h
    · rw [decide_eq_false h]
      exact beq_eq_false_iff_ne.mpr h
  rw [e]
  exact q⟩
theorem w_eq (h : scal x y = true) (q : Q (.bl (decide (x = y))) H) : rEq x y H Q := ⟨h, q⟩
theorem w_ne (h : scal x y = true) (q : Q (.bl (!decide (x = y))) H) : rNe x y H Q := ⟨h, q⟩
theorem w_ixL {xs : List V} {j : Int} (h : SqL K H p xs) (a : atI xs j = some v) (q : Q v H) : rIxL K (.ref p) (.int j) H Q := ⟨p, xs, j, v, rfl, rfl, h, a, q⟩
theorem w_ixT {xs : List V} {j : Int} (h : SqT K H p xs) (a : atI xs j = some v) (q : Q v H) : rIxT K (.ref p) (.int j) H Q := ⟨p, xs, j, v, rfl, rfl, h, a, q⟩
theorem at0 {x : V} {xs : List V} : atI (x :: xs) 0 = some x := at_of (j := 0) rfl rfl
theorem at1 {x y : V} {xs : List V} : atI (x :: y :: xs) 1 = some y := at_of (j := 1) rfl rfl
theorem at2 {x y z : V} {xs : List V} : atI (x :: y :: z :: xs) 2 = some z := at_of (j := 2) rfl rfl
theorem at3 {x y z u : V} {xs : List V} : atI (x :: y :: z :: u :: xs) 3 = some u := at_of (j := 3) rfl rfl
/-- a field's value -/
def Fl (K : PySem.W.Frag) (f : Str) (x : V) (H : Hp) (Q : VK) : Prop := ∃ a C dx fs v, x = .ref a ∧ H a = some (.ins C dx fs) ∧ Cls K C ∧ NoAttr K C f ∧ fs.lookup f = some v ∧ Q v H
theorem w_fld (q : ta σ H fun x H1 => Fl K f x H1 Q) : tFld K ta f σ H Q := q
theorem w_fl {C dx : Addr} {fs : List (Str × V)} (h : H p = some (.ins C dx fs)) (hc : Cls K C) (hn : NoAttr K C f) (hl : fs.lookup f = some v) (q : Q v H) : Fl K f (.ref p) H Q := ⟨p, C, dx, fs, v, rfl, h, hc, hn, hl, q⟩
/-- a field's store -/
def Fs (K : PySem.W.Frag) (f : Str) (y x : V) (H : Hp) (R : Hp → Prop) : Prop := ∃ a C dx fs, x = .ref a ∧ H a = some (.ins C dx fs) ∧ Cls K C ∧ NoAttr K C f ∧ fs.length < 1000 ∧ R (upd H a (.ins C dx (putF f y fs)))
theorem w_sfld (q : tv σ H fun y H1 => ta σ H1 fun x H2 => Fs K f y x H2 (D.nx σ)) : sFld K ta tv f D σ H := q
theorem w_fs {R : Hp → Prop} {C dx : Addr} {fs : List (Str × V)} (h : H p = some (.ins C dx fs)) (hc : Cls K C) (hn : NoAttr K C f) (hl : fs.length < 1000) (q : R (upd H p (.ins C dx (putF f y fs)))) : Fs K f y (.ref p) H R := ⟨p, C, dx, fs, rfl, h, hc, hn, hl, q⟩
theorem lk0 {k : Str} {v : V} {r : List (Str × V)} : ((k, v) :: r).lookup k = some v := by simp [List.lookup]
theorem lk1 {k k' : Str} {v w : V} {r : List (Str × V)} (h : ¬ k = k') (q : r.lookup k = some w) : ((k', v) :: r).lookup k = some w := by
  have e : (k == k') = false := beq_eq_false_iff_ne.mpr h
  show (match k == k' with | true => some v | false => List.lookup k r) = some w
  rw [e]
  exact q
theorem lkn {k k' : Str} {v : V} {r : List (Str × V)} (h : ¬ k = k') (q : r.lookup k = none) : ((k', v) :: r).lookup k = none := by
  have e : (k == k') = false := beq_eq_false_iff_ne.mpr h
  show (match k == k' with | true => some v | false => List.lookup k r) = none
  rw [e]
  exact q
theorem lke {k : Str} : ([] : List (Str × V)).lookup k = none := rfl
theorem pu0 {k : Str} {v w : V} {r : List (Str × V)} : putF k w ((k, v) :: r) = (k, w) :: r := by
  show (if k = k then _ else _) = _
  rw [if_pos rfl]
theorem pu1 {k k' : Str} {v w : V} {r : List (Str × V)} (h : ¬ k' = k) : putF k w ((k', v) :: r) = (k', v) :: putF k w r := by
  show (if k' = k then _ else _) = _
  rw [if_neg h]
theorem pu2 {k k' : Str} {v w : V} {r r' : List (Str × V)} (h : ¬ k' = k) (q : putF k w r = r') : putF k w ((k', v) :: r) = (k', v) :: r' := by
  rw [pu1 h, q]
theorem pue {k : Str} {w : V} : putF k w [] = [(k, w)] := rfl
theorem w_yes {Q : Bool → Hp → Prop} (q : Q true H) : tYes σ H Q := q
theorem w_nil {Q : List V → Hp → Prop} (q : Q [] H) : tNil σ H Q := q
theorem w_cons {Q : List V → Hp → Prop} (q : ta σ H fun x H1 => ts σ H1 fun xs H2 => Q (x :: xs) H2) : tCons ta ts σ H Q := q
theorem w_cb {r : List V → Hp → VK → Prop} (q : ts σ H fun vs H1 => r vs H1 Q) : tCB r ts σ H Q := q
theorem w_call {sp : Sp} {dvs : List V} (q : ts σ H fun vs H1 => sp (vs ++ dvs) H1 Q E) : tCall sp dvs E ts σ H Q := q
/-- a new instance -/
def Mkr (C : Addr) (sp : Sp) (vs : List V) (E : XK) (Q : VK) (H : Hp) : Prop := ∀ x dx, H x = none → H dx = none → dx ≠ x → sp (.ref x :: vs) (upd (upd H dx (.own x)) x (.ins C dx [])) (fun v H2 => v = .non ∧ Q (.ref x) H2) E
theorem w_make {C : Addr} {sp : Sp} {dvs : List V} (q : ts σ H fun vs H1 => Mkr C sp (vs ++ dvs) E Q H1) : tMake C sp dvs E ts σ H Q := q
theorem w_mkr {C : Addr} {sp : Sp} {vs : List V} {B : Hp} {L : List (Addr × HO)} (hs : Hs B L H) (q : ∀ x dx H', Hs B ((x, .ins C dx []) :: L) H' → sp (.ref x :: vs) H' (fun v H2 => v = .non ∧ Q (.ref x) H2) E) : Mkr C sp vs E Q H := fun x dx hx hd ne =>
  q x dx _ ((hs.new hd).new (p := x) (by rw [upd_ne ne.symm]; exact hx)).d1
/-- an own method's receiver -/
def Rc (m : Str) (C : Addr) (x : V) (H : Hp) (R : Prop) : Prop := ∃ a dx fs, x = .ref a ∧ H a = some (.ins C dx fs) ∧ fs.lookup m = none ∧ R
theorem w_meth {C : Addr} {sp : Sp} {dvs : List V} (q : ta σ H fun x H1 => Rc m C x H1 (ts σ H1 fun vs H2 => sp (x :: (vs ++ dvs)) H2 Q E)) : tMeth C m sp dvs E ta ts σ H Q := by
  revert q
  unfold tMeth Rc
  exact id
theorem w_rc {C dx : Addr} {fs : List (Str × V)} {R : Prop} (h : H p = some (.ins C dx fs)) (hl : fs.lookup m = none) (q : R) : Rc m C (.ref p) H R := ⟨p, dx, fs, rfl, h, hl, q⟩
theorem w_bm {T : String} {r : V → List V → Hp → VK → Prop} (q : to σ H fun x H1 => tyV K T x H1 ∧ ts σ H1 fun xs H2 => r x xs H2 Q) : tBM K T r to ts σ H Q := q
theorem w_bm0 {T : String} {r : V → List V → Hp → VK → Prop} (q : to σ H fun x H1 => tyV K T x H1 ∧ r x [] H1 Q) : tBM0 K T r to σ H Q := q
theorem w_tyL {xs : List V} {R : Prop} (h : SqL K H p xs) (q : R) : tyV K "list" (.ref p) H ∧ R := ⟨.inl ⟨rfl, _, h⟩, q⟩
theorem w_tyS {s : Str} {R : Prop} (q : R) : tyV K "str" (.str s) H ∧ R := ⟨rfl, q⟩
/-- a new list, a new tuple -/
def NewL (Q : VK) (xs : List V) (H : Hp) : Prop := xs.length ≤ sizeLine ∧ ∀ p, H p = none → Q (.ref p) (upd H p (.lst xs))
def NewT (Q : VK) (xs : List V) (H : Hp) : Prop := xs.length ≤ sizeLine ∧ ∀ p, H p = none → Q (.ref p) (upd H p (.tup xs))
theorem w_tup (q : ts σ H fun xs H1 => NewT Q xs H1) : tTup ts σ H Q := q
theorem w_lst (q : ts σ H fun xs H1 => NewL Q xs H1) : tLst ts σ H Q := q
theorem w_new {B : Hp} {L : List (Addr × HO)} {o : HO} (hs : Hs B L H) (q : ∀ p H', Hs B ((p, o) :: L) H' → Q (.ref p) H') : ∀ p, H p = none → Q (.ref p) (upd H p o) := fun p hp => q p _ (hs.new hp)
theorem w_newL {B : Hp} {L : List (Addr × HO)} {xs : List V} (hs : Hs B L H) (hl : xs.length ≤ sizeLine) (q : ∀ p H', Hs B ((p, .lst xs) :: L) H' → Q (.ref p) H') : NewL Q xs H := ⟨hl, w_new hs q⟩
theorem w_newT {B : Hp} {L : List (Addr × HO)} {xs : List V} (hs : Hs B L H) (hl : xs.length ≤ sizeLine) (q : ∀ p H', Hs B ((p, .tup xs) :: L) H' → Q (.ref p) H') : NewT Q xs H := ⟨hl, w_new hs q⟩
theorem w_sl {r : V → Option Int → Option Int → Hp → VK → Prop} {tl th : TO} (q : te σ H fun x H1 => tl σ H1 fun l H2 => th σ H2 fun u H3 => r x l u H3 Q) : tSl r te tl th σ H Q := q
theorem w_noPart {Q : Option Int → Hp → Prop} (q : Q none H) : tNoPart σ H Q := q
theorem w_part {Q : Option Int → Hp → Prop} (q : te σ H fun x H1 => ∃ i, x = .int i ∧ Q (some i) H1) : tPart te σ H Q := q
theorem w_exi {b : Int} {P : Int → Prop} (q : P b) : ∃ k, V.int b = .int k ∧ P k := ⟨b, rfl, q⟩
theorem w_slL {B : Hp} {L : List (Addr × HO)} {xs : List V} {lo hi : Option Int} (hs : Hs B L H) (h : SqL K H p xs) (q : ∀ l H', Hs B ((l, .lst (cutV xs lo hi)) :: L) H' → Q (.ref l) H') : rSlL K (.ref p) lo hi H Q := ⟨p, xs, rfl, h, w_new hs q⟩
theorem w_cat {B : Hp} {L : List (Addr × HO)} {a b : Addr} {xs ys : List V} (hs : Hs B L H) (ha : H a = some (.lst xs)) (hb : H b = some (.lst ys)) (hl : xs.length + ys.length ≤ sizeLine) (q : ∀ l H', Hs B ((l, .lst (xs ++ ys)) :: L) H' → Q (.ref l) H') : rCat (.ref a) (.ref b) H Q :=
  ⟨a, b, xs, ys, rfl, rfl, ha, hb, hl, w_new hs q⟩
/-! #### calls of built-ins -/
def rLen (K : PySem.W.Frag) : List V → Hp → VK → Prop := fun xs H Q => ∃ p ys, xs = [.ref p] ∧ (SqL K H p ys ∨ SqT K H p ys) ∧ Q (.int ys.length) H
theorem call_lenQ {X : Cx} : CallR X (.builtin "len") (rLen X.K) := call_len_seq
theorem w_len {xs : List V} (h : SqL K H p xs) (q : Q (.int xs.length) H) : rLen K [.ref p] H Q := ⟨p, xs, rfl, .inl h, q⟩
theorem w_lenT {xs : List V} (h : SqT K H p xs) (q : Q (.int xs.length) H) : rLen K [.ref p] H Q := ⟨p, xs, rfl, .inr h, q⟩
def rAbs : List V → Hp → VK → Prop := fun xs H Q => ∃ i, xs = [.int i] ∧ Q (.int (if i < 0 then -i else i)) H
theorem call_absQ {X : Cx} : CallR X (.builtin "abs") rAbs := call_abs
theorem w_abs {a : Int} (q : Q (.int (if a < 0 then -a else a)) H) : rAbs [.int a] H Q := ⟨a, rfl, q⟩
def rInt : List V → Hp → VK → Prop := fun xs H Q => (∃ i, xs = [.int i] ∧ Q (.int i) H) ∨ ∃ k, xs = [.bl k] ∧ Q (.int (if k then 1 else 0)) H
theorem call_intQ {X : Cx} : CallR X (.type "int") rInt := call_int1
theorem w_int {a : Int} (q : Q (.int a) H) : rInt [.int a] H Q := .inl ⟨a, rfl, q⟩
theorem w_intB {b : Bool} (q : Q (.int (if b then 1 else 0)) H) : rInt [.bl b] H Q := .inr ⟨b, rfl, q⟩
def rStr : List V → Hp → VK → Prop := fun xs H Q => ∃ i, xs = [.int i] ∧ i.natAbs.log2 < 1920 ∧ Q (.str (toString i)) H
theorem call_strQ {X : Cx} : CallR X (.type "str") rStr := call_str_int
theorem w_str {a : Int} (h : a.natAbs < 2 ^ 64) (q : Q (.str (toString a)) H) : rStr [.int a] H Q := ⟨a, rfl, Nat.lt_of_lt_of_le (PySem.Flt.log2_lt_of (by decide) h) (by decide), q⟩
def rAddS : R2 := fun x y H Q => ∃ i j, x = .str i ∧ y = .str j ∧ i.length + j.length ≤ sizeLine ∧ Q (.str (i ++ j)) H
theorem op_addS {X : Cx} : OpR X (binaryOp .Add) rAddS := op_add_str
theorem w_addS {a b : Str} (h : a.length + b.length ≤ sizeLine) (q : Q (.str (a ++ b)) H) : rAddS (.str a) (.str b) H Q := ⟨a, b, rfl, rfl, h, q⟩
/-! #### methods of lists -/
section
variable {B : Hp} {L L' : List (Addr × HO)} {l : Addr} {xs : List V}
theorem w_app (hs : Hs B L H) (h : Put L l (.lst xs) (.lst (xs ++ [y])) L') (hl : xs.length < sizeLine) (q : ∀ H', Hs B L' H' → Q .non H') : rAppend (.ref l) [y] H Q := ⟨l, xs, y, rfl, rfl, hs.gets h, hl, q _ (hs.puts h)⟩
theorem w_clear (hs : Hs B L H) (h : Put L l (.lst xs) (.lst []) L') (q : ∀ H', Hs B L' H' → Q .non H') : rClear (.ref l) [] H Q := ⟨l, xs, rfl, rfl, hs.gets h, q _ (hs.puts h)⟩
theorem six_nat {n k : Nat} {j : Int} (e : j = (k : Int)) (h : k < n) : seqIndex? j n = some k := by
  subst e
  unfold seqIndex?
  have h1 : ¬ (k : Int) < 0 := by omega
  have h2 : (k : Int) < (n : Int) := by omega
  simp only [if_neg h1]
  simp [h2]
theorem w_popAt {k : Nat} {j : Int} (hs : Hs B L H) (h : Put L l (.lst xs) (.lst (xs.eraseIdx k)) L') (e : j = (k : Int)) (hk : xs[k]? = some y) (hz : xs.length ≤ sizeLine) (q : ∀ H', Hs B L' H' → Q y H') : rPopAt (.ref l) [.int j] H Q := by
  have hk' := (List.getElem?_eq_some_iff.mp hk).1
  have h63 := line63
  refine ⟨l, xs, j, k, y, rfl, rfl, hs.gets h, by omega, ?_, six_nat e hk', hk, q _ (hs.puts h)⟩
  have : xs.length < 2 ^ 63 := Nat.lt_of_le_of_lt hz h63
  omega
def rInsert : V → List V → Hp → VK → Prop := fun x vs H Q => ∃ (l : Addr) (xs : List V) (i : Int) (y : V), x = .ref l ∧ vs = [.int i, y] ∧ H l = some (.lst xs) ∧ xs.length < sizeLine ∧ 0 ≤ i ∧ i < 2 ^ 63 ∧ Q .non (upd H l (.lst (xs.take i.toNat ++ [y] ++ xs.drop i.toNat)))
theorem mt_insertQ {X : Cx} : MtR X "list.insert" rInsert := mt_insert
theorem w_insert0 (hs : Hs B L H) (h : Put L l (.lst xs) (.lst (y :: xs)) L') (hl : xs.length < sizeLine) (q : ∀ H', Hs B L' H' → Q .non H') : rInsert (.ref l) [.int 0, y] H Q :=
  ⟨l, xs, 0, y, rfl, rfl, hs.gets h, hl, by decide, by decide, q _ (hs.puts h)⟩
def rDelL (x y : V) (H : Hp) (R : Hp → Prop) : Prop := ∃ (l : Addr) (xs : List V) (i : Int) (k : Nat), x = .ref l ∧ y = .int i ∧ H l = some (.lst xs) ∧ -(2 ^ 63) ≤ i ∧ i < 2 ^ 63 ∧ seqIndex? i xs.length = some k ∧ R (upd H l (.lst (xs.eraseIdx k)))
theorem w_delL0 (q : to σ H fun x H1 => ti σ H1 fun y H2 => rDelL x y H2 (D.nx σ)) : tDelL to ti D σ H := q
theorem w_delL {k : Nat} {j : Int} {R : Hp → Prop} (hs : Hs B L H) (h : Put L l (.lst xs) (.lst (xs.eraseIdx k)) L') (e : j = (k : Int)) (hk : k < xs.length) (hz : xs.length ≤ sizeLine) (q : ∀ H', Hs B L' H' → R H') : rDelL (.ref l) (.int j) H R := by
  have h63 := line63
  refine ⟨l, xs, j, k, rfl, rfl, hs.gets h, by omega, ?_, six_nat e hk, q _ (hs.puts h)⟩
  have : xs.length < 2 ^ 63 := Nat.lt_of_le_of_lt hz h63
  omega
theorem w_setL {k : Nat} {j : Int} {R : Hp → Prop} (hs : Hs B L H) (h : Put L l (.lst xs) (.lst (xs.set k y)) L') (e : j = (k : Int)) (hk : k < xs.length) (q : ∀ H', Hs B L' H' → R H') : rSetL (.ref l) (.int j) y H R := by
  refine ⟨l, xs, j, k, rfl, rfl, hs.gets h, ?_, q _ (hs.puts h)⟩
  subst e
  unfold ixN
  rw [if_pos (by omega), if_pos (by omega)]
  simp
/-- a field's store -/
theorem w_fsP {R : Hp → Prop} {C dx : Addr} {fs gs : List (Str × V)} (hs : Hs B L H) (h : Put L p (.ins C dx fs) (.ins C dx gs) L') (hc : Cls K C) (hn : NoAttr K C f) (hl : fs.length < 1000) (hg : putF f y fs = gs) (q : ∀ H', Hs B L' H' → R H') : Fs K f y (.ref p) H R := by
  subst hg
  exact w_fs (hs.gets h) hc hn hl (q _ (hs.puts h))
/-! #### loops -/
theorem w_forL {tl : TE} {a : Addr} {tb : TS} (hx : SqL K H a xs) (Pv : Nat → St → Hp → Prop) (htl : ∀ Q : VK, Q (.ref a) H → tl σ H Q) (h0 : Pv 0 σ H) (hl : ∀ i σ H, i ≤ xs.length → Pv i σ H → SqL K H a xs)
    (hs : ∀ i x σ H, xs[i]? = some x → Pv i σ H → g x σ H fun σ2 H2 => tb { D with nx := Pv (i + 1), ct := Pv (i + 1), bk := D.nx } σ2 H2) (hd : ∀ σ H, Pv xs.length σ H → D.nx σ H) : tFor (iList K tl) g tb D σ H :=
  htl _ ⟨a, rfl, ⟨xs, hx⟩, for_list Pv h0 hl hs hd⟩
theorem w_forR {ta : TA} {tb : TS} {n : Int} (hn : n < 2 ^ 62) (Pv : Nat → St → Hp → Prop) (hta : ∀ Q : List V → Hp → Prop, Q [.int n] H → ta σ H Q) (hm : -(2 ^ 62) ≤ n) (h0 : Pv 0 σ H)
    (hs : ∀ (i : Nat) σ H, (i : Int) < n → Pv i σ H → g (.int (i : Int)) σ H fun σ2 H2 => tb { D with nx := Pv (i + 1), ct := Pv (i + 1), bk := D.nx } σ2 H2) (hd : ∀ σ H, Pv n.toNat σ H → D.nx σ H) : tFor (iRng1 ta) g tb D σ H :=
  hta _ ⟨n, rfl, hm, hn, for_range (lo := 0) (n := n.toNat) Pv h0 (fun i σ' H' hi p => by
    have e0 : (0 : Int) + (i : Int) = (i : Int) := Int.zero_add _
    rw [e0]
    exact hs i σ' H' (by omega) p) hd⟩
/-- [e for x in xs] over a list -/
theorem w_lc {tl : TE} {a : Addr} {vs : List Nat} {tt : TT} (hx : SqL K H a xs) (Pv : Addr → Nat → Hp → Prop) (htl : ∀ Q : VK, Q (.ref a) H → tl σ H Q) (h0 : ∀ D, H D = none → Pv D 0 (upd H D (.lst []))) (hl : ∀ D i H, i ≤ xs.length → Pv D i H → SqL K H a xs)
    (hs : ∀ D i x H, xs[i]? = some x → Pv D i H → g x (wipe σ vs) H fun σ2 H2 => wipe σ2 vs = wipe σ vs ∧ tt σ2 H2 fun b H3 =>
      if b = true then te σ2 H3 fun y H4 => ∃ acc, H4 D = some (.lst acc) ∧ acc.length < sizeLine ∧ Pv D (i + 1) (upd H4 D (.lst (acc ++ [y]))) else Pv D (i + 1) H3) (hd : ∀ D H, Pv D xs.length H → Q (.ref D) H) : tLc (iList K tl) g tt te vs σ H Q :=
  htl _ ⟨a, rfl, ⟨xs, hx⟩, fun D hD => lc_list (Pv D) (h0 D hD) (hl D) (hs D) (hd D)⟩
end
theorem w_sub {R : St → Hp → Prop} {tset : TSet} (q : to σ H fun o H1 => ti σ H1 fun i H2 => tset o i v H2 fun H3 => R σ H3) : gSub to ti tset v σ H R := q
/-- a while's body, at the measure m -/
def LpB (W : Nat → St → Hp → Prop) (m : Nat) (D : Ends) (tb : TS) (σ : St) (H1 : Hp) : Prop := ∃ N : St → Hp → Prop, (∀ σ' H', N σ' H' → ∃ m', m' < m ∧ W m' σ' H') ∧ tb { D with nx := N, ct := N, bk := D.nx } σ H1
theorem w_while {c : TT} {tb : TS} {D : Ends} {σ : St} {H : Hp} (W : Nat → St → Hp → Prop) (m : Nat) (h0 : W m σ H)
    (hs : ∀ m σ H, W m σ H → c σ H fun b H1 => if b = true then LpB W m D tb σ H1 else D.nx σ H1) : tWhile c tb D σ H := ⟨W, ⟨m, h0⟩, hs⟩
theorem w_lpb {W : Nat → St → Hp → Prop} {m : Nat} {D : Ends} {tb : TS} {σ : St} {H : Hp} (q : tb { D with nx := fun σ' H' => ∃ m', m' < m ∧ W m' σ' H', ct := fun σ' H' => ∃ m', m' < m ∧ W m' σ' H', bk := D.nx } σ H) : LpB W m D tb σ H := ⟨_, fun _ _ h => h, q⟩
end
theorem ifd {p A B : Prop} [Decidable p] (h1 : p → A) (h2 : ¬ p → B) : if decide p = true then A else B := by
  by_cases h : p
  · rw [decide_eq_true h]
    exact iteT (h1 h)
  · rw [decide_eq_false h]
    exact iteF (h2 h)
theorem ifn {p A B : Prop} [Decidable p] (h1 : ¬ p → A) (h2 : p → B) : if (!decide p) = true then A else B := by
  by_cases h : p
  · rw [decide_eq_true h]
    exact iteF (h2 h)
  · rw [decide_eq_false h]
    exact iteT (h1 h)
theorem ifb {b : Bool} {A B : Prop} (h1 : b = true → A) (h2 : b = false → B) : if b = true then A else B := by
  cases b with
  | true => exact iteT (h1 rfl)
  | false => exact iteF (h2 rfl)
theorem eraseIdx_map {α β : Type} (f : α → β) : ∀ (l : List α) (k : Nat), (l.map f).eraseIdx k = (l.eraseIdx k).map f
  | [], _ => rfl
  | _ :: _, 0 => rfl
  | x :: l, k + 1 => congrArg (f x :: ·) (eraseIdx_map f l k)
theorem sz {n : Nat} (h : n ≤ 1000000) : n ≤ sizeLine := Nat.le_trans h (by decide)
theorem szl {n : Nat} (h : n ≤ 1000000) : n < sizeLine := Nat.lt_of_le_of_lt h (by decide)
theorem take_min {α : Type} (xs : List α) (n : Nat) : xs.take (min n xs.length) = xs.take n := by
  by_cases h : n ≤ xs.length
  · rw [Nat.min_eq_left h]
  · rw [Nat.min_eq_right (by omega), List.take_length, List.take_of_length_le (by omega)]
theorem drop_min {α : Type} (xs : List α) (n : Nat) : xs.drop (min n xs.length) = xs.drop n := by
  by_cases h : n ≤ xs.length
  · rw [Nat.min_eq_left h]
  · rw [Nat.min_eq_right (by omega), List.drop_length, List.drop_of_length_le (by omega)]
theorem cut_to {xs : List V} {j : Int} (n : Nat) (e : j = (n : Int)) : cutV xs none (some j) = xs.take n := by
  subst e
  unfold cutV
  rw [HT.sIx_none, HT.sIx_nat, List.drop_zero, Nat.sub_zero, take_min]
theorem cut_from {xs : List V} {j : Int} (n : Nat) (e : j = (n : Int)) : cutV xs (some j) none = xs.drop n := by
  subst e
  unfold cutV
  rw [HT.sIx_none, HT.sIx_nat, drop_min, List.take_of_length_le]
  rw [List.length_drop]
  omega
theorem cut_len {xs : List V} {lo hi : Option Int} : (cutV xs lo hi).length ≤ xs.length := by
  unfold cutV
  rw [List.length_take, List.length_drop]
  omega
theorem cut_all {xs : List V} : cutV xs none none = xs := by
  unfold cutV HT.sIx
  simp
/-! ### lists of texts, of ints, as data -/
theorem dpa_str {K : PySem.W.Frag} {H : Hp} : ∀ xs : List Str, DpAll K H (xs.map V.str) (xs.map PyData.str)
  | [] => .nil
  | x :: xs => .cons (.str x) (dpa_str xs)
theorem dpa_int {K : PySem.W.Frag} {H : Hp} : ∀ xs : List Int, DpAll K H (xs.map V.int) (xs.map PyData.int)
  | [] => .nil
  | x :: xs => .cons (.int x) (dpa_int xs)
theorem depth_str : ∀ xs : List Str, PyData.depthAll (xs.map PyData.str) ≤ 1
  | [] => by simp [PyData.depthAll]
  | x :: xs => by
    have := depth_str xs
    simp [PyData.depthAll, PyData.depth] at this ⊢
    omega
theorem lay_str : ∀ xs : List Str, (∀ x ∈ xs, PyData.strOk x = true) → PyData.canLayAll0 (xs.map PyData.str) = true
  | [], _ => by simp [PyData.canLayAll0]
  | x :: xs, h => by
    have h1 := h x List.mem_cons_self
    have h2 := lay_str xs fun y hy => h y (List.mem_cons_of_mem _ hy)
    simp only [List.map_cons, PyData.canLayAll0, PyData.canLay0, h1, h2, Bool.and_self]
theorem shp_str {xs : List Str} (h : ∀ x ∈ xs, PyData.strOk x = true) : SeqAt.shaped (.list (xs.map PyData.str)) = true := by
  have e := depth_str xs
  have l := lay_str xs h
  unfold SeqAt.shaped PyData.canLay0 PyData.depth
  rw [l]
  simp only [Bool.true_and, decide_eq_true_eq]
  omega
theorem w_neS {K : PySem.W.Frag} {H : Hp} {Q : VK} {p q : Addr} {xs : List Str} (h1 : SqL K H p (xs.map V.str)) (h2 : SqL K H q (xs.map V.str)) (hk : ∀ x ∈ xs, PyData.strOk x = true) (k : Q (.bl false) H) : rNeD K (.ref p) (.ref q) H Q :=
  ⟨_, _, .lst h1 (dpa_str xs), .lst h2 (dpa_str xs), shp_str hk, shp_str hk, by
    rw [SeqAt.eqv_refl _ (by have := shp_str hk; unfold SeqAt.shaped at this; exact (Bool.and_eq_true_iff.mp this).1)]
    exact k⟩
theorem w_isi {K : PySem.W.Frag} {H : Hp} {Q : VK} {b : Bool} (k : Q (.bl true) H) : rIsi K [.bl b, .ty "bool"] H Q :=
  ⟨_, _, _, _, true, rfl, .ty "bool", .base (.bl b), kit_ty (by decide +kernel), k⟩
theorem w_neB {a b : Bool} {H : Hp} {Q : VK} (q : Q (.bl (!decide (a = b))) H) : rNe (.bl a) (.bl b) H Q := ⟨rfl, by
  have e : decide (V.bl a = V.bl b) = decide (a = b) := by cases a <;> cases b <;> decide
  rw [e]
  exact q⟩
end Hb

set_option Elab.async false
set_option maxRecDepth 100000
set_option maxHeartbeats 4000000
/-! More steps: dicts, fields changed by an operator, ranges, and an own exception with a field. -/
namespace Hb
open PySem L2 ClX

section
variable {K : PySem.W.Frag} {σ : St} {H : Hp} {Q : VK} {D : Ends} {ta tb td tc te tv ty to ti : TE} {t u tr : TS} {g : TG} {i : Nat} {v x y : V} {E : XK} {ts : TA} {f m : Str} {p : Addr} {B : Hp} {L L' : List (Addr × HO)}
/-! ### dicts with keys that are ints -/
def RDin (x y : V) (H : Hp) (Q : VK) : Prop := ∃ a o, x = .ref a ∧ DGet H a y o ∧ Q (.bl o.isSome) H
def RDni (x y : V) (H : Hp) (Q : VK) : Prop := ∃ a o, x = .ref a ∧ DGet H a y o ∧ Q (.bl (!o.isSome)) H
theorem w_din (q : ty σ H fun y H1 => td σ H1 fun x H2 => RDin x y H2 Q) : tDIn ty td σ H Q := q
theorem w_dni (q : ty σ H fun y H1 => td σ H1 fun x H2 => RDni x y H2 Q) : tDNotIn ty td σ H Q := q
theorem w_dinI {kvs : List (Key × V)} {n : Int} (h : H p = some (.dK kvs)) (q : Q (.bl (valV kvs (Sum.inl n)).isSome) H) : RDin (.ref p) (.int n) H Q := ⟨p, _, rfl, DGet.k (k := Sum.inl n) h, q⟩
theorem w_dniI {kvs : List (Key × V)} {n : Int} (h : H p = some (.dK kvs)) (q : Q (.bl (!(valV kvs (Sum.inl n)).isSome)) H) : RDni (.ref p) (.int n) H Q := ⟨p, _, rfl, DGet.k (k := Sum.inl n) h, q⟩
def RDput (x y v : V) (H : Hp) (R : Hp → Prop) : Prop := ∃ a H4, x = .ref a ∧ DPut H a y v H4 ∧ R H4
theorem w_dput (q : tv σ H fun v H1 => td σ H1 fun x H2 => ty σ H2 fun y H3 => RDput x y v H3 (D.nx σ)) : sDPut td ty tv D σ H := q
theorem w_dputI {kvs : List (Key × V)} {n : Int} {R : Hp → Prop} (hs : Hs B L H) (h : Put L p (.dK kvs) (.dK (putK kvs (Sum.inl n) v)) L') (hl : kvs.length < sizeLine) (q : ∀ H', Hs B L' H' → R H') : RDput (.ref p) (.int n) v H R :=
  ⟨p, _, rfl, DPut.k (k := Sum.inl n) (hs.gets h) hl, q _ (hs.puts h)⟩
def RPopA (x : V) (H : Hp) (R : Addr → Prop) : Prop := ∃ a, x = .ref a ∧ IsD H a ∧ R a
def RPopB (a : Addr) (y : V) (H : Hp) (Q : VK) : Prop := ∃ kvs k v, H a = some (.dK kvs) ∧ y = kV k ∧ valV kvs k = some v ∧ Q v (upd H a (.dK (dropK kvs k)))
theorem w_dpop (q : td σ H fun x H1 => RPopA x H1 fun a => ty σ H1 fun y H2 => RPopB a y H2 Q) : tDPop1 td ty σ H Q := q
theorem w_dpopA {kvs : List (Key × V)} {R : Addr → Prop} (h : H p = some (.dK kvs)) (q : R p) : RPopA (.ref p) H R := ⟨p, rfl, .inl ⟨kvs, .inl h⟩, q⟩
theorem w_dpopB {kvs : List (Key × V)} {n : Int} (hs : Hs B L H) (h : Put L p (.dK kvs) (.dK (dropK kvs (Sum.inl n))) L') (hv : valV kvs (Sum.inl n) = some v) (q : ∀ H', Hs B L' H' → Q v H') : RPopB p (.int n) H Q :=
  ⟨kvs, Sum.inl n, v, hs.gets h, rfl, hv, q _ (hs.puts h)⟩
def NewD (Q : VK) (H : Hp) : Prop := ∀ p, H p = none → Q (.ref p) (upd H p (.dK []))
theorem w_dnew (q : NewD Q H) : tDNewK σ H Q := q
theorem w_newD (hs : Hs B L H) (q : ∀ p H', Hs B ((p, .dK []) :: L) H' → Q (.ref p) H') : NewD Q H := w_new hs q
/-! ### o.f op= e -/
def FA1 (K : PySem.W.Frag) (f : Str) (x : V) (H : Hp) (R : Addr → Addr → V → Prop) : Prop := ∃ a C dx fs v, x = .ref a ∧ H a = some (.ins C dx fs) ∧ Cls K C ∧ NoAttr K C f ∧ fs.lookup f = some v ∧ R a C v
def FA2 (f : Str) (a C : Addr) (z : V) (H : Hp) (R : Hp → Prop) : Prop := ∃ dx' fs', H a = some (.ins C dx' fs') ∧ fs'.length < 1000 ∧ R (upd H a (.ins C dx' (putF f z fs')))
theorem w_faug {rd : V → V → Hp → VK → Prop} (q : ta σ H fun x H1 => FA1 K f x H1 fun a C v => tv σ H1 fun y H2 => rd v y H2 fun z H3 => FA2 f a C z H3 (D.nx σ)) : sFldAug K ta tv rd f D σ H := by
  revert q
  unfold sFldAug FA1 FA2
  exact id
theorem w_fa1 {C dx : Addr} {fs : List (Str × V)} {R : Addr → Addr → V → Prop} (h : H p = some (.ins C dx fs)) (hc : Cls K C) (hn : NoAttr K C f) (hl : fs.lookup f = some v) (q : R p C v) : FA1 K f (.ref p) H R := ⟨p, C, dx, fs, v, rfl, h, hc, hn, hl, q⟩
theorem w_fa2 {R : Hp → Prop} {C dx : Addr} {fs gs : List (Str × V)} (hs : Hs B L H) (h : Put L p (.ins C dx fs) (.ins C dx gs) L') (hl : fs.length < 1000) (hg : putF f v fs = gs) (q : ∀ H', Hs B L' H' → R H') : FA2 f p C v H R := by
  subst hg
  exact ⟨dx, fs, hs.gets h, hl, q _ (hs.puts h)⟩
theorem w_rAdd {a b : Int} (q : Q (.int (a + b)) H) : rAdd (.int a) (.int b) H Q := ⟨a, b, rfl, rfl, q⟩
theorem w_rSub {a b : Int} (q : Q (.int (a - b)) H) : rSub (.int a) (.int b) H Q := ⟨a, b, rfl, rfl, q⟩
/-! ### built-ins -/
def rMax2 : List V → Hp → VK → Prop := fun xs H Q => ∃ i j, xs = [.int i, .int j] ∧ Q (.int (if j > i then j else i)) H
def rMin2 : List V → Hp → VK → Prop := fun xs H Q => ∃ i j, xs = [.int i, .int j] ∧ Q (.int (if j < i then j else i)) H
theorem call_maxQ {X : Cx} (hc : X.calm = true) : CallR X (.builtin "max") rMax2 := call_max2 hc
theorem call_minQ {X : Cx} (hc : X.calm = true) : CallR X (.builtin "min") rMin2 := call_min2 hc
theorem w_max {a b : Int} (q : Q (.int (if b > a then b else a)) H) : rMax2 [.int a, .int b] H Q := ⟨a, b, rfl, q⟩
theorem w_min {a b : Int} (q : Q (.int (if b < a then b else a)) H) : rMin2 [.int a, .int b] H Q := ⟨a, b, rfl, q⟩
def rIsN : R2 := fun x y H Q => y = .non ∧ Q (.bl (decide (x = .non))) H
def rNotN : R2 := fun x y H Q => y = .non ∧ Q (.bl (!decide (x = .non))) H
theorem op_isNQ {X : Cx} : OpR X (compareOp .Is) rIsN := op_isN
theorem op_notNQ {X : Cx} : OpR X (compareOp .IsNot) rNotN := op_notN
theorem w_isN (q : Q (.bl (decide (x = .non))) H) : rIsN x .non H Q := ⟨rfl, q⟩
theorem w_notN (q : Q (.bl (!decide (x = .non))) H) : rNotN x .non H Q := ⟨rfl, q⟩
theorem w_eqD {a b : Addr} {d e : PyData} (h1 : Dp K H (.ref a) d) (h2 : Dp K H (.ref b) e) (s1 : SeqAt.shaped d = true) (s2 : SeqAt.shaped e = true) (q : Q (.bl (PyData.eqv d e)) H) : rEqD K (.ref a) (.ref b) H Q := ⟨d, e, h1, h2, s1, s2, q⟩
/-! ### targets -/
theorem w_gtup {n : Nat} {t : TGs} {xs : List V} {R : St → Hp → Prop} (h : SqT K H p xs) (hl : xs.length = n) (q : t xs σ H R) : gTup K n t (.ref p) σ H R := ⟨p, xs, rfl, h, hl, q⟩
theorem w_gnil {R : St → Hp → Prop} (q : R σ H) : gNil [] σ H R := ⟨rfl, q⟩
theorem w_gcons {t : TG} {u : TGs} {r : List V} {R : St → Hp → Prop} (q : t v σ H fun σ' H' => u r σ' H' R) : gCons t u (v :: r) σ H R := ⟨v, r, rfl, q⟩
theorem w_par3 {j l : Nat} (q : ts σ H fun vs H1 => ∃ u v w, vs = [u, v, w] ∧ D.nx (((σ.set i (some u)).set j (some v)).set l (some w)) H1) : tPar3 i j l ts D σ H := q
theorem w_ex3 {a b c : V} {P : V → V → V → Prop} (q : P a b c) : ∃ u v w, [a, b, c] = [u, v, w] ∧ P u v w := ⟨a, b, c, rfl, q⟩
theorem w_par2 {j : Nat} (q : ts σ H fun vs H1 => ∃ u v, vs = [u, v] ∧ D.nx ((σ.set i (some u)).set j (some v)) H1) : tPar i j ts D σ H := q
theorem w_ex2 {a b : V} {P : V → V → Prop} (q : P a b) : ∃ u v, [a, b] = [u, v] ∧ P u v := ⟨a, b, rfl, q⟩
/-! ### [e for i in range(a, b)] -/
theorem w_lcR {vs : List Nat} {tt : TT} {lo hi : Int} (b1 : -(2 ^ 62) ≤ lo ∧ lo < 2 ^ 62 ∧ -(2 ^ 62) ≤ hi ∧ hi < 2 ^ 62) (Pv : Addr → Nat → Hp → Prop) (hta : ∀ Q : List V → Hp → Prop, Q [.int lo, .int hi] H → ts σ H Q) (h0 : ∀ D, H D = none → Pv D 0 (upd H D (.lst [])))
    (hs : ∀ D (i : Nat) H, lo + (i : Int) < hi → Pv D i H → g (.int (lo + (i : Int))) (wipe σ vs) H fun σ2 H2 => wipe σ2 vs = wipe σ vs ∧ tt σ2 H2 fun b H3 =>
      if b = true then te σ2 H3 fun y H4 => ∃ acc, H4 D = some (.lst acc) ∧ acc.length < sizeLine ∧ Pv D (i + 1) (upd H4 D (.lst (acc ++ [y]))) else Pv D (i + 1) H3) (hd : ∀ D H, Pv D (hi - lo).toNat H → Q (.ref D) H) : tLc (iRng2 ts) g tt te vs σ H Q :=
  hta _ ⟨lo, hi, rfl, b1, fun D hD => lc_range (Pv D) (h0 D hD) (fun i H' hi' p => hs D i H' (by omega) p) (hd D)⟩
theorem w_lcR1 {vs : List Nat} {tt : TT} {hi : Int} (b1 : -(2 ^ 62) ≤ hi ∧ hi < 2 ^ 62) (Pv : Addr → Nat → Hp → Prop) (hta : ∀ Q : List V → Hp → Prop, Q [.int hi] H → ts σ H Q) (h0 : ∀ D, H D = none → Pv D 0 (upd H D (.lst [])))
    (hs : ∀ D (i : Nat) H, (i : Int) < hi → Pv D i H → g (.int (i : Int)) (wipe σ vs) H fun σ2 H2 => wipe σ2 vs = wipe σ vs ∧ tt σ2 H2 fun b H3 =>
      if b = true then te σ2 H3 fun y H4 => ∃ acc, H4 D = some (.lst acc) ∧ acc.length < sizeLine ∧ Pv D (i + 1) (upd H4 D (.lst (acc ++ [y]))) else Pv D (i + 1) H3) (hd : ∀ D H, Pv D hi.toNat H → Q (.ref D) H) : tLc (iRng1 ts) g tt te vs σ H Q :=
  hta _ ⟨hi, rfl, b1.1, b1.2, fun D hD => lc_range (Pv D) (h0 D hD) (fun i H' hi' p => by
    have e0 : (0 : Int) + (i : Int) = (i : Int) := Int.zero_add _
    rw [e0]
    exact hs D i H' (by omega) p) (hd D)⟩
end

/-- a statement, then the rest: what stands between is said once -/
theorem w_cut {σ : St} {H : Hp} {D : Ends} {t u : TS} (Mid : St → Hp → Prop) (h1 : t { D with nx := Mid } σ H) (h2 : ∀ σ' H', Mid σ' H' → u D σ' H') : C8.tCut t u D σ H := ⟨Mid, h1, h2⟩
/-! ### rules whose reading names the written part itself -/
section
variable {X : Cx} {K : PySem.W.Frag}
theorem pe_fldK {e : Expr} {f : Str} {ta : TE} {pos : Pos} (he : PE X e ta) (hb : attributeBase e f X.env (eval e X.env) = eval e X.env := by rfl) (hK : X.K = K := by rfl) : PE X (.Attribute e f pos) (tFld K ta f) := by
  subst hK
  exact pe_fld he hb
theorem ps_fldK {o value : Expr} {f : Str} {ta tv : TE} {pos pos' : Pos} (ha : PE X o ta) (hv : PE X value tv) (hs : swapsWith value (some (.Attribute o f pos')) pos.line X.env = pure false := by rfl) (hK : X.K = K := by rfl) : PS X (.Assign [.Attribute o f pos'] value pos) (sFld K ta tv f) := by
  subst hK
  exact ps_fld ha hv hs
theorem ps_fldaugK {o value : Expr} {f : Str} {ta tv : TE} {pos tpos : Pos} {op : Operator} {rd : V → V → Hp → VK → Prop} (ha : PE X o ta) (hv : PE X value tv) (hop : InOp X op rd) (hK : X.K = K := by rfl) : PS X (.AugAssign (.Attribute o f tpos) op value pos) (sFldAug K ta tv rd f) := by
  subst hK
  exact ps_fldaug ha hv hop
theorem ix_listK (hK : X.K = K := by rfl) : IxR X (rIxL K) := by
  subst hK
  exact ix_list
theorem ix_tupK (hK : X.K = K := by rfl) : IxR X (rIxT K) := by
  subst hK
  exact ix_tup
theorem sl_listK (hK : X.K = K := by rfl) : SlR X (rSlL K) := by
  subst hK
  exact sl_list
theorem sl_tupK (hK : X.K = K := by rfl) : SlR X (rSlT K) := by
  subst hK
  exact sl_tup
theorem call_lenK (hK : X.K = K := by rfl) : CallR X (.builtin "len") (rLen K) := by
  subst hK
  exact call_lenQ
theorem op_eqDK (hu : X.A.units + 64 < cLine) (hK : X.K = K := by rfl) : OpR X (compareOp .Eq) (rEqD K) := by
  subst hK
  exact op_eqD hu
theorem op_neDK (hu : X.A.units + 64 < cLine) (hK : X.K = K := by rfl) : OpR X (compareOp .NotEq) (rNeD K) := by
  subst hK
  exact op_neD hu
theorem op_inK (hK : X.K = K := by rfl) : OpR X (compareOp .In) (rIn K false) := by
  subst hK
  exact op_in_seq
theorem op_niK (hK : X.K = K := by rfl) : OpR X (compareOp .NotIn) (rIn K true) := by
  subst hK
  exact op_notIn_seq
theorem pi_listK {tg l : Expr} {tl : TE} (hl : PE X l tl) (hK : X.K = K := by rfl) : PI X tg l (iList K tl) := by
  subst hK
  exact pi_list hl
theorem pi_tupK {tg l : Expr} {tl : TE} (hl : PE X l tl) (hK : X.K = K := by rfl) : PI X tg l (iTup K tl) := by
  subst hK
  exact pi_tup hl
theorem pg_tupK {es : List Expr} {k : Nat} {t : TGs} {n : Nat} {pos : Pos} (hc : X.calm = true) (h : PGs X es t) (hn : (assignEach es X.env).length = n := by rfl) (hst : (assignEach es X.env).findIdx? (·.1) = none := by rfl) (hK : X.K = K := by rfl) : PG X (.Tuple es k pos) (gTup K n t) := by
  subst hK
  exact pg_tup hc h hn hst
theorem pt_truthK {a : Expr} {ta : TE} (ha : PE X a ta) (he : ∀ whole, isTrue a X.env whole = (do let v ← whole; standAt a.pos; holding [v] (truthy v)) := by intro _; rfl) (hK : X.K = K := by rfl) : PT X a (fun σ H Q => ta σ H fun x H' => ∃ k, TruV K x H' k ∧ Q k H') := by
  subst hK
  exact pt_truth ha he
theorem call_isiK (hK : X.K = K := by rfl) : CallR X (.builtin "isinstance") (rIsi K) := by
  subst hK
  exact call_isi
variable {o e : Expr} {es : List Expr} {to : TE} {t : TA} {name : Str} {apos cpos : Pos} {T id : String} {r : V → List V → Hp → VK → Prop}
theorem pe_bm0K (pa : PlainAttrs T) (slot : Slot T name id) (hty : typeOf (.builtin id) = pure (.type "method_descriptor")) (hm : MtR X id r) (ho : PE X o to)
    (hbase : attributeBase o name X.env (eval o X.env) = eval o X.env := by rfl) (hline : (apos.endLine == cpos.line) = true := by rfl) (hK : X.K = K := by rfl) : PE X (.Call (.Attribute o name apos) [] [] cpos) (tBM0 K T r to) := by
  subst hK
  exact pe_bm0 pa slot hty hm ho hbase hline
theorem pe_bmK (pa : PlainAttrs T) (slot : Slot T name id) (hty : typeOf (.builtin id) = pure (.type "method_descriptor")) (hm : MtR X id r) (ho : PE X o to) (ha : PA X (e :: es) t)
    (hb : attributeBase o name X.env (eval o X.env) = eval o X.env := by rfl)
    (hf : ((backTo cpos (starEach (e :: es) X.env)).all (fun x => !x.1) && (backToKw cpos (keywordEach [] X.env)).all (fun x => x.1.isSome) && decide ((e :: es).length + ([] : List Keyword).length + (if ([] : List Keyword).isEmpty then 0 else 1) < 30)) = true := by rfl)
    (hl : (apos.endLine == cpos.line) = true := by rfl) (h1 : starEach (e :: es) X.env = (false, eval e X.env) :: starEach es X.env := by rfl) (h2 : (backTo cpos (starEach es X.env)).any (·.1) = false := by rfl) (hK : X.K = K := by rfl) :
    PE X (.Call (.Attribute o name apos) (e :: es) [] cpos) (tBM K T r to t) := by
  subst hK
  exact pe_bm pa slot hty hm ho ha hb hf hl h1 h2
end
section
variable {H B : Hp} {L L' : List (Addr × HO)} {l : Addr} {y a b c d e : V} {r : List V} {R : Hp → Prop}
theorem w_set0 (hs : Hs B L H) (h : Put L l (.lst (a :: r)) (.lst (y :: r)) L') (q : ∀ H', Hs B L' H' → R H') : rSetL (.ref l) (.int 0) y H R := w_setL (k := 0) hs h rfl (by simp) q
theorem w_set1 (hs : Hs B L H) (h : Put L l (.lst (a :: b :: r)) (.lst (a :: y :: r)) L') (q : ∀ H', Hs B L' H' → R H') : rSetL (.ref l) (.int 1) y H R := w_setL (k := 1) hs h rfl (by simp) q
theorem w_set2 (hs : Hs B L H) (h : Put L l (.lst (a :: b :: c :: r)) (.lst (a :: b :: y :: r)) L') (q : ∀ H', Hs B L' H' → R H') : rSetL (.ref l) (.int 2) y H R := w_setL (k := 2) hs h rfl (by simp) q
theorem w_set3 (hs : Hs B L H) (h : Put L l (.lst (a :: b :: c :: d :: r)) (.lst (a :: b :: c :: y :: r)) L') (q : ∀ H', Hs B L' H' → R H') : rSetL (.ref l) (.int 3) y H R := w_setL (k := 3) hs h rfl (by simp) q
theorem w_set4 (hs : Hs B L H) (h : Put L l (.lst (a :: b :: c :: d :: e :: r)) (.lst (a :: b :: c :: d :: y :: r)) L') (q : ∀ H', Hs B L' H' → R H') : rSetL (.ref l) (.int 4) y H R := w_setL (k := 4) hs h rfl (by simp) q
end
theorem w_eqB {a b : Bool} {H : Hp} {Q : VK} (q : Q (.bl (decide (a = b))) H) : rEq (.bl a) (.bl b) H Q := ⟨rfl, by
  have e : decide (V.bl a = V.bl b) = decide (a = b) := by cases a <;> cases b <;> decide
  rw [e]
  exact q⟩
/-- arguments that are known -/
def kTA (vs : List V) : TA := fun _ H Q => Q vs H
theorem w_for1 {σ : St} {H : Hp} {D : Ends} {ta : TA} {tb : TS} {g : TG} (q : ta σ H fun vs H1 => tFor (iRng1 (kTA vs)) g tb D σ H1) : tFor (iRng1 ta) g tb D σ H := q
theorem w_for2 {σ : St} {H : Hp} {D : Ends} {ta : TA} {tb : TS} {g : TG} (q : ta σ H fun vs H1 => tFor (iRng2 (kTA vs)) g tb D σ H1) : tFor (iRng2 ta) g tb D σ H := q
/-! ### an own exception -/
section
variable {X : Cx} {C a : Addr}
/-- X.__init__(self, ..) of an own class that has its __init__ from ValueError -/
theorem pe_ownInit {x : Str} {e : Expr} {es : List Expr} {ta : TA} {p1 p2 pos : Pos} {pl : Sem Bool} (hg : Gl X x) (hm : X.mg x = some (.ref C)) (r : CRead X.K C (.type "type")) (cv : PySem.W.findCls X.K (.ref C) (.type "type") "__init__" = some (.val (.builtin "ValueError.__init__"))) (ha : PA X (e :: es) ta)
    (hdb : (x == ("__debug__" : Str)) = false := by decide)
    (hc : eval (.Call (.Attribute (.Name x p1) "__init__" p2) (e :: es) [] pos) X.env = (do
      let ov ← eval (.Name x p1) X.env
      standAt p2.atName
      let (f, first) ← holding [ov] (getMethod ov "__init__" pl)
      callWith pos f first (backTo pos (starEach (e :: es) X.env)) (backToKw pos (keywordEach [] X.env))) := by rfl)
    (he : starEach (e :: es) X.env = (false, eval e X.env) :: starEach es X.env := by rfl) (hpl : (backTo pos (starEach es X.env)).any (·.1) = false := by rfl) :
    PE X (.Call (.Attribute (.Name x p1) "__init__" p2) (e :: es) [] pos) (tVeI X.K ta) := by
  constructor
  intro pins s σ H Q I h
  refine PySem.W.methodCall_KW ?_ hc
  refine ld_glob I hg hm ?_ hdb
  refine PySem.W.method_cls I.kIn r.ga (PySem.W.cls_value I.kIn r.rd cv rfl ?_)
  have fin : ∀ (us : List Value) (s1 : Shared), AP X pins σ (fun vs H1 => ∃ (a C : Addr) (ws : List V), vs = .ref a :: ws ∧ ws.length ≤ 1000 ∧ OexC X.K C ∧ H1 a = some (exo a C none) ∧ Q .non H1) us s1 → wpAny (model X.prog X.w) X.A (call (.builtin "ValueError.__init__") us) (EP X pins σ Q) X.xe s1 := by
    rintro us s1 ⟨vs, H1, I1, r1, a', C', ws, rfl, hw, hT, hE, q1⟩
    match us, r1 with
    | u0 :: ur, .cons r0 rr =>
      cases (show u0 = Value.ref a' from r0)
      have hn : ur.length ≤ sizeLine := by
        rw [← Paired.length rr, sizeLine_eq]
        omega
      exact oinit_ok hT I1 hE hn fun _ J => ⟨.non, _, J, rfl, q1⟩
  exact PyProof.Rows.callWith_method1 (thn (ha.run pos pins _ σ H _ (I.tok _) h) fin) he hpl
/-- o.m(e), what it lets out by the slots -/
def tMethQ (C : Addr) (m : Str) (sp : Sp) (E : St → XK) (ta : TE) (t : TA) : TE := fun σ H Q => ta σ H fun x H1 => ∃ a dx fs, x = .ref a ∧ H1 a = some (.ins C dx fs) ∧ fs.lookup m = none ∧ t σ H1 fun vs H2 => sp (x :: vs) H2 Q (E σ)
theorem pe_methQ {CX : CXT} {k : Nat} {f : Addr} {fd : FuncData} {ps : List Str} {sp : Sp} {E : St → XK} {m : Str} {pos apos : Pos} {e o : Expr} {es : List Expr} {ta : TE} {t : TA} {pl : Sem Bool} (ho : PE X o ta) (c : Cls X.K C) (hm : Meth X.K C m f) (F : FnOk X.prog X.w X.K X.mg X.base CX k f fd ps sp)
    (hr : Room k X.A) (hb : Binds X.K fd ps []) (hx : ∀ σ, PassesAt CX X σ (E σ)) (ha : PA X (e :: es) t) (h1 : starEach (e :: es) X.env = (false, eval e X.env) :: starEach es X.env := by rfl) (h2 : (backTo pos (starEach es X.env)).any (·.1) = false := by rfl)
    (h3 : eval (.Call (.Attribute o m apos) (e :: es) [] pos) X.env = (do
      let ov ← eval o X.env
      standAt apos.atName
      let (f, first) ← holding [ov] (getMethod ov m pl)
      callWith pos f first (backTo pos (starEach (e :: es) X.env)) (backToKw pos (keywordEach [] X.env))) := by rfl) :
    PE X (.Call (.Attribute o m apos) (e :: es) [] pos) (tMethQ C m sp E ta t) := by
  constructor
  intro pins s σ H Q I h
  refine PySem.W.methodCall_KW (pl := pl) (thn (ho.run pins s σ H _ I h) ?_) h3
  rintro u s1 ⟨x, H1, I1, rx, a, dx, fs, rfl, ea, l, q⟩
  cases (show u = Value.ref a from rx)
  refine getmeth_ok I1 ea c hm l (PySem.W.callWith_K (first := [.ref a]) (h₀ := X.base) I.ok.mod.kin hm.kp (thn (ha.run pos pins s1 σ H1 _ I1 q) ?_) h1 h2)
  rintro us s2 ⟨vs, H2, I2, r, q2⟩
  exact ⟨I2.kIn, run_fnS (us := .ref a :: us) (vs := .ref a :: vs) F hr hb (hx σ) I2 (.cons rfl r) q2⟩
/-- what an own exception's class D must have for isinstance -/
structure XcC (K : PySem.W.Frag) (D : Addr) : Prop where
  cl : (PySem.W.clsIn K D).isSome = true
  ga : PySem.W.findIn K (.ref D) "__getattribute__" = some (some (.builtin "BaseException.__getattribute__"))
  gt : PySem.W.findIn K (.ref D) "__getattr__" = some none
  ex : PySem.W.subIn K (.ref D) (.type "BaseException") = some true
  cs : PySem.W.findIn K (.ref D) "__class__" = some (some (.builtin "object.__class__"))
  gd : PySem.W.specialIn K (.builtin "object.__class__") "__get__" = some (some (.builtin "getset_descriptor.__get__"))
  tk : PySem.W.takesIn K (.builtin "object.__class__") = some true
  mo : PySem.W.mroIn K D (.type "object") = some true
theorem kit_own {K : PySem.W.Frag} {D C : Addr} {b : Bool} (n : D ≠ C) (hc : PySem.W.isClsIn K C = true) (ht : PySem.W.typeIn K (.ref C) = some (.type "type")) (h : PySem.W.subIn K (.ref D) (.ref C) = some b) : PySem.W.kitOne K (.ref D) (.ref C) = some b := by
  have e : (Value.ref D == Value.ref C) = false := beq_eq_false_iff_ne.mpr fun q => n (Value.ref.inj q)
  have hc' : (PySem.W.clsIn K C).isSome = true := hc
  unfold PySem.W.kitOne PySem.W.kitCls
  simp [e, hc', ht, h]
theorem kit_ownT {K : PySem.W.Frag} {D C : Addr} (hc : PySem.W.isClsIn K C = true) (ht : PySem.W.typeIn K (.ref C) = some (.type "type")) (h : PySem.W.subIn K (.ref D) (.ref C) = some true) : PySem.W.kitOne K (.ref D) (.ref C) = some true := by
  by_cases e : D = C
  · subst e
    unfold PySem.W.kitOne
    rw [if_pos (beq_self_eq_true _)]
  · exact kit_own e hc ht h
/-- isinstance(e, c) of an exception that the suite holds, with its dict -/
def rIsX (K : PySem.W.Frag) (a : Addr) (cls : Value) (d : Option Addr) : List V → Hp → VK → Prop := fun xs H Q => ∃ (D C dd : Addr) (fs : List (Str × V)) (b : Bool), cls = .ref D ∧ d = some dd ∧ H dd = some (.xd fs) ∧ xs = [.ref a, .ref C] ∧ XcC K D ∧ PySem.W.kitOne K (.ref D) (.ref C) = some b ∧ Q (.bl b) H
theorem call_isX {oe : Obj} {cls : Value} {d : Option Addr} {pn : List (Addr × Obj)} (hz : Zc cls d oe) (hf : ∃ vs, oe.data = .fields vs) : CallR (X.suite a ((a, oe) :: pn)) (.builtin "isinstance") (rIsX X.K a cls d) := by
  rintro pins s σ H xs us Q I r ⟨D, C, dd, fs, b, rfl, rfl, hd, rfl, hD, hk, q⟩
  obtain ⟨u1, u2, rfl, r1, r2⟩ := vals2 r
  cases (show u1 = Value.ref a from r1)
  cases (show u2 = Value.ref C from r2)
  obtain ⟨ha, _⟩ := I.pin (a, oe) (List.mem_append_left _ List.mem_cons_self)
  obtain ⟨vs, hv⟩ := hf
  obtain ⟨mA, hns, _⟩ := (show ObjOk X.prog X.w H s.heap dd (.xd fs) from I.hok dd _ hd)
  obtain ⟨od, ho, _⟩ := lookIn_ns hns
  have J : PySem.W.InstAt s.heap a oe D (some od) := ⟨ha, hz.1, by unfold PySem.W.notCls; rw [hv] <;> rfl, by rw [hz.2]; exact ho⟩
  exact PySem.W.kia_one (PySem.W.kitx_exc hD.cl hD.ga hD.gt hD.ex hD.cs hD.gd hD.tk hD.mo) I.kIn J hk (fun z => nomatch z) fun tk => ⟨.bl b, H, I.kept (t' := tk) fun _ _ z => z, rfl, q⟩
end
section
variable {K : PySem.W.Frag} {σ : St} {H : Hp} {Q : VK} {D : Ends} {te tv to : TE} {ts : TA} {f : Str} {v x y : V} {C a : Addr} {B : Hp} {L L' : List (Addr × HO)}
def RVe (K : PySem.W.Frag) (vs : List V) (H : Hp) (Q : VK) : Prop := ∃ (a C : Addr) (ws : List V), vs = .ref a :: ws ∧ ws.length ≤ 1000 ∧ OexC K C ∧ H a = some (exo a C none) ∧ Q .non H
theorem w_vei (q : ts σ H fun vs H1 => RVe K vs H1 Q) : tVeI K ts σ H Q := q
theorem w_ve {ws : List V} (hl : ws.length ≤ 1000) (hT : OexC K C) (h : H a = some (exo a C none)) (q : Q .non H) : RVe K (.ref a :: ws) H Q := ⟨a, C, ws, rfl, hl, hT, h, q⟩
def ROst (K : PySem.W.Frag) (f : Str) (y x : V) (H : Hp) (R : Hp → Prop) : Prop := ∃ a C : Addr, x = .ref a ∧ OexC K C ∧ PySem.W.findIn K (.ref C) f = some none ∧
  ((H a = some (exo a C none) ∧ ∀ dx, H dx = none → dx ≠ a → R (upd (upd H dx (exd dx [(f, y)])) a (exo a C (some dx)))) ∨
    ∃ (dx : Addr) (fs : List (Str × V)), H a = some (exo a C (some dx)) ∧ H dx = some (exd dx fs) ∧ fs.length ≤ 900 ∧ R (upd H dx (exd dx ((f, y) :: fs))))
theorem w_ost0 (q : te σ H fun y H1 => to σ H1 fun x H2 => ROst K f y x H2 (D.nx σ)) : tOst K f to te D σ H := q
theorem w_ost {R : Hp → Prop} (hs : Hs B ((a, exo a C none) :: L) H) (hT : OexC K C) (hn : PySem.W.findIn K (.ref C) f = some none) (q : ∀ dx H', Hs B ((dx, exd dx [(f, y)]) :: (a, exo a C (some dx)) :: L) H' → R H') : ROst K f y (.ref a) H R :=
  ⟨a, C, rfl, hT, hn, .inl ⟨hs.g0, fun dx hd _ => q dx _ ((hs.new hd).p1 _)⟩⟩
/-- the making of an own exception -/
def MkO (C : Addr) (sp : Sp) (vs dvs : List V) (H1 : Hp) (Q : XK) : Prop := vs.length ≤ 1000 ∧ ∀ a, H1 a = none → sp (.ref a :: (vs ++ dvs)) (upd H1 a (exo a C none))
  (fun v H2 => v = .non ∧ ∃ (d : Addr) (fs : List (Str × V)), H2 a = some (exo a C (some d)) ∧ H2 d = some (exd d fs) ∧ H1 d = none ∧ Q (.ref C) (some d) (upd (del H2 a) d (.xd fs))) (fun _ _ _ => False)
theorem w_mko {sp : Sp} {dvs : List V} {Q : XK} (q : ts σ H fun vs H1 => MkO C sp vs dvs H1 Q) : tMkO C sp dvs ts σ H Q := by
  revert q
  unfold tMkO MkO
  exact id
/-- what an own __init__ with one field promises -/
def spXinit (C : Addr) (f : Str) (ok : V → Prop) : Sp := fun vs H Q _ => ∃ (B : Hp) (e : Addr) (v : V), vs = [.ref e, v] ∧ Hs B [(e, exo e C none)] H ∧ ok v ∧ ∀ dx H', Hs B [(dx, exd dx [(f, v)]), (e, exo e C (some dx))] H' → Q .non H'
theorem w_mkX {ok : V → Prop} {Q : XK} (hs : Hs B L H) (hv : ok v) (q : ∀ d H', Hs B ((d, .xd [(f, v)]) :: L) H' → Q (.ref C) (some d) H') : MkO C (spXinit C f ok) [v] [] H Q := by
  refine ⟨by simp, fun a ha => ?_⟩
  have h1 := hs.new (o := exo a C none) ha
  obtain ⟨_, h2, back⟩ := h1.frame [(a, exo a C none)]
  refine ⟨_, a, v, rfl, h2, hv, fun dx H2 h3 => ⟨rfl, dx, [(f, v)], h3.g1, h3.g0, ?_, ?_⟩⟩
  · have n : dx ≠ a := fun e => by
      have := h3.nd
      rw [e] at this
      simp at this
    have z := h3.out _ List.mem_cons_self
    have nm : dx ∉ [(a, exo a C none)].map (·.1) := by
      simp only [List.map_cons, List.map_nil, List.mem_singleton]
      exact n
    have z2 : upd H a (exo a C none) dx = none := (around_out nm).symm.trans z
    rwa [upd_ne n] at z2
  · have h4 := back _ _ h3
    have nd := h4.nd
    have hda : dx ≠ a := fun e => by
      rw [e] at nd
      simp at nd
    have nL : ∀ e ∈ L, e.1 ≠ dx ∧ e.1 ≠ a := fun e he => by
      simp only [List.cons_append, List.nil_append, List.map_cons, List.nodup_cons, List.mem_cons, not_or] at nd
      refine ⟨fun z => nd.1.2 ?_, fun z => nd.2.1 ?_⟩
      · rw [← z]
        exact List.mem_map.mpr ⟨e, he, rfl⟩
      · rw [← z]
        exact List.mem_map.mpr ⟨e, he, rfl⟩
    have ba : B a = none := hs.same.free ha
    have bd : B dx = none := h4.out _ List.mem_cons_self
    refine q dx _ ⟨fun b o e => ?_, ?_, fun e he => ?_, fun e he => ?_⟩
    · have n1 : b ≠ dx := fun z => by
        rw [z, bd] at e
        cases e
      have n2 : b ≠ a := fun z => by
        rw [z, ba] at e
        cases e
      rw [upd_ne n1, del_ne n2]
      exact h4.same b o e
    · simp only [List.cons_append, List.nil_append, List.map_cons, List.nodup_cons, List.mem_cons, not_or] at nd ⊢
      exact ⟨nd.1.2, nd.2.2⟩
    · rcases List.mem_cons.mp he with rfl | he
      · exact bd
      · exact hs.out e he
    · rcases List.mem_cons.mp he with rfl | he
      · exact upd_same
      · obtain ⟨n1, n2⟩ := nL e he
        rw [upd_ne n1, del_ne n2]
        exact h4.at_ e (List.mem_cons_of_mem _ (List.mem_cons_of_mem _ he))
theorem w_methQ {sp : Sp} {E : St → XK} {m : Str} {ta : TE} (q : ta σ H fun x H1 => Rc m C x H1 (ts σ H1 fun vs H2 => sp (x :: vs) H2 Q (E σ))) : tMethQ C m sp E ta ts σ H Q := by
  revert q
  unfold tMethQ Rc
  exact id
theorem w_isX {d : Addr} {fs : List (Str × V)} {C' : Addr} {b : Bool} (h : H d = some (.xd fs)) (hx : XcC K C) (hk : PySem.W.kitOne K (.ref C) (.ref C') = some b) (q : Q (.bl b) H) : rIsX K a (.ref C) (some d) [.ref a, .ref C'] H Q := ⟨C, C', d, fs, b, rfl, rfl, h, rfl, hx, hk, q⟩
def RXf (a : Addr) (cls : Value) (d : Option Addr) (C : Addr) (f : Str) (x : V) (H : Hp) (Q : VK) : Prop := x = .ref a ∧ cls = .ref C ∧ ∃ (dd : Addr) (fs : List (Str × V)) (v : V), d = some dd ∧ H dd = some (.xd fs) ∧ fs.lookup f = some v ∧ Q v H
theorem w_xf0 {cls : Value} {d : Option Addr} (q : te σ H fun x H1 => RXf a cls d C f x H1 Q) : tXf a cls d C f te σ H Q := q
theorem w_xf {d : Addr} {fs : List (Str × V)} (h : H d = some (.xd fs)) (hl : fs.lookup f = some v) (q : Q v H) : RXf a (.ref C) (some d) C f (.ref a) H Q := ⟨rfl, rfl, d, fs, v, rfl, h, hl, q⟩
theorem w_was {i : Nat} {ts : Addr → Value → Option Addr → TS} {Wout : WX} {d : Addr} (he : PySem.W.exmOne K (.ref C) (.ref C) = some true)
    (q : ∀ e, H e = none → ts e (.ref C) (some d) { nx := fun σ' H' => D.nx (σ'.set i none) H', rt := D.rt, bk := fun σ' H' => D.bk (σ'.set i none) H', ct := fun σ' H' => D.ct (σ'.set i none) H' } (σ.set i (some (.ref e))) H) :
    wAs K (.ref C) i ts Wout D (.ref C) (some d) σ H := ⟨true, he, fun _ e h => q e h, fun z => Bool.noConfusion z⟩
theorem w_eqSt {a b : Str} (q : Q (.bl (decide (a = b))) H) : rEq (.str a) (.str b) H Q := ⟨rfl, by
  have e : decide (V.str a = V.str b) = decide (a = b) := by
    by_cases h : a = b
    · rw [decide_eq_true h, decide_eq_true (congrArg V.str h)]
    · rw [decide_eq_false h, decide_eq_false fun q => h (V.str.inj q)]
  rw [e]
  exact q⟩
/-- texts of an f-string -/
theorem w_js {t : TE} {us : List TE} {acc : Str} {Q : Str → Hp → Prop} (q : t σ H fun x H1 => ∃ y : Str, x = .str y ∧ (acc ++ y).length ≤ sizeLine ∧ tJs us (acc ++ y) σ H1 Q) : tJs (t :: us) acc σ H Q := q
theorem w_js0 {acc : Str} {Q : Str → Hp → Prop} (q : Q acc H) : tJs [] acc σ H Q := q
theorem w_js1 {s acc : Str} {R : Str → Prop} (h : (acc ++ s).length ≤ sizeLine) (q : R s) : ∃ y : Str, V.str s = .str y ∧ (acc ++ y).length ≤ sizeLine ∧ R y := ⟨s, rfl, h, q⟩
def RFmt (x : V) (H : Hp) (Q : VK) : Prop := (∃ y : Str, x = .str y ∧ y.length ≤ sizeLine ∧ Q (.str y) H) ∨ ∃ i : Int, x = .int i ∧ i.natAbs.log2 < 1920 ∧ Q (.str (toString i)) H
theorem w_fmt (q : te σ H fun x H1 => RFmt x H1 Q) : tFmt te σ H Q := q
theorem w_fmtS {s : Str} (h : s.length ≤ sizeLine) (q : Q (.str s) H) : RFmt (.str s) H Q := .inl ⟨s, rfl, h, q⟩
theorem w_fmtI {n : Int} (h : n.natAbs < 2 ^ 64) (q : Q (.str (toString n)) H) : RFmt (.int n) H Q := .inr ⟨n, rfl, Nat.lt_of_lt_of_le (PySem.Flt.log2_lt_of (by decide) h) (by decide), q⟩
def tRaiseX (W : WX) (t : St → Hp → XK → Prop) : TS := fun _ σ H => t σ H fun cls d H' => W cls d σ H'
theorem ps_raiseQ {X : Cx} {W : WX} {e : Expr} {t : St → Hp → XK → Prop} {pos : Pos} (hc : X.calm = true) (tk : Takes X W) (he : PMk X e t) : PS X (.Raise (some e) none pos) (tRaiseX W t) := ps_raise hc tk he
theorem w_raise {W : WX} {t : St → Hp → XK → Prop} (q : t σ H fun cls d H' => W cls d σ H') : tRaiseX W t D σ H := q
end

/-! ### data that nobody changes: scalars and tuples -/
mutual
inductive Im (K : PySem.W.Frag) (H : Hp) : V → PyData → Prop
  | non : Im K H .non .none
  | bl (b : Bool) : Im K H (.bl b) (.bool b)
  | int (i : Int) : Im K H (.int i) (.int i)
  | str (x : Str) : Im K H (.str x) (.str x)
  | tup {a : Addr} {xs : List V} {ds : List PyData} : H a = some (.tup xs) → ImAll K H xs ds → Im K H (.ref a) (.tuple ds)
inductive ImAll (K : PySem.W.Frag) (H : Hp) : List V → List PyData → Prop
  | nil : ImAll K H [] []
  | cons {v : V} {vs : List V} {d : PyData} {ds : List PyData} : Im K H v d → ImAll K H vs ds → ImAll K H (v :: vs) (d :: ds)
end
section
variable {K : PySem.W.Frag} {H H' : Hp}
mutual
theorem Im.dp : ∀ {d : PyData} {v : V}, Im K H v d → Dp K H v d
  | .none, _, h => by cases h; exact .non
  | .bool _, _, h => by cases h; exact .bl _
  | .int _, _, h => by cases h; exact .int _
  | .str _, _, h => by cases h; exact .str _
  | .tuple _, _, h => by
    cases h with
    | tup h1 h2 => exact .tup (SqT.of h1) h2.dp
  | .list _, _, h => nomatch h
  | .dict _, _, h => nomatch h
theorem ImAll.dp : ∀ {ds : List PyData} {vs : List V}, ImAll K H vs ds → DpAll K H vs ds
  | [], _, h => by cases h; exact .nil
  | _ :: _, _, h => by
    cases h with
    | cons h1 h2 => exact .cons h1.dp h2.dp
end
mutual
theorem Im.mono (e : ∀ a xs, H a = some (.tup xs) → H' a = some (.tup xs)) : ∀ {d : PyData} {v : V}, Im K H v d → Im K H' v d
  | .none, _, h => by cases h; exact .non
  | .bool _, _, h => by cases h; exact .bl _
  | .int _, _, h => by cases h; exact .int _
  | .str _, _, h => by cases h; exact .str _
  | .tuple _, _, h => by
    cases h with
    | tup h1 h2 => exact .tup (e _ _ h1) (h2.mono e)
  | .list _, _, h => nomatch h
  | .dict _, _, h => nomatch h
theorem ImAll.mono (e : ∀ a xs, H a = some (.tup xs) → H' a = some (.tup xs)) : ∀ {ds : List PyData} {vs : List V}, ImAll K H vs ds → ImAll K H' vs ds
  | [], _, h => by cases h; exact .nil
  | _ :: _, _, h => by
    cases h with
    | cons h1 h2 => exact .cons (h1.mono e) (h2.mono e)
end
theorem Im.same (e : Same H H') {d : PyData} {v : V} (h : Im K H v d) : Im K H' v d := h.mono fun _ _ => e _ _
theorem ImAll.same (e : Same H H') {ds : List PyData} {vs : List V} (h : ImAll K H vs ds) : ImAll K H' vs ds := h.mono fun _ _ => e _ _
theorem ImAll.snoc {ds : List PyData} {vs : List V} {d : PyData} {v : V} (h : ImAll K H vs ds) (h1 : Im K H v d) : ImAll K H (vs ++ [v]) (ds ++ [d]) := by
  induction vs generalizing ds with
  | nil =>
    cases h
    exact .cons h1 .nil
  | cons w ws ih =>
    cases h with
    | cons a b => exact .cons a (ih b)
theorem ImAll.len : ∀ {ds : List PyData} {vs : List V}, ImAll K H vs ds → vs.length = ds.length
  | [], _, h => by cases h; rfl
  | _ :: _, _, h => by
    cases h with
    | cons _ b => exact congrArg (· + 1) b.len
/-- what is data stays data where a list changes -/
theorem tup_but {p : Addr} {o o' : HO} (h : H p = some o) (n : ∀ xs, o ≠ .tup xs) (a : Addr) (xs : List V) (e : H a = some (.tup xs)) : upd H p o' a = some (.tup xs) := by
  have d : a ≠ p := fun z => by
    rw [z, h] at e
    exact n xs (Option.some.inj e)
  rw [upd_ne d]
  exact e
theorem Hs.base {B B2 : Hp} {L : List (Addr × HO)} (e : Same B B2) (h : Hs B2 L H) : Hs B L H := ⟨e.trans h.same, h.nd, fun x hx => e.free (h.out x hx), h.at_⟩
end
section
variable {K : PySem.W.Frag} {σ : St} {H : Hp} {Q : VK} {te : TE} {ts : TA}
/-- [e for i in range(lo, hi)], each e data that is made anew -/
theorem w_lcI {vs : List Nat} {j : Nat} {lo hi : Int} (b1 : -(2 ^ 62) ≤ lo ∧ lo < 2 ^ 62 ∧ -(2 ^ 62) ≤ hi ∧ hi < 2 ^ 62) (hz : hi - lo ≤ 1000000) (ds : Nat → PyData) (hta : ∀ Q : List V → Hp → Prop, Q [.int lo, .int hi] H → ts σ H Q)
    (hw : ∀ v, wipe ((wipe σ vs).set j (some v)) vs = wipe σ vs)
    (he : ∀ (i : Nat) (H' : Hp) (Q' : VK), lo + (i : Int) < hi → Same H H' → (∀ y H3, Same H' H3 → Im K H3 y (ds i) → Q' y H3) → te ((wipe σ vs).set j (some (.int (lo + (i : Int))))) H' Q')
    (hq : ∀ D acc H', Hs H [(D, .lst acc)] H' → ImAll K H' acc ((List.range (hi - lo).toNat).map ds) → Q (.ref D) H') : tLc (iRng2 ts) (gName j) tYes te vs σ H Q := by
  refine w_lcR b1 (fun D i H' => ∃ acc, Hs H [(D, .lst acc)] H' ∧ ImAll K H' acc ((List.range i).map ds)) hta (fun D hD => ⟨[], (Hs.start H).new hD, .nil⟩) ?_ ?_
  · rintro D i H' hi' ⟨acc, h1, h2⟩
    refine ⟨hw _, ?_⟩
    refine w_yes (iteT ?_)
    refine he i H' _ hi' h1.same fun y H3 s3 hy => ?_
    have hD : H3 D = some (.lst acc) := s3 _ _ h1.g0
    have hl := h2.len
    rw [List.length_map, List.length_range] at hl
    refine ⟨acc, hD, szl (by omega), acc ++ [y], ?_, ?_⟩
    · have h3 : Hs H [(D, .lst acc)] H3 := ⟨h1.same.trans s3, h1.nd, h1.out, fun e he => s3 _ _ (h1.at_ e he)⟩
      exact h3.p0 _
    · rw [List.range_succ, List.map_append]
      exact ((h2.same s3).snoc hy).mono fun a xs => tup_but hD (fun _ z => by cases z) a xs
  · rintro D H' ⟨acc, h1, h2⟩
    exact hq D acc H' h1 h2
theorem w_lcI1 {vs : List Nat} {j : Nat} {hi : Int} (b1 : -(2 ^ 62) ≤ hi ∧ hi < 2 ^ 62) (hz : hi ≤ 1000000) (ds : Nat → PyData) (hta : ∀ Q : List V → Hp → Prop, Q [.int hi] H → ts σ H Q)
    (hw : ∀ v, wipe ((wipe σ vs).set j (some v)) vs = wipe σ vs)
    (he : ∀ (i : Nat) (H' : Hp) (Q' : VK), (i : Int) < hi → Same H H' → (∀ y H3, Same H' H3 → Im K H3 y (ds i) → Q' y H3) → te ((wipe σ vs).set j (some (.int (i : Int)))) H' Q')
    (hq : ∀ D acc H', Hs H [(D, .lst acc)] H' → ImAll K H' acc ((List.range hi.toNat).map ds) → Q (.ref D) H') : tLc (iRng1 ts) (gName j) tYes te vs σ H Q := by
  refine w_lcR1 b1 (fun D i H' => ∃ acc, Hs H [(D, .lst acc)] H' ∧ ImAll K H' acc ((List.range i).map ds)) hta (fun D hD => ⟨[], (Hs.start H).new hD, .nil⟩) ?_ ?_
  · rintro D i H' hi' ⟨acc, h1, h2⟩
    refine ⟨hw _, ?_⟩
    refine w_yes (iteT ?_)
    refine he i H' _ hi' h1.same fun y H3 s3 hy => ?_
    have hD : H3 D = some (.lst acc) := s3 _ _ h1.g0
    have hl := h2.len
    rw [List.length_map, List.length_range] at hl
    refine ⟨acc, hD, szl (by omega), acc ++ [y], ?_, ?_⟩
    · have h3 : Hs H [(D, .lst acc)] H3 := ⟨h1.same.trans s3, h1.nd, h1.out, fun e he => s3 _ _ (h1.at_ e he)⟩
      exact h3.p0 _
    · rw [List.range_succ, List.map_append]
      exact ((h2.same s3).snoc hy).mono fun a xs => tup_but hD (fun _ z => by cases z) a xs
  · rintro D H' ⟨acc, h1, h2⟩
    exact hq D acc H' h1 h2
theorem depth_all {n : Nat} : ∀ ds : List PyData, (∀ d ∈ ds, d.depth ≤ n) → PyData.depthAll ds ≤ n
  | [], _ => by simp [PyData.depthAll]
  | d :: ds, h => by
    have h1 := h d List.mem_cons_self
    have h2 := depth_all ds fun x hx => h x (List.mem_cons_of_mem _ hx)
    simp only [PyData.depthAll]
    omega
theorem lay_all : ∀ ds : List PyData, (∀ d ∈ ds, d.canLay0 = true) → PyData.canLayAll0 ds = true
  | [], _ => by simp [PyData.canLayAll0]
  | d :: ds, h => by
    have h1 := h d List.mem_cons_self
    have h2 := lay_all ds fun x hx => h x (List.mem_cons_of_mem _ hx)
    simp only [PyData.canLayAll0, h1, h2, Bool.and_self]
theorem shp_list {ds : List PyData} (h : ∀ d ∈ ds, d.canLay0 = true ∧ d.depth ≤ 60) : SeqAt.shaped (.list ds) = true := by
  have e := depth_all ds fun d hd => (h d hd).2
  have l := lay_all ds fun d hd => (h d hd).1
  unfold SeqAt.shaped PyData.canLay0 PyData.depth
  rw [l]
  simp only [Bool.true_and, decide_eq_true_eq]
  omega
/-- two lists of like data are equal -/
theorem w_eqL {p q : Addr} {xs ys : List V} {ds : List PyData} (hp : H p = some (.lst xs)) (hq : H q = some (.lst ys)) (h1 : ImAll K H xs ds) (h2 : ImAll K H ys ds) (h : ∀ d ∈ ds, d.canLay0 = true ∧ d.depth ≤ 60) (k : Q (.bl true) H) : rEqD K (.ref p) (.ref q) H Q :=
  ⟨_, _, .lst (SqL.of hp) h1.dp, .lst (SqL.of hq) h2.dp, shp_list h, shp_list h, by
    rw [SeqAt.eqv_refl _ (by have := shp_list h; unfold SeqAt.shaped at this; exact (Bool.and_eq_true_iff.mp this).1)]
    exact k⟩
theorem w_neL {p q : Addr} {xs ys : List V} {ds : List PyData} (hp : H p = some (.lst xs)) (hq : H q = some (.lst ys)) (h1 : ImAll K H xs ds) (h2 : ImAll K H ys ds) (h : ∀ d ∈ ds, d.canLay0 = true ∧ d.depth ≤ 60) (k : Q (.bl false) H) : rNeD K (.ref p) (.ref q) H Q :=
  ⟨_, _, .lst (SqL.of hp) h1.dp, .lst (SqL.of hq) h2.dp, shp_list h, shp_list h, by
    rw [SeqAt.eqv_refl _ (by have := shp_list h; unfold SeqAt.shaped at this; exact (Bool.and_eq_true_iff.mp this).1)]
    exact k⟩
theorem ima_str : ∀ xs : List Str, ImAll K H (xs.map V.str) (xs.map PyData.str)
  | [] => .nil
  | x :: xs => .cons (.str x) (ima_str xs)
end
end Hb

set_option Elab.async false
set_option maxRecDepth 100000
set_option maxHeartbeats 4000000
/-! An own exception's __init__ that says super().__init__(..): the def closes over its class. -/
namespace Hb
open PySem L2 ClX PySem.W PyProof.Rows

section
variable {X : Cx} {pins : List (Addr × Obj)} {σ : L2.St} {H : Hp} {s : Shared} {a C u : Addr} {A : Around} {E : Value → Shared → Prop}
theorem exo_upd {H : Hp} {a : Addr} {o : HO} (e : H a = some o) : upd H a o = H := by
  funext b
  by_cases hb : b = a
  · rw [hb, upd_same, e]
  · rw [upd_ne hb]
/-- ValueError's __init__ bound to the exception, called -/
theorem call_mw {us : List Value} {Q : Value → Shared → Prop} (T : OexC X.K C) (I : Inv X pins σ H s) (e : H a = some (exo a C none)) (hu : s.heap.get? u = some (kxs_mw "ValueError.__init__" a)) (hl : us.length ≤ sizeLine)
    (h : ∀ s', Inv X pins σ H s' → Q .none s') : wpAny (model X.prog X.w) A (call (.ref u) us) Q E s := by
  obtain ⟨nm, q, N, bs, bm, sn, sub, ab, col, dd, k0, k1, k2, k3, k5, hC, hbm⟩ := T.cls
  obtain ⟨t1, ho⟩ := exo_at I.hok e
  have hC' := I.kIn _ _ hC
  have FB := F.excBase_ValueError
  obtain ⟨hp, g, d, t, os⟩ := s
  refine wpAny_call (codeAny_of_tree ?_)
  show wpAny _ A.in1 (callAny (.ref u) ⟨us, []⟩) _ _ _
  simp only [callAny]
  refine wpAny_bind (wpAny_load hu ?_)
  simp only [show (Value.type "method-wrapper" == Value.type "method" || Value.type "method-wrapper" == Value.type "builtin_function_or_method" || Value.type "method-wrapper" == Value.type "method-wrapper") = true by decide, if_true]
  refine KFB.if_so (by decide) ?_
  refine wpAny_bind (check_bound_init FB.toExcCallFacts hC' ho rfl ?_)
  refine wpAny_bind (wpAny_pure (wpAny_pure ?_))
  refine ⟨plainId_quiet FB.init.plain _, codeAny_builtin FB.initEntry ?_⟩
  refine exc_init_tree (cls := .ref C) (t0 := t1) (dv := none) (c2 := .none) (c3 := .none) (b4 := .bool false) ho hl fun h' k hx _ => ?_
  have J := I.write (t' := t) (x := a) (e := a) (o := exo a C none) (by rw [e]; exact True.intro) (.inl rfl) k ⟨_, hx⟩ (exo_ok hx)
  rw [exo_upd e] at J
  exact h _ J
end

/-- what stands of a def that closes over its class -/
structure FunS (P : Program) (K : PySem.W.Frag) (mg : Str → Option Value) (x qual : Str) (st : Stmt) (f : Addr) (fd : FuncData) (C : Addr) : Prop where
  ex : ∃ (oc : Value) (od : Option Addr) (kV doc pm : Value) (an : Option Addr) (cda : Addr) (ct : Value) (cc : Addr) (osl : Array (Option Value)) (ccl : Value) (cdd : Option Addr) (vs : Array Value) (ccs : Array (Option Value)) (file : Str) (tf : Tok) (cl : Value) (cld : Option Addr) (csl : Array (Option Value)),
    fd = fnX x qual (defArgs st) (defBody st) (defScope st) [("__class__", cc)] .none kV doc pm an (.ref cda) ct ∧ K.lookup f = some ⟨oc, od, .func fd, osl⟩ ∧ codeIn K (.ref cda) qual = true ∧
    K.lookup cda = some ⟨ccl, cdd, .fields vs, ccs⟩ ∧ vs[2]? = some (.str file tf) ∧ ((P.main.file : Str) == file) = true ∧ K.lookup cc = some ⟨cl, cld, .cell (some (.ref C)), csl⟩
  cls : ∃ cd, clsIn K C = some cd
  sub : mroIn K C (.ref C) = some true
  nsup : mg "super" = none
  nany : nsIn K cStatics "thirdparty.any" = some none
  sup : ks_superIn K C C "__init__" = some (some (.builtin "ValueError.__init__"))
  isV : subIn K (.ref C) (.type "ValueError") = some true
  top : (P.main.scope.names.lookup ("super" : Str)).isSome = false

/-- .. and of its names -/
structure ScS (N ps : List Str) (ar : Arg) (st : Stmt) : Prop where
  kind : (defScope st).kind = .function
  co : (defScope st).isCoroutine = false
  gen : (defScope st).isGenerator = false
  nd : N.Nodup
  pre : N.take ps.length = ps
  par : ∀ x ∈ ps, (defScope st).names.lookup x = some .local
  nocell : ∀ y ∈ (defScope st).names, y.2 ≠ .cell
  free : ∀ y, (defScope st).names.lookup y = some .free → y = ("__class__" : Str)
  sup : (defScope st).names.lookup ("super" : Str) = some .globalImplicit
  cls : (defScope st).names.lookup ("__class__" : Str) = some .free
  head : ((defArgs st).posonlyargs ++ (defArgs st).args).head? = some ar
  self : N[0]? = some ar.arg
  selfL : (defScope st).names.lookup ar.arg = some .local

theorem scS_by {N ps : List Str} {ar : Arg} {st : Stmt} (h : (decide ((defScope st).kind = .function) && !(defScope st).isCoroutine && !(defScope st).isGenerator && decide N.Nodup && decide (N.take ps.length = ps)) = true)
    (hn : (ps.all (fun x => decide ((defScope st).names.lookup x = some .local)) && (defScope st).names.all (fun y => !decide (y.2 = .cell)) && (defScope st).names.all (fun y => !decide (y.2 = .free) || decide (y.1 = ("__class__" : Str))) &&
      decide ((defScope st).names.lookup ("super" : Str) = some .globalImplicit) && decide ((defScope st).names.lookup ("__class__" : Str) = some .free)) = true)
    (head : ((defArgs st).posonlyargs ++ (defArgs st).args).head? = some ar) (hp : (decide (0 < ps.length)) = true) (self : N[0]? = some ar.arg) (selfL : (decide ((defScope st).names.lookup ar.arg = some .local)) = true) : ScS N ps ar st := by
  simp only [Bool.and_eq_true, Bool.not_eq_true', decide_eq_true_eq, List.all_eq_true, Bool.or_eq_true, decide_eq_false_iff_not] at h hn selfL
  obtain ⟨⟨⟨⟨h1, h2⟩, h3⟩, h4⟩, h5⟩ := h
  obtain ⟨⟨⟨⟨n1, n2⟩, n3⟩, n4⟩, n5⟩ := hn
  exact ⟨h1, h2, h3, h4, h5, n1, n2, fun y hy => (n3 _ (PySem.mem_of_lookup hy)).resolve_left (fun z => z rfl), n4, n5, head, self, selfL⟩

/-- the context of its body -/
def sxOf (P : Program) (w : World) (K : PySem.W.Frag) (mg : Str → Option Value) (base : Heap) (N : List Str) (qual : Str) (scope : Scope) (f cda cc : Addr) (A : Around) (outer : List Env) (s : Shared) (H : Hp) : Cx where
  prog := P
  w := w
  K := K
  mg := mg
  base := base
  A := A.deeper (ksEnv qual scope s.heap.objs.size f (.ref cda) cc)
  N := N
  s_0 := s
  H_0 := H
  env := ksEnv qual scope s.heap.objs.size f (.ref cda) cc
  outer := outer
  stack := ksEnv qual scope s.heap.objs.size f (.ref cda) cc :: outer
  ex := []
  calm := true
  fn := fun x => x != ("__class__" : Str)
  pn := []
  xe := fun _ _ => False

theorem rev_zip_get : ∀ {ps : List Str} {us : List Value} {i : Nat} {y : Str} {u : Value}, ps.Nodup → ps[i]? = some y → us[i]? = some u → (ps.zip us).reverse.lookup y = some u
  | [], _, _, _, _, _, h, _ => by cases h
  | _ :: _, [], _, _, _, _, _, h => by simp at h
  | p :: ps, v :: us, 0, y, u, nd, h1, h2 => by
    obtain rfl : p = y := Option.some.inj h1
    obtain rfl : v = u := Option.some.inj h2
    rw [List.zip_cons_cons, List.reverse_cons, List.lookup_append]
    have n : (ps.zip us).reverse.lookup p = none := by
      rw [List.lookup_eq_none_iff]
      intro q hq
      have := (List.of_mem_zip (List.mem_reverse.mp hq)).1
      simp only [bne_iff_ne, ne_eq]
      exact fun e => (List.nodup_cons.mp nd).1 (by rw [e]; exact this)
    rw [n]
    simp [List.lookup]
  | p :: ps, v :: us, i + 1, y, u, nd, h1, h2 => by
    rw [List.zip_cons_cons, List.reverse_cons, List.lookup_append, rev_zip_get (i := i) (List.nodup_cons.mp nd).2 (by simpa using h1) (by simpa using h2)]
    rfl

section
variable {P : Program} {w : World} {K : PySem.W.Frag} {mg : Str → Option Value} {base : Heap} {N ps : List Str} {qual : Str} {f cda cc C : Addr} {A : Around} {outer : List Env} {s : Shared} {H : Hp} {st : Stmt} {ar : Arg}
theorem inv_startS {us : List Value} {vs : List V} {h₀ : Heap} {t' : Nat} {oC : Obj} (S : ScS N ps ar st) (hd : A.handled = none) (e0 : Env0 P w K mg base A outer s H) (hl : vs.length = ps.length) (r : Vals vs us)
    (hcc : base.get? cc = some oC) (hco : ∃ v, oC.data = .cell v) (hns : h₀.Ns s.heap.objs.size (fun x => (ps.zip us).reverse.lookup x)) (hk : ∀ b o, s.heap.get? b = some o → h₀.get? b = some o) :
    Inv (sxOf P w K mg base N qual (defScope st) f cda cc A outer s H) [] (L2.start N vs) H { s with heap := h₀, toks := t' } := by
  have hpl : ps.length ≤ N.length := by have := congrArg List.length S.pre; rw [List.length_take] at this; omega
  have noA : ∀ b : Addr, b ∉ (sxOf P w K mg base N qual (defScope st) f cda cc A outer s H).ex := fun b z => absurd (show b ∈ ([] : List Addr) from z) (by simp)
  have cell1 : ∀ {x : Str} {c : Addr}, (sxOf P w K mg base N qual (defScope st) f cda cc A outer s H).env.cells.lookup x = some c → x = "__class__" ∧ c = cc := fun {x c} e => by
    have e' : List.lookup x [(("__class__" : Str), cc)] = some c := e
    by_cases hx : x = "__class__"
    · subst hx
      refine ⟨rfl, ?_⟩
      simp [List.lookup] at e'
      exact e'.symm
    · have hb : (x == ("__class__" : Str)) = false := by simpa using hx
      simp [List.lookup, hb] at e'
  have hcs := (e0.bs cc oC hcc)
  refine ⟨⟨e0.mod, S.kind, rfl, rfl, Nat.le_refl _, fun y z c h1 h2 => ?_, fun y hy => ?_, fun y c hf h => ?_, fun _ => hd, Around.frames_deeper e0.frames, .inr ⟨rfl, rfl⟩, fun b z => absurd z (noA b), e0.bs, e0.bsz, fun b _ _ => noA b, fun b z => absurd z (noA b), e0.funs, e0.frf⟩,
    rfl, e0.bare, Un.kept hk, ⟨_, hns, fun i y v h1 h2 h3 => ?_⟩, fun y c h => ?_, e0.hok.fresh (Nat.le_refl _), fun y c h => ?_, fun p hp => absurd (show p ∈ ([] : List (Addr × Obj)) from hp) (by simp), e0.hok.kept hk, ?_⟩
  · rw [(cell1 h1).1, (cell1 h2).1]
  · have hy : (defScope st).names.lookup y = some .cell ∨ (defScope st).names.lookup y = some .free := hy
    rcases hy with hy | hy
    · exact absurd rfl (S.nocell _ (PySem.mem_of_lookup hy))
    · rw [S.free y hy]
      exact ⟨cc, rfl⟩
  · rw [(cell1 h).1] at hf
    exact absurd (show (("__class__" : Str) != ("__class__" : Str)) = true from hf) (by decide)
  · have hi : i < vs.length := by
      unfold L2.start at h2
      by_cases hi : i < vs.length
      · exact hi
      · rw [List.getElem?_append_right (by simpa using hi)] at h2
        rw [List.getElem?_replicate] at h2
        split at h2 <;> cases h2
    have ha : vs[i]? = some v := by
      unfold L2.start at h2
      rw [List.getElem?_append_left (by simpa using hi), List.getElem?_map] at h2
      cases e : vs[i]? with
      | none => rw [e] at h2; cases h2
      | some a => rw [e] at h2; cases h2; rfl
    obtain ⟨u, hu, rv⟩ := r.get ha
    have hp : ps[i]? = some y := by
      rw [← S.pre, List.getElem?_take_of_lt (by omega)]; exact h1
    have ndP : ps.Nodup := by rw [← S.pre]; exact S.nd.sublist (List.take_sublist _ _)
    exact ⟨u, rv, .inl ⟨S.par y (List.mem_of_getElem? hp), rev_zip_get ndP hp hu⟩⟩
  · obtain ⟨v, hv⟩ := hco
    rw [(cell1 h).2]
    exact ⟨v, oC, hk _ _ hcs.1, hv⟩
  · rw [(cell1 h).2]
    exact hcs.2
  · unfold L2.start
    show _ = N.length
    rw [List.length_append, List.length_map, List.length_replicate]
    omega

/-- the line super().__init__(..) -/
theorem super_line {fd : FuncData} {x : Str} {body : List Stmt} {a L : Addr} {e : Expr} {es : List Expr} {p0 p1 p2 p3 p4 : Pos} {ta : TA} {σ : L2.St} {s1 : Shared} {H1 : Hp} {D : Hp → Prop} {X : Cx} {oc : Value} {od : Option Addr} {kV doc pm : Value} {an : Option Addr} {ct : Value} {osl : Array (Option Value)}
    {ccl : Value} {cdd : Option Addr} {vs : Array Value} {ccs : Array (Option Value)} {file : Str} {tf : Tok} {cl : Value} {cld : Option Addr} {csl : Array (Option Value)}
    (S : ScS N ps ar st) (F : FunS X.prog X.K X.mg x qual st f fd C) (henv : X.env = ksEnv qual (defScope st) L f (.ref cda) cc) (hN : X.N = N)
    (h1 : fd = fnX x qual (defArgs st) (defBody st) (defScope st) [("__class__", cc)] .none kV doc pm an (.ref cda) ct) (h2 : X.K.lookup f = some ⟨oc, od, .func fd, osl⟩)
    (h4 : X.K.lookup cda = some ⟨ccl, cdd, .fields vs, ccs⟩) (h5 : vs[2]? = some (.str file tf)) (h6 : ((X.prog.main.file : Str) == file) = true) (h7 : X.K.lookup cc = some ⟨cl, cld, .cell (some (.ref C)), csl⟩)
    (T : OexC X.K C) (I : Inv X [] σ H1 s1) (h0 : σ[0]? = some (some (.ref a))) (ea : H1 a = some (exo a C none)) (ha : PA X (e :: es) ta)
    (ht : ta σ H1 fun us H2 => us.length ≤ 1000 ∧ H2 a = some (exo a C none) ∧ D H2)
    {pl : Sem Bool} (hc : eval (.Call (.Attribute (.Call (.Name "super" p0) [] [] p1) "__init__" p2) (e :: es) [] p3) X.env = (do
      let ov ← attributeBase (.Call (.Name "super" p0) [] [] p1) "__init__" X.env (eval (.Call (.Name "super" p0) [] [] p1) X.env)
      standAt p2.atName
      let (f, first) ← holding [ov] (getMethod ov "__init__" pl)
      callWith p3 f first (backTo p3 (starEach (e :: es) X.env)) []))
    (he : starEach (e :: es) X.env = (false, eval e X.env) :: starEach es X.env) (hpl : (backTo p3 (starEach es X.env)).any (·.1) = false) (hi : interactive X.env = false) :
    PySem.wpAt (model X.prog X.w) X.A (.func body X.env) (exec (.Expr (.Call (.Attribute (.Call (.Name "super" p0) [] [] p1) "__init__" p2) (e :: es) [] p3) p4) X.env)
      (fun fl s' => fl = .next ∧ ∃ H2, Inv X [] σ H2 s' ∧ D H2) X.xe s1 := by
  obtain ⟨cdD, hD⟩ := F.cls
  obtain ⟨m, hns, hlook⟩ := I.loc
  obtain ⟨ux, rux, hlx⟩ := hlook 0 ar.arg (.ref a) (by rw [hN]; exact S.self) h0 (by rw [henv]; exact .inl S.selfL)
  obtain rfl : ux = Value.ref a := rux
  have hv : m ar.arg = some (.ref a) := by
    rcases hlx with hlx | ⟨hk, _⟩
    · exact hlx.2
    · have e' : (defScope st).names.lookup ar.arg = some .cell ∨ (defScope st).names.lookup ar.arg = some .free := by rw [henv] at hk; exact hk
      rw [S.selfL] at e'
      rcases e' with e' | e' <;> cases e'
  have X1 : X.K.In s1.heap := I.kIn
  obtain ⟨t1, ho⟩ := exo_at I.hok ea
  have Ia : InstAt s1.heap a _ C none := ⟨ho, rfl, rfl, trivial⟩
  obtain ⟨oD, hD1, hD2⟩ : ∃ oD, s1.heap.get? C = some oD ∧ oD.data = .cls cdD := by
    unfold clsIn at hD
    split at hD
    · rename_i c d cd' sl ho
      cases hD
      exact ⟨_, X1 _ _ ho, rfl⟩
    · cases hD
  obtain ⟨mb, hb1, hb2⟩ := I.mod.blt
  have hks : X.env.kindOf "super" = some .globalImplicit := by rw [henv]; exact S.sup
  have hkc : X.env.kindOf "__class__" = some .free := by rw [henv]; exact S.cls
  have hka : X.env.kindOf ar.arg = some .local := by rw [henv]; exact S.selfL
  have hcells : X.env.cells.lookup ("__class__" : Str) = some cc := by rw [henv]; rfl
  have hfun : X.env.func = some f := by rw [henv]
  have hcod : X.env.code = .ref cda := by rw [henv]
  have hns' : s1.heap.Ns X.env.locals m := hns
  have hgl : s1.heap.Ns X.env.globals X.mg := by rw [I.ok.glob]; exact I.mod.glob.keeps I.bk
  have hbl : s1.heap.Ns X.env.builtins mb := by rw [I.ok.blt]; exact hb1.keeps I.bk
  have hsz := I.lt
  obtain ⟨hh, g, d, t, os⟩ := s1
  refine ks_wpAt_Expr_any (hi := hi) (ks_wpAt_MethodCall ?_ hc)
  refine ks_wpAt_super_base (fd := fd) (ar := ar) hks hkc (by decide) hfun (X1 _ _ h2) rfl (by rw [h1]; exact S.head) hcod (X1 _ _ h4) rfl h5 h6 F.top ?_
  refine ks_loadName_global I.ok.kind hks (Calls.loadGlobal_builtin hgl F.nsup hbl ((hb2 _ (by decide)).trans (by first | boot_by_name | rfl | kernel_rfl)) ⟨rfl, ?_⟩)
  refine wpAny_loadName_free I.ok.kind hkc hcells ⟨_, X1 _ _ h7, rfl⟩ ?_
  refine wpAny_loadName_local I.ok.kind hka hns' hv ?_
  refine ks_wpAny_isType_cls hD1 hD2 ⟨rfl, ?_⟩
  refine ks_wpAny_call_super hD1 hD2 Ia.at_ Ia.cls (fun c z => ?_) (looks_mroIn X1 F.sub) (fun h' e' k => ?_)
  · have := Ia.no
    unfold notCls at this
    rw [z] at this
    exact Bool.noConfusion this
  -- the super object
  have I2 : Inv X [] σ H1 ⟨h', g, d, t, os⟩ := I.kept (t' := t) k
  have X2 : X.K.In h' := I2.kIn
  have Ia2 : InstAt h' a _ C none := ⟨k _ _ ho, rfl, rfl, trivial⟩
  have hI : Looks (model X.prog X.w) h' (isInstance (.ref a) (.type "ValueError")) true := Ia2.type.andThen (looks_subIn X2 F.isV)
  have hsup := F.sup
  unfold ks_superIn at hsup
  rw [hD] at hsup
  refine kxs_getMethod kxs_ValueError e' (looks_opaque X2 F.nany) (l₀ := cdD.mro) (fun A Q E s k q => wpAny_bind ((looks_clsIn X2 hD) A _ E s k (wpAny_pure q))) rfl X2 hsup hI (ks_ne X2 Ia2 hD) (by decide) ?_
  -- the bound __init__
  have k3 : ∀ b o, h'.get? b = some o → (h'.push (kxs_mw "ValueError.__init__" a)).get? b = some o := fun b o z => Heap.get?_push_of_some _ z
  have hu : (h'.push (kxs_mw "ValueError.__init__" a)).get? h'.objs.size = some (kxs_mw "ValueError.__init__" a) := Heap.get?_push_at rfl rfl
  have I3 : Inv X [] σ H1 ⟨h'.push (kxs_mw "ValueError.__init__" a), g, d, t + 1, os⟩ := I2.kept (t' := t + 1) k3
  have I4 : Inv X [(h'.objs.size, kxs_mw "ValueError.__init__" a)] σ H1 ⟨h'.push (kxs_mw "ValueError.__init__" a), g, d, t + 1, os⟩ := by
    refine I3.pins_of fun p hp => ?_
    have hp' : p ∈ X.pn ++ [(h'.objs.size, kxs_mw "ValueError.__init__" a)] ∨ p ∈ [(h'.objs.size, kxs_mw "ValueError.__init__" a)] := .inr hp
    obtain rfl : p = (h'.objs.size, kxs_mw "ValueError.__init__" a) := by simpa using hp
    have lt := I2.lt
    refine ⟨hu, I2.hok.fresh (Nat.le_refl _), fun z => ?_, I2.nofs (Nat.le_refl _), fun v z => ?_⟩
    · exact absurd (show X.env.locals < h'.objs.size from lt) (by rw [← z]; exact Nat.lt_irrefl _)
    · cases z
  refine kxs_callWith (i := "ValueError.__init__") (x := a) (u := h'.objs.size) ?_ ?_
  · rw [he]
    show (false || (backTo p3 (starEach es X.env)).any (·.1)) = false
    rw [hpl]
    rfl
  · rw [he]
    refine Calls.evalArgs_plain ?_
    have run := ha.run p3 _ _ σ H1 _ I4 ht
    rw [he] at run
    refine wpAny_mono run (fun us s2 ⟨ws, H2, I5, r, hw, ea2, q⟩ => ?_) fun _ _ z => z
    have hu2 := (I5.pin (h'.objs.size, kxs_mw "ValueError.__init__" a) (by simp)).1
    refine ⟨hu2, ?_⟩
    have hz : us.length ≤ sizeLine := by
      rw [← r.length, sizeLine_eq]
      omega
    refine call_mw T I5 ea2 hu2 hz fun s3 J => ⟨rfl, H2, ?_, q⟩
    exact J.pins_of fun p hp => absurd hp (by simp)

/-- THE RULE: an __init__ whose first line is super().__init__(..) -/
theorem FunS.ok {fd : FuncData} {x : Str} {e : Expr} {es : List Expr} {rest : List Stmt} {p0 p1 p2 p3 p4 : Pos} {k : Nat} {sp : Sp} (F : FunS P K mg x qual st f fd C) (T : OexC K C) (S : ScS N ps ar st) (len : ∀ vs H Q E, sp vs H Q E → vs.length = ps.length)
    (hb : defBody st = .Expr (.Call (.Attribute (.Call (.Name "super" p0) [] [] p1) "__init__" p2) (e :: es) [] p3) p4 :: rest)
    (hbody : ∀ (cda cc : Addr) (A : Around) (outer : List Env) (s : Shared) (H : Hp) (vs : List V) (Q : VK) (E : XK), Room k (A.deeper (ksEnv qual (defScope st) s.heap.objs.size f (.ref cda) cc)) → sp vs H Q E →
      ∃ (a : Addr) (ta : TA) (t : TS), (L2.start N vs)[0]? = some (some (.ref a)) ∧ H a = some (exo a C none) ∧ PA (sxOf P w K mg base N qual (defScope st) f cda cc A outer s H) (e :: es) ta ∧ PSs (sxOf P w K mg base N qual (defScope st) f cda cc A outer s H) rest t ∧
        ta (L2.start N vs) H fun us H2 => us.length ≤ 1000 ∧ H2 a = some (exo a C none) ∧ t { nx := fun _ H' => Q .non H', rt := Q } (L2.start N vs) H2)
    {pl : Addr → Addr → Addr → Sem Bool} (hc : ∀ L cda cc : Addr, eval (.Call (.Attribute (.Call (.Name "super" p0) [] [] p1) "__init__" p2) (e :: es) [] p3) (ksEnv qual (defScope st) L f (.ref cda) cc) = (do
      let ov ← attributeBase (.Call (.Name "super" p0) [] [] p1) "__init__" (ksEnv qual (defScope st) L f (.ref cda) cc) (eval (.Call (.Name "super" p0) [] [] p1) (ksEnv qual (defScope st) L f (.ref cda) cc))
      standAt p2.atName
      let (f', first) ← holding [ov] (getMethod ov "__init__" (pl L cda cc))
      callWith p3 f' first (backTo p3 (starEach (e :: es) (ksEnv qual (defScope st) L f (.ref cda) cc))) []) := by intros; rfl)
    (he : ∀ env : Env, starEach (e :: es) env = (false, eval e env) :: starEach es env := by intros; rfl) (hpl : ∀ env : Env, (backTo p3 (starEach es env)).any (·.1) = false := by intros; rfl)
    (hi : ∀ L cda cc : Addr, interactive (ksEnv qual (defScope st) L f (.ref cda) cc) = false := by intros; rfl) : FnOk P w K mg base L2.CX0 (k + 1) f fd ps sp := by
  obtain ⟨oc, od, kV, doc, pm, an, cda, ct, cc, osl, ccl, cdd, vs4, ccs, file, tf, cl, cld, csl, rfl, lk, hcd, h4, h5, h6, h7⟩ := F.ex
  refine ⟨len, fun A outer s H args us vs Q E hr e0 hbi r hsp => ?_⟩
  have hl := len _ _ _ _ hsp
  have KX : K.In s.heap := e0.mod.kin.keeps fun b o e => (e0.bs b o e).1
  have lim : s.heap.NoLimit := e0.mod.nolimit.keeps fun b o e => (e0.bs b o e).1
  have hloc : ∀ y ∈ ps.zip us, (defScope st).names.lookup y.1 = some .local := fun ⟨n, v⟩ hy => S.par n (List.of_mem_zip hy).1
  refine ks_codeAny_call_defAt (fd := fnX x qual (defArgs st) (defBody st) (defScope st) [("__class__", cc)] .none kV doc pm an (.ref cda) ct) (body := defBody st) (binds := ps.zip us) hr.depth (KX _ _ lk) rfl lim (codeRec_of KX hcd) rfl hbi S.nocell hloc (fun h₀ hns hk => ?_) S.co S.gen S.kind
  obtain ⟨a, ta, t, h0, ea, ha, hrest, ht⟩ := hbody cda cc A outer s H vs Q E (hr.deeper _) hsp
  have I : Inv (sxOf P w K mg base N qual (defScope st) f cda cc A outer s H) [] (L2.start N vs) H { s with heap := h₀, toks := s.toks + (ps.zip us).length } :=
    inv_startS S hr.hd e0 hl r (e0.mod.kin _ _ h7) ⟨_, rfl⟩ hns hk
  show _root_.PySem.wpAt (model P w) (A.deeper (ksEnv qual (defScope st) s.heap.objs.size f (.ref cda) cc)) (.func (defBody st) (ksEnv qual (defScope st) s.heap.objs.size f (.ref cda) cc)) (execs (defBody st) (ksEnv qual (defScope st) s.heap.objs.size f (.ref cda) cc)) _ _ _
  have fin : ∀ {σ' : L2.St} {H' : Hp} {v : V} {u : Value} {s' : Shared}, Inv (sxOf P w K mg base N qual (defScope st) f cda cc A outer s H) [] σ' H' s' → RelV v u → Q v H' → CE outer P w H s Q u s' :=
    fun {σ' H' v u s'} J rv q => ⟨v, H', J.os, J.bare, J.base, J.hok, rv, q⟩
  have line := super_line (X := sxOf P w K mg base N qual (defScope st) f cda cc A outer s H) (body := defBody st) (L := s.heap.objs.size) (p0 := p0) (p1 := p1) (p2 := p2) (p3 := p3) (p4 := p4) S F rfl rfl rfl lk h4 h5 h6 h7 T I h0 ea ha ht (hc _ _ _) (he _) (hpl _) (hi _ _ _)
  have all : _root_.PySem.wpAt (model P w) (A.deeper (ksEnv qual (defScope st) s.heap.objs.size f (.ref cda) cc)) (.func (defBody st) (ksEnv qual (defScope st) s.heap.objs.size f (.ref cda) cc))
      (execs (.Expr (.Call (.Attribute (.Call (.Name "super" p0) [] [] p1) "__init__" p2) (e :: es) [] p3) p4 :: rest) (ksEnv qual (defScope st) s.heap.objs.size f (.ref cda) cc))
      (fun fl s' => CE outer P w H s Q (match fl with | .ret v => v | _ => .none) s') (fun _ _ => False) { s with heap := h₀, toks := s.toks + (ps.zip us).length } := by
    refine ks_wpAt_execs_cons (ks_wpAt_mono line (fun fl s' hs => ?_) fun _ _ z => z.elim)
    obtain ⟨rfl, H2, J, q⟩ := hs
    refine wpAt_of_wpAny (wpAny_mono (hrest.run [] s' _ H2 _ J q) (fun fl s'' hs => ?_) fun _ _ z => z)
    cases fl with
    | ret u =>
      obtain ⟨v, σ', H', J', rv, q'⟩ := hs
      exact fin J' rv q'
    | next =>
      obtain ⟨σ', H', J', q'⟩ := hs
      exact fin (v := V.non) (u := Value.none) J' rfl q'
    | brk =>
      obtain ⟨_, _, _, q'⟩ := hs
      exact False.elim q'
    | cont =>
      obtain ⟨_, _, _, q'⟩ := hs
      exact False.elim q'
  rw [← hb] at all
  exact ks_wpAt_mono all (fun fl s' hs => hs) fun _ _ z => z.elim
/-- how its arguments bind -/
theorem FunS.binds {fd : FuncData} {x : Str} (F : FunS P K mg x qual st f fd C)
    (h : ∀ (cc : Addr) (kV doc pm : Value) (an : Option Addr) (cdv ct : Value) (us : List Value), us.length = ps.length → bindArgs (fnX x qual (defArgs st) (defBody st) (defScope st) [("__class__", cc)] .none kV doc pm an cdv ct) ⟨us, []⟩ = pure (ps.zip us)) : Binds K fd ps [] := by
  obtain ⟨oc, od, kV, doc, pm, an, cda, ct, cc, osl, ccl, cdd, vs4, ccs, file, tf, cl, cld, csl, rfl, lk, hcd, h4, h5, h6, h7⟩ := F.ex
  exact .all (h cc kV doc pm an _ ct)
end
end Hb

set_option Elab.async false
set_option maxRecDepth 100000
set_option maxHeartbeats 4000000
namespace K5
open PySem L2 Hb
class IsP (P : Program) : Prop where
  eq : P = PySem.Challenge.pw_hangbridge_k05_windows_and_beats
def top (i : Nat) : Stmt := PySem.Challenge.pw_hangbridge_k05_windows_and_beats.main.body.getD i (.Pass ⟨0, 0, 0, 0⟩)
abbrev s_RoomError_init : Stmt := (inClass (top 2) 0)
abbrev s_Sender_init : Stmt := (inClass (top 8) 0)
abbrev s_Sender_put : Stmt := (inClass (top 8) 1)
abbrev s_Sender_numbered : Stmt := (inClass (top 8) 2)
abbrev s_Sender_fresh : Stmt := (inClass (top 8) 3)
abbrev s_Sender_again : Stmt := (inClass (top 8) 4)
abbrev s_Sender_heard : Stmt := (inClass (top 8) 5)
abbrev s_Inbox_init : Stmt := (inClass (top 9) 0)
abbrev s_Inbox_take : Stmt := (inClass (top 9) 1)
abbrev s_Beat_init : Stmt := (inClass (top 10) 0)
abbrev s_Beat_start : Stmt := (inClass (top 10) 1)
abbrev s_Beat_stop : Stmt := (inClass (top 10) 2)
abbrev s_Beat_hurry : Stmt := (inClass (top 10) 3)
abbrev s_Beat_runs : Stmt := (inClass (top 10) 4)
abbrev s_Beat_due : Stmt := (inClass (top 10) 5)
abbrev s__law_state : Stmt := (top 12)
abbrev s__law_draw : Stmt := (top 13)
abbrev s__law_sender : Stmt := (top 15)
abbrev s__law_inbox : Stmt := (top 16)
abbrev s__law_beat : Stmt := (top 17)
abbrev s__law_full : Stmt := (top 18)
abbrev s_law : Stmt := (top 19)
abbrev N_RoomError_init : List Str := ["self", "place"]
theorem sc_RoomError_init : ∃ ar, ScS N_RoomError_init ["self", "place"] ar s_RoomError_init := ⟨_, scS_by (by decide +kernel) (by decide +kernel) rfl (by decide +kernel) rfl (by decide +kernel)⟩
abbrev N_Sender_init : List Str := ["self"]
theorem sc_Sender_init : FnScope N_Sender_init ["self"] (defScope s_Sender_init) := ⟨rfl, rfl, rfl, by decide +kernel, rfl, by decide +kernel, by decide +kernel⟩
abbrev N_Sender_put : List Str := ["self", "body"]
theorem sc_Sender_put : FnScope N_Sender_put ["self", "body"] (defScope s_Sender_put) := ⟨rfl, rfl, rfl, by decide +kernel, rfl, by decide +kernel, by decide +kernel⟩
abbrev N_Sender_numbered : List Str := ["self", "start", "stop", "at"]
theorem sc_Sender_numbered : FnScope N_Sender_numbered ["self", "start", "stop"] (defScope s_Sender_numbered) := ⟨rfl, rfl, rfl, by decide +kernel, rfl, by decide +kernel, by decide +kernel⟩
abbrev N_Sender_fresh : List Str := ["self", "start"]
theorem sc_Sender_fresh : FnScope N_Sender_fresh ["self"] (defScope s_Sender_fresh) := ⟨rfl, rfl, rfl, by decide +kernel, rfl, by decide +kernel, by decide +kernel⟩
abbrev N_Sender_again : List Str := ["self"]
theorem sc_Sender_again : FnScope N_Sender_again ["self"] (defScope s_Sender_again) := ⟨rfl, rfl, rfl, by decide +kernel, rfl, by decide +kernel, by decide +kernel⟩
abbrev N_Sender_heard : List Str := ["self", "ack", "many"]
theorem sc_Sender_heard : FnScope N_Sender_heard ["self", "ack"] (defScope s_Sender_heard) := ⟨rfl, rfl, rfl, by decide +kernel, rfl, by decide +kernel, by decide +kernel⟩
abbrev N_Inbox_init : List Str := ["self"]
theorem sc_Inbox_init : FnScope N_Inbox_init ["self"] (defScope s_Inbox_init) := ⟨rfl, rfl, rfl, by decide +kernel, rfl, by decide +kernel, by decide +kernel⟩
abbrev N_Inbox_take : List Str := ["self", "number", "body", "ready"]
theorem sc_Inbox_take : FnScope N_Inbox_take ["self", "number", "body"] (defScope s_Inbox_take) := ⟨rfl, rfl, rfl, by decide +kernel, rfl, by decide +kernel, by decide +kernel⟩
abbrev N_Beat_init : List Str := ["self"]
theorem sc_Beat_init : FnScope N_Beat_init ["self"] (defScope s_Beat_init) := ⟨rfl, rfl, rfl, by decide +kernel, rfl, by decide +kernel, by decide +kernel⟩
abbrev N_Beat_start : List Str := ["self", "now"]
theorem sc_Beat_start : FnScope N_Beat_start ["self", "now"] (defScope s_Beat_start) := ⟨rfl, rfl, rfl, by decide +kernel, rfl, by decide +kernel, by decide +kernel⟩
abbrev N_Beat_stop : List Str := ["self"]
theorem sc_Beat_stop : FnScope N_Beat_stop ["self"] (defScope s_Beat_stop) := ⟨rfl, rfl, rfl, by decide +kernel, rfl, by decide +kernel, by decide +kernel⟩
abbrev N_Beat_hurry : List Str := ["self", "now"]
theorem sc_Beat_hurry : FnScope N_Beat_hurry ["self", "now"] (defScope s_Beat_hurry) := ⟨rfl, rfl, rfl, by decide +kernel, rfl, by decide +kernel, by decide +kernel⟩
abbrev N_Beat_runs : List Str := ["self"]
theorem sc_Beat_runs : FnScope N_Beat_runs ["self"] (defScope s_Beat_runs) := ⟨rfl, rfl, rfl, by decide +kernel, rfl, by decide +kernel, by decide +kernel⟩
abbrev N_Beat_due : List Str := ["self", "now"]
theorem sc_Beat_due : FnScope N_Beat_due ["self", "now"] (defScope s_Beat_due) := ⟨rfl, rfl, rfl, by decide +kernel, rfl, by decide +kernel, by decide +kernel⟩
abbrev N__law_state : List Str := ["script", "seed", "cell"]
theorem sc__law_state : FnScope N__law_state ["script"] (defScope s__law_state) := ⟨rfl, rfl, rfl, by decide +kernel, rfl, by decide +kernel, by decide +kernel⟩
abbrev N__law_draw : List Str := ["state", "many", "cells", "value", "mixed"]
theorem sc__law_draw : FnScope N__law_draw ["state", "many"] (defScope s__law_draw) := ⟨rfl, rfl, rfl, by decide +kernel, rfl, by decide +kernel, by decide +kernel⟩
abbrev N__law_sender : List Str := ["state", "sender", "m", "kind", "body", "low", "ack", "count", "told", "k"]
theorem sc__law_sender : FnScope N__law_sender ["state", "sender", "m"] (defScope s__law_sender) := ⟨rfl, rfl, rfl, by decide +kernel, rfl, by decide +kernel, by decide +kernel⟩
abbrev N__law_inbox : List Str := ["state", "inbox", "m", "number", "body", "due", "turn"]
theorem sc__law_inbox : FnScope N__law_inbox ["state", "inbox", "m"] (defScope s__law_inbox) := ⟨rfl, rfl, rfl, by decide +kernel, rfl, by decide +kernel, by decide +kernel⟩
abbrev N__law_beat : List Str := ["state", "beat", "m", "now", "kind", "due", "told"]
theorem sc__law_beat : FnScope N__law_beat ["state", "beat", "m", "now"] (defScope s__law_beat) := ⟨rfl, rfl, rfl, by decide +kernel, rfl, by decide +kernel, by decide +kernel⟩
abbrev N__law_full : List Str := ["sender", "k", "e"]
theorem sc__law_full : FnScope N__law_full [] (defScope s__law_full) := ⟨rfl, rfl, rfl, by decide +kernel, rfl, by decide +kernel, by decide +kernel⟩
abbrev N_law : List Str := ["script", "state", "sender", "inbox", "beat", "models", "now", "k", "kind"]
theorem sc_law : FnScope N_law ["script"] (defScope s_law) := ⟨rfl, rfl, rfl, by decide +kernel, rfl, by decide +kernel, by decide +kernel⟩
structure Ad where
  BridgeError : Addr
  RoomError : Addr
  Sender : Addr
  Inbox : Addr
  Beat : Addr
  RoomError_init : Addr
  fd_RoomError_init : FuncData
  Sender_init : Addr
  fd_Sender_init : FuncData
  Sender_put : Addr
  fd_Sender_put : FuncData
  Sender_numbered : Addr
  fd_Sender_numbered : FuncData
  Sender_fresh : Addr
  fd_Sender_fresh : FuncData
  Sender_again : Addr
  fd_Sender_again : FuncData
  Sender_heard : Addr
  fd_Sender_heard : FuncData
  Inbox_init : Addr
  fd_Inbox_init : FuncData
  Inbox_take : Addr
  fd_Inbox_take : FuncData
  Beat_init : Addr
  fd_Beat_init : FuncData
  Beat_start : Addr
  fd_Beat_start : FuncData
  Beat_stop : Addr
  fd_Beat_stop : FuncData
  Beat_hurry : Addr
  fd_Beat_hurry : FuncData
  Beat_runs : Addr
  fd_Beat_runs : FuncData
  Beat_due : Addr
  fd_Beat_due : FuncData
  _law_state : Addr
  fd__law_state : FuncData
  _law_draw : Addr
  fd__law_draw : FuncData
  _law_sender : Addr
  fd__law_sender : FuncData
  _law_inbox : Addr
  fd__law_inbox : FuncData
  _law_beat : Addr
  fd__law_beat : FuncData
  _law_full : Addr
  fd__law_full : FuncData
  law : Addr
  fd_law : FuncData
structure Txt (K : PySem.W.Frag) (mg : Str → Option Value) (a : Ad) : Prop where
  mg_BridgeError : mg "BridgeError" = some (.ref a.BridgeError)
  rd_BridgeError : ClX.CRead K a.BridgeError (.type "type")
  cv_BridgeError : PySem.W.findCls K (.ref a.BridgeError) (.type "type") "__init__" = some (.val (.builtin "ValueError.__init__"))
  mg_RoomError : mg "RoomError" = some (.ref a.RoomError)
  ox_RoomError : OexC K a.RoomError
  iC_RoomError : PySem.W.findIn K (.ref a.RoomError) "__init__" = some (some (.ref a.RoomError_init))
  tI_RoomError : PySem.W.typeIn K (.ref a.RoomError_init) = some (.type "function")
  no_RoomError_place : PySem.W.findIn K (.ref a.RoomError) "place" = some none
  xf_RoomError : XfC K a.RoomError
  xc_RoomError : XcC K a.RoomError
  te_RoomError : PySem.W.exmOne K (.ref a.RoomError) (.ref a.RoomError) = some true
  is_RoomError_BridgeError : PySem.W.kitOne K (.ref a.RoomError) (.ref a.BridgeError) = some true
  cl_Sender : Cls K a.Sender
  mg_Sender : mg "Sender" = some (.ref a.Sender)
  na_Sender_first : NoAttr K a.Sender "first"
  na_Sender_rows : NoAttr K a.Sender "rows"
  na_Sender_said : NoAttr K a.Sender "said"
  cl_Inbox : Cls K a.Inbox
  mg_Inbox : mg "Inbox" = some (.ref a.Inbox)
  na_Inbox_next : NoAttr K a.Inbox "next"
  na_Inbox__early : NoAttr K a.Inbox "_early"
  cl_Beat : Cls K a.Beat
  mg_Beat : mg "Beat" = some (.ref a.Beat)
  na_Beat_tries : NoAttr K a.Beat "tries"
  na_Beat__wait : NoAttr K a.Beat "_wait"
  na_Beat__due_at : NoAttr K a.Beat "_due_at"
  fn_RoomError_init : FunS PySem.Challenge.pw_hangbridge_k05_windows_and_beats K mg "__init__" "RoomError.__init__" s_RoomError_init a.RoomError_init a.fd_RoomError_init a.RoomError
  bi_RoomError_init : Binds K a.fd_RoomError_init ["self", "place"] []
  fn_Sender_init : Fun K "__init__" "Sender.__init__" s_Sender_init a.Sender_init a.fd_Sender_init
  bi_Sender_init : Binds K a.fd_Sender_init ["self"] []
  mk_Sender : Mk K a.Sender a.Sender_init
  fn_Sender_put : Fun K "put" "Sender.put" s_Sender_put a.Sender_put a.fd_Sender_put
  bi_Sender_put : Binds K a.fd_Sender_put ["self", "body"] []
  me_Sender_put : Meth K a.Sender "put" a.Sender_put
  fn_Sender_numbered : Fun K "_numbered" "Sender._numbered" s_Sender_numbered a.Sender_numbered a.fd_Sender_numbered
  bi_Sender_numbered : Binds K a.fd_Sender_numbered ["self", "start", "stop"] []
  me_Sender_numbered : Meth K a.Sender "_numbered" a.Sender_numbered
  fn_Sender_fresh : Fun K "fresh" "Sender.fresh" s_Sender_fresh a.Sender_fresh a.fd_Sender_fresh
  bi_Sender_fresh : Binds K a.fd_Sender_fresh ["self"] []
  me_Sender_fresh : Meth K a.Sender "fresh" a.Sender_fresh
  fn_Sender_again : Fun K "again" "Sender.again" s_Sender_again a.Sender_again a.fd_Sender_again
  bi_Sender_again : Binds K a.fd_Sender_again ["self"] []
  me_Sender_again : Meth K a.Sender "again" a.Sender_again
  fn_Sender_heard : Fun K "heard" "Sender.heard" s_Sender_heard a.Sender_heard a.fd_Sender_heard
  bi_Sender_heard : Binds K a.fd_Sender_heard ["self", "ack"] []
  me_Sender_heard : Meth K a.Sender "heard" a.Sender_heard
  fn_Inbox_init : Fun K "__init__" "Inbox.__init__" s_Inbox_init a.Inbox_init a.fd_Inbox_init
  bi_Inbox_init : Binds K a.fd_Inbox_init ["self"] []
  mk_Inbox : Mk K a.Inbox a.Inbox_init
  fn_Inbox_take : Fun K "take" "Inbox.take" s_Inbox_take a.Inbox_take a.fd_Inbox_take
  bi_Inbox_take : Binds K a.fd_Inbox_take ["self", "number", "body"] []
  me_Inbox_take : Meth K a.Inbox "take" a.Inbox_take
  fn_Beat_init : Fun K "__init__" "Beat.__init__" s_Beat_init a.Beat_init a.fd_Beat_init
  bi_Beat_init : Binds K a.fd_Beat_init ["self"] []
  mk_Beat : Mk K a.Beat a.Beat_init
  fn_Beat_start : Fun K "start" "Beat.start" s_Beat_start a.Beat_start a.fd_Beat_start
  bi_Beat_start : Binds K a.fd_Beat_start ["self", "now"] []
  me_Beat_start : Meth K a.Beat "start" a.Beat_start
  fn_Beat_stop : Fun K "stop" "Beat.stop" s_Beat_stop a.Beat_stop a.fd_Beat_stop
  bi_Beat_stop : Binds K a.fd_Beat_stop ["self"] []
  me_Beat_stop : Meth K a.Beat "stop" a.Beat_stop
  fn_Beat_hurry : Fun K "hurry" "Beat.hurry" s_Beat_hurry a.Beat_hurry a.fd_Beat_hurry
  bi_Beat_hurry : Binds K a.fd_Beat_hurry ["self", "now"] []
  me_Beat_hurry : Meth K a.Beat "hurry" a.Beat_hurry
  fn_Beat_runs : Fun K "runs" "Beat.runs" s_Beat_runs a.Beat_runs a.fd_Beat_runs
  bi_Beat_runs : Binds K a.fd_Beat_runs ["self"] []
  me_Beat_runs : Meth K a.Beat "runs" a.Beat_runs
  fn_Beat_due : Fun K "due" "Beat.due" s_Beat_due a.Beat_due a.fd_Beat_due
  bi_Beat_due : Binds K a.fd_Beat_due ["self", "now"] []
  me_Beat_due : Meth K a.Beat "due" a.Beat_due
  fn__law_state : Fun K "_law_state" "_law_state" s__law_state a._law_state a.fd__law_state
  bi__law_state : Binds K a.fd__law_state ["script"] []
  mg__law_state : mg "_law_state" = some (.ref a._law_state)
  kp__law_state : PySem.W.keepIn K (.ref a._law_state) = true
  fn__law_draw : Fun K "_law_draw" "_law_draw" s__law_draw a._law_draw a.fd__law_draw
  bi__law_draw : Binds K a.fd__law_draw ["state", "many"] []
  mg__law_draw : mg "_law_draw" = some (.ref a._law_draw)
  kp__law_draw : PySem.W.keepIn K (.ref a._law_draw) = true
  fn__law_sender : Fun K "_law_sender" "_law_sender" s__law_sender a._law_sender a.fd__law_sender
  bi__law_sender : Binds K a.fd__law_sender ["state", "sender", "m"] []
  mg__law_sender : mg "_law_sender" = some (.ref a._law_sender)
  kp__law_sender : PySem.W.keepIn K (.ref a._law_sender) = true
  fn__law_inbox : Fun K "_law_inbox" "_law_inbox" s__law_inbox a._law_inbox a.fd__law_inbox
  bi__law_inbox : Binds K a.fd__law_inbox ["state", "inbox", "m"] []
  mg__law_inbox : mg "_law_inbox" = some (.ref a._law_inbox)
  kp__law_inbox : PySem.W.keepIn K (.ref a._law_inbox) = true
  fn__law_beat : Fun K "_law_beat" "_law_beat" s__law_beat a._law_beat a.fd__law_beat
  bi__law_beat : Binds K a.fd__law_beat ["state", "beat", "m", "now"] []
  mg__law_beat : mg "_law_beat" = some (.ref a._law_beat)
  kp__law_beat : PySem.W.keepIn K (.ref a._law_beat) = true
  fn__law_full : Fun K "_law_full" "_law_full" s__law_full a._law_full a.fd__law_full
  bi__law_full : Binds K a.fd__law_full [] []
  mg__law_full : mg "_law_full" = some (.ref a._law_full)
  kp__law_full : PySem.W.keepIn K (.ref a._law_full) = true
  fn_law : Fun K "law" "law" s_law a.law a.fd_law
  bi_law : Binds K a.fd_law ["script"] []
  mg_law : mg "law" = some (.ref a.law)
  kp_law : PySem.W.keepIn K (.ref a.law) = true
  mg_MOST_MESSAGES : ∃ tk, mg "MOST_MESSAGES" = some (.int 300 tk)
  mg_WINDOW : ∃ tk, mg "WINDOW" = some (.int 4 tk)
  mg_FIRST_WAIT : ∃ tk, mg "FIRST_WAIT" = some (.int 2 tk)
  mg_LONGEST_WAIT : ∃ tk, mg "LONGEST_WAIT" = some (.int 16 tk)
  mg_len : mg "len" = none
  mg_range : mg "range" = none
  mg_min : mg "min" = none
  mg_abs : mg "abs" = none
  mg_int : mg "int" = none
  mg_max : mg "max" = none
  mg_str : mg "str" = none
  mg_isinstance : mg "isinstance" = none
  mg_bool : mg "bool" = none
local macro_rules | `(tactic| walk_at "g") => `(tactic| first | assumption | exact Hs.g0 (by assumption) | exact Hs.g1 (by assumption) | exact Hs.g2 (by assumption) | exact Hs.g3 (by assumption) | exact Hs.g4 (by assumption) | exact Hs.g5 (by assumption) | exact Hs.g6 (by assumption) | exact Hs.g7 (by assumption) | exact Hs.g8 (by assumption) | exact Hs.g9 (by assumption) | exact Hs.g10 (by assumption) | exact Hs.g11 (by assumption) | exact Hs.g12 (by assumption) | exact Hs.g13 (by assumption) | exact Hs.g14 (by assumption) | exact Hs.g15 (by assumption) | exact Hs.old (by assumption) (by assumption))
local macro_rules | `(tactic| walk_at "l") => `(tactic| first | assumption | exact SqL.of (by walk_at "g") | exact Hs.sql (by assumption) (by assumption))
local macro_rules | `(tactic| walk_at "p") => `(tactic| first | exact .here | exact .there .here | exact .there (.there .here) | exact .there (.there (.there .here)) | exact .there (.there (.there (.there .here))) | exact .there (.there (.there (.there (.there .here)))) | exact .there (.there (.there (.there (.there (.there .here))))) | exact .there (.there (.there (.there (.there (.there (.there .here)))))) | exact .there (.there (.there (.there (.there (.there (.there (.there .here))))))) | exact .there (.there (.there (.there (.there (.there (.there (.there (.there .here)))))))) | exact .there (.there (.there (.there (.there (.there (.there (.there (.there (.there .here))))))))) | exact .there (.there (.there (.there (.there (.there (.there (.there (.there (.there (.there .here)))))))))) | exact .there (.there (.there (.there (.there (.there (.there (.there (.there (.there (.there (.there .here))))))))))) | exact .there (.there (.there (.there (.there (.there (.there (.there (.there (.there (.there (.there (.there .here)))))))))))))
local macro_rules | `(tactic| walk_at "f") => `(tactic| first | exact lk0 | exact lk1 (by decide +kernel) lk0 | exact lk1 (by decide +kernel) (lk1 (by decide +kernel) lk0) | exact lk1 (by decide +kernel) (lk1 (by decide +kernel) (lk1 (by decide +kernel) lk0)) | exact lk1 (by decide +kernel) (lk1 (by decide +kernel) (lk1 (by decide +kernel) (lk1 (by decide +kernel) lk0))) | exact lk1 (by decide +kernel) (lk1 (by decide +kernel) (lk1 (by decide +kernel) (lk1 (by decide +kernel) (lk1 (by decide +kernel) lk0)))) | exact lk1 (by decide +kernel) (lk1 (by decide +kernel) (lk1 (by decide +kernel) (lk1 (by decide +kernel) (lk1 (by decide +kernel) (lk1 (by decide +kernel) lk0))))) | exact lk1 (by decide +kernel) (lk1 (by decide +kernel) (lk1 (by decide +kernel) (lk1 (by decide +kernel) (lk1 (by decide +kernel) (lk1 (by decide +kernel) (lk1 (by decide +kernel) lk0)))))) | exact lk1 (by decide +kernel) (lk1 (by decide +kernel) (lk1 (by decide +kernel) (lk1 (by decide +kernel) (lk1 (by decide +kernel) (lk1 (by decide +kernel) (lk1 (by decide +kernel) (lk1 (by decide +kernel) lk0))))))))
local macro_rules | `(tactic| walk_at "fn") => `(tactic| first | exact lke | exact lkn (by decide +kernel) lke | exact lkn (by decide +kernel) (lkn (by decide +kernel) lke) | exact lkn (by decide +kernel) (lkn (by decide +kernel) (lkn (by decide +kernel) lke)) | exact lkn (by decide +kernel) (lkn (by decide +kernel) (lkn (by decide +kernel) (lkn (by decide +kernel) lke))) | exact lkn (by decide +kernel) (lkn (by decide +kernel) (lkn (by decide +kernel) (lkn (by decide +kernel) (lkn (by decide +kernel) lke)))) | exact lkn (by decide +kernel) (lkn (by decide +kernel) (lkn (by decide +kernel) (lkn (by decide +kernel) (lkn (by decide +kernel) (lkn (by decide +kernel) lke))))) | exact lkn (by decide +kernel) (lkn (by decide +kernel) (lkn (by decide +kernel) (lkn (by decide +kernel) (lkn (by decide +kernel) (lkn (by decide +kernel) (lkn (by decide +kernel) lke)))))) | exact lkn (by decide +kernel) (lkn (by decide +kernel) (lkn (by decide +kernel) (lkn (by decide +kernel) (lkn (by decide +kernel) (lkn (by decide +kernel) (lkn (by decide +kernel) (lkn (by decide +kernel) lke))))))))
local macro_rules | `(tactic| walk_at "fp") => `(tactic| first | exact pue | exact pu0 | exact pu2 (by decide +kernel) pue | exact pu2 (by decide +kernel) pu0 | exact pu2 (by decide +kernel) (pu2 (by decide +kernel) pue) | exact pu2 (by decide +kernel) (pu2 (by decide +kernel) pu0) | exact pu2 (by decide +kernel) (pu2 (by decide +kernel) (pu2 (by decide +kernel) pue)) | exact pu2 (by decide +kernel) (pu2 (by decide +kernel) (pu2 (by decide +kernel) pu0)) | exact pu2 (by decide +kernel) (pu2 (by decide +kernel) (pu2 (by decide +kernel) (pu2 (by decide +kernel) pue))) | exact pu2 (by decide +kernel) (pu2 (by decide +kernel) (pu2 (by decide +kernel) (pu2 (by decide +kernel) pu0))) | exact pu2 (by decide +kernel) (pu2 (by decide +kernel) (pu2 (by decide +kernel) (pu2 (by decide +kernel) (pu2 (by decide +kernel) pue)))) | exact pu2 (by decide +kernel) (pu2 (by decide +kernel) (pu2 (by decide +kernel) (pu2 (by decide +kernel) (pu2 (by decide +kernel) pu0)))) | exact pu2 (by decide +kernel) (pu2 (by decide +kernel) (pu2 (by decide +kernel) (pu2 (by decide +kernel) (pu2 (by decide +kernel) (pu2 (by decide +kernel) pue))))) | exact pu2 (by decide +kernel) (pu2 (by decide +kernel) (pu2 (by decide +kernel) (pu2 (by decide +kernel) (pu2 (by decide +kernel) (pu2 (by decide +kernel) pu0))))) | exact pu2 (by decide +kernel) (pu2 (by decide +kernel) (pu2 (by decide +kernel) (pu2 (by decide +kernel) (pu2 (by decide +kernel) (pu2 (by decide +kernel) (pu2 (by decide +kernel) pue)))))) | exact pu2 (by decide +kernel) (pu2 (by decide +kernel) (pu2 (by decide +kernel) (pu2 (by decide +kernel) (pu2 (by decide +kernel) (pu2 (by decide +kernel) (pu2 (by decide +kernel) pu0)))))))
local macro_rules | `(tactic| walk_at "c") => `(tactic| first | assumption | omega | (dsimp only; omega) | (unfold CMul; omega))
local macro_rules | `(tactic| walk_at "z") => `(tactic| first | assumption | (refine sz ?_; first | decide | omega | (simp only [List.length_map, List.length_append] <;> omega) | (simp only [List.length_cons, List.length_nil, List.length_map, List.length_append] <;> omega)) | (refine szl ?_; first | decide | omega | (simp only [List.length_map, List.length_append] <;> omega) | (simp only [List.length_cons, List.length_nil, List.length_map, List.length_append] <;> omega)))
local macro_rules | `(tactic| walk_at "s") => `(tactic| first
  | with_reducible refine w_seq ?_
  | ((with_reducible refine' w_var ?h ?_); case h => exact rfl)
  | with_reducible refine w_c ?_
  | with_reducible refine w_name ?_
  | with_reducible refine w_asg ?_
  | with_reducible refine w_op ?_
  | with_reducible refine w_I0 ?_
  | with_reducible refine w_exb ?_
  | with_reducible refine w_if ?_
  | with_reducible refine w_test ?_
  | with_reducible refine w_fld ?_
  | ((with_reducible refine' w_fl ?h ?hc ?hn ?hl ?_); (case h => walk_at "g"); (case hc => assumption); (case hn => assumption); (case hl => walk_at "f"))
  | with_reducible refine w_nil ?_
  | with_reducible refine w_cons ?_
  | with_reducible refine w_cb ?_
  | with_reducible refine w_call ?_
  | with_reducible refine w_meth ?_
  | with_reducible refine w_make ?_
  | ((with_reducible refine' w_rc ?h ?hl ?_); (case h => walk_at "g"); (case hl => walk_at "fn"))
  | with_reducible refine w_drop ?_
  | with_reducible refine w_ret ?_
  | with_reducible refine w_retN ?_
  | with_reducible refine w_next ?_
  | with_reducible refine w_brk ?_
  | with_reducible refine w_cont ?_
  | with_reducible refine w_eqI ?_
  | with_reducible refine w_neI ?_
  | with_reducible refine w_neB ?_
  | with_reducible refine w_isi ?_
  | ((with_reducible refine' w_len ?h ?_); case h => walk_at "l")
  | ((with_reducible refine' w_ixL ?h ?a ?_); (case h => walk_at "l"); (case a => first | exact at0 | exact at1 | exact at2 | exact at3 | assumption))
  | with_reducible refine w_bm ?_
  | with_reducible refine w_bm0 ?_
  | ((with_reducible refine' w_tyL ?h ?_); case h => walk_at "l")
  | with_reducible refine w_B ?_
  | with_reducible refine w_not ?_
  | with_reducible refine w_and ?_
  | with_reducible refine w_or ?_
  | with_reducible refine w_andV ?_
  | with_reducible refine w_orV ?_
  | with_reducible refine w_notV ?_
  | with_reducible refine w_ifE ?_
  | with_reducible refine w_chain ?_
  | with_reducible refine w_un ?_
  | with_reducible refine w_U ?_
  | with_reducible refine w_int ?_
  | with_reducible refine w_abs ?_
  | with_reducible refine w_tup ?_
  | with_reducible refine w_lst ?_
  | with_reducible refine w_sl ?_
  | with_reducible refine w_noPart ?_
  | with_reducible refine w_part ?_
  | with_reducible refine w_exi ?_
  | ((with_reducible refine' w_newL ?hs ?hl ?_); (case hs => assumption); (case hl => walk_at "z"); intro _ _ _)
  | ((with_reducible refine' w_newT ?hs ?hl ?_); (case hs => assumption); (case hl => walk_at "z"); intro _ _ _)
  | ((with_reducible refine' w_slL ?hs ?h ?_); (case hs => assumption); (case h => walk_at "l"); intro _ _ _)
  | ((with_reducible refine' w_cat ?hs ?ha ?hb ?hl ?_); (case hs => assumption); (case ha => walk_at "g"); (case hb => walk_at "g"); (case hl => walk_at "z"); intro _ _ _)
  | ((with_reducible refine' w_app ?hs ?h ?hl ?_); (case hs => assumption); (case h => walk_at "p"); (case hl => walk_at "z"); intro _ _)
  | ((with_reducible refine' w_clear ?hs ?h ?_); (case hs => assumption); (case h => walk_at "p"); intro _ _)
  | with_reducible refine w_sfld ?_
  | ((with_reducible refine' w_fsP ?hs ?h ?hc ?hn ?hl ?hg ?_); (case hs => assumption); (case h => walk_at "p"); (case hc => assumption); (case hn => assumption); (case hl => exact Nat.lt_of_lt_of_le (by simp only [List.length_cons, List.length_nil]; omega) (Nat.le_refl 1000)); (case hg => walk_at "fp"); intro _ _)
  | with_reducible refine w_lpb ?_
  | with_reducible refine w_yes ?_
  | with_reducible refine w_sub ?_
  | with_reducible refine w_delL0 ?_
  | ((with_reducible refine' w_I ?h ?_); case h => walk_at "c"))
local macro_rules | `(tactic| walk_at "ss") => `(tactic| repeat walk_at "s")

local macro_rules | `(tactic| walk_at "t") => `(tactic| first | assumption | exact SqT.of (by walk_at "g"))
local macro_rules | `(tactic| walk_at "s") => `(tactic| first
  | with_reducible refine iteT ?_
  | with_reducible refine iteF ?_
  | with_reducible refine w_din ?_
  | with_reducible refine w_dni ?_
  | ((with_reducible refine' w_dinI ?h ?_); case h => walk_at "g")
  | ((with_reducible refine' w_dniI ?h ?_); case h => walk_at "g")
  | with_reducible refine w_dput ?_
  | ((with_reducible refine' w_dputI ?hs ?h ?hl ?_); (case hs => assumption); (case h => walk_at "p"); (case hl => walk_at "z"); intro _ _)
  | with_reducible refine w_dpop ?_
  | ((with_reducible refine' w_dpopA ?h ?_); case h => walk_at "g")
  | with_reducible refine w_dnew ?_
  | ((with_reducible refine' w_newD ?hs ?_); (case hs => assumption); intro _ _ _)
  | with_reducible refine w_faug ?_
  | ((with_reducible refine' w_fa1 ?h ?hc ?hn ?hl ?_); (case h => walk_at "g"); (case hc => assumption); (case hn => assumption); (case hl => walk_at "f"))
  | ((with_reducible refine' w_fa2 ?hs ?h ?hl ?hg ?_); (case hs => assumption); (case h => walk_at "p"); (case hl => exact Nat.lt_of_lt_of_le (by simp only [List.length_cons, List.length_nil]; omega) (Nat.le_refl 1000)); (case hg => walk_at "fp"); intro _ _)
  | with_reducible refine w_rAdd ?_
  | with_reducible refine w_rSub ?_
  | with_reducible refine w_max ?_
  | with_reducible refine w_min ?_
  | with_reducible refine w_eqB ?_
  | with_reducible refine w_methQ ?_
  | with_reducible refine w_xf0 ?_
  | ((with_reducible refine' w_xf ?h ?hl ?_); (case h => walk_at "g"); (case hl => walk_at "f"))
  | with_reducible refine w_eqSt ?_
  | with_reducible refine w_isN ?_
  | with_reducible refine w_notN ?_
  | ((with_reducible refine' w_gtup ?h ?hl ?_); (case h => walk_at "t"); (case hl => rfl))
  | with_reducible refine w_gnil ?_
  | with_reducible refine w_gcons ?_
  | with_reducible refine w_par3 ?_
  | with_reducible refine w_ex3 ?_
  | with_reducible refine w_par2 ?_
  | with_reducible refine w_ex2 ?_
  | ((with_reducible refine' w_ixT ?h ?a ?_); (case h => walk_at "t"); (case a => first | exact at0 | exact at1 | exact at2 | exact at3 | assumption))
  | ((with_reducible refine' w_lenT ?h ?_); case h => walk_at "t")
  | ((with_reducible refine' w_set0 ?hs ?h ?_); (case hs => assumption); (case h => walk_at "p"); intro _ _)
  | ((with_reducible refine' w_set1 ?hs ?h ?_); (case hs => assumption); (case h => walk_at "p"); intro _ _)
  | ((with_reducible refine' w_set2 ?hs ?h ?_); (case hs => assumption); (case h => walk_at "p"); intro _ _)
  | ((with_reducible refine' w_set3 ?hs ?h ?_); (case hs => assumption); (case h => walk_at "p"); intro _ _)
  | ((with_reducible refine' w_set4 ?hs ?h ?_); (case hs => assumption); (case h => walk_at "p"); intro _ _)
  | with_reducible refine w_vei ?_
  | with_reducible refine w_ost0 ?_
  | with_reducible refine w_mko ?_
  | with_reducible refine w_raise ?_
  | with_reducible refine w_js ?_
  | with_reducible refine w_js0 ?_
  | with_reducible refine w_fmt ?_)

/-! ### the error -/
def okPlace : V → Prop := fun v => ∃ s : Str, v = .str s ∧ s.length ≤ 1000
abbrev sp_RoomError_init (a : Ad) : Sp := spXinit a.RoomError "place" okPlace
/-! ### the sender -/
abbrev snd (a : Ad) (dx r : Addr) (f s : Int) : HO := .ins a.Sender dx [("first", .int f), ("rows", .ref r), ("said", .int s)]
abbrev lst (rows : List Str) : HO := .lst (rows.map V.str)
/-- the pair of a number and a message -/
def pr (f : Int) (rows : List Str) (lo : Int) (i : Nat) : PyData := .tuple [.int (f + (lo + (i : Int))), .str (rows.getD (lo + (i : Int)).toNat Str.empty)]
def prs (f : Int) (rows : List Str) (lo hi : Int) : List PyData := (List.range (hi - lo).toNat).map (pr f rows lo)
def sp_Sender_init (a : Ad) : Sp := fun vs H Q _ => ∃ (B : Hp) (x dx : Addr), vs = [.ref x] ∧ Hs B [(x, .ins a.Sender dx [])] H ∧ ∀ r H', Hs B [(r, lst []), (x, snd a dx r 0 0)] H' → Q .non H'
def sp_Sender_put (a : Ad) : Sp := fun vs H Q E => ∃ (B : Hp) (x dx r : Addr) (f s : Int) (rows : List Str) (t : Str), vs = [.ref x, .str t] ∧ Hs B [(x, snd a dx r f s), (r, lst rows)] H ∧ rows.length ≤ 1000 ∧
  (rows.length < 300 → ∀ H', Hs B [(x, snd a dx r f s), (r, lst (rows ++ [t]))] H' → Q .non H') ∧
  (300 ≤ rows.length → ∀ d H', Hs B [(d, .xd [("place", .str "queue")]), (x, snd a dx r f s), (r, lst rows)] H' → E (.ref a.RoomError) (some d) H')
def sp_Sender_numbered (K : PySem.W.Frag) (a : Ad) : Sp := fun vs H Q _ => ∃ (B : Hp) (x dx r : Addr) (f s lo hi : Int) (rows : List Str), vs = [.ref x, .int lo, .int hi] ∧ Hs B [(x, snd a dx r f s), (r, lst rows)] H ∧ 0 ≤ lo ∧ lo ≤ 1000 ∧ 0 ≤ hi ∧ hi ≤ rows.length ∧ rows.length ≤ 1000 ∧
  ∀ D acc H', Hs B [(D, .lst acc), (x, snd a dx r f s), (r, lst rows)] H' → ImAll K H' acc (prs f rows lo hi) → Q (.ref D) H'
def sp_Sender_fresh (K : PySem.W.Frag) (a : Ad) : Sp := fun vs H Q _ => ∃ (B : Hp) (x dx r : Addr) (f s : Int) (rows : List Str), vs = [.ref x] ∧ Hs B [(x, snd a dx r f s), (r, lst rows)] H ∧ 0 ≤ s ∧ s ≤ 1000 ∧ rows.length ≤ 1000 ∧
  ∀ D acc H', Hs B [(D, .lst acc), (x, snd a dx r f (min 4 (rows.length : Int))), (r, lst rows)] H' → ImAll K H' acc (prs f rows s (min 4 (rows.length : Int))) → Q (.ref D) H'
def sp_Sender_again (K : PySem.W.Frag) (a : Ad) : Sp := fun vs H Q _ => ∃ (B : Hp) (x dx r : Addr) (f s : Int) (rows : List Str), vs = [.ref x] ∧ Hs B [(x, snd a dx r f s), (r, lst rows)] H ∧ 0 ≤ s ∧ s ≤ rows.length ∧ rows.length ≤ 1000 ∧
  ∀ D acc H', Hs B [(D, .lst acc), (x, snd a dx r f s), (r, lst rows)] H' → ImAll K H' acc (prs f rows 0 s) → Q (.ref D) H'
def sp_Sender_heard (a : Ad) : Sp := fun vs H Q _ => ∃ (B : Hp) (x dx r : Addr) (f s ack : Int) (rows : List Str), vs = [.ref x, .int ack] ∧ Hs B [(x, snd a dx r f s), (r, lst rows)] H ∧
  (ack - f < 0 ∨ s < ack - f → ∀ H', Hs B [(x, snd a dx r f s), (r, lst rows)] H' → Q .non H') ∧
  (0 ≤ ack - f → ack - f ≤ s → ∀ r' H', Hs B [(x, snd a dx r' ack (s - (ack - f))), (r', lst (rows.drop (ack - f).toNat))] H' → Q (.int (ack - f)) H')
section
variable {P : Program} [IsP P] {w : World} {K : PySem.W.Frag} {mg : Str → Option Value} {base : Heap} {a : Ad}
theorem ok_RoomError_init (T : Txt K mg a) : FnOk P w K mg base CX0 1 a.RoomError_init a.fd_RoomError_init ["self", "place"] (sp_RoomError_init a) := by
  obtain ⟨ar, S⟩ := sc_RoomError_init
  obtain rfl : P = _ := IsP.eq
  refine T.fn_RoomError_init.ok T.ox_RoomError S (fun vs H Q E h => ?_) rfl (fun cda cc A outer s H vs Q E hr h => ?_)
  · obtain ⟨_, _, _, rfl, _⟩ := h
    rfl
  · obtain ⟨B, e, v, rfl, hs, ⟨t, rfl, ht⟩, k⟩ := h
    refine ⟨e, _, _, rfl, hs.g0, (pa_cons (pe_joined (.cons pe_str (.cons (pe_fmt (pv 1)) .nil))) pa_nil), (pss_one (ps_ost (pv 0) (pv 1))), ?_⟩
    walk_at "ss"
    have hz : (Str.empty ++ ("no room: " : Str)).length ≤ 100 := by decide +kernel
    refine w_js1 (Nat.le_trans hz (by decide)) ?_
    walk_at "ss"
    refine w_fmtS (sz (by omega)) ?_
    refine w_js1 ?_ ?_
    · rw [Str.length_append]
      exact sz (by omega)
    walk_at "ss"
    refine ⟨by simp, hs.g0, ?_⟩
    walk_at "ss"
    refine w_ost hs T.ox_RoomError T.no_RoomError_place fun dx H' hs' => ?_
    exact k _ _ hs'
theorem ok_Sender_init (T : Txt K mg a) : FnOk P w K mg base CX0 1 a.Sender_init a.fd_Sender_init ["self"] (sp_Sender_init a) := by
  refine T.fn_Sender_init.ok sc_Sender_init (fun vs H Q E h => ?_) (fun cdv A outer s H vs Q E hr h => ?_)
  · obtain ⟨_, _, _, rfl, _⟩ := h
    rfl
  · obtain ⟨B, x, dx, rfl, hs, k⟩ := h
    have c1 := T.cl_Sender
    have n1 := T.na_Sender_first
    have n2 := T.na_Sender_rows
    have n3 := T.na_Sender_said
    refine ⟨_, (pss_cons (ps_fldK (K := K) (pv 0) pe_int)
  (pss_cons (ps_fldK (K := K) (pv 0) (pe_lst pa_nil))
  (pss_one (ps_fldK (K := K) (pv 0) pe_int)))), ?_⟩
    walk_at "ss"
    exact k _ _ (by assumption)
theorem ok_Sender_put (T : Txt K mg a) : FnOk P w K mg base (CX P w) 3 a.Sender_put a.fd_Sender_put ["self", "body"] (sp_Sender_put a) := by
  have G_RoomError_init := ok_RoomError_init (P := P) (w := w) (base := base) T
  refine T.fn_Sender_put.okX sc_Sender_put (fun vs H Q E h => ?_) (fun cdv A outer s H vs Q E hr h => ?_)
  · obtain ⟨_, _, _, _, _, _, _, _, rfl, _⟩ := h
    rfl
  · obtain ⟨B, x, dx, r, f, z, rows, t, rfl, hs, hl, k1, k2⟩ := h
    have c1 := T.cl_Sender
    have n2 := T.na_Sender_rows
    refine ⟨_, (pss_cons (ps_if (pt_cmpR op_ge (pe_callB (call_lenK (K := K)) (by rfl) T.mg_len PySem.boot_len (pa_cons (pe_fldK (K := K) (pv 0)) pa_nil)) (pe_glob (v := .int 300) rfl (Exists.choose_spec T.mg_MOST_MESSAGES) ⟨_, rfl⟩) (nomark _))
  (pss_one (ps_raiseQ rfl (takes_of rfl rfl rfl rfl) (pmk_oex T.ox_RoomError T.iC_RoomError T.tI_RoomError G_RoomError_init (hr.mono (by decide)) T.bi_RoomError_init .nil pass0 rfl T.mg_RoomError (pa_cons pe_str pa_nil))))
  pss_nil)
  (pss_one (ps_expr (pe_bmK (K := K) PySem.F.plainAttrs_list PySem.F.slot_list_append PySem.F.type_list_append mt_append (pe_fldK (K := K) (pv 0)) (pa_cons (pv 1) pa_nil))))), ?_⟩
    walk_at "ss"
    rw [List.length_map]
    refine ifd (fun h => ?_) (fun h => ?_)
    · walk_at "ss"
      refine w_mkX hs ⟨_, rfl, by decide +kernel⟩ fun d H' hs' => ?_
      exact k2 (by omega) d H' hs'
    · walk_at "ss"
      refine k1 (by omega) _ ?_
      show Hs _ [_, (r, .lst ((rows ++ [t]).map V.str))] _
      rw [List.map_append]
      assumption
theorem at_str {rows : List Str} {i : Int} (h0 : 0 ≤ i) (h : i < rows.length) : atI (rows.map V.str) i = some (.str (rows.getD i.toNat Str.empty)) := by
  have hj : i.toNat < rows.length := by omega
  refine at_of (j := i.toNat) (by omega) ?_
  rw [List.getElem?_map, List.getElem?_eq_getElem hj, List.getD_eq_getElem?_getD, List.getElem?_eq_getElem hj]
  rfl
theorem ok_Sender_numbered (T : Txt K mg a) : FnOk P w K mg base CX0 1 a.Sender_numbered a.fd_Sender_numbered ["self", "start", "stop"] (sp_Sender_numbered K a) := by
  refine T.fn_Sender_numbered.ok sc_Sender_numbered (fun vs H Q E h => ?_) (fun cdv A outer s H vs Q E hr h => ?_)
  · obtain ⟨_, _, _, _, _, _, _, _, _, rfl, _⟩ := h
    rfl
  · obtain ⟨B, x, dx, r, f, z, lo, hi, rows, rfl, hs, h1, h2, h3, h4, hl, k⟩ := h
    have c1 := T.cl_Sender
    have n1 := T.na_Sender_first
    have n2 := T.na_Sender_rows
    refine ⟨_, (pss_one (ps_ret (pe_lc (own := [("at", 3)]) (g := (gName 3)) (tt := tYes) rfl sc_Sender_numbered.nd (pi_range2 rfl T.mg_range (pa_cons (pv 1) (pa_cons (pv 2) pa_nil))) (blkOk_by (own := [("at", 3)]) (N := N_Sender_numbered) (sc := defScope s_Sender_numbered) (by decide +kernel)) (fun _ _ _ _ _ => by exact (pg_name (i := 3) sc_Sender_numbered.nd rfl (Or.inl rfl))) (fun _ _ _ _ _ => pts_nil) (fun _ _ _ _ _ => by exact (pe_tup (pa_cons (pe_op op_add (pe_fldK (K := K) (pv 0)) (pv 3)) (pa_cons (pe_ix (ix_listK (K := K)) (pe_fldK (K := K) (pv 0)) (pv 3) (fun _ _ => rfl)) pa_nil))))))), ?_⟩
    walk_at "ss"
    have g0 := hs.g0
    have g1 := hs.g1
    refine w_lcI (K := K) (by omega) (by omega) (pr f rows lo) (fun Q q => ⟨_, rfl, _, rfl, q⟩) (fun _ => rfl) ?_ ?_
    · intro i H' Q' hi' hS kk
      have g0' := hS _ _ g0
      have g1' := hS _ _ g1
      clear g0 g1 hs
      have hs := Hs.start H'
      have ea := at_str (rows := rows) (i := lo + (i : Int)) (by omega) (by omega)
      walk_at "ss"
      rename_i p H3 hs3
      exact kk _ _ hs3.same (.tup hs3.g0 (.cons (.int _) (.cons (.str _) .nil)))
    · intro D acc H' hs' hi'
      exact k D acc H' (hs.add hs') hi'
theorem min4 {n : Nat} : (if (n : Int) < 4 then (n : Int) else 4) = min 4 (n : Int) := by omega
theorem ok_Sender_fresh (T : Txt K mg a) : FnOk P w K mg base CX0 2 a.Sender_fresh a.fd_Sender_fresh ["self"] (sp_Sender_fresh K a) := by
  have G_Sender_numbered := ok_Sender_numbered (P := P) (w := w) (base := base) T
  refine T.fn_Sender_fresh.ok sc_Sender_fresh (fun vs H Q E h => ?_) (fun cdv A outer s H vs Q E hr h => ?_)
  · obtain ⟨_, _, _, _, _, _, _, rfl, _⟩ := h
    rfl
  · obtain ⟨B, x, dx, r, f, z, rows, rfl, hs, h1, h2, hl, k⟩ := h
    have c1 := T.cl_Sender
    have n1 := T.na_Sender_first
    have n2 := T.na_Sender_rows
    have n3 := T.na_Sender_said
    refine ⟨_, (pss_cons (ps_set (i := 1) sc_Sender_fresh.nd rfl (Or.inl rfl) (pe_fldK (K := K) (pv 0)))
  (pss_cons (ps_fldK (K := K) (pv 0) (pe_callB (call_minQ rfl) (by rfl) T.mg_min (by decide +kernel) (pa_cons (pe_glob (v := .int 4) rfl (Exists.choose_spec T.mg_WINDOW) ⟨_, rfl⟩) (pa_cons (pe_callB (call_lenK (K := K)) (by rfl) T.mg_len PySem.boot_len (pa_cons (pe_fldK (K := K) (pv 0)) pa_nil)) pa_nil))))
  (pss_one (ps_ret (pe_meth (pv 0) T.cl_Sender T.me_Sender_numbered G_Sender_numbered (hr.mono (by decide)) T.bi_Sender_numbered .nil pass0 (pa_cons (pv 1) (pa_cons (pe_fldK (K := K) (pv 0)) pa_nil))))))), ?_⟩
    walk_at "ss"
    rename_i H1 hs1
    rw [List.length_map, min4] at *
    refine ⟨B, x, dx, r, f, _, _, _, rows, rfl, hs1, h1, by omega, by omega, by omega, hl, ?_⟩
    intro D acc H' hs' hi'
    exact k D acc H' hs' hi'
theorem ok_Sender_again (T : Txt K mg a) : FnOk P w K mg base CX0 2 a.Sender_again a.fd_Sender_again ["self"] (sp_Sender_again K a) := by
  have G_Sender_numbered := ok_Sender_numbered (P := P) (w := w) (base := base) T
  refine T.fn_Sender_again.ok sc_Sender_again (fun vs H Q E h => ?_) (fun cdv A outer s H vs Q E hr h => ?_)
  · obtain ⟨_, _, _, _, _, _, _, rfl, _⟩ := h
    rfl
  · obtain ⟨B, x, dx, r, f, z, rows, rfl, hs, h1, h2, hl, k⟩ := h
    have c1 := T.cl_Sender
    have n3 := T.na_Sender_said
    refine ⟨_, (pss_one (ps_ret (pe_meth (pv 0) T.cl_Sender T.me_Sender_numbered G_Sender_numbered (hr.mono (by decide)) T.bi_Sender_numbered .nil pass0 (pa_cons pe_int (pa_cons (pe_fldK (K := K) (pv 0)) pa_nil))))), ?_⟩
    walk_at "ss"
    exact ⟨B, x, dx, r, f, _, _, _, rows, rfl, hs, by decide, by decide, h1, h2, hl, k⟩
theorem ok_Sender_heard (T : Txt K mg a) : FnOk P w K mg base CX0 1 a.Sender_heard a.fd_Sender_heard ["self", "ack"] (sp_Sender_heard a) := by
  refine T.fn_Sender_heard.ok sc_Sender_heard (fun vs H Q E h => ?_) (fun cdv A outer s H vs Q E hr h => ?_)
  · obtain ⟨_, _, _, _, _, _, _, _, rfl, _⟩ := h
    rfl
  · obtain ⟨B, x, dx, r, f, z, ack, rows, rfl, hs, k1, k2⟩ := h
    have c1 := T.cl_Sender
    have n1 := T.na_Sender_first
    have n2 := T.na_Sender_rows
    have n3 := T.na_Sender_said
    refine ⟨_, (pss_cons (ps_set (i := 2) sc_Sender_heard.nd rfl (Or.inl rfl) (pe_op op_sub (pv 1) (pe_fldK (K := K) (pv 0))))
  (pss_cons (ps_if (PW.pt (pw_or (pt_cmpR op_lt (pv 2) pe_int (nomark _)) (pw_or1 (pt_cmpR op_gt (pv 2) (pe_fldK (K := K) (pv 0)) (nomark _)))))
  (pss_one (ps_ret pe_non))
  pss_nil)
  (pss_cons (ps_fldK (K := K) (pv 0) (pe_slice (sl_listK (K := K)) (pe_fldK (K := K) (pv 0)) (po_some (pv 2)) po_none))
  (pss_cons (ps_fldaugK (K := K) (pv 0) (pv 2) in_sub)
  (pss_cons (ps_fldK (K := K) (pv 0) (pv 1))
  (pss_one (ps_ret (pv 2)))))))), ?_⟩
    walk_at "ss"
    refine ifd (fun h => ?_) (fun h => ?_)
    · walk_at "ss"
      exact k1 (.inl h) _ hs
    walk_at "ss"
    refine ifd (fun h2 => ?_) (fun h2 => ?_)
    · walk_at "ss"
      exact k1 (.inr h2) _ hs
    walk_at "ss"
    rename_i H1 hs1
    have e : cutV (rows.map V.str) (some (ack - f)) none = (rows.drop (ack - f).toNat).map V.str := by
      rw [cut_from (ack - f).toNat (by omega), List.map_drop]
    rw [e] at hs1
    exact k2 (by omega) (by omega) _ _ hs1.d2.m1
/-! ### the inbox -/
abbrev inb (a : Ad) (dx e : Addr) (n : Int) : HO := .ins a.Inbox dx [("next", .int n), ("_early", .ref e)]
/-- what was kept: numbers from n on, each once -/
abbrev Kv := List (Key × V)
def sp_Inbox_init (a : Ad) : Sp := fun vs H Q _ => ∃ (B : Hp) (x dx : Addr), vs = [.ref x] ∧ Hs B [(x, .ins a.Inbox dx [])] H ∧ ∀ e H', Hs B [(e, .dK []), (x, inb a dx e 0)] H' → Q .non H'
/-- the messages whose turn has come -/
def ready : Nat → Int → Kv → List V
  | 0, _, _ => []
  | k + 1, n, kv => match valV kv (Sum.inl n) with
    | none => []
    | some v => v :: ready k (n + 1) (dropK kv (Sum.inl n))
/-- what is left of them -/
def later : Nat → Int → Kv → Int × Kv
  | 0, n, kv => (n, kv)
  | k + 1, n, kv => match valV kv (Sum.inl n) with
    | none => (n, kv)
    | some _ => later k (n + 1) (dropK kv (Sum.inl n))
/-- one more message -/
def keep1 (n m : Int) (t : V) (kv : Kv) : Kv := if (n ≤ m ∧ m < n + 4) ∧ valV kv (Sum.inl m) = none then putK kv (Sum.inl m) t else kv
def sp_Inbox_take (a : Ad) : Sp := fun vs H Q _ => ∃ (B : Hp) (x dx e : Addr) (n m : Int) (t : Str) (kv : Kv), vs = [.ref x, .int m, .str t] ∧ Hs B [(x, inb a dx e n), (e, .dK kv)] H ∧ kv.length ≤ 1000 ∧
  ∀ r H', Hs B [(r, .lst (ready (keep1 n m (.str t) kv).length n (keep1 n m (.str t) kv))), (x, inb a dx e (later (keep1 n m (.str t) kv).length n (keep1 n m (.str t) kv)).1), (e, .dK (later (keep1 n m (.str t) kv).length n (keep1 n m (.str t) kv)).2)] H' → Q (.ref r) H'
theorem putK_le {κ : Type} [DecidableEq κ] (kv : List (κ × V)) (k : κ) (v : V) : (putK kv k v).length ≤ kv.length + 1 := by
  unfold putK
  split
  · rw [List.length_map]
    omega
  · rw [List.length_append]
    exact Nat.le_refl _
theorem dropK_lt {κ : Type} [DecidableEq κ] (k : κ) : ∀ (kv : List (κ × V)), (valV kv k).isSome = true → (dropK kv k).length < kv.length
  | [], h => by cases h
  | p :: r, h => by
    by_cases e : p.1 = k
    · unfold dropK
      rw [List.filter_cons_of_neg (by simp [e])]
      exact Nat.lt_succ_of_le (List.length_filter_le _ _)
    · rw [valV_neg e] at h
      have ih := dropK_lt k r h
      unfold dropK at ih ⊢
      rw [List.filter_cons_of_pos (by simp [e]), List.length_cons, List.length_cons]
      omega
theorem ready_nil (k : Nat) (n : Int) : ready k n [] = [] := by
  cases k <;> rfl
theorem later_nil (k : Nat) (n : Int) : later k n [] = (n, []) := by
  cases k <;> rfl
theorem ready_fuel : ∀ (k l : Nat) (n : Int) (kv : Kv), kv.length ≤ k → kv.length ≤ l → ready k n kv = ready l n kv
  | 0, l, n, kv, h, _ => by
    rw [List.length_eq_zero_iff.mp (Nat.le_zero.mp h), ready_nil, ready_nil]
  | k + 1, 0, n, kv, _, h => by
    rw [List.length_eq_zero_iff.mp (Nat.le_zero.mp h), ready_nil, ready_nil]
  | k + 1, l + 1, n, kv, h1, h2 => by
    show (match valV kv (Sum.inl n) with | none => [] | some v => v :: ready k (n + 1) (dropK kv (Sum.inl n))) = (match valV kv (Sum.inl n) with | none => [] | some v => v :: ready l (n + 1) (dropK kv (Sum.inl n)))
    cases hv : valV kv (Sum.inl n) with
    | none => rfl
    | some v =>
      have := dropK_lt (Sum.inl n) kv (by rw [hv]; rfl)
      simp only
      rw [ready_fuel k l (n + 1) _ (by omega) (by omega)]
theorem later_fuel : ∀ (k l : Nat) (n : Int) (kv : Kv), kv.length ≤ k → kv.length ≤ l → later k n kv = later l n kv
  | 0, l, n, kv, h, _ => by
    rw [List.length_eq_zero_iff.mp (Nat.le_zero.mp h), later_nil, later_nil]
  | k + 1, 0, n, kv, _, h => by
    rw [List.length_eq_zero_iff.mp (Nat.le_zero.mp h), later_nil, later_nil]
  | k + 1, l + 1, n, kv, h1, h2 => by
    show (match valV kv (Sum.inl n) with | none => (n, kv) | some v => later k (n + 1) (dropK kv (Sum.inl n))) = (match valV kv (Sum.inl n) with | none => (n, kv) | some v => later l (n + 1) (dropK kv (Sum.inl n)))
    cases hv : valV kv (Sum.inl n) with
    | none => rfl
    | some v =>
      have := dropK_lt (Sum.inl n) kv (by rw [hv]; rfl)
      simp only
      rw [later_fuel k l (n + 1) _ (by omega) (by omega)]
theorem ok_Inbox_init (T : Txt K mg a) : FnOk P w K mg base CX0 1 a.Inbox_init a.fd_Inbox_init ["self"] (sp_Inbox_init a) := by
  refine T.fn_Inbox_init.ok sc_Inbox_init (fun vs H Q E h => ?_) (fun cdv A outer s H vs Q E hr h => ?_)
  · obtain ⟨_, _, _, rfl, _⟩ := h
    rfl
  · obtain ⟨B, x, dx, rfl, hs, k⟩ := h
    have c1 := T.cl_Inbox
    have n1 := T.na_Inbox_next
    have n2 := T.na_Inbox__early
    refine ⟨_, (pss_cons (ps_fldK (K := K) (pv 0) pe_int)
  (pss_one (ps_fldK (K := K) (pv 0) pe_dnewK))), ?_⟩
    walk_at "ss"
    exact k _ _ (by assumption)
theorem ok_Inbox_take (T : Txt K mg a) : FnOk P w K mg base CX0 1 a.Inbox_take a.fd_Inbox_take ["self", "number", "body"] (sp_Inbox_take a) := by
  refine T.fn_Inbox_take.ok sc_Inbox_take (fun vs H Q E h => ?_) (fun cdv A outer s H vs Q E hr h => ?_)
  · obtain ⟨_, _, _, _, _, _, _, _, rfl, _⟩ := h
    rfl
  · obtain ⟨B, x, dx, e, n, m, t, kv, rfl, hs, hl, k⟩ := h
    have c1 := T.cl_Inbox
    have n1 := T.na_Inbox_next
    have n2 := T.na_Inbox__early
    have hu := hu_of hr
    refine ⟨_, (C8.pss_cut (ps_if (PW.pt (pw_and (pt_chain op_le op_lt (pe_fldK (K := K) (pv 0)) (pv 1) (pe_op op_add (pe_fldK (K := K) (pv 0)) (pe_glob (v := .int 4) rfl (Exists.choose_spec T.mg_WINDOW) ⟨_, rfl⟩))) (pw_and1 (pt_cmp (pc_dnotin hu (pv 1) (pe_fldK (K := K) (pv 0)))))))
  (pss_one (ps_dput hu (pe_fldK (K := K) (pv 0)) (pv 1) (pv 2) rfl))
  pss_nil)
  (pss_cons (ps_set (i := 3) sc_Inbox_take.nd rfl (Or.inl rfl) (pe_lst pa_nil))
  (pss_cons (ps_while PassesOwn.never (pt_cmp (pc_din hu (pe_fldK (K := K) (pv 0)) (pe_fldK (K := K) (pv 0))))
  (pss_cons (ps_expr (pe_bmK (K := K) PySem.F.plainAttrs_list PySem.F.slot_list_append PySem.F.type_list_append mt_append (pv 3) (pa_cons (pe_dpop1 (pe_fldK (K := K) (pv 0)) (pe_fldK (K := K) (pv 0)) ⟨rfl, rfl, rfl, rfl⟩) pa_nil)))
  (pss_one (ps_fldaugK (K := K) (pv 0) pe_int in_add))))
  (pss_one (ps_ret (pv 3)))))), ?_⟩
    refine w_cut (fun σ' H' => σ' = [some (.ref x), some (.int m), some (.str t), none] ∧ Hs B [(x, inb a dx e n), (e, .dK (keep1 n m (.str t) kv))] H') ?_ ?_
    · walk_at "ss"
      refine ifd (fun h1 => ?_) (fun h1 => ?_)
      · walk_at "ss"
        refine ifd (fun h2 => ?_) (fun h2 => ?_)
        · walk_at "ss"
          cases hv : valV kv (Sum.inl m) with
          | none =>
            refine iteT ?_
            walk_at "ss"
            refine ⟨rfl, ?_⟩
            unfold keep1
            rw [if_pos ⟨⟨h1, h2⟩, hv⟩]
            assumption
          | some u =>
            refine iteF ?_
            walk_at "ss"
            refine ⟨rfl, ?_⟩
            unfold keep1
            rw [if_neg (fun q => by rw [hv] at q; cases q.2)]
            assumption
        · walk_at "ss"
          refine ⟨rfl, ?_⟩
          unfold keep1
          rw [if_neg (fun q => h2 q.1.2)]
          assumption
      · walk_at "ss"
        refine ⟨rfl, ?_⟩
        unfold keep1
        rw [if_neg (fun q => h1 q.1.1)]
        assumption
    · rintro σ' H' ⟨rfl, hs⟩
      have hl2 : (keep1 n m (.str t) kv).length ≤ 1001 := by
        unfold keep1
        split
        · exact Nat.le_trans (putK_le _ _ _) (by omega)
        · omega
      generalize keep1 n m (.str t) kv = kv at hs k hl2
      rename_i hs0
      clear hs0
      walk_at "ss"
      rename_i r H1 hs1
      clear hs
      refine w_while (fun i σ H2 => ∃ (n' : Int) (kv' : Kv) (acc : List V), σ = [some (.ref x), some (.int m), some (.str t), some (.ref r)] ∧ kv'.length = i ∧ acc.length + i ≤ 1001 ∧ acc ++ ready kv'.length n' kv' = ready kv.length n kv ∧ later kv'.length n' kv' = later kv.length n kv ∧ Hs B [(r, .lst acc), (x, inb a dx e n'), (e, .dK kv')] H2) kv.length ⟨n, kv, [], rfl, rfl, by simpa using hl2, rfl, rfl, hs1⟩ ?_
      clear hs1
      rintro i σ H2 ⟨n', kv', acc, rfl, hi, hj, e1, e2, hs⟩
      walk_at "ss"
      cases hv : valV kv' (Sum.inl n') with
      | none =>
        refine iteF ?_
        walk_at "ss"
        have r0 : ready kv'.length n' kv' = [] := by
          cases kv' with
          | nil => rfl
          | cons p q =>
            show (match valV (p :: q) (Sum.inl n') with | none => [] | some v => v :: ready q.length (n' + 1) (dropK (p :: q) (Sum.inl n'))) = []
            rw [hv]
        have r1 : later kv'.length n' kv' = (n', kv') := by
          cases kv' with
          | nil => rfl
          | cons p q =>
            show (match valV (p :: q) (Sum.inl n') with | none => (n', p :: q) | some v => later q.length (n' + 1) (dropK (p :: q) (Sum.inl n'))) = (n', p :: q)
            rw [hv]
        rw [r0, List.append_nil] at e1
        rw [r1] at e2
        have := k r H2
        rw [← e1, ← e2] at this
        exact this hs
      | some v =>
        refine iteT ?_
        walk_at "ss"
        refine w_dpopB hs (by walk_at "p") hv fun H3 hs3 => ?_
        clear hs
        have hlt := dropK_lt (Sum.inl n') kv' (by rw [hv]; rfl)
        have hk : kv'.length ≠ 0 := fun q => by
          rw [List.length_eq_zero_iff.mp q] at hv
          cases hv
        obtain ⟨j, hj2⟩ := Nat.exists_eq_succ_of_ne_zero hk
        have s1 : ready kv'.length n' kv' = v :: ready j (n' + 1) (dropK kv' (Sum.inl n')) := by
          rw [hj2]
          show (match valV kv' (Sum.inl n') with | none => [] | some v => v :: ready j (n' + 1) (dropK kv' (Sum.inl n'))) = _
          rw [hv]
        have s2 : later kv'.length n' kv' = later j (n' + 1) (dropK kv' (Sum.inl n')) := by
          rw [hj2]
          show (match valV kv' (Sum.inl n') with | none => (n', kv') | some v => later j (n' + 1) (dropK kv' (Sum.inl n'))) = _
          rw [hv]
        walk_at "ss"
        rename_i H5 hs5
        refine ⟨(dropK kv' (Sum.inl n')).length, by omega, n' + 1, dropK kv' (Sum.inl n'), acc ++ [v], rfl, rfl, ?_, ?_, ?_, hs5⟩
        · rw [List.length_append, List.length_singleton]
          omega
        · rw [← e1, s1, List.append_assoc, ready_fuel j (dropK kv' (Sum.inl n')).length _ _ (by omega) (Nat.le_refl _)]
          rfl
        · rw [← e2, s2, later_fuel j (dropK kv' (Sum.inl n')).length _ _ (by omega) (Nat.le_refl _)]
/-! ### the beat -/
/-- a tick or none -/
def tk : Option Int → V
  | none => .non
  | some n => .int n
abbrev bea (a : Ad) (dx : Addr) (t w : Int) (d : Option Int) : HO := .ins a.Beat dx [("tries", .int t), ("_wait", .int w), ("_due_at", tk d)]
def sp_Beat_init (a : Ad) : Sp := fun vs H Q _ => ∃ (B : Hp) (x dx : Addr), vs = [.ref x] ∧ Hs B [(x, .ins a.Beat dx [])] H ∧ ∀ H', Hs B [(x, bea a dx 0 2 none)] H' → Q .non H'
def sp_Beat_start (a : Ad) : Sp := fun vs H Q _ => ∃ (B : Hp) (x dx : Addr) (t w n : Int) (d : Option Int), vs = [.ref x, .int n] ∧ Hs B [(x, bea a dx t w d)] H ∧ ∀ H', Hs B [(x, bea a dx 0 2 (some (n + 2)))] H' → Q .non H'
def sp_Beat_stop (a : Ad) : Sp := fun vs H Q _ => ∃ (B : Hp) (x dx : Addr) (t w : Int) (d : Option Int), vs = [.ref x] ∧ Hs B [(x, bea a dx t w d)] H ∧ ∀ H', Hs B [(x, bea a dx t w none)] H' → Q .non H'
def sp_Beat_hurry (a : Ad) : Sp := fun vs H Q _ => ∃ (B : Hp) (x dx : Addr) (t w n : Int) (d : Option Int), vs = [.ref x, .int n] ∧ Hs B [(x, bea a dx t w d)] H ∧ ∀ H', Hs B [(x, bea a dx t w (some n))] H' → Q .non H'
def sp_Beat_runs (a : Ad) : Sp := fun vs H Q _ => ∃ (B : Hp) (x dx : Addr) (t w : Int) (d : Option Int), vs = [.ref x] ∧ Hs B [(x, bea a dx t w d)] H ∧ ∀ H', Hs B [(x, bea a dx t w d)] H' → Q (.bl d.isSome) H'
/-- is it due -/
def isDue (d : Option Int) (n : Int) : Bool := match d with
  | none => false
  | some k => decide (k ≤ n)
def sp_Beat_due (a : Ad) : Sp := fun vs H Q _ => ∃ (B : Hp) (x dx : Addr) (t w n : Int) (d : Option Int), vs = [.ref x, .int n] ∧ Hs B [(x, bea a dx t w d)] H ∧ 0 ≤ w ∧ w ≤ 1000 ∧
  ∀ H', Hs B [(x, if isDue d n then bea a dx (t + 1) (min (w * 2) 16) (some (n + min (w * 2) 16)) else bea a dx t w d)] H' → Q (.bl (isDue d n)) H'
theorem ok_Beat_init (T : Txt K mg a) : FnOk P w K mg base CX0 1 a.Beat_init a.fd_Beat_init ["self"] (sp_Beat_init a) := by
  refine T.fn_Beat_init.ok sc_Beat_init (fun vs H Q E h => ?_) (fun cdv A outer s H vs Q E hr h => ?_)
  · obtain ⟨_, _, _, rfl, _⟩ := h
    rfl
  · obtain ⟨B, x, dx, rfl, hs, k⟩ := h
    have c1 := T.cl_Beat
    have n1 := T.na_Beat_tries
    have n2 := T.na_Beat__wait
    have n3 := T.na_Beat__due_at
    refine ⟨_, (pss_cons (ps_fldK (K := K) (pv 0) pe_int)
  (pss_cons (ps_fldK (K := K) (pv 0) (pe_glob (v := .int 2) rfl (Exists.choose_spec T.mg_FIRST_WAIT) ⟨_, rfl⟩))
  (pss_one (ps_fldK (K := K) (pv 0) pe_non)))), ?_⟩
    walk_at "ss"
    exact k _ (by assumption)
theorem ok_Beat_start (T : Txt K mg a) : FnOk P w K mg base CX0 1 a.Beat_start a.fd_Beat_start ["self", "now"] (sp_Beat_start a) := by
  refine T.fn_Beat_start.ok sc_Beat_start (fun vs H Q E h => ?_) (fun cdv A outer s H vs Q E hr h => ?_)
  · obtain ⟨_, _, _, _, _, _, _, rfl, _⟩ := h
    rfl
  · obtain ⟨B, x, dx, t, w, n, d, rfl, hs, k⟩ := h
    have c1 := T.cl_Beat
    have n1 := T.na_Beat_tries
    have n2 := T.na_Beat__wait
    have n3 := T.na_Beat__due_at
    refine ⟨_, (pss_cons (ps_fldK (K := K) (pv 0) pe_int)
  (pss_cons (ps_fldK (K := K) (pv 0) (pe_glob (v := .int 2) rfl (Exists.choose_spec T.mg_FIRST_WAIT) ⟨_, rfl⟩))
  (pss_one (ps_fldK (K := K) (pv 0) (pe_op op_add (pv 1) (pe_glob (v := .int 2) rfl (Exists.choose_spec T.mg_FIRST_WAIT) ⟨_, rfl⟩)))))), ?_⟩
    walk_at "ss"
    exact k _ (by assumption)
theorem ok_Beat_stop (T : Txt K mg a) : FnOk P w K mg base CX0 1 a.Beat_stop a.fd_Beat_stop ["self"] (sp_Beat_stop a) := by
  refine T.fn_Beat_stop.ok sc_Beat_stop (fun vs H Q E h => ?_) (fun cdv A outer s H vs Q E hr h => ?_)
  · obtain ⟨_, _, _, _, _, _, rfl, _⟩ := h
    rfl
  · obtain ⟨B, x, dx, t, w, d, rfl, hs, k⟩ := h
    have c1 := T.cl_Beat
    have n3 := T.na_Beat__due_at
    refine ⟨_, (pss_one (ps_fldK (K := K) (pv 0) pe_non)), ?_⟩
    walk_at "ss"
    exact k _ (by assumption)
theorem ok_Beat_hurry (T : Txt K mg a) : FnOk P w K mg base CX0 1 a.Beat_hurry a.fd_Beat_hurry ["self", "now"] (sp_Beat_hurry a) := by
  refine T.fn_Beat_hurry.ok sc_Beat_hurry (fun vs H Q E h => ?_) (fun cdv A outer s H vs Q E hr h => ?_)
  · obtain ⟨_, _, _, _, _, _, _, rfl, _⟩ := h
    rfl
  · obtain ⟨B, x, dx, t, w, n, d, rfl, hs, k⟩ := h
    have c1 := T.cl_Beat
    have n3 := T.na_Beat__due_at
    refine ⟨_, (pss_one (ps_fldK (K := K) (pv 0) (pv 1))), ?_⟩
    walk_at "ss"
    exact k _ (by assumption)
theorem ok_Beat_runs (T : Txt K mg a) : FnOk P w K mg base CX0 1 a.Beat_runs a.fd_Beat_runs ["self"] (sp_Beat_runs a) := by
  refine T.fn_Beat_runs.ok sc_Beat_runs (fun vs H Q E h => ?_) (fun cdv A outer s H vs Q E hr h => ?_)
  · obtain ⟨_, _, _, _, _, _, rfl, _⟩ := h
    rfl
  · obtain ⟨B, x, dx, t, w, d, rfl, hs, k⟩ := h
    have c1 := T.cl_Beat
    have n3 := T.na_Beat__due_at
    refine ⟨_, (pss_one (ps_ret (pe_cmpR op_notNQ (pe_fldK (K := K) (pv 0)) pe_non (nomark _)))), ?_⟩
    walk_at "ss"
    cases d <;> exact k _ hs
theorem ok_Beat_due (T : Txt K mg a) : FnOk P w K mg base CX0 1 a.Beat_due a.fd_Beat_due ["self", "now"] (sp_Beat_due a) := by
  refine T.fn_Beat_due.ok sc_Beat_due (fun vs H Q E h => ?_) (fun cdv A outer s H vs Q E hr h => ?_)
  · obtain ⟨_, _, _, _, _, _, _, rfl, _⟩ := h
    rfl
  · obtain ⟨B, x, dx, t, wt, n, d, rfl, hs, hw0, hw, k⟩ := h
    have c1 := T.cl_Beat
    have n1 := T.na_Beat_tries
    have n2 := T.na_Beat__wait
    have n3 := T.na_Beat__due_at
    refine ⟨_, (pss_cons (ps_if (PW.pt (pw_or (pt_cmpR op_isNQ (pe_fldK (K := K) (pv 0)) pe_non (nomark _)) (pw_or1 (pt_cmpR op_lt (pv 1) (pe_fldK (K := K) (pv 0)) (nomark _)))))
  (pss_one (ps_ret pe_bl))
  pss_nil)
  (pss_cons (ps_fldaugK (K := K) (pv 0) pe_int in_add)
  (pss_cons (ps_fldK (K := K) (pv 0) (pe_callB (call_minQ rfl) (by rfl) T.mg_min (by decide +kernel) (pa_cons (pe_op op_mul (pe_fldK (K := K) (pv 0)) pe_int) (pa_cons (pe_glob (v := .int 16) rfl (Exists.choose_spec T.mg_LONGEST_WAIT) ⟨_, rfl⟩) pa_nil))))
  (pss_cons (ps_fldK (K := K) (pv 0) (pe_op op_add (pv 1) (pe_fldK (K := K) (pv 0))))
  (pss_one (ps_ret pe_bl)))))), ?_⟩
    walk_at "ss"
    cases d with
    | none =>
      refine iteT ?_
      walk_at "ss"
      exact k _ hs
    | some j =>
      refine iteF ?_
      walk_at "ss"
      refine w_I0 (a := n) (b := j) ?_
      walk_at "ss"
      refine ifd (fun h => ?_) (fun h => ?_)
      · walk_at "ss"
        have e : isDue (some j) n = false := decide_eq_false (by omega)
        rw [e, if_neg Bool.false_ne_true] at k
        exact k _ hs
      · have e : isDue (some j) n = true := decide_eq_true (by omega)
        rw [e, if_pos rfl] at k
        have em : (if 16 < wt * 2 then 16 else wt * 2) = min (wt * 2) 16 := by omega
        walk_at "ss"
        refine k _ ?_
        rw [← em]
        assumption
end

section
variable {P : Program} [IsP P] {w : World} {K : PySem.W.Frag} {mg : Str → Option Value} {base : Heap} {a : Ad}
/-! ### the draws of the law -/
/-- what a state may be -/
def Good (m : Int) (cells : List Int) : Prop := 0 ≤ m ∧ m < 2147483648 ∧ cells.length ≤ 1000
abbrev sto (c : Addr) (m : Int) : HO := .lst [.ref c, .int m]
abbrev clo (cells : List Int) : HO := .lst (cells.map V.int)
def sp__law_state (K : PySem.W.Frag) : Sp := fun vs H Q _ => ∃ (x : Addr) (ns : List Int), vs = [.ref x] ∧ SqL K H x (ns.map V.int) ∧ ns.length ≤ 1000 ∧ ∀ s c m cells H', Hs H [(s, sto c m), (c, clo cells)] H' → Good m cells → Q (.ref s) H'
def sp__law_draw : Sp := fun vs H Q _ => ∃ (B : Hp) (s c : Addr) (m many : Int) (cells : List Int), vs = [.ref s, .int many] ∧ Hs B [(s, sto c m), (c, clo cells)] H ∧ Good m cells ∧ many < 1000000000 ∧
  ∀ r m' cells' H', Hs B [(s, sto c m'), (c, clo cells')] H' → Good m' cells' → (many < 1 → r = 0) → (1 ≤ many → 0 ≤ r ∧ r < many) → Q (.int r) H'
theorem abs_map (ns : List Int) (i : Nat) {x : V} (h : (ns.map V.int)[i]? = some x) : ∃ n, ns[i]? = some n ∧ x = .int n := by
  rw [List.getElem?_map] at h
  cases e : ns[i]? with
  | none =>
    rw [e] at h
    cases h
  | some n =>
    rw [e] at h
    exact ⟨n, rfl, (Option.some.inj h).symm⟩
theorem ok__law_state (T : Txt K mg a) : FnOk P w K mg base CX0 1 a._law_state a.fd__law_state ["script"] (sp__law_state K) := by
  refine T.fn__law_state.ok sc__law_state (fun vs H Q E h => ?_) (fun cdv A outer s H vs Q E hr h => ?_)
  · obtain ⟨_, _, rfl, _⟩ := h
    rfl
  · obtain ⟨x, ns, rfl, hx, hl, k⟩ := h
    refine ⟨_, (pss_cons (ps_set (i := 1) sc__law_state.nd rfl (Or.inl rfl) pe_int)
  (pss_cons (ps_for PassesOwn.never rfl (pi_listK (K := K) (pv 0)) (pg_name (i := 2) sc__law_state.nd rfl (Or.inl rfl))
  (pss_one (ps_set (i := 1) sc__law_state.nd rfl (Or.inl rfl) (pe_op op_mod (pe_callTy call_intQ (by rfl) T.mg_int (by decide +kernel) (pa_cons (pe_op op_add (pe_op op_mul (pv 1) pe_int) (pv 2)) pa_nil)) pe_int))))
  (pss_one (ps_ret (pe_lst (pa_cons (pe_lc (own := [("cell", 2)]) (g := (gName 2)) (tt := tYes) rfl sc__law_state.nd (pi_listK (K := K) (pv 0)) (blkOk_by (own := [("cell", 2)]) (N := N__law_state) (sc := defScope s__law_state) (by decide +kernel)) (fun _ _ _ _ _ => by exact (pg_name (i := 2) sc__law_state.nd rfl (Or.inl rfl))) (fun _ _ _ _ _ => pts_nil) (fun _ _ _ _ _ => by exact (pe_callB call_absQ (by rfl) T.mg_abs (by decide +kernel) (pa_cons (pv 2) pa_nil)))) (pa_cons (pe_op op_add (pv 1) pe_int) pa_nil))))))), ?_⟩
    have hs : Hs H [] H := Hs.start H
    walk_at "ss"
    refine w_forL hx (fun i σ H' => ∃ (m : Int) (v : Option V), σ = [some (.ref x), some (.int m), v] ∧ 0 ≤ m ∧ m < 1000003 ∧ Hs H [] H') (fun Q q => ⟨_, rfl, q⟩) ⟨7, none, rfl, by omega, by omega, hs⟩ (fun i σ H' _ ⟨_, _, _, _, _, hs⟩ => hs.sql hx) ?_ ?_
    · rintro i y σ H' hi ⟨m, v, rfl, h0, h1, hs⟩
      obtain ⟨n, _, rfl⟩ := abs_map ns i hi
      walk_at "ss"
      refine ⟨(m * 31 + n) % 1000003, _, rfl, ?_, ?_, hs⟩
      · exact Int.emod_nonneg _ (by decide)
      · exact Int.emod_lt_of_pos _ (by decide)
    · rintro σ H' ⟨m, v, rfl, h0, h1, hs⟩
      walk_at "ss"
      have hx1 : SqL K H' x (ns.map V.int) := Hs.sql (by assumption) hx
      refine w_lc hx1 (fun D i H2 => ∃ acc : List Int, acc.length = i ∧ Hs H [(D, clo acc)] H2) (fun Q q => ⟨_, rfl, q⟩) (fun D hD => ⟨[], rfl, Hs.new (by assumption) hD⟩) (fun D i H2 _ ⟨_, _, hs⟩ => hs.sql hx) ?_ ?_
      · rintro D i y H2 hi ⟨acc, ha, hs⟩
        obtain ⟨n, _, rfl⟩ := abs_map ns i hi
        have hin : i < ns.length := by
          have := (List.getElem?_eq_some_iff.mp hi).1
          rwa [List.length_map] at this
        walk_at "ss"
        refine ⟨rfl, ?_⟩
        walk_at "ss"
        try (with_reducible refine iteT ?_)
        walk_at "ss"
        refine ⟨_, hs.g0, ?_, acc ++ [if n < 0 then -n else n], ?_, ?_⟩
        · refine szl ?_
          rw [List.length_map]
          omega
        · rw [List.length_append, ha]
          rfl
        · have := hs.p0 (.lst ((acc.map V.int) ++ [V.int (if n < 0 then -n else n)]))
          unfold clo
          rw [List.map_append]
          exact this
      · rintro D H2 ⟨acc, ha, hs⟩
        rw [List.length_map] at ha
        walk_at "ss"
        refine k _ D (m + 1) acc _ (by assumption) ⟨by omega, by omega, by omega⟩
theorem ok__law_draw (T : Txt K mg a) : FnOk P w K mg base CX0 1 a._law_draw a.fd__law_draw ["state", "many"] sp__law_draw := by
  refine T.fn__law_draw.ok sc__law_draw (fun vs H Q E h => ?_) (fun cdv A outer s H vs Q E hr h => ?_)
  · obtain ⟨_, _, _, _, _, _, rfl, _⟩ := h
    rfl
  · obtain ⟨B, s, c, m, many, cells, rfl, hs, ⟨hm0, hm1, hl⟩, hmany, k⟩ := h
    refine ⟨_, (pss_cons (ps_if (pt_cmpR op_lt (pv 1) pe_int (nomark _))
  (pss_one (ps_ret pe_int))
  pss_nil)
  (pss_cons (ps_set (i := 2) sc__law_draw.nd rfl (Or.inl rfl) (pe_ix (ix_listK (K := K)) (pv 0) pe_int (fun _ _ => rfl)))
  (pss_cons (ps_while PassesOwn.never (PW.pt (pw_and (pt_cmpR op_gt (pe_callB (call_lenK (K := K)) (by rfl) T.mg_len PySem.boot_len (pa_cons (pv 2) pa_nil)) pe_int (nomark _)) (pw_and1 (pt_cmpR op_eq (pe_ix (ix_listK (K := K)) (pv 2) pe_int (fun _ _ => rfl)) pe_int (nomark _)))))
  (pss_one (ps_expr (pe_bmK (K := K) PySem.F.plainAttrs_list PySem.F.slot_list_pop PySem.F.type_list_pop mt_popAt (pv 2) (pa_cons pe_int pa_nil)))))
  (pss_cons (ps_if (pt_cmpR op_gt (pe_callB (call_lenK (K := K)) (by rfl) T.mg_len PySem.boot_len (pa_cons (pv 2) pa_nil)) pe_int (nomark _))
  (pss_cons (ps_set (i := 3) sc__law_draw.nd rfl (Or.inl rfl) (pe_ix (ix_listK (K := K)) (pv 2) pe_int (fun _ _ => rfl)))
  (pss_cons (ps_asg (pe_op op_fdivW (pv 3) (pv 1)) (pg_sub (pv 2) pe_int set_list))
  (pss_one (ps_ret (pe_op op_mod (pe_callTy call_intQ (by rfl) T.mg_int (by decide +kernel) (pa_cons (pv 3) pa_nil)) (pv 1))))))
  pss_nil)
  (pss_cons (ps_set (i := 4) sc__law_draw.nd rfl (Or.inl rfl) (pe_op op_mod (pe_callTy call_intQ (by rfl) T.mg_int (by decide +kernel) (pa_cons (pe_op op_add (pe_op op_mul (pe_ix (ix_listK (K := K)) (pv 0) pe_int (fun _ _ => rfl)) pe_int) pe_int) pa_nil)) pe_int))
  (pss_cons (ps_asg (pv 4) (pg_sub (pv 0) pe_int set_list))
  (pss_one (ps_ret (pe_op op_mod (pe_callTy call_intQ (by rfl) T.mg_int (by decide +kernel) (pa_cons (pe_op op_fdivW (pv 4) pe_int) pa_nil)) (pv 1)))))))))), ?_⟩
    walk_at "ss"
    refine ifd (fun h => ?_) (fun h => ?_)
    · walk_at "ss"
      exact k 0 m cells _ hs ⟨hm0, hm1, hl⟩ (fun _ => rfl) (fun q => by omega)
    walk_at "ss"
    refine w_while (fun n σ H' => ∃ cells : List Int, σ = [some (.ref s), some (.int many), some (.ref c), none, none] ∧ cells.length = n ∧ cells.length ≤ 1000 ∧ Hs B [(s, sto c m), (c, clo cells)] H') cells.length ⟨cells, rfl, rfl, hl, hs⟩ ?_
    clear hs
    clear hl cells
    rintro n σ H' ⟨cells, rfl, hn, hl, hs⟩
    walk_at "ss"
    cases cells with
    | nil =>
      show if decide ((0 : Int) < ((0 : Nat) : Int)) = true then _ else _
      refine iteF ?_
      try (with_reducible refine iteF ?_)
      walk_at "ss"
      refine iteF ?_
      walk_at "ss"
      rename_i H2 hs2
      clear hs
      have e1 : 0 ≤ (m * 48271 + 12345) % 2147483647 := Int.emod_nonneg _ (by decide)
      have e2 : (m * 48271 + 12345) % 2147483647 < 2147483647 := Int.emod_lt_of_pos _ (by decide)
      generalize (m * 48271 + 12345) % 2147483647 = mm at e1 e2 hs2 ⊢
      refine w_I ⟨by decide, by decide⟩ ?_
      walk_at "ss"
      refine k _ mm [] _ hs2 ⟨e1, by omega, by decide⟩ (fun q => by omega) fun q => ⟨Int.emod_nonneg _ (by omega), Int.emod_lt_of_pos _ (by omega)⟩
    | cons z cells =>
      refine ifd (fun _ => ?_) (fun q => absurd (show (0 : Int) < _ from by simp only [List.map_cons, List.length_cons]; omega) q)
      walk_at "ss"
      refine ifd (fun hz => ?_) (fun hz => ?_)
      · walk_at "ss"
        refine w_popAt (k := 0) hs (by walk_at "p") rfl rfl (by walk_at "z") fun H2 hs2 => ?_
        rw [List.length_cons] at hl hn
        exact ⟨cells.length, by omega, cells, rfl, rfl, by omega, hs2⟩
      · walk_at "ss"
        refine ifd (fun _ => ?_) (fun q => absurd (show (0 : Int) < _ from by simp only [List.map_cons, List.length_cons]; omega) q)
        walk_at "ss"
        refine w_I ⟨by omega, ?_⟩ ?_
        · refine PySem.Flt.log2_lt_of (by decide) (Nat.lt_of_lt_of_le (show many.natAbs < 2 ^ 30 by omega) (Nat.pow_le_pow_right (by decide) (by decide)))
        walk_at "ss"
        rename_i H2 hs2
        refine k _ m ((z / many) :: cells) _ hs2 ⟨hm0, hm1, by simpa using hl⟩ (fun q => by omega) fun q => ⟨Int.emod_nonneg _ (by omega), Int.emod_lt_of_pos _ (by omega)⟩

theorem w_draw {B H : Hp} {Q : VK} {E : XK} {s c : Addr} {m many : Int} {cells : List Int} {R : List (Addr × HO)} (hs : Hs B ((s, sto c m) :: (c, clo cells) :: R) H) (g : Good m cells) (hm : many < 1000000000)
    (q : ∀ r m' cells' H', Hs B ((s, sto c m') :: (c, clo cells') :: R) H' → Good m' cells' → (many < 1 → r = 0) → (1 ≤ many → 0 ≤ r ∧ r < many) → Q (.int r) H') : sp__law_draw [.ref s, .int many] H Q E := by
  obtain ⟨B', _, h1, back⟩ := hs.frame2
  exact ⟨B', s, c, m, many, cells, rfl, h1, g, hm, fun r m' cells' H' h2 => q r m' cells' H' (back _ _ h2)⟩
/-! ### calls, among other things -/
section
variable {B H : Hp} {Q : VK} {E : XK} {x dx r : Addr} {f s : Int} {rows : List Str} {R : List (Addr × HO)}
theorem w_put {t : Str} (hs : Hs B ((x, snd a dx r f s) :: (r, lst rows) :: R) H) (hl : rows.length < 300) (q : ∀ H', Hs B ((x, snd a dx r f s) :: (r, lst (rows ++ [t])) :: R) H' → Q .non H') : sp_Sender_put a [.ref x, .str t] H Q E := by
  obtain ⟨B', _, h1, back⟩ := hs.frame2
  exact ⟨B', x, dx, r, f, s, rows, t, rfl, h1, by omega, fun _ H' h2 => q H' (back _ _ h2), fun q => absurd q (by omega)⟩
theorem w_fresh (hs : Hs B ((x, snd a dx r f s) :: (r, lst rows) :: R) H) (h0 : 0 ≤ s) (h1 : s ≤ 1000) (hl : rows.length ≤ 1000)
    (q : ∀ D acc H', Hs B ((D, .lst acc) :: (x, snd a dx r f (min 4 (rows.length : Int))) :: (r, lst rows) :: R) H' → ImAll K H' acc (prs f rows s (min 4 (rows.length : Int))) → Q (.ref D) H') : sp_Sender_fresh K a [.ref x] H Q E := by
  obtain ⟨B', _, h1', back⟩ := hs.frame2
  exact ⟨B', x, dx, r, f, s, rows, rfl, h1', h0, h1, hl, fun D acc H' h2 => q D acc H' (back _ _ h2)⟩
theorem w_again (hs : Hs B ((x, snd a dx r f s) :: (r, lst rows) :: R) H) (h0 : 0 ≤ s) (h1 : s ≤ rows.length) (hl : rows.length ≤ 1000)
    (q : ∀ D acc H', Hs B ((D, .lst acc) :: (x, snd a dx r f s) :: (r, lst rows) :: R) H' → ImAll K H' acc (prs f rows 0 s) → Q (.ref D) H') : sp_Sender_again K a [.ref x] H Q E := by
  obtain ⟨B', _, h1', back⟩ := hs.frame2
  exact ⟨B', x, dx, r, f, s, rows, rfl, h1', h0, h1, hl, fun D acc H' h2 => q D acc H' (back _ _ h2)⟩
theorem w_heard {ack : Int} (hs : Hs B ((x, snd a dx r f s) :: (r, lst rows) :: R) H) (q1 : ack - f < 0 ∨ s < ack - f → ∀ H', Hs B ((x, snd a dx r f s) :: (r, lst rows) :: R) H' → Q .non H')
    (q2 : 0 ≤ ack - f → ack - f ≤ s → ∀ r' H', Hs B ((x, snd a dx r' ack (s - (ack - f))) :: (r', lst (rows.drop (ack - f).toNat)) :: R) H' → Q (.int (ack - f)) H') : sp_Sender_heard a [.ref x, .int ack] H Q E := by
  obtain ⟨B', _, h1', back⟩ := hs.frame2
  exact ⟨B', x, dx, r, f, s, ack, rows, rfl, h1', fun h H' h2 => q1 h H' (back _ _ h2), fun h h' r' H' h2 => q2 h h' r' H' (back _ _ h2)⟩
end
theorem prs_ok {f lo hi : Int} {rows : List Str} (h : ∀ t ∈ rows, PyData.strOk t = true) : ∀ d ∈ prs f rows lo hi, d.canLay0 = true ∧ d.depth ≤ 60 := by
  intro d hd
  obtain ⟨i, _, rfl⟩ := List.mem_map.mp hd
  have e : PyData.strOk (rows.getD (lo + (i : Int)).toNat Str.empty) = true := by
    rw [List.getD_eq_getElem?_getD]
    cases q : rows[(lo + (i : Int)).toNat]? with
    | none => decide +kernel
    | some t => exact h t (List.mem_of_getElem? q)
  unfold pr
  constructor
  · simp only [PyData.canLay0, PyData.canLayAll0, e, Bool.and_self]
  · simp [PyData.depth, PyData.depthAll]
def tm (k : Nat) : Str := ("m" : Str) ++ (toString (k : Int) : String)
theorem tm_all : ∀ k, k < 9 → PyData.strOk (tm k) = true ∧ Str.length (toString (k : Int) : String) ≤ 10 := by decide +kernel
def sp__law_sender (a : Ad) : Sp := fun vs H Q _ => ∃ (B : Hp) (st c x dx r mm mr : Addr) (m f s : Int) (cells : List Int) (rows : List Str), vs = [.ref st, .ref x, .ref mm] ∧
  Hs B [(st, sto c m), (c, clo cells), (x, snd a dx r f s), (r, lst rows), (mm, .lst [.int f, .ref mr, .int s]), (mr, lst rows)] H ∧ Good m cells ∧ 0 ≤ s ∧ s ≤ 4 ∧ s ≤ rows.length ∧ rows.length ≤ 100 ∧ (∀ t ∈ rows, PyData.strOk t = true) ∧
  ∀ m' f' s' cells' rows' r' mr' H', Hs B [(st, sto c m'), (c, clo cells'), (x, snd a dx r' f' s'), (r', lst rows'), (mm, .lst [.int f', .ref mr', .int s']), (mr', lst rows')] H' → Good m' cells' → 0 ≤ s' → s' ≤ 4 → s' ≤ rows'.length → rows'.length ≤ rows.length + 1 →
    (∀ t ∈ rows', PyData.strOk t = true) → Q (.bl true) H'
theorem ok__law_sender (T : Txt K mg a) : FnOk P w K mg base CX0 4 a._law_sender a.fd__law_sender ["state", "sender", "m"] (sp__law_sender a) := by
  have G__law_draw := ok__law_draw (P := P) (w := w) (base := base) T
  have G_Sender_put := ok_Sender_put (P := P) (w := w) (base := base) T
  have G_Sender_fresh := ok_Sender_fresh (P := P) (w := w) (base := base) T
  have G_Sender_again := ok_Sender_again (P := P) (w := w) (base := base) T
  have G_Sender_heard := ok_Sender_heard (P := P) (w := w) (base := base) T
  refine T.fn__law_sender.ok sc__law_sender (fun vs H Q E h => ?_) (fun cdv A outer s H vs Q E hr h => ?_)
  · obtain ⟨_, _, _, _, _, _, _, _, _, _, _, _, _, rfl, _⟩ := h
    rfl
  · obtain ⟨B, st, c, x, dx, r, mm, mr, m, f, s, cells, rows, rfl, hs, g, hs0, hs4', hsl, hl, hok, k⟩ := h
    have c1 := T.cl_Sender
    refine ⟨_, (pss_cons (ps_set (i := 3) sc__law_sender.nd rfl (Or.inl rfl) (pe_call G__law_draw (hr.mono (by decide)) rfl T.mg__law_draw T.kp__law_draw T.bi__law_draw .nil pass0 (pa_cons (pv 0) (pa_cons pe_int pa_nil))))
  (pss_cons (ps_if (pt_cmpR op_lt (pv 3) pe_int (nomark _))
  (pss_cons (ps_set (i := 4) sc__law_sender.nd rfl (Or.inl rfl) (pe_op op_addS pe_str (pe_callTy call_strQ (by rfl) T.mg_str (by decide +kernel) (pa_cons (pe_call G__law_draw (hr.mono (by decide)) rfl T.mg__law_draw T.kp__law_draw T.bi__law_draw .nil pass0 (pa_cons (pv 0) (pa_cons pe_int pa_nil))) pa_nil))))
  (pss_cons (ps_expr (pe_meth (pv 1) T.cl_Sender T.me_Sender_put G_Sender_put (hr.mono (by decide)) T.bi_Sender_put .nil passL (pa_cons (pv 4) pa_nil)))
  (pss_cons (ps_expr (pe_bmK (K := K) PySem.F.plainAttrs_list PySem.F.slot_list_append PySem.F.type_list_append mt_append (pe_ix (ix_listK (K := K)) (pv 2) pe_int (fun _ _ => rfl)) (pa_cons (pv 4) pa_nil)))
  (pss_one (ps_ret pe_bl)))))
  pss_nil)
  (pss_cons (ps_if (pt_cmpR op_eq (pv 3) pe_int (nomark _))
  (pss_cons (ps_set (i := 5) sc__law_sender.nd rfl (Or.inl rfl) (pe_ix (ix_listK (K := K)) (pv 2) pe_int (fun _ _ => rfl)))
  (pss_cons (ps_asg (pe_callB (call_maxQ rfl) (by rfl) T.mg_max (by decide +kernel) (pa_cons (pv 5) (pa_cons (pe_callB (call_minQ rfl) (by rfl) T.mg_min (by decide +kernel) (pa_cons pe_int (pa_cons (pe_callB (call_lenK (K := K)) (by rfl) T.mg_len PySem.boot_len (pa_cons (pe_ix (ix_listK (K := K)) (pv 2) pe_int (fun _ _ => rfl)) pa_nil)) pa_nil))) pa_nil))) (pg_sub (pv 2) pe_int set_list))
  (pss_one (ps_ret (pe_cmpR (op_eqDK (K := K) hr.units) (pe_meth0 (pv 1) T.cl_Sender T.me_Sender_fresh G_Sender_fresh (hr.mono (by decide)) T.bi_Sender_fresh .nil pass0) (pe_lc (own := [("k", 9)]) (g := (gName 9)) (tt := tYes) rfl sc__law_sender.nd (pi_range2 rfl T.mg_range (pa_cons (pv 5) (pa_cons (pe_ix (ix_listK (K := K)) (pv 2) pe_int (fun _ _ => rfl)) pa_nil))) (blkOk_by (own := [("k", 9)]) (N := N__law_sender) (sc := defScope s__law_sender) (by decide +kernel)) (fun _ _ _ _ _ => by exact (pg_name (i := 9) sc__law_sender.nd rfl (Or.inl rfl))) (fun _ _ _ _ _ => pts_nil) (fun _ _ _ _ _ => by exact (pe_tup (pa_cons (pe_op op_add (pe_ix (ix_listK (K := K)) (pv 2) pe_int (fun _ _ => rfl)) (pv 9)) (pa_cons (pe_ix (ix_listK (K := K)) (pe_ix (ix_listK (K := K)) (pv 2) pe_int (fun _ _ => rfl)) (pv 9) (fun _ _ => rfl)) pa_nil))))) (nomark _))))))
  pss_nil)
  (pss_cons (ps_if (pt_cmpR op_eq (pv 3) pe_int (nomark _))
  (pss_one (ps_ret (pe_cmpR (op_eqDK (K := K) hr.units) (pe_meth0 (pv 1) T.cl_Sender T.me_Sender_again G_Sender_again (hr.mono (by decide)) T.bi_Sender_again .nil pass0) (pe_lc (own := [("k", 9)]) (g := (gName 9)) (tt := tYes) rfl sc__law_sender.nd (pi_range1 rfl T.mg_range (pa_cons (pe_ix (ix_listK (K := K)) (pv 2) pe_int (fun _ _ => rfl)) pa_nil)) (blkOk_by (own := [("k", 9)]) (N := N__law_sender) (sc := defScope s__law_sender) (by decide +kernel)) (fun _ _ _ _ _ => by exact (pg_name (i := 9) sc__law_sender.nd rfl (Or.inl rfl))) (fun _ _ _ _ _ => pts_nil) (fun _ _ _ _ _ => by exact (pe_tup (pa_cons (pe_op op_add (pe_ix (ix_listK (K := K)) (pv 2) pe_int (fun _ _ => rfl)) (pv 9)) (pa_cons (pe_ix (ix_listK (K := K)) (pe_ix (ix_listK (K := K)) (pv 2) pe_int (fun _ _ => rfl)) (pv 9) (fun _ _ => rfl)) pa_nil))))) (nomark _))))
  pss_nil)
  (pss_cons (ps_set (i := 6) sc__law_sender.nd rfl (Or.inl rfl) (pe_callB (call_maxQ rfl) (by rfl) T.mg_max (by decide +kernel) (pa_cons pe_int (pa_cons (pe_op op_add (pe_op op_sub (pe_ix (ix_listK (K := K)) (pv 2) pe_int (fun _ _ => rfl)) pe_int) (pe_call G__law_draw (hr.mono (by decide)) rfl T.mg__law_draw T.kp__law_draw T.bi__law_draw .nil pass0 (pa_cons (pv 0) (pa_cons pe_int pa_nil)))) pa_nil))))
  (pss_cons (ps_set (i := 7) sc__law_sender.nd rfl (Or.inl rfl) (pe_op op_sub (pv 6) (pe_ix (ix_listK (K := K)) (pv 2) pe_int (fun _ _ => rfl))))
  (pss_cons (ps_set (i := 8) sc__law_sender.nd rfl (Or.inl rfl) (pe_meth (pv 1) T.cl_Sender T.me_Sender_heard G_Sender_heard (hr.mono (by decide)) T.bi_Sender_heard .nil pass0 (pa_cons (pv 6) pa_nil)))
  (pss_cons (ps_if (PW.pt (pw_or (pt_cmpR op_lt (pv 7) pe_int (nomark _)) (pw_or1 (pt_cmpR op_gt (pv 7) (pe_ix (ix_listK (K := K)) (pv 2) pe_int (fun _ _ => rfl)) (nomark _)))))
  (pss_one (ps_ret (pe_cmpR op_isNQ (pv 8) pe_non (nomark _))))
  pss_nil)
  (pss_cons (ps_asg (pe_tup (pa_cons (pv 6) (pa_cons (pe_slice (sl_listK (K := K)) (pe_ix (ix_listK (K := K)) (pv 2) pe_int (fun _ _ => rfl)) (po_some (pv 7)) po_none) (pa_cons (pe_op op_sub (pe_ix (ix_listK (K := K)) (pv 2) pe_int (fun _ _ => rfl)) (pv 7)) pa_nil)))) (pg_tupK (K := K) rfl (pgs_cons (pg_sub (pv 2) pe_int set_list) (pgs_cons (pg_sub (pv 2) pe_int set_list) (pgs_cons (pg_sub (pv 2) pe_int set_list) pgs_nil)))))
  (pss_one (ps_ret (pe_cmpR op_eq (pv 8) (pv 7) (nomark _))))))))))))), ?_⟩
    walk_at "ss"
    refine w_draw hs g (by omega) fun kind m cells H1 hs g _ hk => ?_
    obtain ⟨hk0, hk1⟩ := hk (by decide)
    walk_at "ss"
    refine ifd (fun h2 => ?_) (fun h2 => ?_)
    · walk_at "ss"
      refine w_draw hs g (by omega) fun dg m cells H2 hs g _ hd => ?_
      obtain ⟨hd0, hd1⟩ := hd (by decide)
      obtain ⟨i, rfl⟩ : ∃ i : Nat, dg = (i : Int) := ⟨dg.toNat, by omega⟩
      obtain ⟨ht1, ht2⟩ := tm_all i (by omega)
      have hm1 : Str.length ("m" : Str) ≤ 10 := by decide +kernel
      walk_at "ss"
      refine w_str (by omega) ?_
      walk_at "ss"
      refine w_addS (sz (by omega)) ?_
      walk_at "ss"
      refine w_put hs.m3.m3 (by omega) fun H3 hs3 => ?_
      walk_at "ss"
      rename_i H4 hs4
      have hs : Hs _ [_, _, _, _, _, _] _ := hs4.sel [2, 3, 0, 1, 4, 5]
      have e : rows.map V.str ++ [V.str (tm i)] = (rows ++ [tm i]).map V.str := by
        rw [List.map_append]
        rfl
      rw [show (Str.ofString "m" ++ Str.ofString (toString (i : Int))) = tm i from rfl, e] at hs
      refine k m f s cells (rows ++ [tm i]) r mr H4 hs g hs0 hs4' ?_ ?_ ?_
      · rw [List.length_append]
        omega
      · rw [List.length_append, List.length_singleton]
        exact Nat.le_refl _
      · intro t ht
        rcases List.mem_append.mp ht with h | h
        · exact hok t h
        · rw [List.mem_singleton.mp h]
          exact ht1
    walk_at "ss"
    refine ifd (fun h3 => ?_) (fun h3 => ?_)
    · walk_at "ss"
      rename_i H2 hs2
      have e0 : (if min 4 (rows.length : Int) > s then min 4 (rows.length : Int) else s) = min 4 (rows.length : Int) := by omega
      rw [List.length_map, min4, e0] at hs2
      clear hs
      walk_at "ss"
      refine w_fresh hs2.m3.m3 hs0 (by omega) (by omega) fun D acc H3 hs3 hi => ?_
      clear hs2
      have gm := hs3.g5
      have gr := hs3.g6
      refine w_lcI (K := K) (lo := s) (hi := min 4 (rows.length : Int)) (by omega) (by omega) (pr f rows s) (fun Q q => by walk_at "ss"; exact q) (fun _ => rfl) ?_ ?_
      · intro i H' Q' hi' hS kk
        have gm' := hS _ _ gm
        have gr' := hS _ _ gr
        clear gm gr hs3
        have hs := Hs.start H'
        have ea := at_str (rows := rows) (i := s + (i : Int)) (by omega) (by omega)
        walk_at "ss"
        rename_i p H4 hs4
        exact kk _ _ hs4.same (.tup hs4.g0 (.cons (.int _) (.cons (.str _) .nil)))
      · intro D2 acc2 H5 hs5 hi5
        refine w_eqL (hs5.same _ _ hs3.g0) hs5.g0 (hi.same hs5.same) hi5 (prs_ok hok) ?_
        walk_at "ss"
        have hs6 := hs3.add hs5
        have hs7 : Hs _ [_, _, _, _, _, _] _ := hs6.sel [4, 5, 2, 3, 6, 7]
        exact k m f _ cells rows r mr H5 hs7 g (by omega) (by omega) (by omega) (by omega) hok
    walk_at "ss"
    refine ifd (fun h3' => ?_) (fun h3' => ?_)
    · walk_at "ss"
      refine w_again hs.m3.m3 hs0 hsl (by omega) fun D acc H3 hs3 hi => ?_
      clear hs
      have gm := hs3.g5
      have gr := hs3.g6
      refine w_lcI1 (K := K) (hi := s) (by omega) (by omega) (pr f rows 0) (fun Q q => by walk_at "ss"; exact q) (fun _ => rfl) ?_ ?_
      · intro i H' Q' hi' hS kk
        have gm' := hS _ _ gm
        have gr' := hS _ _ gr
        clear gm gr hs3
        have hs := Hs.start H'
        have ea := at_str (rows := rows) (i := (i : Int)) (by omega) (by omega)
        walk_at "ss"
        rename_i p H4 hs4
        have e1 : f + (i : Int) = f + (0 + (i : Int)) := by omega
        have e2 : (0 + (i : Int)).toNat = ((i : Int)).toNat := by omega
        refine kk _ _ hs4.same (.tup hs4.g0 (.cons ?_ (.cons ?_ .nil)))
        · rw [e1]
          exact .int _
        · rw [e2]
          exact .str _
      · intro D2 acc2 H5 hs5 hi5
        have e : s - 0 = s := by omega
        have hi6 : ImAll K H5 acc2 (prs f rows 0 s) := by
          unfold prs
          rw [e]
          exact hi5
        refine w_eqL (hs5.same _ _ hs3.g0) hs5.g0 (hi.same hs5.same) hi6 (prs_ok hok) ?_
        walk_at "ss"
        have hs6 := hs3.add hs5
        have hs7 : Hs _ [_, _, _, _, _, _] _ := hs6.sel [4, 5, 2, 3, 6, 7]
        exact k m f _ cells rows r mr H5 hs7 g (by omega) (by omega) (by omega) (by omega) hok
    walk_at "ss"
    refine w_draw hs g (by omega) fun d7 m cells H2 hs g _ hd => ?_
    obtain ⟨hd0, hd1⟩ := hd (by decide)
    walk_at "ss"
    generalize ha : (if f - 1 + d7 > 0 then f - 1 + d7 else 0) = ack
    refine w_heard hs.m3.m3 (fun hc H3 hs3 => ?_) (fun hc1 hc2 r' H3 hs3 => ?_)
    · clear hs
      walk_at "ss"
      have hs7 : Hs _ [_, _, _, _, _, _] _ := hs3.sel [2, 3, 0, 1, 4, 5]
      refine ifd (fun q1 => ?_) (fun q1 => ?_)
      · walk_at "ss"
        exact k m f s cells rows r mr _ hs7 g (by omega) (by omega) (by omega) (by omega) hok
      · walk_at "ss"
        refine ifd (fun q2 => ?_) (fun q2 => absurd hc (by omega))
        walk_at "ss"
        exact k m f s cells rows r mr _ hs7 g (by omega) (by omega) (by omega) (by omega) hok
    · clear hs
      walk_at "ss"
      refine ifd (fun q1 => absurd q1 (by omega)) (fun q1 => ?_)
      walk_at "ss"
      refine ifd (fun q2 => absurd q2 (by omega)) (fun q2 => ?_)
      walk_at "ss"
      rename_i H4 hs4
      have e : cutV (rows.map V.str) (some (ack - f)) none = (rows.drop (ack - f).toNat).map V.str := by
        rw [cut_from (ack - f).toNat (by omega), List.map_drop]
      have hs7 : Hs _ [_, _, _, _, _, _] _ := hs4.sel [4, 5, 2, 3, 6, 1]
      rw [e] at hs7
      rw [decide_eq_true (rfl : ack - f = ack - f)]
      refine k m _ _ cells _ _ _ _ hs7 g (by omega) (by omega) ?_ ?_ fun t ht => hok t (List.mem_of_mem_drop ht)
      · rw [List.length_drop]
        omega
      · rw [List.length_drop]
        omega
end
section
variable {P : Program} [IsP P] {w : World} {K : PySem.W.Frag} {mg : Str → Option Value} {base : Heap} {a : Ad}
/-! ### the law's own inbox -/
theorem valV_key {kv : Kv} {k : Key} {v : V} (h : valV kv k = some v) : ∃ p ∈ kv, p.1 = k ∧ p.2 = v := by
  unfold valV at h
  cases e : kv.find? fun q => decide (q.1 = k) with
  | none =>
    rw [e] at h
    cases h
  | some p =>
    rw [e] at h
    have e2 := List.find?_some e
    exact ⟨p, List.mem_of_find?_eq_some e, by simpa using e2, Option.some.inj h⟩
/-- whose keys are below m, whose values are texts -/
def KvOk (m : Int) (kv : Kv) : Prop := ∀ p ∈ kv, (∃ z, p.1 = Sum.inl z ∧ z < m) ∧ ∃ t, p.2 = V.str t ∧ PyData.strOk t = true
theorem KvOk.drop {m : Int} {kv : Kv} (h : KvOk m kv) (k : Key) : KvOk m (dropK kv k) := fun p hp => h p (List.mem_filter.mp hp).1
theorem KvOk.mono {m m' : Int} {kv : Kv} (h : KvOk m kv) (e : m ≤ m') : KvOk m' kv := fun p hp => by
  obtain ⟨⟨z, h1, h2⟩, h3⟩ := h p hp
  exact ⟨⟨z, h1, by omega⟩, h3⟩
theorem ready_keys : ∀ (j l : Nat) (n : Int) (kv : Kv), j ≤ l → KvOk (n + (j : Int)) kv → ready l n kv = ready j n kv
  | 0, l, n, kv, _, h => by
    have e : valV kv (Sum.inl n) = none := by
      cases hv : valV kv (Sum.inl n) with
      | none => rfl
      | some v =>
        obtain ⟨p, hp, e1, _⟩ := valV_key hv
        obtain ⟨⟨z, e2, e3⟩, _⟩ := h p hp
        rw [e1] at e2
        have := Sum.inl.inj e2
        omega
    cases l with
    | zero => rfl
    | succ l =>
      show (match valV kv (Sum.inl n) with | none => [] | some v => v :: ready l (n + 1) (dropK kv (Sum.inl n))) = []
      rw [e]
  | j + 1, 0, _, _, h, _ => by omega
  | j + 1, l + 1, n, kv, hl, h => by
    show (match valV kv (Sum.inl n) with | none => [] | some v => v :: ready l (n + 1) (dropK kv (Sum.inl n))) = (match valV kv (Sum.inl n) with | none => [] | some v => v :: ready j (n + 1) (dropK kv (Sum.inl n)))
    cases valV kv (Sum.inl n) with
    | none => rfl
    | some v =>
      simp only
      rw [ready_keys j l (n + 1) _ (by omega) ((h.drop _).mono (by omega))]
theorem later_keys : ∀ (j l : Nat) (n : Int) (kv : Kv), j ≤ l → KvOk (n + (j : Int)) kv → later l n kv = later j n kv
  | 0, l, n, kv, _, h => by
    have e : valV kv (Sum.inl n) = none := by
      cases hv : valV kv (Sum.inl n) with
      | none => rfl
      | some v =>
        obtain ⟨p, hp, e1, _⟩ := valV_key hv
        obtain ⟨⟨z, e2, e3⟩, _⟩ := h p hp
        rw [e1] at e2
        have := Sum.inl.inj e2
        omega
    cases l with
    | zero => rfl
    | succ l =>
      show (match valV kv (Sum.inl n) with | none => (n, kv) | some v => later l (n + 1) (dropK kv (Sum.inl n))) = (n, kv)
      rw [e]
  | j + 1, 0, _, _, h, _ => by omega
  | j + 1, l + 1, n, kv, hl, h => by
    show (match valV kv (Sum.inl n) with | none => (n, kv) | some v => later l (n + 1) (dropK kv (Sum.inl n))) = (match valV kv (Sum.inl n) with | none => (n, kv) | some v => later j (n + 1) (dropK kv (Sum.inl n)))
    cases valV kv (Sum.inl n) with
    | none => rfl
    | some v =>
      simp only
      rw [later_keys j l (n + 1) _ (by omega) ((h.drop _).mono (by omega))]
/-- as long as there are messages, or four times -/
theorem ready4 {n : Int} {kv : Kv} (h : KvOk (n + 4) kv) : ready kv.length n kv = ready 4 n kv := by
  rw [ready_fuel kv.length (kv.length + 4) n kv (Nat.le_refl _) (by omega), ready_keys 4 (kv.length + 4) n kv (by omega) h]
theorem later4 {n : Int} {kv : Kv} (h : KvOk (n + 4) kv) : later kv.length n kv = later 4 n kv := by
  rw [later_fuel kv.length (kv.length + 4) n kv (Nat.le_refl _) (by omega), later_keys 4 (kv.length + 4) n kv (by omega) h]
theorem ready_str : ∀ (k : Nat) (n m : Int) (kv : Kv), KvOk m kv → ∃ ts : List Str, ready k n kv = ts.map V.str ∧ ∀ t ∈ ts, PyData.strOk t = true
  | 0, _, _, _, _ => ⟨[], rfl, fun _ h => nomatch h⟩
  | k + 1, n, m, kv, h => by
    show ∃ ts : List Str, (match valV kv (Sum.inl n) with | none => [] | some v => v :: ready k (n + 1) (dropK kv (Sum.inl n))) = ts.map V.str ∧ _
    cases hv : valV kv (Sum.inl n) with
    | none => exact ⟨[], rfl, fun _ h => nomatch h⟩
    | some v =>
      obtain ⟨p, hp, _, e2⟩ := valV_key hv
      obtain ⟨_, t, e3, e4⟩ := h p hp
      obtain ⟨ts, h1, h2⟩ := ready_str k (n + 1) m _ (h.drop (Sum.inl n))
      refine ⟨t :: ts, ?_, fun u hu => ?_⟩
      · simp only
        rw [h1, ← e2, e3]
        rfl
      · rcases List.mem_cons.mp hu with rfl | hu
        · exact e4
        · exact h2 u hu
theorem later_ok : ∀ (k : Nat) (n m : Int) (kv : Kv), KvOk m kv → KvOk m (later k n kv).2 ∧ n ≤ (later k n kv).1 ∧ (later k n kv).2.length ≤ kv.length
  | 0, n, _, _, h => ⟨h, Int.le_refl _, Nat.le_refl _⟩
  | k + 1, n, m, kv, h => by
    have e : later (k + 1) n kv = (match valV kv (Sum.inl n) with | none => (n, kv) | some v => later k (n + 1) (dropK kv (Sum.inl n))) := rfl
    rw [e]
    cases valV kv (Sum.inl n) with
    | none => exact ⟨h, Int.le_refl _, Nat.le_refl _⟩
    | some v =>
      obtain ⟨h1, h2, h3⟩ := later_ok k (n + 1) m _ (h.drop (Sum.inl n))
      exact ⟨h1, by simp only; omega, Nat.le_trans h3 (dropK_le kv _)⟩
theorem keep1_ok {n m : Int} {t : Str} {kv : Kv} (h : KvOk (n + 4) kv) (ht : PyData.strOk t = true) : KvOk (n + 4) (keep1 n m (.str t) kv) ∧ (keep1 n m (.str t) kv).length ≤ kv.length + 1 := by
  unfold keep1
  split
  · next c =>
    refine ⟨?_, putK_le _ _ _⟩
    rw [putK_new _ c.2]
    intro p hp
    rcases List.mem_append.mp hp with hp | hp
    · exact h p hp
    · rw [List.mem_singleton.mp hp]
      exact ⟨⟨m, rfl, c.1.2⟩, t, rfl, ht⟩
  · exact ⟨h, Nat.le_succ _⟩
theorem w_take {B H : Hp} {Q : VK} {E : XK} {x dx e : Addr} {n m : Int} {t : Str} {kv : Kv} {R : List (Addr × HO)} (hs : Hs B ((x, inb a dx e n) :: (e, .dK kv) :: R) H) (hl : kv.length ≤ 1000)
    (q : ∀ r H', Hs B ((r, .lst (ready (keep1 n m (.str t) kv).length n (keep1 n m (.str t) kv))) :: (x, inb a dx e (later (keep1 n m (.str t) kv).length n (keep1 n m (.str t) kv)).1) :: (e, .dK (later (keep1 n m (.str t) kv).length n (keep1 n m (.str t) kv)).2) :: R) H' → Q (.ref r) H') :
    sp_Inbox_take a [.ref x, .int m, .str t] H Q E := by
  obtain ⟨B', _, h1, back⟩ := hs.frame2
  exact ⟨B', x, dx, e, n, m, t, kv, rfl, h1, hl, fun r H' h2 => q r H' (back _ _ h2)⟩
theorem w_eqS {H : Hp} {Q : VK} {p q : Addr} {ts : List Str} (hp : H p = some (lst ts)) (hq : H q = some (lst ts)) (h : ∀ t ∈ ts, PyData.strOk t = true) (k : Q (.bl true) H) : rEqD K (.ref p) (.ref q) H Q :=
  w_eqL hp hq (ima_str ts) (ima_str ts) (fun d hd => by
    obtain ⟨t, ht, rfl⟩ := List.mem_map.mp hd
    exact ⟨by simpa only [PyData.canLay0] using h t ht, by simp [PyData.depth]⟩) k
def tn (k : Nat) : Str := ("n" : Str) ++ (toString (k : Int) : String)
theorem tn_all : ∀ k, k < 9 → PyData.strOk (tn k) = true ∧ Str.length (toString (k : Int) : String) ≤ 10 := by decide +kernel
def sp__law_inbox (a : Ad) : Sp := fun vs H Q _ => ∃ (B : Hp) (st c x dx e mm md : Addr) (m n : Int) (cells : List Int) (kv : Kv), vs = [.ref st, .ref x, .ref mm] ∧
  Hs B [(st, sto c m), (c, clo cells), (x, inb a dx e n), (e, .dK kv), (mm, .lst [.int n, .ref md]), (md, .dK kv)] H ∧ Good m cells ∧ KvOk (n + 4) kv ∧ kv.length ≤ 200 ∧
  ∀ m' n' cells' kv' H', Hs B [(st, sto c m'), (c, clo cells'), (x, inb a dx e n'), (e, .dK kv'), (mm, .lst [.int n', .ref md]), (md, .dK kv')] H' → Good m' cells' → KvOk (n' + 4) kv' → kv'.length ≤ kv.length + 1 → Q (.bl true) H'
theorem ok__law_inbox (T : Txt K mg a) : FnOk P w K mg base CX0 2 a._law_inbox a.fd__law_inbox ["state", "inbox", "m"] (sp__law_inbox a) := by
  have G__law_draw := ok__law_draw (P := P) (w := w) (base := base) T
  have G_Inbox_take := ok_Inbox_take (P := P) (w := w) (base := base) T
  refine T.fn__law_inbox.ok sc__law_inbox (fun vs H Q E h => ?_) (fun cdv A outer s H vs Q E hr h => ?_)
  · obtain ⟨_, _, _, _, _, _, _, _, _, _, _, _, rfl, _⟩ := h
    rfl
  · obtain ⟨B, st, c, x, dx, e, mm, md, m, n, cells, kv, rfl, hs, g, hok, hl, k⟩ := h
    have c1 := T.cl_Inbox
    have n1 := T.na_Inbox_next
    have hu := hu_of hr
    refine ⟨_, (pss_cons (ps_set (i := 3) sc__law_inbox.nd rfl (Or.inl rfl) (pe_callB (call_maxQ rfl) (by rfl) T.mg_max (by decide +kernel) (pa_cons pe_int (pa_cons (pe_op op_add (pe_op op_sub (pe_ix (ix_listK (K := K)) (pv 2) pe_int (fun _ _ => rfl)) pe_int) (pe_call G__law_draw (hr.mono (by decide)) rfl T.mg__law_draw T.kp__law_draw T.bi__law_draw .nil pass0 (pa_cons (pv 0) (pa_cons pe_int pa_nil)))) pa_nil))))
  (pss_cons (ps_set (i := 4) sc__law_inbox.nd rfl (Or.inl rfl) (pe_op op_addS pe_str (pe_callTy call_strQ (by rfl) T.mg_str (by decide +kernel) (pa_cons (pe_call G__law_draw (hr.mono (by decide)) rfl T.mg__law_draw T.kp__law_draw T.bi__law_draw .nil pass0 (pa_cons (pv 0) (pa_cons pe_int pa_nil))) pa_nil))))
  (C8.pss_cut (ps_if (PW.pt (pw_and (pt_chain op_le op_le (pe_ix (ix_listK (K := K)) (pv 2) pe_int (fun _ _ => rfl)) (pv 3) (pe_op op_add (pe_ix (ix_listK (K := K)) (pv 2) pe_int (fun _ _ => rfl)) pe_int)) (pw_and1 (pt_cmp (pc_dnotin hu (pv 3) (pe_ix (ix_listK (K := K)) (pv 2) pe_int (fun _ _ => rfl)))))))
  (pss_one (ps_dput hu (pe_ix (ix_listK (K := K)) (pv 2) pe_int (fun _ _ => rfl)) (pv 3) (pv 4) rfl))
  pss_nil)
  (pss_cons (ps_set (i := 5) sc__law_inbox.nd rfl (Or.inl rfl) (pe_lst pa_nil))
  (pss_cons (ps_for PassesOwn.never rfl (pi_range1 rfl T.mg_range (pa_cons pe_int pa_nil)) (pg_name (i := 6) sc__law_inbox.nd rfl (Or.inl rfl))
  (pss_one (ps_if (pt_cmp (pc_din hu (pe_ix (ix_listK (K := K)) (pv 2) pe_int (fun _ _ => rfl)) (pe_ix (ix_listK (K := K)) (pv 2) pe_int (fun _ _ => rfl))))
  (pss_cons (ps_expr (pe_bmK (K := K) PySem.F.plainAttrs_list PySem.F.slot_list_append PySem.F.type_list_append mt_append (pv 5) (pa_cons (pe_dpop1 (pe_ix (ix_listK (K := K)) (pv 2) pe_int (fun _ _ => rfl)) (pe_ix (ix_listK (K := K)) (pv 2) pe_int (fun _ _ => rfl)) ⟨rfl, rfl, rfl, rfl⟩) pa_nil)))
  (pss_one (ps_asg (pe_op op_add (pe_ix (ix_listK (K := K)) (pv 2) pe_int (fun _ _ => rfl)) pe_int) (pg_sub (pv 2) pe_int set_list))))
  pss_nil)))
  (pss_one (ps_ret (pe_and (pe_cmpR (op_eqDK (K := K) hr.units) (pe_meth (pv 1) T.cl_Inbox T.me_Inbox_take G_Inbox_take (hr.mono (by decide)) T.bi_Inbox_take .nil pass0 (pa_cons (pv 3) (pa_cons (pv 4) pa_nil))) (pv 5) (nomark _)) (pe_one (pe_cmpR op_eq (pe_fldK (K := K) (pv 1)) (pe_ix (ix_listK (K := K)) (pv 2) pe_int (fun _ _ => rfl)) (nomark _))))))))))), ?_⟩
    walk_at "ss"
    refine w_draw hs g (by omega) fun d8 m cells H1 hs g _ hd => ?_
    walk_at "ss"
    generalize (if n - 2 + d8 > 0 then n - 2 + d8 else 0) = num
    refine w_draw hs g (by omega) fun d9 m cells H2 hs g _ hd9 => ?_
    obtain ⟨h0, h1⟩ := hd9 (by decide)
    obtain ⟨i, rfl⟩ : ∃ i : Nat, d9 = (i : Int) := ⟨d9.toNat, by omega⟩
    obtain ⟨ht1, ht2⟩ := tn_all i (by omega)
    have hn1 : Str.length ("n" : Str) ≤ 10 := by decide +kernel
    walk_at "ss"
    refine w_str (by omega) ?_
    walk_at "ss"
    refine w_addS (sz (by omega)) ?_
    walk_at "ss"
    refine w_cut (fun σ' H' => σ' = [some (.ref st), some (.ref x), some (.ref mm), some (.int num), some (.str (tn i)), none, none] ∧ Hs B [(st, sto c m), (c, clo cells), (x, inb a dx e n), (e, .dK kv), (mm, .lst [.int n, .ref md]), (md, .dK (keep1 n num (.str (tn i)) kv))] H') ?_ ?_
    · walk_at "ss"
      refine ifd (fun h1 => ?_) (fun h1 => ?_)
      · walk_at "ss"
        refine ifd (fun h2 => ?_) (fun h2 => ?_)
        · walk_at "ss"
          cases hv : valV kv (Sum.inl num) with
          | none =>
            refine iteT ?_
            walk_at "ss"
            refine ⟨rfl, ?_⟩
            unfold keep1
            rw [if_pos ⟨⟨h1, by omega⟩, hv⟩]
            assumption
          | some u =>
            refine iteF ?_
            walk_at "ss"
            refine ⟨rfl, ?_⟩
            unfold keep1
            rw [if_neg (fun q => by rw [hv] at q; cases q.2)]
            assumption
        · walk_at "ss"
          refine ⟨rfl, ?_⟩
          unfold keep1
          rw [if_neg (fun q => h2 (by omega))]
          assumption
      · walk_at "ss"
        refine ⟨rfl, ?_⟩
        unfold keep1
        rw [if_neg (fun q => h1 q.1.1)]
        assumption
    · rintro σ' H' ⟨rfl, hs⟩
      obtain ⟨hok1, hl1⟩ := keep1_ok (m := num) hok ht1
      walk_at "ss"
      rename_i du H3 hs3
      clear hs
      refine w_forR (by decide) (fun i σ H4 => ∃ (n' : Int) (kv' : Kv) (acc : List V) (v6 : Option V), σ = [some (.ref st), some (.ref x), some (.ref mm), some (.int num), some (.str (tn _)), some (.ref du), v6] ∧
        acc ++ ready (4 - i) n' kv' = ready 4 n (keep1 n num (.str (tn _)) kv) ∧ later (4 - i) n' kv' = later 4 n (keep1 n num (.str (tn _)) kv) ∧ acc.length ≤ i ∧
        Hs B [(du, .lst acc), (st, sto c m), (c, clo cells), (x, inb a dx e n), (e, .dK kv), (mm, .lst [.int n', .ref md]), (md, .dK kv')] H4) (fun Q q => q) (by decide) ⟨n, _, [], none, rfl, rfl, rfl, Nat.le_refl _, hs3⟩ ?_ ?_
      · clear hs3
        rintro j σ H4 hj ⟨n', kv', acc, v6, rfl, e1, e2, hal, hs⟩
        obtain ⟨l, hl4⟩ : ∃ l, 4 - j = l + 1 := ⟨3 - j, by omega⟩
        have hl5 : 4 - (j + 1) = l := by omega
        rw [hl4] at e1 e2
        have s1 : ready (l + 1) n' kv' = (match valV kv' (Sum.inl n') with | none => [] | some v => v :: ready l (n' + 1) (dropK kv' (Sum.inl n'))) := rfl
        have s2 : later (l + 1) n' kv' = (match valV kv' (Sum.inl n') with | none => (n', kv') | some v => later l (n' + 1) (dropK kv' (Sum.inl n'))) := rfl
        walk_at "ss"
        cases hv : valV kv' (Sum.inl n') with
        | none =>
          refine iteF ?_
          walk_at "ss"
          rw [hv] at s1 s2
          refine ⟨n', kv', acc, _, rfl, ?_, ?_, by omega, hs⟩
          · rw [← e1, s1, hl5]
            cases l with
            | zero => rfl
            | succ l =>
              show acc ++ (match valV kv' (Sum.inl n') with | none => [] | some v => v :: ready l (n' + 1) (dropK kv' (Sum.inl n'))) = acc ++ []
              rw [hv]
          · rw [← e2, s2, hl5]
            cases l with
            | zero => rfl
            | succ l =>
              show (match valV kv' (Sum.inl n') with | none => (n', kv') | some v => later l (n' + 1) (dropK kv' (Sum.inl n'))) = (n', kv')
              rw [hv]
        | some v =>
          refine iteT ?_
          walk_at "ss"
          refine w_dpopB hs (by walk_at "p") hv fun H5 hs5 => ?_
          clear hs
          walk_at "ss"
          rename_i H6 hs6
          rw [hv] at s1 s2
          refine ⟨n' + 1, _, acc ++ [v], _, rfl, ?_, ?_, ?_, hs6⟩
          · rw [← e1, s1, hl5, List.append_assoc]
            rfl
          · rw [← e2, s2, hl5]
          · rw [List.length_append, List.length_singleton]
            omega
      · clear hs3
        rintro σ H4 ⟨n', kv', acc, v6, rfl, e1, e2, hal, hs⟩
        have e1' : acc = ready 4 n (keep1 n num (.str (tn i)) kv) := by
          rw [← e1]
          exact (List.append_nil acc).symm
        have e2' : (n', kv') = later 4 n (keep1 n num (.str (tn i)) kv) := e2
        walk_at "ss"
        have hs1 : Hs _ [_, _, _, _, _, _, _] _ := hs.sel [3, 4, 0, 1, 2, 5, 6]
        refine w_take hs1 (by omega) fun r H5 hs5 => ?_
        clear hs hs1
        rw [ready4 hok1, later4 hok1, ← e2', ← e1'] at hs5
        obtain ⟨ts, t1, t2⟩ := ready_str 4 n (n + 4) _ hok1
        rw [← e1'] at t1
        rw [t1] at hs5
        walk_at "ss"
        refine w_eqS hs5.g0 hs5.g3 t2 ?_
        walk_at "ss"
        rw [decide_eq_true (rfl : n' = n')]
        obtain ⟨l1, l2, l3⟩ := later_ok 4 n (n + 4) _ hok1
        rw [← e2'] at l1 l2 l3
        have hs7 : Hs _ [_, _, _, _, _, _] _ := hs5.sel [4, 5, 1, 2, 6, 7]
        exact k m n' cells kv' _ hs7 g (l1.mono (by simp only at l2; omega)) (by simp only at l3; omega)
end
section
variable {P : Program} [IsP P] {w : World} {K : PySem.W.Frag} {mg : Str → Option Value} {base : Heap} {a : Ad}
section
variable {B H : Hp} {Q : VK} {E : XK} {x dx : Addr} {t wt n : Int} {d : Option Int} {R : List (Addr × HO)}
theorem w_start (hs : Hs B ((x, bea a dx t wt d) :: R) H) (q : ∀ H', Hs B ((x, bea a dx 0 2 (some (n + 2))) :: R) H' → Q .non H') : sp_Beat_start a [.ref x, .int n] H Q E := by
  obtain ⟨B', _, h1, back⟩ := hs.frame1
  exact ⟨B', x, dx, t, wt, n, d, rfl, h1, fun H' h2 => q H' (back _ _ h2)⟩
theorem w_stop (hs : Hs B ((x, bea a dx t wt d) :: R) H) (q : ∀ H', Hs B ((x, bea a dx t wt none) :: R) H' → Q .non H') : sp_Beat_stop a [.ref x] H Q E := by
  obtain ⟨B', _, h1, back⟩ := hs.frame1
  exact ⟨B', x, dx, t, wt, d, rfl, h1, fun H' h2 => q H' (back _ _ h2)⟩
theorem w_hurry (hs : Hs B ((x, bea a dx t wt d) :: R) H) (q : ∀ H', Hs B ((x, bea a dx t wt (some n)) :: R) H' → Q .non H') : sp_Beat_hurry a [.ref x, .int n] H Q E := by
  obtain ⟨B', _, h1, back⟩ := hs.frame1
  exact ⟨B', x, dx, t, wt, n, d, rfl, h1, fun H' h2 => q H' (back _ _ h2)⟩
theorem w_runs (hs : Hs B ((x, bea a dx t wt d) :: R) H) (q : ∀ H', Hs B ((x, bea a dx t wt d) :: R) H' → Q (.bl d.isSome) H') : sp_Beat_runs a [.ref x] H Q E := by
  obtain ⟨B', _, h1, back⟩ := hs.frame1
  exact ⟨B', x, dx, t, wt, d, rfl, h1, fun H' h2 => q H' (back _ _ h2)⟩
theorem w_due (hs : Hs B ((x, bea a dx t wt d) :: R) H) (h0 : 0 ≤ wt) (h1 : wt ≤ 1000)
    (q : ∀ H', Hs B ((x, if isDue d n then bea a dx (t + 1) (min (wt * 2) 16) (some (n + min (wt * 2) 16)) else bea a dx t wt d) :: R) H' → Q (.bl (isDue d n)) H') : sp_Beat_due a [.ref x, .int n] H Q E := by
  obtain ⟨B', _, h1', back⟩ := hs.frame1
  exact ⟨B', x, dx, t, wt, n, d, rfl, h1', h0, h1, fun H' h2 => q H' (back _ _ h2)⟩
end
def sp__law_beat (a : Ad) : Sp := fun vs H Q _ => ∃ (B : Hp) (st c x dx mm : Addr) (m t wt now : Int) (d : Option Int) (cells : List Int), vs = [.ref st, .ref x, .ref mm, .int now] ∧
  Hs B [(st, sto c m), (c, clo cells), (x, bea a dx t wt d), (mm, .lst [tk d, .int wt, .int t])] H ∧ Good m cells ∧ 0 ≤ wt ∧ wt ≤ 16 ∧
  ∀ m' t' wt' d' cells' H', Hs B [(st, sto c m'), (c, clo cells'), (x, bea a dx t' wt' d'), (mm, .lst [tk d', .int wt', .int t'])] H' → Good m' cells' → 0 ≤ wt' → wt' ≤ 16 → Q (.bl true) H'
theorem ok__law_beat (T : Txt K mg a) : FnOk P w K mg base CX0 2 a._law_beat a.fd__law_beat ["state", "beat", "m", "now"] (sp__law_beat a) := by
  have G__law_draw := ok__law_draw (P := P) (w := w) (base := base) T
  have G_Beat_start := ok_Beat_start (P := P) (w := w) (base := base) T
  have G_Beat_stop := ok_Beat_stop (P := P) (w := w) (base := base) T
  have G_Beat_hurry := ok_Beat_hurry (P := P) (w := w) (base := base) T
  have G_Beat_runs := ok_Beat_runs (P := P) (w := w) (base := base) T
  have G_Beat_due := ok_Beat_due (P := P) (w := w) (base := base) T
  refine T.fn__law_beat.ok sc__law_beat (fun vs H Q E h => ?_) (fun cdv A outer s H vs Q E hr h => ?_)
  · obtain ⟨_, _, _, _, _, _, _, _, _, _, _, _, rfl, _⟩ := h
    rfl
  · obtain ⟨B, st, c, x, dx, mm, m, t, wt, now, d, cells, rfl, hs, g, hw0, hw1, k⟩ := h
    have c1 := T.cl_Beat
    have n1 := T.na_Beat_tries
    refine ⟨_, (pss_cons (ps_set (i := 4) sc__law_beat.nd rfl (Or.inl rfl) (pe_call G__law_draw (hr.mono (by decide)) rfl T.mg__law_draw T.kp__law_draw T.bi__law_draw .nil pass0 (pa_cons (pv 0) (pa_cons pe_int pa_nil))))
  (C8.pss_cut (ps_if (pt_cmpR op_eq (pv 4) pe_int (nomark _))
  (pss_cons (ps_expr (pe_meth (pv 1) T.cl_Beat T.me_Beat_start G_Beat_start (hr.mono (by decide)) T.bi_Beat_start .nil pass0 (pa_cons (pv 3) pa_nil)))
  (pss_one (ps_asg (pe_tup (pa_cons (pe_op op_add (pv 3) pe_int) (pa_cons pe_int (pa_cons pe_int pa_nil)))) (pg_tupK (K := K) rfl (pgs_cons (pg_sub (pv 2) pe_int set_list) (pgs_cons (pg_sub (pv 2) pe_int set_list) (pgs_cons (pg_sub (pv 2) pe_int set_list) pgs_nil)))))))
  (pss_one (ps_if (pt_cmpR op_eq (pv 4) pe_int (nomark _))
  (pss_cons (ps_expr (pe_meth0 (pv 1) T.cl_Beat T.me_Beat_stop G_Beat_stop (hr.mono (by decide)) T.bi_Beat_stop .nil pass0))
  (pss_one (ps_asg pe_non (pg_sub (pv 2) pe_int set_list))))
  (pss_one (ps_if (pt_cmpR op_eq (pv 4) pe_int (nomark _))
  (pss_cons (ps_expr (pe_meth (pv 1) T.cl_Beat T.me_Beat_hurry G_Beat_hurry (hr.mono (by decide)) T.bi_Beat_hurry .nil pass0 (pa_cons (pv 3) pa_nil)))
  (pss_one (ps_asg (pv 3) (pg_sub (pv 2) pe_int set_list))))
  (pss_cons (ps_set (i := 5) sc__law_beat.nd rfl (Or.inl rfl) (pe_and (pe_cmpR op_notNQ (pe_ix (ix_listK (K := K)) (pv 2) pe_int (fun _ _ => rfl)) pe_non (nomark _)) (pe_one (pe_cmpR op_ge (pv 3) (pe_ix (ix_listK (K := K)) (pv 2) pe_int (fun _ _ => rfl)) (nomark _)))))
  (pss_cons (ps_set (i := 6) sc__law_beat.nd rfl (Or.inl rfl) (pe_meth (pv 1) T.cl_Beat T.me_Beat_due G_Beat_due (hr.mono (by decide)) T.bi_Beat_due .nil pass0 (pa_cons (pv 3) pa_nil)))
  (C8.pss_cut (ps_if (pt_val (pv 5))
  (pss_cons (ps_asg (pe_callB (call_minQ rfl) (by rfl) T.mg_min (by decide +kernel) (pa_cons pe_int (pa_cons (pe_op op_mul pe_int (pe_ix (ix_listK (K := K)) (pv 2) pe_int (fun _ _ => rfl))) pa_nil))) (pg_sub (pv 2) pe_int set_list))
  (pss_cons (ps_asg (pe_op op_add (pv 3) (pe_ix (ix_listK (K := K)) (pv 2) pe_int (fun _ _ => rfl))) (pg_sub (pv 2) pe_int set_list))
  (pss_one (ps_asg (pe_op op_add (pe_ix (ix_listK (K := K)) (pv 2) pe_int (fun _ _ => rfl)) pe_int) (pg_sub (pv 2) pe_int set_list)))))
  pss_nil)
  (pss_one (ps_if (PW.pt (pw_or (pt_not (pt_val (pe_callB (call_isiK (K := K)) (by rfl) T.mg_isinstance (by decide +kernel) (pa_cons (pv 6) (pa_cons (pe_bltn (v := .ty "bool") (by rfl) T.mg_bool (by decide +kernel) rfl) pa_nil))))) (pw_or1 (pt_cmpR op_ne (pv 6) (pv 5) (nomark _)))))
  (pss_one (ps_ret pe_bl))
  pss_nil))))))))))
  (pss_one (ps_ret (pe_and (pe_cmpR op_eq (pe_meth0 (pv 1) T.cl_Beat T.me_Beat_runs G_Beat_runs (hr.mono (by decide)) T.bi_Beat_runs .nil pass0) (pe_cmpR op_notNQ (pe_ix (ix_listK (K := K)) (pv 2) pe_int (fun _ _ => rfl)) pe_non (nomark _)) (nomark _)) (pe_one (pe_cmpR op_eq (pe_fldK (K := K) (pv 1)) (pe_ix (ix_listK (K := K)) (pv 2) pe_int (fun _ _ => rfl)) (nomark _)))))))), ?_⟩
    walk_at "ss"
    refine w_draw hs g (by omega) fun kind m cells H1 hs g _ hd => ?_
    walk_at "ss"
    refine w_cut (fun σ' H' => ∃ (t' wt' : Int) (d' : Option Int) (v5 v6 : Option V), σ' = [some (.ref st), some (.ref x), some (.ref mm), some (.int now), some (.int kind), v5, v6] ∧ 0 ≤ wt' ∧ wt' ≤ 16 ∧ Hs B [(x, bea a dx t' wt' d'), (st, sto c m), (c, clo cells), (mm, .lst [tk d', .int wt', .int t'])] H') ?_ ?_
    · walk_at "ss"
      refine ifd (fun h0 => ?_) (fun h0 => ?_)
      · walk_at "ss"
        refine w_start hs.m2 fun H2 hs2 => ?_
        clear hs
        walk_at "ss"
        rename_i H9 hs9
        exact ⟨0, 2, some (now + 2), _, _, rfl, by decide, by decide, hs9.sel [1, 2, 3, 4]⟩
      · walk_at "ss"
        refine ifd (fun h1 => ?_) (fun h1 => ?_)
        · walk_at "ss"
          refine w_stop hs.m2 fun H2 hs2 => ?_
          clear hs
          walk_at "ss"
          rename_i H9 hs9
          exact ⟨t, wt, none, _, _, rfl, hw0, hw1, hs9⟩
        · walk_at "ss"
          refine ifd (fun h2 => ?_) (fun h2 => ?_)
          · walk_at "ss"
            refine w_hurry hs.m2 fun H2 hs2 => ?_
            clear hs
            walk_at "ss"
            rename_i H9 hs9
            exact ⟨t, wt, some now, _, _, rfl, hw0, hw1, hs9⟩
          · walk_at "ss"
            have bd : ∀ (due : Bool), isDue d now = due → ∀ H5, Hs B [(x, if isDue d now then bea a dx (t + 1) (min (wt * 2) 16) (some (now + min (wt * 2) 16)) else bea a dx t wt d), (st, sto c m), (c, clo cells), (mm, .lst [tk d, .int wt, .int t])] H5 →
                (if isDue d now then Hs B [(x, bea a dx (t + 1) (min (wt * 2) 16) (some (now + min (wt * 2) 16))), (st, sto c m), (c, clo cells), (mm, .lst [tk d, .int wt, .int t])] H5 else Hs B [(x, bea a dx t wt d), (st, sto c m), (c, clo cells), (mm, .lst [tk d, .int wt, .int t])] H5) := by
              intro due e H5 h5
              cases q : isDue d now with
              | true =>
                rw [q, if_pos rfl] at h5
                exact iteT h5
              | false =>
                rw [q, if_neg Bool.false_ne_true] at h5
                exact iteF h5
            cases d with
            | none =>
              refine iteF ?_
              walk_at "ss"
              refine w_due hs.m2 hw0 (by omega) fun H2 hs2 => ?_
              clear hs
              replace hs2 := bd _ rfl _ hs2
              rw [show isDue none now = false from rfl, if_neg Bool.false_ne_true] at hs2
              walk_at "ss"
              refine w_cut (fun σ' H' => σ' = [some (.ref st), some (.ref x), some (.ref mm), some (.int now), some (.int kind), some (.bl false), some (.bl false)] ∧ Hs B [(x, bea a dx t wt none), (st, sto c m), (c, clo cells), (mm, .lst [.non, .int wt, .int t])] H') ?_ ?_
              · walk_at "ss"
                exact ⟨rfl, hs2⟩
              · rintro σ' H' ⟨rfl, hs⟩
                walk_at "ss"
                refine iteF ?_
                walk_at "ss"
                refine ifn (fun q => absurd rfl q) (fun _ => ?_)
                walk_at "ss"
                exact ⟨t, wt, none, _, _, rfl, hw0, hw1, hs⟩
            | some j =>
              refine iteT ?_
              walk_at "ss"
              refine w_I0 (a := now) (b := j) ?_
              walk_at "ss"
              refine w_due hs.m2 hw0 (by omega) fun H2 hs2 => ?_
              clear hs
              replace hs2 := bd _ rfl _ hs2
              have eq : isDue (some j) now = decide (j ≤ now) := rfl
              by_cases hj : j ≤ now
              · rw [eq, decide_eq_true hj, if_pos rfl] at hs2
                walk_at "ss"
                rw [decide_eq_true hj]
                refine w_cut (fun σ' H' => σ' = [some (.ref st), some (.ref x), some (.ref mm), some (.int now), some (.int kind), some (.bl true), some (.bl true)] ∧ Hs B [(x, bea a dx (t + 1) (min (wt * 2) 16) (some (now + min (wt * 2) 16))), (st, sto c m), (c, clo cells), (mm, .lst [.int (now + min (wt * 2) 16), .int (min (wt * 2) 16), .int (t + 1)])] H') ?_ ?_
                · walk_at "ss"
                  rename_i H8 hs8
                  have em : (if 2 * wt < 16 then 2 * wt else 16) = min (wt * 2) 16 := by omega
                  rw [em] at hs8
                  exact ⟨by rw [eq, decide_eq_true hj]; rfl, hs8⟩
                · rintro σ' H' ⟨rfl, hs⟩
                  walk_at "ss"
                  refine iteF ?_
                  walk_at "ss"
                  refine ifn (fun q => absurd rfl q) (fun _ => ?_)
                  walk_at "ss"
                  exact ⟨t + 1, _, some _, _, _, rfl, by omega, by omega, hs⟩
              · rw [eq, decide_eq_false hj, if_neg Bool.false_ne_true] at hs2
                walk_at "ss"
                rw [decide_eq_false hj]
                refine w_cut (fun σ' H' => σ' = [some (.ref st), some (.ref x), some (.ref mm), some (.int now), some (.int kind), some (.bl false), some (.bl false)] ∧ Hs B [(x, bea a dx t wt (some j)), (st, sto c m), (c, clo cells), (mm, .lst [.int j, .int wt, .int t])] H') ?_ ?_
                · walk_at "ss"
                  exact ⟨by rw [eq, decide_eq_false hj]; rfl, hs2⟩
                · rintro σ' H' ⟨rfl, hs⟩
                  walk_at "ss"
                  refine iteF ?_
                  walk_at "ss"
                  refine ifn (fun q => absurd rfl q) (fun _ => ?_)
                  walk_at "ss"
                  exact ⟨t, wt, some j, _, _, rfl, hw0, hw1, hs⟩
    · rintro σ' H' ⟨t', wt', d', v5, v6, rfl, h0, h1, hs⟩
      walk_at "ss"
      refine w_runs hs fun H2 hs2 => ?_
      clear hs
      walk_at "ss"
      have e : d'.isSome = !decide (tk d' = V.non) := by
        cases d' <;> rfl
      rw [decide_eq_true e]
      walk_at "ss"
      rw [decide_eq_true (rfl : t' = t')]
      have hs7 : Hs _ [_, _, _, _] _ := hs2.sel [1, 2, 0, 3]
      exact k m t' wt' d' cells _ hs7 g h0 h1
end
section
variable {P : Program} [IsP P] {w : World} {K : PySem.W.Frag} {mg : Str → Option Value} {base : Heap} {a : Ad}
def sp__law_full : Sp := fun vs H Q _ => vs = [] ∧ ∀ H', Same H H' → Q (.bl true) H'
theorem ok__law_full (T : Txt K mg a) : FnOk P w K mg base CX0 4 a._law_full a.fd__law_full [] sp__law_full := by
  have G_Sender_init := ok_Sender_init (P := P) (w := w) (base := base) T
  have G_Sender_put := ok_Sender_put (P := P) (w := w) (base := base) T
  refine T.fn__law_full.ok sc__law_full (fun vs H Q E h => ?_) (fun cdv A outer s H vs Q E hr h => ?_)
  · obtain ⟨rfl, _⟩ := h
    rfl
  · obtain ⟨rfl, k⟩ := h
    have c1 := T.cl_Sender
    have n2 := T.na_Sender_rows
    refine ⟨_, (pss_cons (ps_set (i := 0) sc__law_full.nd rfl (Or.inl rfl) (pe_make0 T.mk_Sender G_Sender_init (hr.mono (by decide)) rfl T.mg_Sender T.bi_Sender_init .nil pass0))
  (pss_cons (ps_for PassesOwn.never rfl (pi_range1 rfl T.mg_range (pa_cons pe_int pa_nil)) (pg_name (i := 1) sc__law_full.nd rfl (Or.inl rfl))
  (pss_one (ps_expr (pe_meth (pv 0) T.cl_Sender T.me_Sender_put G_Sender_put (hr.mono (by decide)) T.bi_Sender_put .nil passL (pa_cons pe_str pa_nil)))))
  (pss_cons (ps_try_as (i := 2) rfl rfl sc__law_full.nd rfl rfl ⟨rfl, by decide, .inl T.mg_RoomError⟩ takes0 (fun W pn xe tk _ => by exact (pss_one (ps_expr (pe_methQ (pv 0) T.cl_Sender T.me_Sender_put G_Sender_put (hr.mono (by decide)) T.bi_Sender_put (fun σ => passAt tk σ) (pa_cons pe_str pa_nil))))) (fun a1 oe cls dd pn hz hf => by exact (pss_one (ps_ret (pe_and (pe_callB (call_isX hz hf) (by rfl) T.mg_isinstance (by decide +kernel) (pa_cons (pv 2) (pa_cons (pe_glob (v := .ref a.BridgeError) rfl T.mg_BridgeError rfl) pa_nil))) (pe_and (pe_cmpR op_eq (pe_xf T.xf_RoomError T.no_RoomError_place hz hf (pv 2)) pe_str (nomark _)) (pe_one (pe_cmpR op_eq (pe_callB (call_lenK (K := K)) (by rfl) T.mg_len PySem.boot_len (pa_cons (pe_fldK (K := K) (pv 0)) pa_nil)) pe_int (nomark _)))))))))
  (pss_one (ps_ret pe_bl))))), ?_⟩
    have hs := Hs.start H
    walk_at "ss"
    refine w_mkr hs fun x dx H2 hs2 => ?_
    obtain ⟨B', _, h1, back⟩ := hs2.frame1
    refine ⟨B', x, dx, rfl, h1, fun r H3 h3 => ⟨rfl, ?_⟩⟩
    have hs3 : Hs _ [_, _] _ := (back _ _ h3).m1
    clear hs hs2 h1 back h3
    walk_at "ss"
    refine w_forR (by decide) (fun i σ H4 => ∃ (rows : List Str) (v1 : Option V), σ = [some (.ref x), v1, none] ∧ rows.length = i ∧ Hs H [(x, snd a dx r 0 0), (r, lst rows)] H4) (fun Q q => q) (by decide) ⟨[], none, rfl, rfl, hs3⟩ ?_ ?_
    · rintro i σ H4 hi ⟨rows, v1, rfl, hl, hs⟩
      walk_at "ss"
      refine w_put hs (by omega) fun H5 hs5 => ?_
      walk_at "ss"
      exact ⟨rows ++ [("x" : Str)], _, rfl, by rw [List.length_append, hl]; rfl, hs5⟩
    · rintro σ H4 ⟨rows, v1, rfl, hl, hs⟩
      have hl3 : rows.length = 300 := hl
      clear hs3
      walk_at "ss"
      obtain ⟨B2, _, h2, back2⟩ := hs.frame2
      refine ⟨B2, x, dx, r, 0, 0, rows, ("y" : Str), rfl, h2, by omega, fun q => absurd q (by omega), fun _ d H5 h5 => ?_⟩
      have hs5 := back2 _ _ h5
      clear hs h2 back2 h5
      refine w_was T.te_RoomError fun e he => ?_
      walk_at "ss"
      refine w_isX hs5.g0 T.xc_RoomError T.is_RoomError_BridgeError ?_
      walk_at "ss"
      rw [decide_eq_true (rfl : ("queue" : Str) = "queue")]
      walk_at "ss"
      rw [List.length_map, hl3]
      exact k _ hs5.same
section
variable {B H : Hp} {Q : VK} {E : XK} {R : List (Addr × HO)}
theorem w_lsender {st c x dx r mm mr : Addr} {m f s : Int} {cells : List Int} {rows : List Str} (hs : Hs B ((st, sto c m) :: (c, clo cells) :: (x, snd a dx r f s) :: (r, lst rows) :: (mm, .lst [.int f, .ref mr, .int s]) :: (mr, lst rows) :: R) H)
    (g : Good m cells) (h0 : 0 ≤ s) (h1 : s ≤ 4) (h2 : s ≤ rows.length) (h3 : rows.length ≤ 100) (h4 : ∀ t ∈ rows, PyData.strOk t = true)
    (q : ∀ m' f' s' cells' rows' r' mr' H', Hs B ((st, sto c m') :: (c, clo cells') :: (x, snd a dx r' f' s') :: (r', lst rows') :: (mm, .lst [.int f', .ref mr', .int s']) :: (mr', lst rows') :: R) H' → Good m' cells' → 0 ≤ s' → s' ≤ 4 → s' ≤ rows'.length → rows'.length ≤ rows.length + 1 →
      (∀ t ∈ rows', PyData.strOk t = true) → Q (.bl true) H') : sp__law_sender a [.ref st, .ref x, .ref mm] H Q E := by
  obtain ⟨B', _, h, back⟩ := hs.frame6
  exact ⟨B', st, c, x, dx, r, mm, mr, m, f, s, cells, rows, rfl, h, g, h0, h1, h2, h3, h4, fun m' f' s' cells' rows' r' mr' H' h' => q m' f' s' cells' rows' r' mr' H' (back _ _ h')⟩
theorem w_linbox {st c x dx e mm md : Addr} {m n : Int} {cells : List Int} {kv : Kv} (hs : Hs B ((st, sto c m) :: (c, clo cells) :: (x, inb a dx e n) :: (e, .dK kv) :: (mm, .lst [.int n, .ref md]) :: (md, .dK kv) :: R) H)
    (g : Good m cells) (h0 : KvOk (n + 4) kv) (h1 : kv.length ≤ 200)
    (q : ∀ m' n' cells' kv' H', Hs B ((st, sto c m') :: (c, clo cells') :: (x, inb a dx e n') :: (e, .dK kv') :: (mm, .lst [.int n', .ref md]) :: (md, .dK kv') :: R) H' → Good m' cells' → KvOk (n' + 4) kv' → kv'.length ≤ kv.length + 1 → Q (.bl true) H') : sp__law_inbox a [.ref st, .ref x, .ref mm] H Q E := by
  obtain ⟨B', _, h, back⟩ := hs.frame6
  exact ⟨B', st, c, x, dx, e, mm, md, m, n, cells, kv, rfl, h, g, h0, h1, fun m' n' cells' kv' H' h' => q m' n' cells' kv' H' (back _ _ h')⟩
theorem w_lbeat {st c x dx mm : Addr} {m t wt now : Int} {d : Option Int} {cells : List Int} (hs : Hs B ((st, sto c m) :: (c, clo cells) :: (x, bea a dx t wt d) :: (mm, .lst [tk d, .int wt, .int t]) :: R) H) (g : Good m cells) (h0 : 0 ≤ wt) (h1 : wt ≤ 16)
    (q : ∀ m' t' wt' d' cells' H', Hs B ((st, sto c m') :: (c, clo cells') :: (x, bea a dx t' wt' d') :: (mm, .lst [tk d', .int wt', .int t']) :: R) H' → Good m' cells' → 0 ≤ wt' → wt' ≤ 16 → Q (.bl true) H') : sp__law_beat a [.ref st, .ref x, .ref mm, .int now] H Q E := by
  obtain ⟨B', _, h, back⟩ := hs.frame4
  exact ⟨B', st, c, x, dx, mm, m, t, wt, now, d, cells, rfl, h, g, h0, h1, fun m' t' wt' d' cells' H' h' => q m' t' wt' d' cells' H' (back _ _ h')⟩
theorem w_minit {C : Addr} {sp : Sp} (hs : Hs B R H) {o1 : Addr → Addr → HO} (q : ∀ x dx H', Hs B ((x, .ins C dx []) :: R) H' → sp [.ref x] H' (fun v H2 => v = .non ∧ Q (.ref x) H2) E) : Mkr C sp [] E Q H := w_mkr hs q
end
def sp_law (K : PySem.W.Frag) : Sp := fun vs H Q _ => ∃ (x : Addr) (ns : List Int), vs = [.ref x] ∧ SqL K H x (ns.map V.int) ∧ ns.length ≤ 63 ∧ ∀ H', Q (.bl true) H'
/-- the addresses of the law -/
structure Ad5 where
  (st c x1 d1 x2 d2 e x3 d3 mo m1 m2 md m3 : Addr)
/-- what stands between two turns -/
def Inv5 (a : Ad) (B : Hp) (z : Ad5) (i : Nat) (H : Hp) : Prop := ∃ (m f s n t wt : Int) (d : Option Int) (cells : List Int) (rows : List Str) (kv : Kv) (r mr : Addr),
  Hs B [(z.st, sto z.c m), (z.c, clo cells), (z.x1, snd a z.d1 r f s), (r, lst rows), (z.m1, .lst [.int f, .ref mr, .int s]), (mr, lst rows), (z.x2, inb a z.d2 z.e n), (z.e, .dK kv), (z.m2, .lst [.int n, .ref z.md]), (z.md, .dK kv), (z.x3, bea a z.d3 t wt d), (z.m3, .lst [tk d, .int wt, .int t]), (z.mo, .lst [.ref z.m1, .ref z.m2, .ref z.m3])] H ∧
  Good m cells ∧ 0 ≤ s ∧ s ≤ 4 ∧ s ≤ rows.length ∧ rows.length ≤ i ∧ (∀ t ∈ rows, PyData.strOk t = true) ∧ KvOk (n + 4) kv ∧ kv.length ≤ i ∧ 0 ≤ wt ∧ wt ≤ 16
theorem ok_law (T : Txt K mg a) : FnOk P w K mg base CX0 5 a.law a.fd_law ["script"] (sp_law K) := by
  have G__law_state := ok__law_state (P := P) (w := w) (base := base) T
  have G__law_draw := ok__law_draw (P := P) (w := w) (base := base) T
  have G_Sender_init := ok_Sender_init (P := P) (w := w) (base := base) T
  have G_Inbox_init := ok_Inbox_init (P := P) (w := w) (base := base) T
  have G_Beat_init := ok_Beat_init (P := P) (w := w) (base := base) T
  have G__law_sender := ok__law_sender (P := P) (w := w) (base := base) T
  have G__law_inbox := ok__law_inbox (P := P) (w := w) (base := base) T
  have G__law_beat := ok__law_beat (P := P) (w := w) (base := base) T
  have G__law_full := ok__law_full (P := P) (w := w) (base := base) T
  refine T.fn_law.ok sc_law (fun vs H Q E h => ?_) (fun cdv A outer s H vs Q E hr h => ?_)
  · obtain ⟨_, _, rfl, _⟩ := h
    rfl
  · obtain ⟨x, ns, rfl, hx, hl, k⟩ := h
    have c1 := T.cl_Sender
    have n1 := T.na_Sender_first
    have n2 := T.na_Sender_rows
    have n3 := T.na_Sender_said
    refine ⟨_, (pss_cons (ps_set (i := 1) sc_law.nd rfl (Or.inl rfl) (pe_call G__law_state (hr.mono (by decide)) rfl T.mg__law_state T.kp__law_state T.bi__law_state .nil pass0 (pa_cons (pv 0) pa_nil)))
  (pss_cons (ps_par3 (i := 2) (j := 3) (l := 4) rfl sc_law.nd rfl rfl rfl (by decide) (by decide) (by decide) rfl rfl rfl (pa_cons (pe_make0 T.mk_Sender G_Sender_init (hr.mono (by decide)) rfl T.mg_Sender T.bi_Sender_init .nil pass0) (pa_cons (pe_make0 T.mk_Inbox G_Inbox_init (hr.mono (by decide)) rfl T.mg_Inbox T.bi_Inbox_init .nil pass0) (pa_cons (pe_make0 T.mk_Beat G_Beat_init (hr.mono (by decide)) rfl T.mg_Beat T.bi_Beat_init .nil pass0) pa_nil))) rfl)
  (pss_cons (ps_set (i := 5) sc_law.nd rfl (Or.inl rfl) (pe_lst (pa_cons (pe_lst (pa_cons pe_int (pa_cons (pe_lst pa_nil) (pa_cons pe_int pa_nil)))) (pa_cons (pe_lst (pa_cons pe_int (pa_cons pe_dnewK pa_nil))) (pa_cons (pe_lst (pa_cons pe_non (pa_cons pe_int (pa_cons pe_int pa_nil)))) pa_nil)))))
  (pss_cons (ps_set (i := 6) sc_law.nd rfl (Or.inl rfl) pe_int)
  (pss_cons (ps_for PassesOwn.never rfl (pi_range1 rfl T.mg_range (pa_cons (pe_call G__law_draw (hr.mono (by decide)) rfl T.mg__law_draw T.kp__law_draw T.bi__law_draw .nil pass0 (pa_cons (pv 1) (pa_cons pe_int pa_nil))) pa_nil)) (pg_name (i := 7) sc_law.nd rfl (Or.inl rfl))
  (pss_cons (ps_set (i := 8) sc_law.nd rfl (Or.inl rfl) (pe_call G__law_draw (hr.mono (by decide)) rfl T.mg__law_draw T.kp__law_draw T.bi__law_draw .nil pass0 (pa_cons (pv 1) (pa_cons pe_int pa_nil))))
  (C8.pss_cut (ps_if (pt_cmpR op_eq (pv 8) pe_int (nomark _))
  (pss_one (ps_if (pt_not (pt_val (pe_call G__law_sender (hr.mono (by decide)) rfl T.mg__law_sender T.kp__law_sender T.bi__law_sender .nil pass0 (pa_cons (pv 1) (pa_cons (pv 2) (pa_cons (pe_ix (ix_listK (K := K)) (pv 5) pe_int (fun _ _ => rfl)) pa_nil))))))
  (pss_one (ps_ret pe_bl))
  pss_nil))
  (pss_one (ps_if (pt_cmpR op_eq (pv 8) pe_int (nomark _))
  (pss_one (ps_if (pt_not (pt_val (pe_call G__law_inbox (hr.mono (by decide)) rfl T.mg__law_inbox T.kp__law_inbox T.bi__law_inbox .nil pass0 (pa_cons (pv 1) (pa_cons (pv 3) (pa_cons (pe_ix (ix_listK (K := K)) (pv 5) pe_int (fun _ _ => rfl)) pa_nil))))))
  (pss_one (ps_ret pe_bl))
  pss_nil))
  (pss_cons (ps_set (i := 6) sc_law.nd rfl (Or.inl rfl) (pe_op op_add (pv 6) (pe_call G__law_draw (hr.mono (by decide)) rfl T.mg__law_draw T.kp__law_draw T.bi__law_draw .nil pass0 (pa_cons (pv 1) (pa_cons pe_int pa_nil)))))
  (pss_one (ps_if (pt_not (pt_val (pe_call G__law_beat (hr.mono (by decide)) rfl T.mg__law_beat T.kp__law_beat T.bi__law_beat .nil pass0 (pa_cons (pv 1) (pa_cons (pv 4) (pa_cons (pe_ix (ix_listK (K := K)) (pv 5) pe_int (fun _ _ => rfl)) (pa_cons (pv 6) pa_nil)))))))
  (pss_one (ps_ret pe_bl))
  pss_nil))))))
  (pss_one (ps_if (PW.pt (pw_or (pt_cmpR op_ne (pe_fldK (K := K) (pv 2)) (pe_ix (ix_listK (K := K)) (pe_ix (ix_listK (K := K)) (pv 5) pe_int (fun _ _ => rfl)) pe_int (fun _ _ => rfl)) (nomark _)) (pw_or (pt_cmpR (op_neDK (K := K) hr.units) (pe_fldK (K := K) (pv 2)) (pe_ix (ix_listK (K := K)) (pe_ix (ix_listK (K := K)) (pv 5) pe_int (fun _ _ => rfl)) pe_int (fun _ _ => rfl)) (nomark _)) (pw_or1 (pt_cmpR op_ne (pe_fldK (K := K) (pv 2)) (pe_ix (ix_listK (K := K)) (pe_ix (ix_listK (K := K)) (pv 5) pe_int (fun _ _ => rfl)) pe_int (fun _ _ => rfl)) (nomark _))))))
  (pss_one (ps_ret pe_bl))
  pss_nil)))))
  (pss_one (ps_ret (pe_or (pe_cmpR op_gt (pe_call G__law_draw (hr.mono (by decide)) rfl T.mg__law_draw T.kp__law_draw T.bi__law_draw .nil pass0 (pa_cons (pv 1) (pa_cons pe_int pa_nil))) pe_int (nomark _)) (pe_one (pe_call0 G__law_full (hr.mono (by decide)) rfl T.mg__law_full T.kp__law_full T.bi__law_full .nil pass0)))))))))), ?_⟩
    walk_at "ss"
    refine ⟨x, ns, rfl, hx, by omega, fun st c m cells H1 hs g => ?_⟩
    walk_at "ss"
    refine w_mkr hs fun x1 d1 H2 hs2 => ?_
    clear hs
    obtain ⟨B', _, h1, back⟩ := hs2.frame1
    refine ⟨B', x1, d1, rfl, h1, fun r H3 h3 => ⟨rfl, ?_⟩⟩
    have hs3 := back _ _ h3
    clear hs2 h1 back h3
    walk_at "ss"
    refine w_mkr hs3 fun x2 d2 H2 hs2 => ?_
    clear hs3
    obtain ⟨B', _, h1, back⟩ := hs2.frame1
    refine ⟨B', x2, d2, rfl, h1, fun e H3 h3 => ⟨rfl, ?_⟩⟩
    have hs3 := back _ _ h3
    clear hs2 h1 back h3
    walk_at "ss"
    refine w_mkr hs3 fun x3 d3 H2 hs2 => ?_
    clear hs3
    obtain ⟨B', _, h1, back⟩ := hs2.frame1
    refine ⟨B', x3, d3, rfl, h1, fun H3 h3 => ⟨rfl, ?_⟩⟩
    have hs3 := back _ _ h3
    clear hs2 h1 back h3
    walk_at "ss"
    rename_i mr _ _ m1 _ _ md _ _ m2 _ _ m3 _ _ mo H9 hs9
    refine w_for1 ?_
    walk_at "ss"
    have hs : Hs _ [_, _, _, _, _, _, _, _, _, _, _, _, _] _ := hs9.sel [11, 12, 10, 9, 4, 5, 8, 7, 2, 3, 6, 1, 0]
    clear hs9
    refine w_draw hs g (by omega) fun many m cells H10 hs g _ hmany => ?_
    obtain ⟨hm0, hm1⟩ := hmany (by decide)
    walk_at "ss"
    refine w_forR (n := many) (by omega) (fun i σ H => ∃ (now : Int) (v7 v8 : Option V), σ = [some (.ref x), some (.ref st), some (.ref x1), some (.ref x2), some (.ref x3), some (.ref mo), some (.int now), v7, v8] ∧ Inv5 a _ ⟨st, c, x1, d1, x2, d2, e, x3, d3, mo, m1, m2, md, m3⟩ i H) (fun Q q => q) (by omega)
      ⟨0, none, none, rfl, m, 0, 0, 0, 0, 2, none, cells, [], [], r, mr, hs, g, by decide, by decide, by decide, by decide, (fun _ h => nomatch h), (fun _ h => nomatch h), by decide, by decide, by decide⟩ ?_ ?_
    · clear hs
      rintro i σ H11 hi ⟨now, v7, v8, rfl, m, f, s, n, t, wt, d, cells, rows, kv, r, mr, hs, g, a1, a2, a3, a4, a5, a6, a7, a8, a9⟩
      walk_at "ss"
      refine w_draw hs g (by omega) fun kind m cells H12 hs g _ _ => ?_
      walk_at "ss"
      refine w_cut (fun σ' H' => ∃ (now' : Int), σ' = [some (.ref x), some (.ref st), some (.ref x1), some (.ref x2), some (.ref x3), some (.ref mo), some (.int now'), some (.int i), some (.int kind)] ∧ Inv5 a H ⟨st, c, x1, d1, x2, d2, e, x3, d3, mo, m1, m2, md, m3⟩ (i + 1) H') ?_ ?_
      · walk_at "ss"
        refine ifd (fun h0 => ?_) (fun h0 => ?_)
        · walk_at "ss"
          refine w_lsender hs g a1 a2 a3 (by omega) a5 fun m f s cells rows' r mr H13 hs g b1 b2 b3 b4 b5 => ?_
          walk_at "ss"
          refine iteF ?_
          walk_at "ss"
          exact ⟨now, rfl, m, f, s, n, t, wt, d, cells, rows', kv, r, mr, hs, g, b1, b2, b3, by omega, b5, a6, by omega, a8, a9⟩
        · walk_at "ss"
          refine ifd (fun h1 => ?_) (fun h1 => ?_)
          · walk_at "ss"
            replace hs : Hs _ [_, _, _, _, _, _, _, _, _, _, _, _, _] _ := hs.sel [0, 1, 6, 7, 8, 9, 2, 3, 4, 5, 10, 11, 12]
            refine w_linbox hs g a6 (by omega) fun m n cells kv' H13 hs g b1 b2 => ?_
            walk_at "ss"
            refine iteF ?_
            walk_at "ss"
            exact ⟨now, rfl, m, f, s, n, t, wt, d, cells, rows, kv', r, mr, hs.sel [0, 1, 6, 7, 8, 9, 2, 3, 4, 5, 10, 11, 12], g, a1, a2, a3, by omega, a5, b1, by omega, a8, a9⟩
          · walk_at "ss"
            refine w_draw hs g (by omega) fun d9 m cells H13 hs g _ _ => ?_
            walk_at "ss"
            replace hs : Hs _ [_, _, _, _, _, _, _, _, _, _, _, _, _] _ := hs.sel [0, 1, 10, 11, 2, 3, 4, 5, 6, 7, 8, 9, 12]
            refine w_lbeat hs g a8 a9 fun m t wt d cells H13 hs g b1 b2 => ?_
            walk_at "ss"
            refine iteF ?_
            walk_at "ss"
            exact ⟨now + d9, rfl, m, f, s, n, t, wt, d, cells, rows, kv, r, mr, hs.sel [0, 1, 4, 5, 6, 7, 8, 9, 10, 11, 2, 3, 12], g, a1, a2, a3, by omega, a5, a6, by omega, b1, b2⟩
      · rintro σ' H' ⟨now', rfl, hI⟩
        obtain ⟨m, f, s, n, t, wt, d, cells, rows, kv, r, mr, hs, g, a1, a2, a3, a4, a5, a6, a7, a8, a9⟩ := id hI
        walk_at "ss"
        refine ifn (fun q => absurd rfl q) (fun _ => ?_)
        walk_at "ss"
        refine w_neS (xs := rows) (by walk_at "l") (by walk_at "l") a5 ?_
        walk_at "ss"
        refine ifn (fun q => absurd rfl q) (fun _ => ?_)
        walk_at "ss"
        exact ⟨now', _, _, rfl, hI⟩
    · clear hs
      rintro σ H11 ⟨now, v7, v8, rfl, m, f, s, n, t, wt, d, cells, rows, kv, r, mr, hs, g, a1, a2, a3, a4, a5, a6, a7, a8, a9⟩
      walk_at "ss"
      refine w_draw hs g (by omega) fun d20 m cells H12 hs g _ _ => ?_
      walk_at "ss"
      refine ifd (fun q => ?_) (fun q => ?_)
      · walk_at "ss"
        exact k _
      · walk_at "ss"
        exact ⟨rfl, fun H13 _ => k _⟩
end
theorem all_mk {l : PySem.W.OpenLaw} {w : World} {K : PySem.W.Frag} {h : Heap} {mg : Str → Option Value} {fa : Addr} (hl : l.prog = PySem.Challenge.pw_hangbridge_k05_windows_and_beats) (X : K.In h) (G : h.Ns mainGlobals mg) (hfa : mg "law" = some (.ref fa))
    {A_BridgeError A_RoomError A_Sender A_Inbox A_Beat A_RoomError_init cc_RoomError_init ca_RoomError_init A_Sender_init A_Sender_put A_Sender_numbered A_Sender_fresh A_Sender_again A_Sender_heard A_Inbox_init A_Inbox_take A_Beat_init A_Beat_start A_Beat_stop A_Beat_hurry A_Beat_runs A_Beat_due A__law_state A__law_draw A__law_sender A__law_inbox A__law_beat A__law_full A_law : Addr} {od_RoomError_init an_RoomError_init cod_RoomError_init cod2_RoomError_init od_Sender_init an_Sender_init od_Sender_put an_Sender_put od_Sender_numbered an_Sender_numbered od_Sender_fresh an_Sender_fresh od_Sender_again an_Sender_again od_Sender_heard an_Sender_heard od_Inbox_init an_Inbox_init od_Inbox_take an_Inbox_take od_Beat_init an_Beat_init od_Beat_start an_Beat_start od_Beat_stop an_Beat_stop od_Beat_hurry an_Beat_hurry od_Beat_runs an_Beat_runs od_Beat_due an_Beat_due od__law_state an__law_state od__law_draw an__law_draw od__law_sender an__law_sender od__law_inbox an__law_inbox od__law_beat an__law_beat od__law_full an__law_full od_law an_law : Option Addr} {sl_RoomError_init csl_RoomError_init csl2_RoomError_init sl_Sender_init sl_Sender_put sl_Sender_numbered sl_Sender_fresh sl_Sender_again sl_Sender_heard sl_Inbox_init sl_Inbox_take sl_Beat_init sl_Beat_start sl_Beat_stop sl_Beat_hurry sl_Beat_runs sl_Beat_due sl__law_state sl__law_draw sl__law_sender sl__law_inbox sl__law_beat sl__law_full sl_law : Array (Option Value)} {oc_RoomError_init kV_RoomError_init dc_RoomError_init pm_RoomError_init ct_RoomError_init cl_RoomError_init cl2_RoomError_init oc_Sender_init kV_Sender_init dc_Sender_init pm_Sender_init cd_Sender_init ct_Sender_init oc_Sender_put kV_Sender_put dc_Sender_put pm_Sender_put cd_Sender_put ct_Sender_put oc_Sender_numbered kV_Sender_numbered dc_Sender_numbered pm_Sender_numbered cd_Sender_numbered ct_Sender_numbered oc_Sender_fresh kV_Sender_fresh dc_Sender_fresh pm_Sender_fresh cd_Sender_fresh ct_Sender_fresh oc_Sender_again kV_Sender_again dc_Sender_again pm_Sender_again cd_Sender_again ct_Sender_again oc_Sender_heard kV_Sender_heard dc_Sender_heard pm_Sender_heard cd_Sender_heard ct_Sender_heard oc_Inbox_init kV_Inbox_init dc_Inbox_init pm_Inbox_init cd_Inbox_init ct_Inbox_init oc_Inbox_take kV_Inbox_take dc_Inbox_take pm_Inbox_take cd_Inbox_take ct_Inbox_take oc_Beat_init kV_Beat_init dc_Beat_init pm_Beat_init cd_Beat_init ct_Beat_init oc_Beat_start kV_Beat_start dc_Beat_start pm_Beat_start cd_Beat_start ct_Beat_start oc_Beat_stop kV_Beat_stop dc_Beat_stop pm_Beat_stop cd_Beat_stop ct_Beat_stop oc_Beat_hurry kV_Beat_hurry dc_Beat_hurry pm_Beat_hurry cd_Beat_hurry ct_Beat_hurry oc_Beat_runs kV_Beat_runs dc_Beat_runs pm_Beat_runs cd_Beat_runs ct_Beat_runs oc_Beat_due kV_Beat_due dc_Beat_due pm_Beat_due cd_Beat_due ct_Beat_due oc__law_state kV__law_state dc__law_state pm__law_state cd__law_state ct__law_state oc__law_draw kV__law_draw dc__law_draw pm__law_draw cd__law_draw ct__law_draw oc__law_sender kV__law_sender dc__law_sender pm__law_sender cd__law_sender ct__law_sender oc__law_inbox kV__law_inbox dc__law_inbox pm__law_inbox cd__law_inbox ct__law_inbox oc__law_beat kV__law_beat dc__law_beat pm__law_beat cd__law_beat ct__law_beat oc__law_full kV__law_full dc__law_full pm__law_full cd__law_full ct__law_full oc_law kV_law dc_law pm_law cd_law ct_law : Value} {tk_MOST_MESSAGES tk_WINDOW tk_FIRST_WAIT tk_LONGEST_WAIT : Tok} {nm_RoomError q_RoomError : Str} {N_RoomError : Addr} {bs_RoomError : List Value} {sn_RoomError : List Str} {sub_RoomError : List Value} {ab_RoomError : Bool} {col_RoomError : Option Bool} {dd_RoomError : Option Addr} {k0_RoomError k1_RoomError k2_RoomError k3_RoomError k5_RoomError : Option Value} {vs_RoomError_init : Array Value} {fi_RoomError_init : Str} {tf_RoomError_init : Tok} {cz_RoomError_init : ClassData}
        (h_cBridgeError : PySem.W.nsIn K mainGlobals "BridgeError" = some (some (.ref A_BridgeError)))
    (h_rdBridgeError : PySem.W.readsIn K A_BridgeError (.type "type") = true)
    (h_gaBridgeError : PySem.W.specialIn K (.ref A_BridgeError) "__getattribute__" = some (some (.builtin "type.__getattribute__")))
    (h_cvBridgeError : PySem.W.findCls K (.ref A_BridgeError) (.type "type") "__init__" = some (.val (.builtin "ValueError.__init__")))
    (h_cRoomError : PySem.W.nsIn K mainGlobals "RoomError" = some (some (.ref A_RoomError)))
    (h_lkRoomError : K.lookup A_RoomError = some (excClassObj nm_RoomError q_RoomError A_RoomError N_RoomError bs_RoomError [.ref A_BridgeError, .type "ValueError", .type "Exception", .type "BaseException", .type "object"] true sn_RoomError sub_RoomError ab_RoomError col_RoomError dd_RoomError k0_RoomError k1_RoomError k2_RoomError k3_RoomError k5_RoomError "ValueError.__new__"))
    (h_saRoomError : PySem.W.findIn K (.ref A_RoomError) "__setattr__" = some (some (.builtin "object.__setattr__")))
    (h_exRoomError : PySem.W.subIn K (.ref A_RoomError) (.type "BaseException") = some true)
    (h_tyRoomError : PySem.W.typeIn K (.ref A_RoomError) = some (.type "type"))
    (h_kcRoomError : PySem.W.keepIn K (.ref A_RoomError) = true)
    (h_noRoomError : PySem.W.findIn K (.ref A_RoomError) "place" = some none)
    (h_gaRoomError : PySem.W.findIn K (.ref A_RoomError) "__getattribute__" = some (some (.builtin "BaseException.__getattribute__")))
    (h_ggRoomError : PySem.W.findIn K (.ref A_RoomError) "__getattr__" = some none)
    (h_hdRoomError : PySem.W.hasDictIn K A_RoomError = true)
    (h_icRoomError : PySem.W.isClsIn K A_RoomError = true)
    (h_scRoomError : PySem.W.subIn K (.ref A_RoomError) (.ref A_RoomError) = some true)
    (h_caRoomError : PySem.W.findIn K (.ref A_RoomError) "__class__" = some (some (.builtin "object.__class__")))
    (h_moRoomError : PySem.W.mroIn K A_RoomError (.type "object") = some true)
    (h_gdRoomError : PySem.W.specialIn K (.builtin "object.__class__") "__get__" = some (some (.builtin "getset_descriptor.__get__")))
    (h_tkRoomError : PySem.W.takesIn K (.builtin "object.__class__") = some true)
    (h_ibRoomErrorBridgeError : PySem.W.isClsIn K A_BridgeError = true)
    (h_itRoomErrorBridgeError : PySem.W.typeIn K (.ref A_BridgeError) = some (.type "type"))
    (h_isRoomErrorBridgeError : PySem.W.subIn K (.ref A_RoomError) (.ref A_BridgeError) = some true)
    (h_cSender : PySem.W.nsIn K mainGlobals "Sender" = some (some (.ref A_Sender)))
    (h_pgSender : PySem.W.plainGet K A_Sender Str.empty = true)
    (h_hdSender : PySem.W.hasDictIn K A_Sender = true)
    (h_poSender : PySem.W.plainOver K A_Sender = true)
    (h_saSender : PySem.W.findIn K (.ref A_Sender) "__setattr__" = some (some (.builtin "object.__setattr__")))
    (h_mkSender : PySem.W.makesIn K A_Sender = true)
    (h_kcSender : PySem.W.keepIn K (.ref A_Sender) = true)
    (h_naSender_first : PySem.W.findIn K (.ref A_Sender) "first" = some none)
    (h_naSender_rows : PySem.W.findIn K (.ref A_Sender) "rows" = some none)
    (h_naSender_said : PySem.W.findIn K (.ref A_Sender) "said" = some none)
    (h_cInbox : PySem.W.nsIn K mainGlobals "Inbox" = some (some (.ref A_Inbox)))
    (h_pgInbox : PySem.W.plainGet K A_Inbox Str.empty = true)
    (h_hdInbox : PySem.W.hasDictIn K A_Inbox = true)
    (h_poInbox : PySem.W.plainOver K A_Inbox = true)
    (h_saInbox : PySem.W.findIn K (.ref A_Inbox) "__setattr__" = some (some (.builtin "object.__setattr__")))
    (h_mkInbox : PySem.W.makesIn K A_Inbox = true)
    (h_kcInbox : PySem.W.keepIn K (.ref A_Inbox) = true)
    (h_naInbox_next : PySem.W.findIn K (.ref A_Inbox) "next" = some none)
    (h_naInbox__early : PySem.W.findIn K (.ref A_Inbox) "_early" = some none)
    (h_cBeat : PySem.W.nsIn K mainGlobals "Beat" = some (some (.ref A_Beat)))
    (h_pgBeat : PySem.W.plainGet K A_Beat Str.empty = true)
    (h_hdBeat : PySem.W.hasDictIn K A_Beat = true)
    (h_poBeat : PySem.W.plainOver K A_Beat = true)
    (h_saBeat : PySem.W.findIn K (.ref A_Beat) "__setattr__" = some (some (.builtin "object.__setattr__")))
    (h_mkBeat : PySem.W.makesIn K A_Beat = true)
    (h_kcBeat : PySem.W.keepIn K (.ref A_Beat) = true)
    (h_naBeat_tries : PySem.W.findIn K (.ref A_Beat) "tries" = some none)
    (h_naBeat__wait : PySem.W.findIn K (.ref A_Beat) "_wait" = some none)
    (h_naBeat__due_at : PySem.W.findIn K (.ref A_Beat) "_due_at" = some none)
    (h_aRoomError_init : PySem.W.findIn K (.ref A_RoomError) "__init__" = some (some (.ref A_RoomError_init)))
    (h_tiRoomError : PySem.W.typeIn K (.ref A_RoomError_init) = some (.type "function"))
    (h_lRoomError_init : K.lookup A_RoomError_init = some ⟨oc_RoomError_init, od_RoomError_init, .func (PySem.W.fnX "__init__" "RoomError.__init__" (defArgs s_RoomError_init) (defBody s_RoomError_init) (defScope s_RoomError_init) [("__class__", cc_RoomError_init)] .none kV_RoomError_init dc_RoomError_init pm_RoomError_init an_RoomError_init (.ref ca_RoomError_init) ct_RoomError_init), sl_RoomError_init⟩)
    (h_cdRoomError_init : PySem.W.codeIn K (.ref ca_RoomError_init) "RoomError.__init__" = true)
    (h_lcRoomError_init : K.lookup ca_RoomError_init = some ⟨cl_RoomError_init, cod_RoomError_init, .fields vs_RoomError_init, csl_RoomError_init⟩)
    (h_vsRoomError_init : vs_RoomError_init[2]? = some (.str fi_RoomError_init tf_RoomError_init))
    (h_fiRoomError_init : ((PySem.Challenge.pw_hangbridge_k05_windows_and_beats.main.file : Str) == fi_RoomError_init) = true)
    (h_ccRoomError_init : K.lookup cc_RoomError_init = some ⟨cl2_RoomError_init, cod2_RoomError_init, .cell (some (.ref A_RoomError)), csl2_RoomError_init⟩)
    (h_czRoomError_init : PySem.W.clsIn K A_RoomError = some cz_RoomError_init)
    (h_msRoomError_init : PySem.W.mroIn K A_RoomError (.ref A_RoomError) = some true)
    (h_suRoomError_init : PySem.W.nsIn K mainGlobals "super" = some none)
    (h_anRoomError_init : PySem.W.nsIn K cStatics "thirdparty.any" = some none)
    (h_spRoomError_init : PySem.W.ks_superIn K A_RoomError A_RoomError "__init__" = some (some (.builtin "ValueError.__init__")))
    (h_ivRoomError_init : PySem.W.subIn K (.ref A_RoomError) (.type "ValueError") = some true)
    (h_tpRoomError_init : (PySem.Challenge.pw_hangbridge_k05_windows_and_beats.main.scope.names.lookup ("super" : Str)).isSome = false)
    (h_aSender_init : PySem.W.findIn K (.ref A_Sender) "__init__" = some (some (.ref A_Sender_init)))
    (h_iSender_init : PySem.W.isFn K (.ref A_Sender_init) = true)
    (h_lSender_init : K.lookup A_Sender_init = some ⟨oc_Sender_init, od_Sender_init, .func (PySem.W.fnOf "__init__" "Sender.__init__" (defArgs s_Sender_init) (defBody s_Sender_init) (defScope s_Sender_init) .none kV_Sender_init dc_Sender_init pm_Sender_init an_Sender_init cd_Sender_init ct_Sender_init), sl_Sender_init⟩)
    (h_cdSender_init : PySem.W.codeIn K cd_Sender_init "Sender.__init__" = true)
    (h_kSender_init : PySem.W.keepIn K (.ref A_Sender_init) = true)
    (h_aSender_put : PySem.W.findIn K (.ref A_Sender) "put" = some (some (.ref A_Sender_put)))
    (h_iSender_put : PySem.W.isFn K (.ref A_Sender_put) = true)
    (h_lSender_put : K.lookup A_Sender_put = some ⟨oc_Sender_put, od_Sender_put, .func (PySem.W.fnOf "put" "Sender.put" (defArgs s_Sender_put) (defBody s_Sender_put) (defScope s_Sender_put) .none kV_Sender_put dc_Sender_put pm_Sender_put an_Sender_put cd_Sender_put ct_Sender_put), sl_Sender_put⟩)
    (h_cdSender_put : PySem.W.codeIn K cd_Sender_put "Sender.put" = true)
    (h_kSender_put : PySem.W.keepIn K (.ref A_Sender_put) = true)
    (h_aSender_numbered : PySem.W.findIn K (.ref A_Sender) "_numbered" = some (some (.ref A_Sender_numbered)))
    (h_iSender_numbered : PySem.W.isFn K (.ref A_Sender_numbered) = true)
    (h_lSender_numbered : K.lookup A_Sender_numbered = some ⟨oc_Sender_numbered, od_Sender_numbered, .func (PySem.W.fnOf "_numbered" "Sender._numbered" (defArgs s_Sender_numbered) (defBody s_Sender_numbered) (defScope s_Sender_numbered) .none kV_Sender_numbered dc_Sender_numbered pm_Sender_numbered an_Sender_numbered cd_Sender_numbered ct_Sender_numbered), sl_Sender_numbered⟩)
    (h_cdSender_numbered : PySem.W.codeIn K cd_Sender_numbered "Sender._numbered" = true)
    (h_kSender_numbered : PySem.W.keepIn K (.ref A_Sender_numbered) = true)
    (h_aSender_fresh : PySem.W.findIn K (.ref A_Sender) "fresh" = some (some (.ref A_Sender_fresh)))
    (h_iSender_fresh : PySem.W.isFn K (.ref A_Sender_fresh) = true)
    (h_lSender_fresh : K.lookup A_Sender_fresh = some ⟨oc_Sender_fresh, od_Sender_fresh, .func (PySem.W.fnOf "fresh" "Sender.fresh" (defArgs s_Sender_fresh) (defBody s_Sender_fresh) (defScope s_Sender_fresh) .none kV_Sender_fresh dc_Sender_fresh pm_Sender_fresh an_Sender_fresh cd_Sender_fresh ct_Sender_fresh), sl_Sender_fresh⟩)
    (h_cdSender_fresh : PySem.W.codeIn K cd_Sender_fresh "Sender.fresh" = true)
    (h_kSender_fresh : PySem.W.keepIn K (.ref A_Sender_fresh) = true)
    (h_aSender_again : PySem.W.findIn K (.ref A_Sender) "again" = some (some (.ref A_Sender_again)))
    (h_iSender_again : PySem.W.isFn K (.ref A_Sender_again) = true)
    (h_lSender_again : K.lookup A_Sender_again = some ⟨oc_Sender_again, od_Sender_again, .func (PySem.W.fnOf "again" "Sender.again" (defArgs s_Sender_again) (defBody s_Sender_again) (defScope s_Sender_again) .none kV_Sender_again dc_Sender_again pm_Sender_again an_Sender_again cd_Sender_again ct_Sender_again), sl_Sender_again⟩)
    (h_cdSender_again : PySem.W.codeIn K cd_Sender_again "Sender.again" = true)
    (h_kSender_again : PySem.W.keepIn K (.ref A_Sender_again) = true)
    (h_aSender_heard : PySem.W.findIn K (.ref A_Sender) "heard" = some (some (.ref A_Sender_heard)))
    (h_iSender_heard : PySem.W.isFn K (.ref A_Sender_heard) = true)
    (h_lSender_heard : K.lookup A_Sender_heard = some ⟨oc_Sender_heard, od_Sender_heard, .func (PySem.W.fnOf "heard" "Sender.heard" (defArgs s_Sender_heard) (defBody s_Sender_heard) (defScope s_Sender_heard) .none kV_Sender_heard dc_Sender_heard pm_Sender_heard an_Sender_heard cd_Sender_heard ct_Sender_heard), sl_Sender_heard⟩)
    (h_cdSender_heard : PySem.W.codeIn K cd_Sender_heard "Sender.heard" = true)
    (h_kSender_heard : PySem.W.keepIn K (.ref A_Sender_heard) = true)
    (h_aInbox_init : PySem.W.findIn K (.ref A_Inbox) "__init__" = some (some (.ref A_Inbox_init)))
    (h_iInbox_init : PySem.W.isFn K (.ref A_Inbox_init) = true)
    (h_lInbox_init : K.lookup A_Inbox_init = some ⟨oc_Inbox_init, od_Inbox_init, .func (PySem.W.fnOf "__init__" "Inbox.__init__" (defArgs s_Inbox_init) (defBody s_Inbox_init) (defScope s_Inbox_init) .none kV_Inbox_init dc_Inbox_init pm_Inbox_init an_Inbox_init cd_Inbox_init ct_Inbox_init), sl_Inbox_init⟩)
    (h_cdInbox_init : PySem.W.codeIn K cd_Inbox_init "Inbox.__init__" = true)
    (h_kInbox_init : PySem.W.keepIn K (.ref A_Inbox_init) = true)
    (h_aInbox_take : PySem.W.findIn K (.ref A_Inbox) "take" = some (some (.ref A_Inbox_take)))
    (h_iInbox_take : PySem.W.isFn K (.ref A_Inbox_take) = true)
    (h_lInbox_take : K.lookup A_Inbox_take = some ⟨oc_Inbox_take, od_Inbox_take, .func (PySem.W.fnOf "take" "Inbox.take" (defArgs s_Inbox_take) (defBody s_Inbox_take) (defScope s_Inbox_take) .none kV_Inbox_take dc_Inbox_take pm_Inbox_take an_Inbox_take cd_Inbox_take ct_Inbox_take), sl_Inbox_take⟩)
    (h_cdInbox_take : PySem.W.codeIn K cd_Inbox_take "Inbox.take" = true)
    (h_kInbox_take : PySem.W.keepIn K (.ref A_Inbox_take) = true)
    (h_aBeat_init : PySem.W.findIn K (.ref A_Beat) "__init__" = some (some (.ref A_Beat_init)))
    (h_iBeat_init : PySem.W.isFn K (.ref A_Beat_init) = true)
    (h_lBeat_init : K.lookup A_Beat_init = some ⟨oc_Beat_init, od_Beat_init, .func (PySem.W.fnOf "__init__" "Beat.__init__" (defArgs s_Beat_init) (defBody s_Beat_init) (defScope s_Beat_init) .none kV_Beat_init dc_Beat_init pm_Beat_init an_Beat_init cd_Beat_init ct_Beat_init), sl_Beat_init⟩)
    (h_cdBeat_init : PySem.W.codeIn K cd_Beat_init "Beat.__init__" = true)
    (h_kBeat_init : PySem.W.keepIn K (.ref A_Beat_init) = true)
    (h_aBeat_start : PySem.W.findIn K (.ref A_Beat) "start" = some (some (.ref A_Beat_start)))
    (h_iBeat_start : PySem.W.isFn K (.ref A_Beat_start) = true)
    (h_lBeat_start : K.lookup A_Beat_start = some ⟨oc_Beat_start, od_Beat_start, .func (PySem.W.fnOf "start" "Beat.start" (defArgs s_Beat_start) (defBody s_Beat_start) (defScope s_Beat_start) .none kV_Beat_start dc_Beat_start pm_Beat_start an_Beat_start cd_Beat_start ct_Beat_start), sl_Beat_start⟩)
    (h_cdBeat_start : PySem.W.codeIn K cd_Beat_start "Beat.start" = true)
    (h_kBeat_start : PySem.W.keepIn K (.ref A_Beat_start) = true)
    (h_aBeat_stop : PySem.W.findIn K (.ref A_Beat) "stop" = some (some (.ref A_Beat_stop)))
    (h_iBeat_stop : PySem.W.isFn K (.ref A_Beat_stop) = true)
    (h_lBeat_stop : K.lookup A_Beat_stop = some ⟨oc_Beat_stop, od_Beat_stop, .func (PySem.W.fnOf "stop" "Beat.stop" (defArgs s_Beat_stop) (defBody s_Beat_stop) (defScope s_Beat_stop) .none kV_Beat_stop dc_Beat_stop pm_Beat_stop an_Beat_stop cd_Beat_stop ct_Beat_stop), sl_Beat_stop⟩)
    (h_cdBeat_stop : PySem.W.codeIn K cd_Beat_stop "Beat.stop" = true)
    (h_kBeat_stop : PySem.W.keepIn K (.ref A_Beat_stop) = true)
    (h_aBeat_hurry : PySem.W.findIn K (.ref A_Beat) "hurry" = some (some (.ref A_Beat_hurry)))
    (h_iBeat_hurry : PySem.W.isFn K (.ref A_Beat_hurry) = true)
    (h_lBeat_hurry : K.lookup A_Beat_hurry = some ⟨oc_Beat_hurry, od_Beat_hurry, .func (PySem.W.fnOf "hurry" "Beat.hurry" (defArgs s_Beat_hurry) (defBody s_Beat_hurry) (defScope s_Beat_hurry) .none kV_Beat_hurry dc_Beat_hurry pm_Beat_hurry an_Beat_hurry cd_Beat_hurry ct_Beat_hurry), sl_Beat_hurry⟩)
    (h_cdBeat_hurry : PySem.W.codeIn K cd_Beat_hurry "Beat.hurry" = true)
    (h_kBeat_hurry : PySem.W.keepIn K (.ref A_Beat_hurry) = true)
    (h_aBeat_runs : PySem.W.findIn K (.ref A_Beat) "runs" = some (some (.ref A_Beat_runs)))
    (h_iBeat_runs : PySem.W.isFn K (.ref A_Beat_runs) = true)
    (h_lBeat_runs : K.lookup A_Beat_runs = some ⟨oc_Beat_runs, od_Beat_runs, .func (PySem.W.fnOf "runs" "Beat.runs" (defArgs s_Beat_runs) (defBody s_Beat_runs) (defScope s_Beat_runs) .none kV_Beat_runs dc_Beat_runs pm_Beat_runs an_Beat_runs cd_Beat_runs ct_Beat_runs), sl_Beat_runs⟩)
    (h_cdBeat_runs : PySem.W.codeIn K cd_Beat_runs "Beat.runs" = true)
    (h_kBeat_runs : PySem.W.keepIn K (.ref A_Beat_runs) = true)
    (h_aBeat_due : PySem.W.findIn K (.ref A_Beat) "due" = some (some (.ref A_Beat_due)))
    (h_iBeat_due : PySem.W.isFn K (.ref A_Beat_due) = true)
    (h_lBeat_due : K.lookup A_Beat_due = some ⟨oc_Beat_due, od_Beat_due, .func (PySem.W.fnOf "due" "Beat.due" (defArgs s_Beat_due) (defBody s_Beat_due) (defScope s_Beat_due) .none kV_Beat_due dc_Beat_due pm_Beat_due an_Beat_due cd_Beat_due ct_Beat_due), sl_Beat_due⟩)
    (h_cdBeat_due : PySem.W.codeIn K cd_Beat_due "Beat.due" = true)
    (h_kBeat_due : PySem.W.keepIn K (.ref A_Beat_due) = true)
    (h_a_law_state : PySem.W.nsIn K mainGlobals "_law_state" = some (some (.ref A__law_state)))
    (h_l_law_state : K.lookup A__law_state = some ⟨oc__law_state, od__law_state, .func (PySem.W.fnOf "_law_state" "_law_state" (defArgs s__law_state) (defBody s__law_state) (defScope s__law_state) .none kV__law_state dc__law_state pm__law_state an__law_state cd__law_state ct__law_state), sl__law_state⟩)
    (h_cd_law_state : PySem.W.codeIn K cd__law_state "_law_state" = true)
    (h_k_law_state : PySem.W.keepIn K (.ref A__law_state) = true)
    (h_a_law_draw : PySem.W.nsIn K mainGlobals "_law_draw" = some (some (.ref A__law_draw)))
    (h_l_law_draw : K.lookup A__law_draw = some ⟨oc__law_draw, od__law_draw, .func (PySem.W.fnOf "_law_draw" "_law_draw" (defArgs s__law_draw) (defBody s__law_draw) (defScope s__law_draw) .none kV__law_draw dc__law_draw pm__law_draw an__law_draw cd__law_draw ct__law_draw), sl__law_draw⟩)
    (h_cd_law_draw : PySem.W.codeIn K cd__law_draw "_law_draw" = true)
    (h_k_law_draw : PySem.W.keepIn K (.ref A__law_draw) = true)
    (h_a_law_sender : PySem.W.nsIn K mainGlobals "_law_sender" = some (some (.ref A__law_sender)))
    (h_l_law_sender : K.lookup A__law_sender = some ⟨oc__law_sender, od__law_sender, .func (PySem.W.fnOf "_law_sender" "_law_sender" (defArgs s__law_sender) (defBody s__law_sender) (defScope s__law_sender) .none kV__law_sender dc__law_sender pm__law_sender an__law_sender cd__law_sender ct__law_sender), sl__law_sender⟩)
    (h_cd_law_sender : PySem.W.codeIn K cd__law_sender "_law_sender" = true)
    (h_k_law_sender : PySem.W.keepIn K (.ref A__law_sender) = true)
    (h_a_law_inbox : PySem.W.nsIn K mainGlobals "_law_inbox" = some (some (.ref A__law_inbox)))
    (h_l_law_inbox : K.lookup A__law_inbox = some ⟨oc__law_inbox, od__law_inbox, .func (PySem.W.fnOf "_law_inbox" "_law_inbox" (defArgs s__law_inbox) (defBody s__law_inbox) (defScope s__law_inbox) .none kV__law_inbox dc__law_inbox pm__law_inbox an__law_inbox cd__law_inbox ct__law_inbox), sl__law_inbox⟩)
    (h_cd_law_inbox : PySem.W.codeIn K cd__law_inbox "_law_inbox" = true)
    (h_k_law_inbox : PySem.W.keepIn K (.ref A__law_inbox) = true)
    (h_a_law_beat : PySem.W.nsIn K mainGlobals "_law_beat" = some (some (.ref A__law_beat)))
    (h_l_law_beat : K.lookup A__law_beat = some ⟨oc__law_beat, od__law_beat, .func (PySem.W.fnOf "_law_beat" "_law_beat" (defArgs s__law_beat) (defBody s__law_beat) (defScope s__law_beat) .none kV__law_beat dc__law_beat pm__law_beat an__law_beat cd__law_beat ct__law_beat), sl__law_beat⟩)
    (h_cd_law_beat : PySem.W.codeIn K cd__law_beat "_law_beat" = true)
    (h_k_law_beat : PySem.W.keepIn K (.ref A__law_beat) = true)
    (h_a_law_full : PySem.W.nsIn K mainGlobals "_law_full" = some (some (.ref A__law_full)))
    (h_l_law_full : K.lookup A__law_full = some ⟨oc__law_full, od__law_full, .func (PySem.W.fnOf "_law_full" "_law_full" (defArgs s__law_full) (defBody s__law_full) (defScope s__law_full) .none kV__law_full dc__law_full pm__law_full an__law_full cd__law_full ct__law_full), sl__law_full⟩)
    (h_cd_law_full : PySem.W.codeIn K cd__law_full "_law_full" = true)
    (h_k_law_full : PySem.W.keepIn K (.ref A__law_full) = true)
    (h_alaw : PySem.W.nsIn K mainGlobals "law" = some (some (.ref A_law)))
    (h_llaw : K.lookup A_law = some ⟨oc_law, od_law, .func (PySem.W.fnOf "law" "law" (defArgs s_law) (defBody s_law) (defScope s_law) .none kV_law dc_law pm_law an_law cd_law ct_law), sl_law⟩)
    (h_cdlaw : PySem.W.codeIn K cd_law "law" = true)
    (h_klaw : PySem.W.keepIn K (.ref A_law) = true)
    (h_gMOST_MESSAGES : PySem.W.nsIn K mainGlobals "MOST_MESSAGES" = some (some (.int 300 tk_MOST_MESSAGES)))
    (h_gWINDOW : PySem.W.nsIn K mainGlobals "WINDOW" = some (some (.int 4 tk_WINDOW)))
    (h_gFIRST_WAIT : PySem.W.nsIn K mainGlobals "FIRST_WAIT" = some (some (.int 2 tk_FIRST_WAIT)))
    (h_gLONGEST_WAIT : PySem.W.nsIn K mainGlobals "LONGEST_WAIT" = some (some (.int 16 tk_LONGEST_WAIT)))
    (h_blen : PySem.W.nsIn K mainGlobals "len" = some none)
    (h_brange : PySem.W.nsIn K mainGlobals "range" = some none)
    (h_bmin : PySem.W.nsIn K mainGlobals "min" = some none)
    (h_babs : PySem.W.nsIn K mainGlobals "abs" = some none)
    (h_bint : PySem.W.nsIn K mainGlobals "int" = some none)
    (h_bmax : PySem.W.nsIn K mainGlobals "max" = some none)
    (h_bstr : PySem.W.nsIn K mainGlobals "str" = some none)
    (h_bisinstance : PySem.W.nsIn K mainGlobals "isinstance" = some none)
    (h_bbool : PySem.W.nsIn K mainGlobals "bool" = some none) :
    ∃ fd : FuncData, (∀ (s : Shared) (v : Value), BindsTo s fd ⟨[v], []⟩ [("script", v)]) ∧ ∀ base : Heap, K.In base → base.Ns mainGlobals mg → FnOk l.prog w K mg base CX0 5 fa fd ["script"] (sp_law K) := by
  haveI : IsP l.prog := ⟨hl⟩
  have e := hfa.symm.trans (PySem.W.mg_of X G h_alaw)
  have e2 : fa = A_law := Value.ref.inj (Option.some.inj e)
  rw [e2]
  have T : Txt K mg ⟨A_BridgeError, A_RoomError, A_Sender, A_Inbox, A_Beat, A_RoomError_init, (PySem.W.fnX "__init__" "RoomError.__init__" (defArgs s_RoomError_init) (defBody s_RoomError_init) (defScope s_RoomError_init) [("__class__", cc_RoomError_init)] .none kV_RoomError_init dc_RoomError_init pm_RoomError_init an_RoomError_init (.ref ca_RoomError_init) ct_RoomError_init), A_Sender_init, (PySem.W.fnOf "__init__" "Sender.__init__" (defArgs s_Sender_init) (defBody s_Sender_init) (defScope s_Sender_init) .none kV_Sender_init dc_Sender_init pm_Sender_init an_Sender_init cd_Sender_init ct_Sender_init), A_Sender_put, (PySem.W.fnOf "put" "Sender.put" (defArgs s_Sender_put) (defBody s_Sender_put) (defScope s_Sender_put) .none kV_Sender_put dc_Sender_put pm_Sender_put an_Sender_put cd_Sender_put ct_Sender_put), A_Sender_numbered, (PySem.W.fnOf "_numbered" "Sender._numbered" (defArgs s_Sender_numbered) (defBody s_Sender_numbered) (defScope s_Sender_numbered) .none kV_Sender_numbered dc_Sender_numbered pm_Sender_numbered an_Sender_numbered cd_Sender_numbered ct_Sender_numbered), A_Sender_fresh, (PySem.W.fnOf "fresh" "Sender.fresh" (defArgs s_Sender_fresh) (defBody s_Sender_fresh) (defScope s_Sender_fresh) .none kV_Sender_fresh dc_Sender_fresh pm_Sender_fresh an_Sender_fresh cd_Sender_fresh ct_Sender_fresh), A_Sender_again, (PySem.W.fnOf "again" "Sender.again" (defArgs s_Sender_again) (defBody s_Sender_again) (defScope s_Sender_again) .none kV_Sender_again dc_Sender_again pm_Sender_again an_Sender_again cd_Sender_again ct_Sender_again), A_Sender_heard, (PySem.W.fnOf "heard" "Sender.heard" (defArgs s_Sender_heard) (defBody s_Sender_heard) (defScope s_Sender_heard) .none kV_Sender_heard dc_Sender_heard pm_Sender_heard an_Sender_heard cd_Sender_heard ct_Sender_heard), A_Inbox_init, (PySem.W.fnOf "__init__" "Inbox.__init__" (defArgs s_Inbox_init) (defBody s_Inbox_init) (defScope s_Inbox_init) .none kV_Inbox_init dc_Inbox_init pm_Inbox_init an_Inbox_init cd_Inbox_init ct_Inbox_init), A_Inbox_take, (PySem.W.fnOf "take" "Inbox.take" (defArgs s_Inbox_take) (defBody s_Inbox_take) (defScope s_Inbox_take) .none kV_Inbox_take dc_Inbox_take pm_Inbox_take an_Inbox_take cd_Inbox_take ct_Inbox_take), A_Beat_init, (PySem.W.fnOf "__init__" "Beat.__init__" (defArgs s_Beat_init) (defBody s_Beat_init) (defScope s_Beat_init) .none kV_Beat_init dc_Beat_init pm_Beat_init an_Beat_init cd_Beat_init ct_Beat_init), A_Beat_start, (PySem.W.fnOf "start" "Beat.start" (defArgs s_Beat_start) (defBody s_Beat_start) (defScope s_Beat_start) .none kV_Beat_start dc_Beat_start pm_Beat_start an_Beat_start cd_Beat_start ct_Beat_start), A_Beat_stop, (PySem.W.fnOf "stop" "Beat.stop" (defArgs s_Beat_stop) (defBody s_Beat_stop) (defScope s_Beat_stop) .none kV_Beat_stop dc_Beat_stop pm_Beat_stop an_Beat_stop cd_Beat_stop ct_Beat_stop), A_Beat_hurry, (PySem.W.fnOf "hurry" "Beat.hurry" (defArgs s_Beat_hurry) (defBody s_Beat_hurry) (defScope s_Beat_hurry) .none kV_Beat_hurry dc_Beat_hurry pm_Beat_hurry an_Beat_hurry cd_Beat_hurry ct_Beat_hurry), A_Beat_runs, (PySem.W.fnOf "runs" "Beat.runs" (defArgs s_Beat_runs) (defBody s_Beat_runs) (defScope s_Beat_runs) .none kV_Beat_runs dc_Beat_runs pm_Beat_runs an_Beat_runs cd_Beat_runs ct_Beat_runs), A_Beat_due, (PySem.W.fnOf "due" "Beat.due" (defArgs s_Beat_due) (defBody s_Beat_due) (defScope s_Beat_due) .none kV_Beat_due dc_Beat_due pm_Beat_due an_Beat_due cd_Beat_due ct_Beat_due), A__law_state, (PySem.W.fnOf "_law_state" "_law_state" (defArgs s__law_state) (defBody s__law_state) (defScope s__law_state) .none kV__law_state dc__law_state pm__law_state an__law_state cd__law_state ct__law_state), A__law_draw, (PySem.W.fnOf "_law_draw" "_law_draw" (defArgs s__law_draw) (defBody s__law_draw) (defScope s__law_draw) .none kV__law_draw dc__law_draw pm__law_draw an__law_draw cd__law_draw ct__law_draw), A__law_sender, (PySem.W.fnOf "_law_sender" "_law_sender" (defArgs s__law_sender) (defBody s__law_sender) (defScope s__law_sender) .none kV__law_sender dc__law_sender pm__law_sender an__law_sender cd__law_sender ct__law_sender), A__law_inbox, (PySem.W.fnOf "_law_inbox" "_law_inbox" (defArgs s__law_inbox) (defBody s__law_inbox) (defScope s__law_inbox) .none kV__law_inbox dc__law_inbox pm__law_inbox an__law_inbox cd__law_inbox ct__law_inbox), A__law_beat, (PySem.W.fnOf "_law_beat" "_law_beat" (defArgs s__law_beat) (defBody s__law_beat) (defScope s__law_beat) .none kV__law_beat dc__law_beat pm__law_beat an__law_beat cd__law_beat ct__law_beat), A__law_full, (PySem.W.fnOf "_law_full" "_law_full" (defArgs s__law_full) (defBody s__law_full) (defScope s__law_full) .none kV__law_full dc__law_full pm__law_full an__law_full cd__law_full ct__law_full), A_law, (PySem.W.fnOf "law" "law" (defArgs s_law) (defBody s_law) (defScope s_law) .none kV_law dc_law pm_law an_law cd_law ct_law)⟩ := {
    mg_BridgeError := PySem.W.mg_of X G h_cBridgeError
    rd_BridgeError := ⟨h_rdBridgeError, h_gaBridgeError⟩
    cv_BridgeError := h_cvBridgeError
    mg_RoomError := PySem.W.mg_of X G h_cRoomError
    ox_RoomError := ⟨⟨_, _, _, _, _, _, _, _, _, _, _, _, _, _, _, h_lkRoomError, rfl⟩, h_saRoomError, h_exRoomError, h_tyRoomError, h_kcRoomError⟩
    iC_RoomError := h_aRoomError_init
    tI_RoomError := h_tiRoomError
    no_RoomError_place := h_noRoomError
    xf_RoomError := ⟨h_gaRoomError, h_ggRoomError, h_exRoomError, h_hdRoomError⟩
    xc_RoomError := ⟨h_icRoomError, h_gaRoomError, h_ggRoomError, h_exRoomError, h_caRoomError, h_gdRoomError, h_tkRoomError, h_moRoomError⟩
    te_RoomError := PySem.W.exm_ref h_exRoomError h_hdRoomError h_tyRoomError h_scRoomError
    is_RoomError_BridgeError := kit_ownT h_ibRoomErrorBridgeError h_itRoomErrorBridgeError h_isRoomErrorBridgeError
    cl_Sender := ⟨h_pgSender, h_hdSender, h_poSender, h_saSender⟩
    mg_Sender := PySem.W.mg_of X G h_cSender
    na_Sender_first := h_naSender_first
    na_Sender_rows := h_naSender_rows
    na_Sender_said := h_naSender_said
    cl_Inbox := ⟨h_pgInbox, h_hdInbox, h_poInbox, h_saInbox⟩
    mg_Inbox := PySem.W.mg_of X G h_cInbox
    na_Inbox_next := h_naInbox_next
    na_Inbox__early := h_naInbox__early
    cl_Beat := ⟨h_pgBeat, h_hdBeat, h_poBeat, h_saBeat⟩
    mg_Beat := PySem.W.mg_of X G h_cBeat
    na_Beat_tries := h_naBeat_tries
    na_Beat__wait := h_naBeat__wait
    na_Beat__due_at := h_naBeat__due_at
    fn_RoomError_init := ⟨⟨_, _, _, _, _, _, _, _, _, _, _, _, _, _, _, _, _, _, _, rfl, h_lRoomError_init, h_cdRoomError_init, h_lcRoomError_init, h_vsRoomError_init, h_fiRoomError_init, h_ccRoomError_init⟩, ⟨_, h_czRoomError_init⟩, h_msRoomError_init, PySem.W.mg_none_of X G h_suRoomError_init, h_anRoomError_init, h_spRoomError_init, h_ivRoomError_init, h_tpRoomError_init⟩
    bi_RoomError_init := FunS.binds (P := PySem.Challenge.pw_hangbridge_k05_windows_and_beats) (mg := mg) (C := A_RoomError) (x := "__init__") (qual := "RoomError.__init__") (st := s_RoomError_init) (f := A_RoomError_init) (ps := ["self", "place"]) ⟨⟨_, _, _, _, _, _, _, _, _, _, _, _, _, _, _, _, _, _, _, rfl, h_lRoomError_init, h_cdRoomError_init, h_lcRoomError_init, h_vsRoomError_init, h_fiRoomError_init, h_ccRoomError_init⟩, ⟨_, h_czRoomError_init⟩, h_msRoomError_init, PySem.W.mg_none_of X G h_suRoomError_init, h_anRoomError_init, h_spRoomError_init, h_ivRoomError_init, h_tpRoomError_init⟩ fun _ _ _ _ _ _ _ us hl => match us, hl with | [_, _], _ => rfl
    fn_Sender_init := fun_mk (st := s_Sender_init) h_lSender_init h_cdSender_init h_kSender_init
    bi_Sender_init := (fun_mk (st := s_Sender_init) h_lSender_init h_cdSender_init h_kSender_init).binds (ps := ["self"]) fun _ _ _ _ _ _ us hl => match us, hl with | [_], _ => rfl
    mk_Sender := ⟨h_mkSender, h_aSender_init, h_iSender_init, h_kcSender⟩
    fn_Sender_put := fun_mk (st := s_Sender_put) h_lSender_put h_cdSender_put h_kSender_put
    bi_Sender_put := (fun_mk (st := s_Sender_put) h_lSender_put h_cdSender_put h_kSender_put).binds (ps := ["self", "body"]) fun _ _ _ _ _ _ us hl => match us, hl with | [_, _], _ => rfl
    me_Sender_put := ⟨h_aSender_put, h_iSender_put, h_kSender_put⟩
    fn_Sender_numbered := fun_mk (st := s_Sender_numbered) h_lSender_numbered h_cdSender_numbered h_kSender_numbered
    bi_Sender_numbered := (fun_mk (st := s_Sender_numbered) h_lSender_numbered h_cdSender_numbered h_kSender_numbered).binds (ps := ["self", "start", "stop"]) fun _ _ _ _ _ _ us hl => match us, hl with | [_, _, _], _ => rfl
    me_Sender_numbered := ⟨h_aSender_numbered, h_iSender_numbered, h_kSender_numbered⟩
    fn_Sender_fresh := fun_mk (st := s_Sender_fresh) h_lSender_fresh h_cdSender_fresh h_kSender_fresh
    bi_Sender_fresh := (fun_mk (st := s_Sender_fresh) h_lSender_fresh h_cdSender_fresh h_kSender_fresh).binds (ps := ["self"]) fun _ _ _ _ _ _ us hl => match us, hl with | [_], _ => rfl
    me_Sender_fresh := ⟨h_aSender_fresh, h_iSender_fresh, h_kSender_fresh⟩
    fn_Sender_again := fun_mk (st := s_Sender_again) h_lSender_again h_cdSender_again h_kSender_again
    bi_Sender_again := (fun_mk (st := s_Sender_again) h_lSender_again h_cdSender_again h_kSender_again).binds (ps := ["self"]) fun _ _ _ _ _ _ us hl => match us, hl with | [_], _ => rfl
    me_Sender_again := ⟨h_aSender_again, h_iSender_again, h_kSender_again⟩
    fn_Sender_heard := fun_mk (st := s_Sender_heard) h_lSender_heard h_cdSender_heard h_kSender_heard
    bi_Sender_heard := (fun_mk (st := s_Sender_heard) h_lSender_heard h_cdSender_heard h_kSender_heard).binds (ps := ["self", "ack"]) fun _ _ _ _ _ _ us hl => match us, hl with | [_, _], _ => rfl
    me_Sender_heard := ⟨h_aSender_heard, h_iSender_heard, h_kSender_heard⟩
    fn_Inbox_init := fun_mk (st := s_Inbox_init) h_lInbox_init h_cdInbox_init h_kInbox_init
    bi_Inbox_init := (fun_mk (st := s_Inbox_init) h_lInbox_init h_cdInbox_init h_kInbox_init).binds (ps := ["self"]) fun _ _ _ _ _ _ us hl => match us, hl with | [_], _ => rfl
    mk_Inbox := ⟨h_mkInbox, h_aInbox_init, h_iInbox_init, h_kcInbox⟩
    fn_Inbox_take := fun_mk (st := s_Inbox_take) h_lInbox_take h_cdInbox_take h_kInbox_take
    bi_Inbox_take := (fun_mk (st := s_Inbox_take) h_lInbox_take h_cdInbox_take h_kInbox_take).binds (ps := ["self", "number", "body"]) fun _ _ _ _ _ _ us hl => match us, hl with | [_, _, _], _ => rfl
    me_Inbox_take := ⟨h_aInbox_take, h_iInbox_take, h_kInbox_take⟩
    fn_Beat_init := fun_mk (st := s_Beat_init) h_lBeat_init h_cdBeat_init h_kBeat_init
    bi_Beat_init := (fun_mk (st := s_Beat_init) h_lBeat_init h_cdBeat_init h_kBeat_init).binds (ps := ["self"]) fun _ _ _ _ _ _ us hl => match us, hl with | [_], _ => rfl
    mk_Beat := ⟨h_mkBeat, h_aBeat_init, h_iBeat_init, h_kcBeat⟩
    fn_Beat_start := fun_mk (st := s_Beat_start) h_lBeat_start h_cdBeat_start h_kBeat_start
    bi_Beat_start := (fun_mk (st := s_Beat_start) h_lBeat_start h_cdBeat_start h_kBeat_start).binds (ps := ["self", "now"]) fun _ _ _ _ _ _ us hl => match us, hl with | [_, _], _ => rfl
    me_Beat_start := ⟨h_aBeat_start, h_iBeat_start, h_kBeat_start⟩
    fn_Beat_stop := fun_mk (st := s_Beat_stop) h_lBeat_stop h_cdBeat_stop h_kBeat_stop
    bi_Beat_stop := (fun_mk (st := s_Beat_stop) h_lBeat_stop h_cdBeat_stop h_kBeat_stop).binds (ps := ["self"]) fun _ _ _ _ _ _ us hl => match us, hl with | [_], _ => rfl
    me_Beat_stop := ⟨h_aBeat_stop, h_iBeat_stop, h_kBeat_stop⟩
    fn_Beat_hurry := fun_mk (st := s_Beat_hurry) h_lBeat_hurry h_cdBeat_hurry h_kBeat_hurry
    bi_Beat_hurry := (fun_mk (st := s_Beat_hurry) h_lBeat_hurry h_cdBeat_hurry h_kBeat_hurry).binds (ps := ["self", "now"]) fun _ _ _ _ _ _ us hl => match us, hl with | [_, _], _ => rfl
    me_Beat_hurry := ⟨h_aBeat_hurry, h_iBeat_hurry, h_kBeat_hurry⟩
    fn_Beat_runs := fun_mk (st := s_Beat_runs) h_lBeat_runs h_cdBeat_runs h_kBeat_runs
    bi_Beat_runs := (fun_mk (st := s_Beat_runs) h_lBeat_runs h_cdBeat_runs h_kBeat_runs).binds (ps := ["self"]) fun _ _ _ _ _ _ us hl => match us, hl with | [_], _ => rfl
    me_Beat_runs := ⟨h_aBeat_runs, h_iBeat_runs, h_kBeat_runs⟩
    fn_Beat_due := fun_mk (st := s_Beat_due) h_lBeat_due h_cdBeat_due h_kBeat_due
    bi_Beat_due := (fun_mk (st := s_Beat_due) h_lBeat_due h_cdBeat_due h_kBeat_due).binds (ps := ["self", "now"]) fun _ _ _ _ _ _ us hl => match us, hl with | [_, _], _ => rfl
    me_Beat_due := ⟨h_aBeat_due, h_iBeat_due, h_kBeat_due⟩
    fn__law_state := fun_mk (st := s__law_state) h_l_law_state h_cd_law_state h_k_law_state
    bi__law_state := (fun_mk (st := s__law_state) h_l_law_state h_cd_law_state h_k_law_state).binds (ps := ["script"]) fun _ _ _ _ _ _ us hl => match us, hl with | [_], _ => rfl
    mg__law_state := PySem.W.mg_of X G h_a_law_state
    kp__law_state := h_k_law_state
    fn__law_draw := fun_mk (st := s__law_draw) h_l_law_draw h_cd_law_draw h_k_law_draw
    bi__law_draw := (fun_mk (st := s__law_draw) h_l_law_draw h_cd_law_draw h_k_law_draw).binds (ps := ["state", "many"]) fun _ _ _ _ _ _ us hl => match us, hl with | [_, _], _ => rfl
    mg__law_draw := PySem.W.mg_of X G h_a_law_draw
    kp__law_draw := h_k_law_draw
    fn__law_sender := fun_mk (st := s__law_sender) h_l_law_sender h_cd_law_sender h_k_law_sender
    bi__law_sender := (fun_mk (st := s__law_sender) h_l_law_sender h_cd_law_sender h_k_law_sender).binds (ps := ["state", "sender", "m"]) fun _ _ _ _ _ _ us hl => match us, hl with | [_, _, _], _ => rfl
    mg__law_sender := PySem.W.mg_of X G h_a_law_sender
    kp__law_sender := h_k_law_sender
    fn__law_inbox := fun_mk (st := s__law_inbox) h_l_law_inbox h_cd_law_inbox h_k_law_inbox
    bi__law_inbox := (fun_mk (st := s__law_inbox) h_l_law_inbox h_cd_law_inbox h_k_law_inbox).binds (ps := ["state", "inbox", "m"]) fun _ _ _ _ _ _ us hl => match us, hl with | [_, _, _], _ => rfl
    mg__law_inbox := PySem.W.mg_of X G h_a_law_inbox
    kp__law_inbox := h_k_law_inbox
    fn__law_beat := fun_mk (st := s__law_beat) h_l_law_beat h_cd_law_beat h_k_law_beat
    bi__law_beat := (fun_mk (st := s__law_beat) h_l_law_beat h_cd_law_beat h_k_law_beat).binds (ps := ["state", "beat", "m", "now"]) fun _ _ _ _ _ _ us hl => match us, hl with | [_, _, _, _], _ => rfl
    mg__law_beat := PySem.W.mg_of X G h_a_law_beat
    kp__law_beat := h_k_law_beat
    fn__law_full := fun_mk (st := s__law_full) h_l_law_full h_cd_law_full h_k_law_full
    bi__law_full := (fun_mk (st := s__law_full) h_l_law_full h_cd_law_full h_k_law_full).binds (ps := []) fun _ _ _ _ _ _ us hl => match us, hl with | [], _ => rfl
    mg__law_full := PySem.W.mg_of X G h_a_law_full
    kp__law_full := h_k_law_full
    fn_law := fun_mk (st := s_law) h_llaw h_cdlaw h_klaw
    bi_law := (fun_mk (st := s_law) h_llaw h_cdlaw h_klaw).binds (ps := ["script"]) fun _ _ _ _ _ _ us hl => match us, hl with | [_], _ => rfl
    mg_law := PySem.W.mg_of X G h_alaw
    kp_law := h_klaw
    mg_MOST_MESSAGES := ⟨_, PySem.W.mg_of X G h_gMOST_MESSAGES⟩
    mg_WINDOW := ⟨_, PySem.W.mg_of X G h_gWINDOW⟩
    mg_FIRST_WAIT := ⟨_, PySem.W.mg_of X G h_gFIRST_WAIT⟩
    mg_LONGEST_WAIT := ⟨_, PySem.W.mg_of X G h_gLONGEST_WAIT⟩
    mg_len := PySem.W.mg_none_of X G h_blen
    mg_range := PySem.W.mg_none_of X G h_brange
    mg_min := PySem.W.mg_none_of X G h_bmin
    mg_abs := PySem.W.mg_none_of X G h_babs
    mg_int := PySem.W.mg_none_of X G h_bint
    mg_max := PySem.W.mg_none_of X G h_bmax
    mg_str := PySem.W.mg_none_of X G h_bstr
    mg_isinstance := PySem.W.mg_none_of X G h_bisinstance
    mg_bool := PySem.W.mg_none_of X G h_bbool }
  exact ⟨_, fun s v => .of_eq rfl, fun base _ _ => ok_law T⟩
theorem walk {l : PySem.W.OpenLaw} {q : Program} {loose : List Str} {XP : (Str → Option Value) → Heap → Prop} {YP : World → Heap → Prop} {d : DefRec} {K : Params → PySem.W.Frag} (hn : l.most = some 63) (hdf : d.params.defaults = [])
    (hY : ∀ (w : World) (h : Heap), YP w h → (K w.params).In h)
    (F : ∀ (w : World) (mg : Str → Option Value) (fa : Addr) (h : Heap), (K w.params).In h → h.Ns mainGlobals mg → mg d.name = some (.ref fa) →
      ∃ fd : FuncData, (∀ (s : Shared) (u : Value), BindsTo s fd ⟨[u], []⟩ [("script", u)]) ∧ ∀ base : Heap, (K w.params).In base → base.Ns mainGlobals mg → FnOk l.prog w (K w.params) mg base CX0 5 fa fd ["script"] (sp_law (K w.params))) :
    PySem.W.WalkO q loose XP YP l.row.toRowW d [] (fun f vs => PySem.call f vs) :=
  L2.walk_of (n := 63) (k := 5) (x := "script") (CX := fun _ => CX0) (sp := fun w => sp_law (K w.params)) hn (by decide) hdf ⟨rfl, by decide, by decide⟩ hY F (fun _ _ a ns hl _ hS => ⟨a, ns, rfl, hS, hl, fun _ => rfl⟩) fun _ _ _ _ _ z => z
end K5

open PySem PySem.W PyProof.Rows in
set_option maxRecDepth 100000 in
set_option maxHeartbeats 0 in
theorem PySem.Challenge.cw_hangbridge_k05_windows_and_beats_holds : PySem.Challenge.rw_hangbridge_k05_windows_and_beats.Holds := by
  w_on; o_law; k_head; (case hw => w_witness2)
  k_fill
  refine K5.walk (l := PySem.Challenge.rw_hangbridge_k05_windows_and_beats) rfl rfl (fun w h Y => PySem.W.kIn_of Y) ?F
  case F =>
    intro w mg fa h KX G hmg
    refine' K5.all_mk (l := PySem.Challenge.rw_hangbridge_k05_windows_and_beats) rfl KX G hmg ?h_cBridgeError ?h_rdBridgeError ?h_gaBridgeError ?h_cvBridgeError ?h_cRoomError ?h_lkRoomError ?h_saRoomError ?h_exRoomError ?h_tyRoomError ?h_kcRoomError ?h_noRoomError ?h_gaRoomError ?h_ggRoomError ?h_hdRoomError ?h_icRoomError ?h_scRoomError ?h_caRoomError ?h_moRoomError ?h_gdRoomError ?h_tkRoomError ?h_ibRoomErrorBridgeError ?h_itRoomErrorBridgeError ?h_isRoomErrorBridgeError ?h_cSender ?h_pgSender ?h_hdSender ?h_poSender ?h_saSender ?h_mkSender ?h_kcSender ?h_naSender_first ?h_naSender_rows ?h_naSender_said ?h_cInbox ?h_pgInbox ?h_hdInbox ?h_poInbox ?h_saInbox ?h_mkInbox ?h_kcInbox ?h_naInbox_next ?h_naInbox__early ?h_cBeat ?h_pgBeat ?h_hdBeat ?h_poBeat ?h_saBeat ?h_mkBeat ?h_kcBeat ?h_naBeat_tries ?h_naBeat__wait ?h_naBeat__due_at ?h_aRoomError_init ?h_tiRoomError ?h_lRoomError_init ?h_cdRoomError_init ?h_lcRoomError_init ?h_vsRoomError_init ?h_fiRoomError_init ?h_ccRoomError_init ?h_czRoomError_init ?h_msRoomError_init ?h_suRoomError_init ?h_anRoomError_init ?h_spRoomError_init ?h_ivRoomError_init ?h_tpRoomError_init ?h_aSender_init ?h_iSender_init ?h_lSender_init ?h_cdSender_init ?h_kSender_init ?h_aSender_put ?h_iSender_put ?h_lSender_put ?h_cdSender_put ?h_kSender_put ?h_aSender_numbered ?h_iSender_numbered ?h_lSender_numbered ?h_cdSender_numbered ?h_kSender_numbered ?h_aSender_fresh ?h_iSender_fresh ?h_lSender_fresh ?h_cdSender_fresh ?h_kSender_fresh ?h_aSender_again ?h_iSender_again ?h_lSender_again ?h_cdSender_again ?h_kSender_again ?h_aSender_heard ?h_iSender_heard ?h_lSender_heard ?h_cdSender_heard ?h_kSender_heard ?h_aInbox_init ?h_iInbox_init ?h_lInbox_init ?h_cdInbox_init ?h_kInbox_init ?h_aInbox_take ?h_iInbox_take ?h_lInbox_take ?h_cdInbox_take ?h_kInbox_take ?h_aBeat_init ?h_iBeat_init ?h_lBeat_init ?h_cdBeat_init ?h_kBeat_init ?h_aBeat_start ?h_iBeat_start ?h_lBeat_start ?h_cdBeat_start ?h_kBeat_start ?h_aBeat_stop ?h_iBeat_stop ?h_lBeat_stop ?h_cdBeat_stop ?h_kBeat_stop ?h_aBeat_hurry ?h_iBeat_hurry ?h_lBeat_hurry ?h_cdBeat_hurry ?h_kBeat_hurry ?h_aBeat_runs ?h_iBeat_runs ?h_lBeat_runs ?h_cdBeat_runs ?h_kBeat_runs ?h_aBeat_due ?h_iBeat_due ?h_lBeat_due ?h_cdBeat_due ?h_kBeat_due ?h_a_law_state ?h_l_law_state ?h_cd_law_state ?h_k_law_state ?h_a_law_draw ?h_l_law_draw ?h_cd_law_draw ?h_k_law_draw ?h_a_law_sender ?h_l_law_sender ?h_cd_law_sender ?h_k_law_sender ?h_a_law_inbox ?h_l_law_inbox ?h_cd_law_inbox ?h_k_law_inbox ?h_a_law_beat ?h_l_law_beat ?h_cd_law_beat ?h_k_law_beat ?h_a_law_full ?h_l_law_full ?h_cd_law_full ?h_k_law_full ?h_alaw ?h_llaw ?h_cdlaw ?h_klaw ?h_gMOST_MESSAGES ?h_gWINDOW ?h_gFIRST_WAIT ?h_gLONGEST_WAIT ?h_blen ?h_brange ?h_bmin ?h_babs ?h_bint ?h_bmax ?h_bstr ?h_bisinstance ?h_bbool
    (case h_cBridgeError => k_is)
    (case h_rdBridgeError => k_is)
    (case h_gaBridgeError => k_is)
    (case h_cvBridgeError => k_is)
    (case h_cRoomError => k_is)
    (case h_lkRoomError => k_is)
    (case h_saRoomError => k_is)
    (case h_exRoomError => k_is)
    (case h_tyRoomError => k_is)
    (case h_kcRoomError => k_is)
    (case h_noRoomError => k_is)
    (case h_gaRoomError => k_is)
    (case h_ggRoomError => k_is)
    (case h_hdRoomError => k_is)
    (case h_icRoomError => k_is)
    (case h_scRoomError => k_is)
    (case h_caRoomError => k_is)
    (case h_moRoomError => k_is)
    (case h_gdRoomError => k_is)
    (case h_tkRoomError => k_is)
    (case h_ibRoomErrorBridgeError => k_is)
    (case h_itRoomErrorBridgeError => k_is)
    (case h_isRoomErrorBridgeError => k_is)
    (case h_cSender => k_is)
    (case h_pgSender => k_is)
    (case h_hdSender => k_is)
    (case h_poSender => k_is)
    (case h_saSender => k_is)
    (case h_mkSender => k_is)
    (case h_kcSender => k_is)
    (case h_naSender_first => k_is)
    (case h_naSender_rows => k_is)
    (case h_naSender_said => k_is)
    (case h_cInbox => k_is)
    (case h_pgInbox => k_is)
    (case h_hdInbox => k_is)
    (case h_poInbox => k_is)
    (case h_saInbox => k_is)
    (case h_mkInbox => k_is)
    (case h_kcInbox => k_is)
    (case h_naInbox_next => k_is)
    (case h_naInbox__early => k_is)
    (case h_cBeat => k_is)
    (case h_pgBeat => k_is)
    (case h_hdBeat => k_is)
    (case h_poBeat => k_is)
    (case h_saBeat => k_is)
    (case h_mkBeat => k_is)
    (case h_kcBeat => k_is)
    (case h_naBeat_tries => k_is)
    (case h_naBeat__wait => k_is)
    (case h_naBeat__due_at => k_is)
    (case h_aRoomError_init => k_is)
    (case h_tiRoomError => k_is)
    (case h_lRoomError_init => k_is)
    (case h_cdRoomError_init => k_is)
    (case h_lcRoomError_init => k_is)
    (case h_vsRoomError_init => rfl)
    (case h_fiRoomError_init => first | rfl | decide +kernel)
    (case h_ccRoomError_init => k_is)
    (case h_czRoomError_init => k_is)
    (case h_msRoomError_init => k_is)
    (case h_suRoomError_init => k_is)
    (case h_anRoomError_init => k_is)
    (case h_spRoomError_init => ks_is)
    (case h_ivRoomError_init => k_is)
    (case h_tpRoomError_init => first | rfl | decide +kernel)
    (case h_aSender_init => k_is)
    (case h_iSender_init => k_is)
    (case h_lSender_init => k_is)
    (case h_cdSender_init => k_is)
    (case h_kSender_init => k_is)
    (case h_aSender_put => k_is)
    (case h_iSender_put => k_is)
    (case h_lSender_put => k_is)
    (case h_cdSender_put => k_is)
    (case h_kSender_put => k_is)
    (case h_aSender_numbered => k_is)
    (case h_iSender_numbered => k_is)
    (case h_lSender_numbered => k_is)
    (case h_cdSender_numbered => k_is)
    (case h_kSender_numbered => k_is)
    (case h_aSender_fresh => k_is)
    (case h_iSender_fresh => k_is)
    (case h_lSender_fresh => k_is)
    (case h_cdSender_fresh => k_is)
    (case h_kSender_fresh => k_is)
    (case h_aSender_again => k_is)
    (case h_iSender_again => k_is)
    (case h_lSender_again => k_is)
    (case h_cdSender_again => k_is)
    (case h_kSender_again => k_is)
    (case h_aSender_heard => k_is)
    (case h_iSender_heard => k_is)
    (case h_lSender_heard => k_is)
    (case h_cdSender_heard => k_is)
    (case h_kSender_heard => k_is)
    (case h_aInbox_init => k_is)
    (case h_iInbox_init => k_is)
    (case h_lInbox_init => k_is)
    (case h_cdInbox_init => k_is)
    (case h_kInbox_init => k_is)
    (case h_aInbox_take => k_is)
    (case h_iInbox_take => k_is)
    (case h_lInbox_take => k_is)
    (case h_cdInbox_take => k_is)
    (case h_kInbox_take => k_is)
    (case h_aBeat_init => k_is)
    (case h_iBeat_init => k_is)
    (case h_lBeat_init => k_is)
    (case h_cdBeat_init => k_is)
    (case h_kBeat_init => k_is)
    (case h_aBeat_start => k_is)
    (case h_iBeat_start => k_is)
    (case h_lBeat_start => k_is)
    (case h_cdBeat_start => k_is)
    (case h_kBeat_start => k_is)
    (case h_aBeat_stop => k_is)
    (case h_iBeat_stop => k_is)
    (case h_lBeat_stop => k_is)
    (case h_cdBeat_stop => k_is)
    (case h_kBeat_stop => k_is)
    (case h_aBeat_hurry => k_is)
    (case h_iBeat_hurry => k_is)
    (case h_lBeat_hurry => k_is)
    (case h_cdBeat_hurry => k_is)
    (case h_kBeat_hurry => k_is)
    (case h_aBeat_runs => k_is)
    (case h_iBeat_runs => k_is)
    (case h_lBeat_runs => k_is)
    (case h_cdBeat_runs => k_is)
    (case h_kBeat_runs => k_is)
    (case h_aBeat_due => k_is)
    (case h_iBeat_due => k_is)
    (case h_lBeat_due => k_is)
    (case h_cdBeat_due => k_is)
    (case h_kBeat_due => k_is)
    (case h_a_law_state => k_is)
    (case h_l_law_state => k_is)
    (case h_cd_law_state => k_is)
    (case h_k_law_state => k_is)
    (case h_a_law_draw => k_is)
    (case h_l_law_draw => k_is)
    (case h_cd_law_draw => k_is)
    (case h_k_law_draw => k_is)
    (case h_a_law_sender => k_is)
    (case h_l_law_sender => k_is)
    (case h_cd_law_sender => k_is)
    (case h_k_law_sender => k_is)
    (case h_a_law_inbox => k_is)
    (case h_l_law_inbox => k_is)
    (case h_cd_law_inbox => k_is)
    (case h_k_law_inbox => k_is)
    (case h_a_law_beat => k_is)
    (case h_l_law_beat => k_is)
    (case h_cd_law_beat => k_is)
    (case h_k_law_beat => k_is)
    (case h_a_law_full => k_is)
    (case h_l_law_full => k_is)
    (case h_cd_law_full => k_is)
    (case h_k_law_full => k_is)
    (case h_alaw => k_is)
    (case h_llaw => k_is)
    (case h_cdlaw => k_is)
    (case h_klaw => k_is)
    (case h_gMOST_MESSAGES => k_is)
    (case h_gWINDOW => k_is)
    (case h_gFIRST_WAIT => k_is)
    (case h_gLONGEST_WAIT => k_is)
    (case h_blen => k_is)
    (case h_brange => k_is)
    (case h_bmin => k_is)
    (case h_babs => k_is)
    (case h_bint => k_is)
    (case h_bmax => k_is)
    (case h_bstr => k_is)
    (case h_bisinstance => k_is)
    (case h_bbool => k_is)
