import PyProof.Rows.All
import Wide.All
import OpenK.AllK
import Wide.FinOn
import HandS.ForMost
import HandS.Flow
import HandS.More
import HandS.IsInst
import HandS.Wide
import HandS.Style
import HandS.FStr
import HandS.Exc
import HandS.ExcInit
import HandS.ExcOwn
import HandS.ExcField
import HandS.ExcIs
import HandS.ClsMeth
import HandS.Codes
import HandS.TryOnly
import HandS.WordsExc
import KE.KExcIs
import KE.KIsAll
import HandS.Small
import KE.KeyNested
import KE.KDictKeyed
import HandS.SortOrd
import HandS.SortRule
import HandS.Dict
import HandS.Iter
import HandS.Conv
import HandS.Deep
import KE.DataMinMax
import KE.SortData
import PySem.Challenge.RW_hangbridge_k10_links_that_were_seen
set_option Elab.async false
set_option maxRecDepth 100000
set_option maxHeartbeats 4000000
/-! A heap as what stood and what is our own; steps of readings over it. -/
namespace Hb
open PySem L2

/-- B stood and is kept; L are our own objects, each once -/
structure Hs (B : Hp) (L : List (Addr × HO)) (H : Hp) : Prop where
  same : Same B H
  nd : (L.map (·.1)).Nodup
  out : ∀ e ∈ L, B e.1 = none
  at_ : ∀ e ∈ L, H e.1 = some e.2

section
variable {B H H' : Hp} {L R A : List (Addr × HO)} {p l : Addr} {o o' : HO} {i : Nat}
theorem Hs.start (H : Hp) : Hs H [] H := ⟨Same.refl H, List.nodup_nil, (fun _ h => nomatch h), (fun _ h => nomatch h)⟩
theorem Hs.of_same (h : Same B H) : Hs B [] H := ⟨h, List.nodup_nil, (fun _ h => nomatch h), (fun _ h => nomatch h)⟩
theorem Hs.get (hs : Hs B L H) (h : L[i]? = some (p, o)) : H p = some o := hs.at_ (p, o) (List.mem_of_getElem? h)
theorem Hs.mem (hs : Hs B L H) (h : (p, o) ∈ L) : H p = some o := hs.at_ (p, o) h
theorem Hs.g0 (hs : Hs B ((p, o) :: L) H) : H p = some o := hs.get (i := 0) rfl
theorem Hs.g1 {x} (hs : Hs B (x :: (p, o) :: L) H) : H p = some o := hs.get (i := 1) rfl
theorem Hs.g2 {x y} (hs : Hs B (x :: y :: (p, o) :: L) H) : H p = some o := hs.get (i := 2) rfl
theorem Hs.g3 {x y z} (hs : Hs B (x :: y :: z :: (p, o) :: L) H) : H p = some o := hs.get (i := 3) rfl
theorem Hs.g4 {x y z w} (hs : Hs B (x :: y :: z :: w :: (p, o) :: L) H) : H p = some o := hs.get (i := 4) rfl
theorem Hs.g5 {x y z w v} (hs : Hs B (x :: y :: z :: w :: v :: (p, o) :: L) H) : H p = some o := hs.get (i := 5) rfl
theorem Hs.g6 {x y z w v u} (hs : Hs B (x :: y :: z :: w :: v :: u :: (p, o) :: L) H) : H p = some o := hs.get (i := 6) rfl
theorem Hs.g7 {x y z w v u t} (hs : Hs B (x :: y :: z :: w :: v :: u :: t :: (p, o) :: L) H) : H p = some o := hs.get (i := 7) rfl
theorem Hs.g8 {x y z w v u t s} (hs : Hs B (x :: y :: z :: w :: v :: u :: t :: s :: (p, o) :: L) H) : H p = some o := hs.get (i := 8) rfl
theorem Hs.g9 {x y z w v u t s r} (hs : Hs B (x :: y :: z :: w :: v :: u :: t :: s :: r :: (p, o) :: L) H) : H p = some o := hs.get (i := 9) rfl
theorem Hs.g10 {x y z w v u t s r q} (hs : Hs B (x :: y :: z :: w :: v :: u :: t :: s :: r :: q :: (p, o) :: L) H) : H p = some o := hs.get (i := 10) rfl
theorem Hs.g11 {x y z w v u t s r q n} (hs : Hs B (x :: y :: z :: w :: v :: u :: t :: s :: r :: q :: n :: (p, o) :: L) H) : H p = some o := hs.get (i := 11) rfl
theorem Hs.g12 {x y z w v u t s r q n m} (hs : Hs B (x :: y :: z :: w :: v :: u :: t :: s :: r :: q :: n :: m :: (p, o) :: L) H) : H p = some o := hs.get (i := 12) rfl
theorem Hs.g13 {x y z w v u t s r q n m k} (hs : Hs B (x :: y :: z :: w :: v :: u :: t :: s :: r :: q :: n :: m :: k :: (p, o) :: L) H) : H p = some o := hs.get (i := 13) rfl
theorem Hs.g14 {x y z w v u t s r q n m k j} (hs : Hs B (x :: y :: z :: w :: v :: u :: t :: s :: r :: q :: n :: m :: k :: j :: (p, o) :: L) H) : H p = some o := hs.get (i := 14) rfl
theorem Hs.g15 {x y z w v u t s r q n m k j h} (hs : Hs B (x :: y :: z :: w :: v :: u :: t :: s :: r :: q :: n :: m :: k :: j :: h :: (p, o) :: L) H) : H p = some o := hs.get (i := 15) rfl
theorem Hs.sql {K : PySem.W.Frag} {xs : List V} (hs : Hs B L H) (h : SqL K B p xs) : SqL K H p xs := hs.same.seq h
theorem Hs.old (hs : Hs B L H) (h : B p = some o) : H p = some o := hs.same _ _ h
theorem Hs.fresh (hs : Hs B L H) (h : H p = none) : p ∉ L.map (·.1) := fun m => by
  obtain ⟨e, he, rfl⟩ := List.mem_map.mp m
  rw [hs.at_ e he] at h
  cases h
/-- a new object -/
theorem Hs.new (hs : Hs B L H) (h : H p = none) : Hs B ((p, o) :: L) (upd H p o) := by
  have hf := hs.fresh h
  refine ⟨fun b u e => ?_, ?_, fun e he => ?_, fun e he => ?_⟩
  · rw [upd_ne (ne_of_none (hs.same b u e) h)]
    exact hs.same b u e
  · rw [List.map_cons, List.nodup_cons]
    exact ⟨hf, hs.nd⟩
  · rcases List.mem_cons.mp he with rfl | he
    · exact hs.same.free h
    · exact hs.out e he
  · rcases List.mem_cons.mp he with rfl | he
    · exact upd_same
    · rw [upd_ne (ne_of_none (hs.at_ e he) h)]
      exact hs.at_ e he
theorem set_fst : ∀ {L : List (Addr × HO)} {i : Nat} {p : Addr} {o o' : HO}, L[i]? = some (p, o) → (L.set i (p, o')).map (·.1) = L.map (·.1)
  | [], _, _, _, _, h => by simp at h
  | x :: L, 0, p, o, o', h => by
    have e : x = (p, o) := by simpa using h
    subst e
    rfl
  | x :: L, i + 1, p, o, o', h => by
    have := set_fst (L := L) (i := i) (o' := o') (by simpa using h)
    show _ :: ((L.set i (p, o')).map (·.1)) = _ :: L.map (·.1)
    rw [this]
theorem nd_only : ∀ {L : List (Addr × HO)} {e : Addr × HO} {i : Nat} {p : Addr} {o o' : HO}, (L.map (·.1)).Nodup → L[i]? = some (p, o) → e ∈ L.set i (p, o') → e = (p, o') ∨ (e ∈ L ∧ e.1 ≠ p)
  | [], _, _, _, _, _, _, h, _ => by simp at h
  | x :: L, e, 0, p, o, o', nd, h, m => by
    have ex : x = (p, o) := by simpa using h
    subst ex
    rcases List.mem_cons.mp m with rfl | m
    · exact .inl rfl
    · refine .inr ⟨List.mem_cons_of_mem _ m, fun q => ?_⟩
      rw [List.map_cons, List.nodup_cons] at nd
      exact nd.1 (List.mem_map.mpr ⟨e, m, q⟩)
  | x :: L, e, i + 1, p, o, o', nd, h, m => by
    rw [List.map_cons, List.nodup_cons] at nd
    have h' : L[i]? = some (p, o) := by simpa using h
    rcases List.mem_cons.mp m with rfl | m
    · refine .inr ⟨List.mem_cons_self, fun q => ?_⟩
      exact nd.1 (List.mem_map.mpr ⟨(p, o), List.mem_of_getElem? h', q.symm⟩)
    · rcases nd_only nd.2 h' m with r | ⟨r, q⟩
      · exact .inl r
      · exact .inr ⟨List.mem_cons_of_mem _ r, q⟩
/-- a store to one's own object -/
theorem Hs.put (hs : Hs B L H) (h : L[i]? = some (p, o)) : Hs B (L.set i (p, o')) (upd H p o') := by
  have hp : B p = none := hs.out (p, o) (List.mem_of_getElem? h)
  refine ⟨fun b u e => ?_, ?_, fun e he => ?_, fun e he => ?_⟩
  · have n : b ≠ p := fun q => by
      rw [q, hp] at e
      cases e
    rw [upd_ne n]
    exact hs.same b u e
  · rw [set_fst h]
    exact hs.nd
  · rcases nd_only hs.nd h he with rfl | ⟨m, _⟩
    · exact hp
    · exact hs.out e m
  · rcases nd_only hs.nd h he with rfl | ⟨m, q⟩
    · exact upd_same
    · rw [upd_ne q]
      exact hs.at_ e m
theorem Hs.p0 (o' : HO) (hs : Hs B ((p, o) :: L) H) : Hs B ((p, o') :: L) (upd H p o') := hs.put (i := 0) rfl
theorem Hs.p1 (o' : HO) {x} (hs : Hs B (x :: (p, o) :: L) H) : Hs B (x :: (p, o') :: L) (upd H p o') := hs.put (i := 1) rfl
theorem Hs.p2 (o' : HO) {x y} (hs : Hs B (x :: y :: (p, o) :: L) H) : Hs B (x :: y :: (p, o') :: L) (upd H p o') := hs.put (i := 2) rfl
theorem Hs.p3 (o' : HO) {x y z} (hs : Hs B (x :: y :: z :: (p, o) :: L) H) : Hs B (x :: y :: z :: (p, o') :: L) (upd H p o') := hs.put (i := 3) rfl
theorem Hs.p4 (o' : HO) {x y z w} (hs : Hs B (x :: y :: z :: w :: (p, o) :: L) H) : Hs B (x :: y :: z :: w :: (p, o') :: L) (upd H p o') := hs.put (i := 4) rfl
theorem Hs.p5 (o' : HO) {x y z w v} (hs : Hs B (x :: y :: z :: w :: v :: (p, o) :: L) H) : Hs B (x :: y :: z :: w :: v :: (p, o') :: L) (upd H p o') := hs.put (i := 5) rfl
theorem Hs.p6 (o' : HO) {x y z w v u} (hs : Hs B (x :: y :: z :: w :: v :: u :: (p, o) :: L) H) : Hs B (x :: y :: z :: w :: v :: u :: (p, o') :: L) (upd H p o') := hs.put (i := 6) rfl
theorem Hs.p7 (o' : HO) {x y z w v u t} (hs : Hs B (x :: y :: z :: w :: v :: u :: t :: (p, o) :: L) H) : Hs B (x :: y :: z :: w :: v :: u :: t :: (p, o') :: L) (upd H p o') := hs.put (i := 7) rfl
/-- L with o' in the place of o at p -/
inductive Put : List (Addr × HO) → Addr → HO → HO → List (Addr × HO) → Prop
  | here {p : Addr} {o o' : HO} {L : List (Addr × HO)} : Put ((p, o) :: L) p o o' ((p, o') :: L)
  | there {p : Addr} {o o' : HO} {x : Addr × HO} {L L' : List (Addr × HO)} : Put L p o o' L' → Put (x :: L) p o o' (x :: L')
theorem Put.ix {L' : List (Addr × HO)} (h : Put L p o o' L') : ∃ i : Nat, L[i]? = some (p, o) ∧ L' = L.set i (p, o') := by
  induction h with
  | here => exact ⟨0, rfl, rfl⟩
  | there _ ih =>
    obtain ⟨i, h1, h2⟩ := ih
    exact ⟨i + 1, by simpa using h1, by rw [h2]; rfl⟩
theorem Hs.puts {L' : List (Addr × HO)} (hs : Hs B L H) (h : Put L p o o' L') : Hs B L' (upd H p o') := by
  obtain ⟨i, h1, rfl⟩ := h.ix
  exact hs.put h1
theorem Hs.gets {L' : List (Addr × HO)} (hs : Hs B L H) (h : Put L p o o' L') : H p = some o := by
  obtain ⟨i, h1, _⟩ := h.ix
  exact hs.get h1
/-- any part of our own, in any order -/
theorem Hs.sub (hs : Hs B L H) (h : R.Sublist L) : Hs B R H :=
  ⟨hs.same, hs.nd.sublist (h.map _), fun e he => hs.out e (h.subset he), fun e he => hs.at_ e (h.subset he)⟩
theorem Hs.perm (hs : Hs B L H) (h : R.Perm L) : Hs B R H :=
  ⟨hs.same, (h.map (·.1)).nodup_iff.mpr hs.nd, fun e he => hs.out e (h.subset he), fun e he => hs.at_ e (h.subset he)⟩
theorem Hs.tl {x} (hs : Hs B (x :: L) H) : Hs B L H := hs.sub (List.sublist_cons_self _ _)
/-- the i-th ahead -/
theorem up_perm : ∀ {L : List (Addr × HO)} {i : Nat} {x : Addr × HO}, L[i]? = some x → (x :: L.eraseIdx i).Perm L
  | [], _, _, h => by simp at h
  | y :: L, 0, x, h => by
    have e : y = x := by simpa using h
    subst e
    exact .refl _
  | y :: L, i + 1, x, h => (List.Perm.swap y x _).trans ((up_perm (L := L) (i := i) (by simpa using h)).cons y)
theorem Hs.up (i : Nat) (hs : Hs B L H) {x} (h : L[i]? = some x := by rfl) : Hs B (x :: L.eraseIdx i) H := by
  exact hs.perm (up_perm h)
theorem Hs.del (i : Nat) (hs : Hs B L H) : Hs B (L.eraseIdx i) H := hs.sub (List.eraseIdx_sublist _ _)
theorem Hs.m1 {a b} (hs : Hs B (a :: b :: L) H) : Hs B (b :: a :: L) H := hs.up 1
theorem Hs.m2 {a b c} (hs : Hs B (a :: b :: c :: L) H) : Hs B (c :: a :: b :: L) H := hs.up 2
theorem Hs.m3 {a b c d} (hs : Hs B (a :: b :: c :: d :: L) H) : Hs B (d :: a :: b :: c :: L) H := hs.up 3
theorem Hs.m4 {a b c d e} (hs : Hs B (a :: b :: c :: d :: e :: L) H) : Hs B (e :: a :: b :: c :: d :: L) H := hs.up 4
theorem Hs.m5 {a b c d e f} (hs : Hs B (a :: b :: c :: d :: e :: f :: L) H) : Hs B (f :: a :: b :: c :: d :: e :: L) H := hs.up 5
theorem Hs.m6 {a b c d e f g} (hs : Hs B (a :: b :: c :: d :: e :: f :: g :: L) H) : Hs B (g :: a :: b :: c :: d :: e :: f :: L) H := hs.up 6
theorem Hs.m7 {a b c d e f g h} (hs : Hs B (a :: b :: c :: d :: e :: f :: g :: h :: L) H) : Hs B (h :: a :: b :: c :: d :: e :: f :: g :: L) H := hs.up 7
theorem Hs.d1 {a b} (hs : Hs B (a :: b :: L) H) : Hs B (a :: L) H := hs.del 1
theorem Hs.d2 {a b c} (hs : Hs B (a :: b :: c :: L) H) : Hs B (a :: b :: L) H := hs.del 2
theorem Hs.d3 {a b c d} (hs : Hs B (a :: b :: c :: d :: L) H) : Hs B (a :: b :: c :: L) H := hs.del 3
theorem Hs.d4 {a b c d e} (hs : Hs B (a :: b :: c :: d :: e :: L) H) : Hs B (a :: b :: c :: d :: L) H := hs.del 4
theorem Hs.d5 {a b c d e f} (hs : Hs B (a :: b :: c :: d :: e :: f :: L) H) : Hs B (a :: b :: c :: d :: e :: L) H := hs.del 5
theorem Hs.d6 {a b c d e f g} (hs : Hs B (a :: b :: c :: d :: e :: f :: g :: L) H) : Hs B (a :: b :: c :: d :: e :: f :: L) H := hs.del 6
theorem sel_mem {idx : List Nat} {e : Addr × HO} (h : e ∈ idx.filterMap (fun i => L[i]?)) : ∃ i ∈ idx, L[i]? = some e := by
  obtain ⟨i, hi, e⟩ := List.mem_filterMap.mp h
  exact ⟨i, hi, e⟩
theorem sel_nd (nd : (L.map (·.1)).Nodup) : ∀ {idx : List Nat}, idx.Nodup → ((idx.filterMap (fun i => L[i]?)).map (·.1)).Nodup
  | [], _ => List.nodup_nil
  | i :: idx, h => by
    rw [List.nodup_cons] at h
    rw [List.filterMap_cons]
    cases e : L[i]? with
    | none => exact sel_nd nd h.2
    | some x =>
      rw [List.map_cons, List.nodup_cons]
      refine ⟨fun m => ?_, sel_nd nd h.2⟩
      obtain ⟨y, hy, q⟩ := List.mem_map.mp m
      obtain ⟨j, hj, ej⟩ := sel_mem hy
      have a : (L.map (·.1))[i]? = some x.1 := by rw [List.getElem?_map, e]; rfl
      have b : (L.map (·.1))[j]? = some x.1 := by rw [List.getElem?_map, ej]; exact congrArg some q
      rw [nd_ix nd a b] at h
      exact h.1 hj
/-- some of our own, by places -/
theorem Hs.sel (hs : Hs B L H) (idx : List Nat) (h : idx.Nodup := by decide) : Hs B (idx.filterMap (fun i => L[i]?)) H :=
  ⟨hs.same, sel_nd hs.nd h, fun e he => by
    obtain ⟨i, _, q⟩ := sel_mem he
    exact hs.out e (List.mem_of_getElem? q), fun e he => by
    obtain ⟨i, _, q⟩ := sel_mem he
    exact hs.at_ e (List.mem_of_getElem? q)⟩
/-- a callee that owns A; what else is ours stands for it -/
def around (A : List (Addr × HO)) (H : Hp) : Hp := fun a => if a ∈ A.map (·.1) then none else H a
theorem around_out {a : Addr} (h : a ∉ A.map (·.1)) : around A H a = H a := if_neg h
theorem Hs.frame (A : List (Addr × HO)) (hs : Hs B (A ++ R) H) : Same B (around A H) ∧ Hs (around A H) A H ∧ ∀ A' H', Hs (around A H) A' H' → Hs B (A' ++ R) H' := by
  have nd := hs.nd
  rw [List.map_append, List.nodup_append] at nd
  obtain ⟨n1, n2, n3⟩ := nd
  have sb : Same B (around A H) := fun b u e => by
    rw [around_out fun m => ?_]
    · exact hs.same b u e
    · obtain ⟨z, hz, rfl⟩ := List.mem_map.mp m
      rw [hs.out z (List.mem_append_left _ hz)] at e
      cases e
  refine ⟨sb, ⟨fun b u e => ?_, n1, fun e he => if_pos (List.mem_map.mpr ⟨e, he, rfl⟩), fun e he => hs.at_ e (List.mem_append_left _ he)⟩, fun A' H' h => ?_⟩
  · unfold around at e
    split at e
    · cases e
    · exact e
  · have fr : ∀ e ∈ R, around A H e.1 = some e.2 := fun e he => by
      rw [around_out fun m => n3 _ m _ (List.mem_map.mpr ⟨e, he, rfl⟩) rfl]
      exact hs.at_ e (List.mem_append_right _ he)
    refine ⟨fun b u e => h.same b u (sb b u e), ?_, fun e he => ?_, fun e he => ?_⟩
    · rw [List.map_append, List.nodup_append]
      refine ⟨h.nd, n2, fun a ha b hb q => ?_⟩
      subst q
      obtain ⟨x, hx, rfl⟩ := List.mem_map.mp ha
      obtain ⟨y, hy, q⟩ := List.mem_map.mp hb
      have h1 := h.out x hx
      have h2 := fr y hy
      rw [q, h1] at h2
      cases h2
    · rcases List.mem_append.mp he with he | he
      · exact sb.free (h.out e he)
      · exact hs.out e (List.mem_append_right _ he)
    · rcases List.mem_append.mp he with he | he
      · exact h.at_ e he
      · exact h.same _ _ (fr e he)
theorem Hs.frame1 {x} (hs : Hs B (x :: R) H) : ∃ B', Same B B' ∧ Hs B' [x] H ∧ ∀ A' H', Hs B' A' H' → Hs B (A' ++ R) H' := ⟨_, hs.frame [x]⟩
theorem Hs.frame2 {x y} (hs : Hs B (x :: y :: R) H) : ∃ B', Same B B' ∧ Hs B' [x, y] H ∧ ∀ A' H', Hs B' A' H' → Hs B (A' ++ R) H' := ⟨_, hs.frame [x, y]⟩
theorem Hs.frame3 {x y z} (hs : Hs B (x :: y :: z :: R) H) : ∃ B', Same B B' ∧ Hs B' [x, y, z] H ∧ ∀ A' H', Hs B' A' H' → Hs B (A' ++ R) H' := ⟨_, hs.frame [x, y, z]⟩
theorem Hs.frame4 {x y z w} (hs : Hs B (x :: y :: z :: w :: R) H) : ∃ B', Same B B' ∧ Hs B' [x, y, z, w] H ∧ ∀ A' H', Hs B' A' H' → Hs B (A' ++ R) H' := ⟨_, hs.frame [x, y, z, w]⟩
theorem Hs.frame5 {x y z w v} (hs : Hs B (x :: y :: z :: w :: v :: R) H) : ∃ B', Same B B' ∧ Hs B' [x, y, z, w, v] H ∧ ∀ A' H', Hs B' A' H' → Hs B (A' ++ R) H' := ⟨_, hs.frame [x, y, z, w, v]⟩
theorem Hs.frame6 {x y z w v u} (hs : Hs B (x :: y :: z :: w :: v :: u :: R) H) : ∃ B', Same B B' ∧ Hs B' [x, y, z, w, v, u] H ∧ ∀ A' H', Hs B' A' H' → Hs B (A' ++ R) H' := ⟨_, hs.frame [x, y, z, w, v, u]⟩
/-- a callee that only makes objects -/
theorem Hs.add {N : List (Addr × HO)} (hs : Hs B L H) (h : Hs H N H') : Hs B (N ++ L) H' := by
  refine ⟨fun b u e => h.same b u (hs.same b u e), ?_, fun e he => ?_, fun e he => ?_⟩
  · rw [List.map_append, List.nodup_append]
    refine ⟨h.nd, hs.nd, fun a ha b hb q => ?_⟩
    subst q
    obtain ⟨x, hx, rfl⟩ := List.mem_map.mp ha
    obtain ⟨y, hy, q⟩ := List.mem_map.mp hb
    have h1 := h.out x hx
    have h2 := hs.at_ y hy
    rw [q, h1] at h2
    cases h2
  · rcases List.mem_append.mp he with he | he
    · exact hs.same.free (h.out e he)
    · exact hs.out e he
  · rcases List.mem_append.mp he with he | he
    · exact h.at_ e he
    · exact h.same _ _ (hs.at_ e he)
/-- a new object that nobody changes any more: it stands -/
theorem Hs.freeze (hs : Hs B ((p, o) :: L) H) : Same B (upd B p o) ∧ Hs (upd B p o) L H := by
  have hp := hs.out (p, o) List.mem_cons_self
  have nd := hs.nd
  rw [List.map_cons, List.nodup_cons] at nd
  refine ⟨fun b u e => ?_, ⟨fun b u e => ?_, nd.2, fun e he => ?_, fun e he => hs.at_ e (List.mem_cons_of_mem _ he)⟩⟩
  · rw [upd_ne (ne_of_none e hp)]
    exact e
  · unfold upd at e
    split at e
    · next q =>
      subst q
      cases e
      exact hs.g0
    · exact hs.same b u e
  · have n : e.1 ≠ p := fun q => nd.1 (by rw [← q]; exact List.mem_map.mpr ⟨e, he, rfl⟩)
    rw [upd_ne n]
    exact hs.out e (List.mem_cons_of_mem _ he)
end

/-! ### steps: a reading's head, what is left -/
section
variable {K : PySem.W.Frag} {σ : St} {H : Hp} {Q : VK} {D : Ends} {ta tb tc te tv to ti : TE} {t u tr : TS} {c d : TT} {r r' : R2} {g : TG} {i : Nat} {v x y : V} {E : XK} {ts : TA} {f m : Str} {p : Addr}
theorem w_var (h : σ[i]? = some (some v)) (q : Q v H) : tVar i σ H Q := ⟨v, h, q⟩
theorem w_c (q : Q v H) : tC v σ H Q := q
theorem w_seq (q : t { D with nx := u D } σ H) : tSeq t u D σ H := q
theorem w_next (q : D.nx σ H) : tNext D σ H := q
theorem w_brk (q : D.bk σ H) : tBreak D σ H := q
theorem w_cont (q : D.ct σ H) : tCont D σ H := q
theorem w_drop (q : te σ H fun _ H1 => D.nx σ H1) : tDrop te D σ H := q
theorem w_ret (q : te σ H D.rt) : tRet te D σ H := q
theorem w_retN (q : D.rt .non H) : tRetN D σ H := q
theorem w_asg (q : te σ H fun x H1 => g x σ H1 D.nx) : tAsg te g D σ H := q
theorem w_name {Q : St → Hp → Prop} (q : Q (σ.set i (some v)) H) : gName i v σ H Q := q
theorem w_if (q : c σ H fun b H1 => if b = true then t D σ H1 else u D σ H1) : tIfS c t u D σ H := q
theorem w_test {Q : Bool → Hp → Prop} (q : te σ H fun x H1 => ∃ k, x = .bl k ∧ Q k H1) : tTest te σ H Q := q
theorem w_B {Q : Bool → Hp → Prop} (q : te σ H fun x H1 => ∃ k, x = .bl k ∧ Q k H1) : tB te σ H Q := q
theorem w_exb {b : Bool} {P : Bool → Prop} (q : P b) : ∃ k, V.bl b = .bl k ∧ P k := ⟨b, rfl, q⟩
theorem w_not {Q : Bool → Hp → Prop} (q : c σ H fun b H1 => Q (!b) H1) : tNot c σ H Q := q
theorem w_and {Q : Bool → Hp → Prop} (q : c σ H fun b H1 => if b = true then d σ H1 Q else Q false H1) : tAnd c d σ H Q := q
theorem w_or {Q : Bool → Hp → Prop} (q : c σ H fun b H1 => if b = true then Q true H1 else d σ H1 Q) : tOr c d σ H Q := q
theorem w_andV (q : ta σ H fun x H1 => ∃ k, x = .bl k ∧ if k = true then tb σ H1 Q else Q (.bl false) H1) : tAndV ta tb σ H Q := q
theorem w_orV (q : ta σ H fun x H1 => ∃ k, x = .bl k ∧ if k = true then Q (.bl true) H1 else tb σ H1 Q) : tOrV ta tb σ H Q := q
theorem w_notV (q : ta σ H fun x H1 => ∃ k, x = .bl k ∧ Q (.bl (!k)) H1) : tNotV ta σ H Q := q
theorem w_ifE (q : c σ H fun b H1 => if b = true then ta σ H1 Q else tb σ H1 Q) : tIf c ta tb σ H Q := q
theorem w_op (q : ta σ H fun x H1 => tb σ H1 fun y H2 => r x y H2 Q) : tOp r ta tb σ H Q := q
theorem w_un {r : V → Hp → VK → Prop} (q : ta σ H fun x H1 => r x H1 Q) : tUn r ta σ H Q := q
theorem w_chain (q : ta σ H fun x H1 => tb σ H1 fun y H2 => r x y H2 fun z H3 => ∃ k, z = .bl k ∧ if k = true then tc σ H3 fun w H4 => r' y w H4 Q else Q (.bl false) H3) : tChain r r' ta tb tc σ H Q := q
theorem w_I0 {g : Int → Int → V} {a b : Int} (q : Q (g a b) H) : rI0 g (.int a) (.int b) H Q := ⟨a, b, rfl, rfl, q⟩
theorem w_I {C : Int → Int → Prop} {g : Int → Int → V} {a b : Int} (h : C a b) (q : Q (g a b) H) : rI C g (.int a) (.int b) H Q := ⟨a, b, rfl, rfl, h, q⟩
theorem w_U {g : Int → V} {a : Int} (q : Q (g a) H) : rU g (.int a) H Q := ⟨a, rfl, q⟩
theorem w_eqI {a b : Int} (q : Q (.bl (decide (a = b))) H) : rEq (.int a) (.int b) H Q := ⟨rfl, by
  have e : decide (V.int a = V.int b) = decide (a = b) := by
    rw [dec_int]
    by_cases h : a = b
    · rw [decide_eq_true h]
      exact beq_iff_eq.mpr h
    · rw [decide_eq_false h]
      exact beq_eq_false_iff_ne.mpr h
  rw [e]
  exact q⟩
theorem w_neI {a b : Int} (q : Q (.bl (!decide (a = b))) H) : rNe (.int a) (.int b) H Q := ⟨rfl, by
  have e : decide (V.int a = V.int b) = decide (a = b) := by
    rw [dec_int]
    by_cases h : a = b
    · rw [decide_eq_true h]
      exact beq_iff_eq.mpr h
    · rw [decide_eq_false h]
      exact beq_eq_false_iff_ne.mpr h
  rw [e]
  exact q⟩
theorem w_eq (h : scal x y = true) (q : Q (.bl (decide (x = y))) H) : rEq x y H Q := ⟨h, q⟩
theorem w_ne (h : scal x y = true) (q : Q (.bl (!decide (x = y))) H) : rNe x y H Q := ⟨h, q⟩
theorem w_ixL {xs : List V} {j : Int} (h : SqL K H p xs) (a : atI xs j = some v) (q : Q v H) : rIxL K (.ref p) (.int j) H Q := ⟨p, xs, j, v, rfl, rfl, h, a, q⟩
theorem w_ixT {xs : List V} {j : Int} (h : SqT K H p xs) (a : atI xs j = some v) (q : Q v H) : rIxT K (.ref p) (.int j) H Q := ⟨p, xs, j, v, rfl, rfl, h, a, q⟩
theorem at0 {x : V} {xs : List V} : atI (x :: xs) 0 = some x := at_of (j := 0) rfl rfl
theorem at1 {x y : V} {xs : List V} : atI (x :: y :: xs) 1 = some y := at_of (j := 1) rfl rfl
theorem at2 {x y z : V} {xs : List V} : atI (x :: y :: z :: xs) 2 = some z := at_of (j := 2) rfl rfl
theorem at3 {x y z u : V} {xs : List V} : atI (x :: y :: z :: u :: xs) 3 = some u := at_of (j := 3) rfl rfl
/-- a field's value -/
def Fl (K : PySem.W.Frag) (f : Str) (x : V) (H : Hp) (Q : VK) : Prop := ∃ a C dx fs v, x = .ref a ∧ H a = some (.ins C dx fs) ∧ Cls K C ∧ NoAttr K C f ∧ fs.lookup f = some v ∧ Q v H
theorem w_fld (q : ta σ H fun x H1 => Fl K f x H1 Q) : tFld K ta f σ H Q := q
theorem w_fl {C dx : Addr} {fs : List (Str × V)} (h : H p = some (.ins C dx fs)) (hc : Cls K C) (hn : NoAttr K C f) (hl : fs.lookup f = some v) (q : Q v H) : Fl K f (.ref p) H Q := ⟨p, C, dx, fs, v, rfl, h, hc, hn, hl, q⟩
/-- a field's store -/
def Fs (K : PySem.W.Frag) (f : Str) (y x : V) (H : Hp) (R : Hp → Prop) : Prop := ∃ a C dx fs, x = .ref a ∧ H a = some (.ins C dx fs) ∧ Cls K C ∧ NoAttr K C f ∧ fs.length < 1000 ∧ R (upd H a (.ins C dx (putF f y fs)))
theorem w_sfld (q : tv σ H fun y H1 => ta σ H1 fun x H2 => Fs K f y x H2 (D.nx σ)) : sFld K ta tv f D σ H := q
theorem w_fs {R : Hp → Prop} {C dx : Addr} {fs : List (Str × V)} (h : H p = some (.ins C dx fs)) (hc : Cls K C) (hn : NoAttr K C f) (hl : fs.length < 1000) (q : R (upd H p (.ins C dx (putF f y fs)))) : Fs K f y (.ref p) H R := ⟨p, C, dx, fs, rfl, h, hc, hn, hl, q⟩
theorem lk0 {k : Str} {v : V} {r : List (Str × V)} : ((k, v) :: r).lookup k = some v := by simp [List.lookup]
theorem lk1 {k k' : Str} {v w : V} {r : List (Str × V)} (h : ¬ k = k') (q : r.lookup k = some w) : ((k', v) :: r).lookup k = some w := by
  have e : (k == k') = false := beq_eq_false_iff_ne.mpr h
  show (match k == k' with | true => some v | false => List.lookup k r) = some w
  rw [e]
  exact q
theorem lkn {k k' : Str} {v : V} {r : List (Str × V)} (h : ¬ k = k') (q : r.lookup k = none) : ((k', v) :: r).lookup k = none := by
  have e : (k == k') = false := beq_eq_false_iff_ne.mpr h
  show (match k == k' with | true => some v | false => List.lookup k r) = none
  rw [e]
  exact q
theorem lke {k : Str} : ([] : List (Str × V)).lookup k = none := rfl
theorem pu0 {k : Str} {v w : V} {r : List (Str × V)} : putF k w ((k, v) :: r) = (k, w) :: r := by
  show (if k = k then _ else _) = _
  rw [if_pos rfl]
theorem pu1 {k k' : Str} {v w : V} {r : List (Str × V)} (h : ¬ k' = k) : putF k w ((k', v) :: r) = (k', v) :: putF k w r := by
  show (if k' = k then _ else _) = _
  rw [if_neg h]
theorem pu2 {k k' : Str} {v w : V} {r r' : List (Str × V)} (h : ¬ k' = k) (q : putF k w r = r') : putF k w ((k', v) :: r) = (k', v) :: r' := by
  rw [pu1 h, q]
theorem pue {k : Str} {w : V} : putF k w [] = [(k, w)] := rfl
theorem w_yes {Q : Bool → Hp → Prop} (q : Q true H) : tYes σ H Q := q
theorem w_nil {Q : List V → Hp → Prop} (q : Q [] H) : tNil σ H Q := q
theorem w_cons {Q : List V → Hp → Prop} (q : ta σ H fun x H1 => ts σ H1 fun xs H2 => Q (x :: xs) H2) : tCons ta ts σ H Q := q
theorem w_cb {r : List V → Hp → VK → Prop} (q : ts σ H fun vs H1 => r vs H1 Q) : tCB r ts σ H Q := q
theorem w_call {sp : Sp} {dvs : List V} (q : ts σ H fun vs H1 => sp (vs ++ dvs) H1 Q E) : tCall sp dvs E ts σ H Q := q
/-- a new instance -/
def Mkr (C : Addr) (sp : Sp) (vs : List V) (E : XK) (Q : VK) (H : Hp) : Prop := ∀ x dx, H x = none → H dx = none → dx ≠ x → sp (.ref x :: vs) (upd (upd H dx (.own x)) x (.ins C dx [])) (fun v H2 => v = .non ∧ Q (.ref x) H2) E
theorem w_make {C : Addr} {sp : Sp} {dvs : List V} (q : ts σ H fun vs H1 => Mkr C sp (vs ++ dvs) E Q H1) : tMake C sp dvs E ts σ H Q := q
theorem w_mkr {C : Addr} {sp : Sp} {vs : List V} {B : Hp} {L : List (Addr × HO)} (hs : Hs B L H) (q : ∀ x dx H', Hs B ((x, .ins C dx []) :: L) H' → sp (.ref x :: vs) H' (fun v H2 => v = .non ∧ Q (.ref x) H2) E) : Mkr C sp vs E Q H := fun x dx hx hd ne =>
  q x dx _ ((hs.new hd).new (p := x) (by rw [upd_ne ne.symm]; exact hx)).d1
/-- an own method's receiver -/
def Rc (m : Str) (C : Addr) (x : V) (H : Hp) (R : Prop) : Prop := ∃ a dx fs, x = .ref a ∧ H a = some (.ins C dx fs) ∧ fs.lookup m = none ∧ R
theorem w_meth {C : Addr} {sp : Sp} {dvs : List V} (q : ta σ H fun x H1 => Rc m C x H1 (ts σ H1 fun vs H2 => sp (x :: (vs ++ dvs)) H2 Q E)) : tMeth C m sp dvs E ta ts σ H Q := by
  revert q
  unfold tMeth Rc
  exact id
theorem w_rc {C dx : Addr} {fs : List (Str × V)} {R : Prop} (h : H p = some (.ins C dx fs)) (hl : fs.lookup m = none) (q : R) : Rc m C (.ref p) H R := ⟨p, dx, fs, rfl, h, hl, q⟩
theorem w_bm {T : String} {r : V → List V → Hp → VK → Prop} (q : to σ H fun x H1 => tyV K T x H1 ∧ ts σ H1 fun xs H2 => r x xs H2 Q) : tBM K T r to ts σ H Q := q
theorem w_bm0 {T : String} {r : V → List V → Hp → VK → Prop} (q : to σ H fun x H1 => tyV K T x H1 ∧ r x [] H1 Q) : tBM0 K T r to σ H Q := q
theorem w_tyL {xs : List V} {R : Prop} (h : SqL K H p xs) (q : R) : tyV K "list" (.ref p) H ∧ R := ⟨.inl ⟨rfl, _, h⟩, q⟩
theorem w_tyS {s : Str} {R : Prop} (q : R) : tyV K "str" (.str s) H ∧ R := ⟨rfl, q⟩
/-- a new list, a new tuple -/
def NewL (Q : VK) (xs : List V) (H : Hp) : Prop := xs.length ≤ sizeLine ∧ ∀ p, H p = none → Q (.ref p) (upd H p (.lst xs))
def NewT (Q : VK) (xs : List V) (H : Hp) : Prop := xs.length ≤ sizeLine ∧ ∀ p, H p = none → Q (.ref p) (upd H p (.tup xs))
theorem w_tup (q : ts σ H fun xs H1 => NewT Q xs H1) : tTup ts σ H Q := q
theorem w_lst (q : ts σ H fun xs H1 => NewL Q xs H1) : tLst ts σ H Q := q
theorem w_new {B : Hp} {L : List (Addr × HO)} {o : HO} (hs : Hs B L H) (q : ∀ p H', Hs B ((p, o) :: L) H' → Q (.ref p) H') : ∀ p, H p = none → Q (.ref p) (upd H p o) := fun p hp => q p _ (hs.new hp)
theorem w_newL {B : Hp} {L : List (Addr × HO)} {xs : List V} (hs : Hs B L H) (hl : xs.length ≤ sizeLine) (q : ∀ p H', Hs B ((p, .lst xs) :: L) H' → Q (.ref p) H') : NewL Q xs H := ⟨hl, w_new hs q⟩
theorem w_newT {B : Hp} {L : List (Addr × HO)} {xs : List V} (hs : Hs B L H) (hl : xs.length ≤ sizeLine) (q : ∀ p H', Hs B ((p, .tup xs) :: L) H' → Q (.ref p) H') : NewT Q xs H := ⟨hl, w_new hs q⟩
theorem w_sl {r : V → Option Int → Option Int → Hp → VK → Prop} {tl th : TO} (q : te σ H fun x H1 => tl σ H1 fun l H2 => th σ H2 fun u H3 => r x l u H3 Q) : tSl r te tl th σ H Q := q
theorem w_noPart {Q : Option Int → Hp → Prop} (q : Q none H) : tNoPart σ H Q := q
theorem w_part {Q : Option Int → Hp → Prop} (q : te σ H fun x H1 => ∃ i, x = .int i ∧ Q (some i) H1) : tPart te σ H Q := q
theorem w_exi {b : Int} {P : Int → Prop} (q : P b) : ∃ k, V.int b = .int k ∧ P k := ⟨b, rfl, q⟩
theorem w_slL {B : Hp} {L : List (Addr × HO)} {xs : List V} {lo hi : Option Int} (hs : Hs B L H) (h : SqL K H p xs) (q : ∀ l H', Hs B ((l, .lst (cutV xs lo hi)) :: L) H' → Q (.ref l) H') : rSlL K (.ref p) lo hi H Q := ⟨p, xs, rfl, h, w_new hs q⟩
theorem w_cat {B : Hp} {L : List (Addr × HO)} {a b : Addr} {xs ys : List V} (hs : Hs B L H) (ha : H a = some (.lst xs)) (hb : H b = some (.lst ys)) (hl : xs.length + ys.length ≤ sizeLine) (q : ∀ l H', Hs B ((l, .lst (xs ++ ys)) :: L) H' → Q (.ref l) H') : rCat (.ref a) (.ref b) H Q :=
  ⟨a, b, xs, ys, rfl, rfl, ha, hb, hl, w_new hs q⟩
/-! #### calls of built-ins -/
def rLen (K : PySem.W.Frag) : List V → Hp → VK → Prop := fun xs H Q => ∃ p ys, xs = [.ref p] ∧ (SqL K H p ys ∨ SqT K H p ys) ∧ Q (.int ys.length) H
theorem call_lenQ {X : Cx} : CallR X (.builtin "len") (rLen X.K) := call_len_seq
theorem w_len {xs : List V} (h : SqL K H p xs) (q : Q (.int xs.length) H) : rLen K [.ref p] H Q := ⟨p, xs, rfl, .inl h, q⟩
theorem w_lenT {xs : List V} (h : SqT K H p xs) (q : Q (.int xs.length) H) : rLen K [.ref p] H Q := ⟨p, xs, rfl, .inr h, q⟩
def rAbs : List V → Hp → VK → Prop := fun xs H Q => ∃ i, xs = [.int i] ∧ Q (.int (if i < 0 then -i else i)) H
theorem call_absQ {X : Cx} : CallR X (.builtin "abs") rAbs := call_abs
theorem w_abs {a : Int} (q : Q (.int (if a < 0 then -a else a)) H) : rAbs [.int a] H Q := ⟨a, rfl, q⟩
def rInt : List V → Hp → VK → Prop := fun xs H Q => (∃ i, xs = [.int i] ∧ Q (.int i) H) ∨ ∃ k, xs = [.bl k] ∧ Q (.int (if k then 1 else 0)) H
theorem call_intQ {X : Cx} : CallR X (.type "int") rInt := call_int1
theorem w_int {a : Int} (q : Q (.int a) H) : rInt [.int a] H Q := .inl ⟨a, rfl, q⟩
theorem w_intB {b : Bool} (q : Q (.int (if b then 1 else 0)) H) : rInt [.bl b] H Q := .inr ⟨b, rfl, q⟩
def rStr : List V → Hp → VK → Prop := fun xs H Q => ∃ i, xs = [.int i] ∧ i.natAbs.log2 < 1920 ∧ Q (.str (toString i)) H
theorem call_strQ {X : Cx} : CallR X (.type "str") rStr := call_str_int
theorem w_str {a : Int} (h : a.natAbs < 2 ^ 64) (q : Q (.str (toString a)) H) : rStr [.int a] H Q := ⟨a, rfl, Nat.lt_of_lt_of_le (PySem.Flt.log2_lt_of (by decide) h) (by decide), q⟩
def rAddS : R2 := fun x y H Q => ∃ i j, x = .str i ∧ y = .str j ∧ i.length + j.length ≤ sizeLine ∧ Q (.str (i ++ j)) H
theorem op_addS {X : Cx} : OpR X (binaryOp .Add) rAddS := op_add_str
theorem w_addS {a b : Str} (h : a.length + b.length ≤ sizeLine) (q : Q (.str (a ++ b)) H) : rAddS (.str a) (.str b) H Q := ⟨a, b, rfl, rfl, h, q⟩
/-! #### methods of lists -/
section
variable {B : Hp} {L L' : List (Addr × HO)} {l : Addr} {xs : List V}
theorem w_app (hs : Hs B L H) (h : Put L l (.lst xs) (.lst (xs ++ [y])) L') (hl : xs.length < sizeLine) (q : ∀ H', Hs B L' H' → Q .non H') : rAppend (.ref l) [y] H Q := ⟨l, xs, y, rfl, rfl, hs.gets h, hl, q _ (hs.puts h)⟩
theorem w_clear (hs : Hs B L H) (h : Put L l (.lst xs) (.lst []) L') (q : ∀ H', Hs B L' H' → Q .non H') : rClear (.ref l) [] H Q := ⟨l, xs, rfl, rfl, hs.gets h, q _ (hs.puts h)⟩
theorem six_nat {n k : Nat} {j : Int} (e : j = (k : Int)) (h : k < n) : seqIndex? j n = some k := by
  subst e
  unfold seqIndex?
  have h1 : ¬ (k : Int) < 0 := by omega
  have h2 : (k : Int) < (n : Int) := by omega
  simp only [if_neg h1]
  simp [h2]
theorem w_popAt {k : Nat} {j : Int} (hs : Hs B L H) (h : Put L l (.lst xs) (.lst (xs.eraseIdx k)) L') (e : j = (k : Int)) (hk : xs[k]? = some y) (hz : xs.length ≤ sizeLine) (q : ∀ H', Hs B L' H' → Q y H') : rPopAt (.ref l) [.int j] H Q := by
  have hk' := (List.getElem?_eq_some_iff.mp hk).1
  have h63 := line63
  refine ⟨l, xs, j, k, y, rfl, rfl, hs.gets h, by omega, ?_, six_nat e hk', hk, q _ (hs.puts h)⟩
  have : xs.length < 2 ^ 63 := Nat.lt_of_le_of_lt hz h63
  omega
def rInsert : V → List V → Hp → VK → Prop := fun x vs H Q => ∃ (l : Addr) (xs : List V) (i : Int) (y : V), x = .ref l ∧ vs = [.int i, y] ∧ H l = some (.lst xs) ∧ xs.length < sizeLine ∧ 0 ≤ i ∧ i < 2 ^ 63 ∧ Q .non (upd H l (.lst (xs.take i.toNat ++ [y] ++ xs.drop i.toNat)))
theorem mt_insertQ {X : Cx} : MtR X "list.insert" rInsert := mt_insert
theorem w_insert0 (hs : Hs B L H) (h : Put L l (.lst xs) (.lst (y :: xs)) L') (hl : xs.length < sizeLine) (q : ∀ H', Hs B L' H' → Q .non H') : rInsert (.ref l) [.int 0, y] H Q :=
  ⟨l, xs, 0, y, rfl, rfl, hs.gets h, hl, by decide, by decide, q _ (hs.puts h)⟩
def rDelL (x y : V) (H : Hp) (R : Hp → Prop) : Prop := ∃ (l : Addr) (xs : List V) (i : Int) (k : Nat), x = .ref l ∧ y = .int i ∧ H l = some (.lst xs) ∧ -(2 ^ 63) ≤ i ∧ i < 2 ^ 63 ∧ seqIndex? i xs.length = some k ∧ R (upd H l (.lst (xs.eraseIdx k)))
theorem w_delL0 (q : to σ H fun x H1 => ti σ H1 fun y H2 => rDelL x y H2 (D.nx σ)) : tDelL to ti D σ H := q
theorem w_delL {k : Nat} {j : Int} {R : Hp → Prop} (hs : Hs B L H) (h : Put L l (.lst xs) (.lst (xs.eraseIdx k)) L') (e : j = (k : Int)) (hk : k < xs.length) (hz : xs.length ≤ sizeLine) (q : ∀ H', Hs B L' H' → R H') : rDelL (.ref l) (.int j) H R := by
  have h63 := line63
  refine ⟨l, xs, j, k, rfl, rfl, hs.gets h, by omega, ?_, six_nat e hk, q _ (hs.puts h)⟩
  have : xs.length < 2 ^ 63 := Nat.lt_of_le_of_lt hz h63
  omega
theorem w_setL {k : Nat} {j : Int} {R : Hp → Prop} (hs : Hs B L H) (h : Put L l (.lst xs) (.lst (xs.set k y)) L') (e : j = (k : Int)) (hk : k < xs.length) (q : ∀ H', Hs B L' H' → R H') : rSetL (.ref l) (.int j) y H R := by
  refine ⟨l, xs, j, k, rfl, rfl, hs.gets h, ?_, q _ (hs.puts h)⟩
  subst e
  unfold ixN
  rw [if_pos (by omega), if_pos (by omega)]
  simp
/-- a field's store -/
theorem w_fsP {R : Hp → Prop} {C dx : Addr} {fs gs : List (Str × V)} (hs : Hs B L H) (h : Put L p (.ins C dx fs) (.ins C dx gs) L') (hc : Cls K C) (hn : NoAttr K C f) (hl : fs.length < 1000) (hg : putF f y fs = gs) (q : ∀ H', Hs B L' H' → R H') : Fs K f y (.ref p) H R := by
  subst hg
  exact w_fs (hs.gets h) hc hn hl (q _ (hs.puts h))
/-! #### loops -/
theorem w_forL {tl : TE} {a : Addr} {tb : TS} (hx : SqL K H a xs) (Pv : Nat → St → Hp → Prop) (htl : ∀ Q : VK, Q (.ref a) H → tl σ H Q) (h0 : Pv 0 σ H) (hl : ∀ i σ H, i ≤ xs.length → Pv i σ H → SqL K H a xs)
    (hs : ∀ i x σ H, xs[i]? = some x → Pv i σ H → g x σ H fun σ2 H2 => tb { D with nx := Pv (i + 1), ct := Pv (i + 1), bk := D.nx } σ2 H2) (hd : ∀ σ H, Pv xs.length σ H → D.nx σ H) : tFor (iList K tl) g tb D σ H :=
  htl _ ⟨a, rfl, ⟨xs, hx⟩, for_list Pv h0 hl hs hd⟩
theorem w_forR {ta : TA} {tb : TS} {n : Int} (hn : n < 2 ^ 62) (Pv : Nat → St → Hp → Prop) (hta : ∀ Q : List V → Hp → Prop, Q [.int n] H → ta σ H Q) (hm : -(2 ^ 62) ≤ n) (h0 : Pv 0 σ H)
    (hs : ∀ (i : Nat) σ H, (i : Int) < n → Pv i σ H → g (.int (i : Int)) σ H fun σ2 H2 => tb { D with nx := Pv (i + 1), ct := Pv (i + 1), bk := D.nx } σ2 H2) (hd : ∀ σ H, Pv n.toNat σ H → D.nx σ H) : tFor (iRng1 ta) g tb D σ H :=
  hta _ ⟨n, rfl, hm, hn, for_range (lo := 0) (n := n.toNat) Pv h0 (fun i σ' H' hi p => by
    have e0 : (0 : Int) + (i : Int) = (i : Int) := Int.zero_add _
    rw [e0]
    exact hs i σ' H' (by omega) p) hd⟩
/-- [e for x in xs] over a list -/
theorem w_lc {tl : TE} {a : Addr} {vs : List Nat} {tt : TT} (hx : SqL K H a xs) (Pv : Addr → Nat → Hp → Prop) (htl : ∀ Q : VK, Q (.ref a) H → tl σ H Q) (h0 : ∀ D, H D = none → Pv D 0 (upd H D (.lst []))) (hl : ∀ D i H, i ≤ xs.length → Pv D i H → SqL K H a xs)
    (hs : ∀ D i x H, xs[i]? = some x → Pv D i H → g x (wipe σ vs) H fun σ2 H2 => wipe σ2 vs = wipe σ vs ∧ tt σ2 H2 fun b H3 =>
      if b = true then te σ2 H3 fun y H4 => ∃ acc, H4 D = some (.lst acc) ∧ acc.length < sizeLine ∧ Pv D (i + 1) (upd H4 D (.lst (acc ++ [y]))) else Pv D (i + 1) H3) (hd : ∀ D H, Pv D xs.length H → Q (.ref D) H) : tLc (iList K tl) g tt te vs σ H Q :=
  htl _ ⟨a, rfl, ⟨xs, hx⟩, fun D hD => lc_list (Pv D) (h0 D hD) (hl D) (hs D) (hd D)⟩
end
theorem w_sub {R : St → Hp → Prop} {tset : TSet} (q : to σ H fun o H1 => ti σ H1 fun i H2 => tset o i v H2 fun H3 => R σ H3) : gSub to ti tset v σ H R := q
/-- a while's body, at the measure m -/
def LpB (W : Nat → St → Hp → Prop) (m : Nat) (D : Ends) (tb : TS) (σ : St) (H1 : Hp) : Prop := ∃ N : St → Hp → Prop, (∀ σ' H', N σ' H' → ∃ m', m' < m ∧ W m' σ' H') ∧ tb { D with nx := N, ct := N, bk := D.nx } σ H1
theorem w_while {c : TT} {tb : TS} {D : Ends} {σ : St} {H : Hp} (W : Nat → St → Hp → Prop) (m : Nat) (h0 : W m σ H)
    (hs : ∀ m σ H, W m σ H → c σ H fun b H1 => if b = true then LpB W m D tb σ H1 else D.nx σ H1) : tWhile c tb D σ H := ⟨W, ⟨m, h0⟩, hs⟩
theorem w_lpb {W : Nat → St → Hp → Prop} {m : Nat} {D : Ends} {tb : TS} {σ : St} {H : Hp} (q : tb { D with nx := fun σ' H' => ∃ m', m' < m ∧ W m' σ' H', ct := fun σ' H' => ∃ m', m' < m ∧ W m' σ' H', bk := D.nx } σ H) : LpB W m D tb σ H := ⟨_, fun _ _ h => h, q⟩
end
theorem ifd {p A B : Prop} [Decidable p] (h1 : p → A) (h2 : ¬ p → B) : if decide p = true then A else B := by
  by_cases h : p
  · rw [decide_eq_true h]
    exact iteT (h1 h)
  · rw [decide_eq_false h]
    exact iteF (h2 h)
theorem ifn {p A B : Prop} [Decidable p] (h1 : ¬ p → A) (h2 : p → B) : if (!decide p) = true then A else B := by
  by_cases h : p
  · rw [decide_eq_true h]
    exact iteF (h2 h)
  · rw [decide_eq_false h]
    exact iteT (h1 h)
theorem ifb {b : Bool} {A B : Prop} (h1 : b = true → A) (h2 : b = false → B) : if b = true then A else B := by
  cases b with
  | true => exact iteT (h1 rfl)
  | false => exact iteF (h2 rfl)
theorem eraseIdx_map {α β : Type} (f : α → β) : ∀ (l : List α) (k : Nat), (l.map f).eraseIdx k = (l.eraseIdx k).map f
  | [], _ => rfl
  | _ :: _, 0 => rfl
  | x :: l, k + 1 => congrArg (f x :: ·) (eraseIdx_map f l k)
theorem sz {n : Nat} (h : n ≤ 1000000) : n ≤ sizeLine := Nat.le_trans h (by decide)
theorem szl {n : Nat} (h : n ≤ 1000000) : n < sizeLine := Nat.lt_of_le_of_lt h (by decide)
theorem take_min {α : Type} (xs : List α) (n : Nat) : xs.take (min n xs.length) = xs.take n := by
  by_cases h : n ≤ xs.length
  · rw [Nat.min_eq_left h]
  · rw [Nat.min_eq_right (by omega), List.take_length, List.take_of_length_le (by omega)]
theorem drop_min {α : Type} (xs : List α) (n : Nat) : xs.drop (min n xs.length) = xs.drop n := by
  by_cases h : n ≤ xs.length
  · rw [Nat.min_eq_left h]
  · rw [Nat.min_eq_right (by omega), List.drop_length, List.drop_of_length_le (by omega)]
theorem cut_to {xs : List V} {j : Int} (n : Nat) (e : j = (n : Int)) : cutV xs none (some j) = xs.take n := by
  subst e
  unfold cutV
  rw [HT.sIx_none, HT.sIx_nat, List.drop_zero, Nat.sub_zero, take_min]
theorem cut_from {xs : List V} {j : Int} (n : Nat) (e : j = (n : Int)) : cutV xs (some j) none = xs.drop n := by
  subst e
  unfold cutV
  rw [HT.sIx_none, HT.sIx_nat, drop_min, List.take_of_length_le]
  rw [List.length_drop]
  omega
theorem cut_len {xs : List V} {lo hi : Option Int} : (cutV xs lo hi).length ≤ xs.length := by
  unfold cutV
  rw [List.length_take, List.length_drop]
  omega
theorem cut_all {xs : List V} : cutV xs none none = xs := by
  unfold cutV HT.sIx
  simp
/-! ### lists of texts, of ints, as data -/
theorem dpa_str {K : PySem.W.Frag} {H : Hp} : ∀ xs : List Str, DpAll K H (xs.map V.str) (xs.map PyData.str)
  | [] => .nil
  | x :: xs => .cons (.str x) (dpa_str xs)
theorem dpa_int {K : PySem.W.Frag} {H : Hp} : ∀ xs : List Int, DpAll K H (xs.map V.int) (xs.map PyData.int)
  | [] => .nil
  | x :: xs => .cons (.int x) (dpa_int xs)
theorem depth_str : ∀ xs : List Str, PyData.depthAll (xs.map PyData.str) ≤ 1
  | [] => by simp [PyData.depthAll]
  | x :: xs => by
    have := depth_str xs
    simp [PyData.depthAll, PyData.depth] at this ⊢
    omega
theorem lay_str : ∀ xs : List Str, (∀ x ∈ xs, PyData.strOk x = true) → PyData.canLayAll0 (xs.map PyData.str) = true
  | [], _ => by simp [PyData.canLayAll0]
  | x :: xs, h => by
    have h1 := h x List.mem_cons_self
    have h2 := lay_str xs fun y hy => h y (List.mem_cons_of_mem _ hy)
    simp only [List.map_cons, PyData.canLayAll0, PyData.canLay0, h1, h2, Bool.and_self]
theorem shp_str {xs : List Str} (h : ∀ x ∈ xs, PyData.strOk x = true) : SeqAt.shaped (.list (xs.map PyData.str)) = true := by
  have e := depth_str xs
  have l := lay_str xs h
  unfold SeqAt.shaped PyData.canLay0 PyData.depth
  rw [l]
  simp only [Bool.true_and, decide_eq_true_eq]
  omega
theorem w_neS {K : PySem.W.Frag} {H : Hp} {Q : VK} {p q : Addr} {xs : List Str} (h1 : SqL K H p (xs.map V.str)) (h2 : SqL K H q (xs.map V.str)) (hk : ∀ x ∈ xs, PyData.strOk x = true) (k : Q (.bl false) H) : rNeD K (.ref p) (.ref q) H Q :=
  ⟨_, _, .lst h1 (dpa_str xs), .lst h2 (dpa_str xs), shp_str hk, shp_str hk, by
    rw [SeqAt.eqv_refl _ (by have := shp_str hk; unfold SeqAt.shaped at this; exact (Bool.and_eq_true_iff.mp this).1)]
    exact k⟩
theorem w_isi {K : PySem.W.Frag} {H : Hp} {Q : VK} {b : Bool} (k : Q (.bl true) H) : rIsi K [.bl b, .ty "bool"] H Q :=
  ⟨_, _, _, _, true, rfl, .ty "bool", .base (.bl b), kit_ty (by decide +kernel), k⟩
theorem w_neB {a b : Bool} {H : Hp} {Q : VK} (q : Q (.bl (!decide (a = b))) H) : rNe (.bl a) (.bl b) H Q := ⟨rfl, by
  have e : decide (V.bl a = V.bl b) = decide (a = b) := by cases a <;> cases b <;> decide
  rw [e]
  exact q⟩
end Hb

set_option Elab.async false
set_option maxRecDepth 100000
set_option maxHeartbeats 4000000
/-! More steps: dicts, fields changed by an operator, ranges, and an own exception with a field. -/
namespace Hb
open PySem L2 ClX

section
variable {K : PySem.W.Frag} {σ : St} {H : Hp} {Q : VK} {D : Ends} {ta tb td tc te tv ty to ti : TE} {t u tr : TS} {g : TG} {i : Nat} {v x y : V} {E : XK} {ts : TA} {f m : Str} {p : Addr} {B : Hp} {L L' : List (Addr × HO)}
/-! ### dicts with keys that are ints -/
def RDin (x y : V) (H : Hp) (Q : VK) : Prop := ∃ a o, x = .ref a ∧ DGet H a y o ∧ Q (.bl o.isSome) H
def RDni (x y : V) (H : Hp) (Q : VK) : Prop := ∃ a o, x = .ref a ∧ DGet H a y o ∧ Q (.bl (!o.isSome)) H
theorem w_din (q : ty σ H fun y H1 => td σ H1 fun x H2 => RDin x y H2 Q) : tDIn ty td σ H Q := q
theorem w_dni (q : ty σ H fun y H1 => td σ H1 fun x H2 => RDni x y H2 Q) : tDNotIn ty td σ H Q := q
theorem w_dinI {kvs : List (Key × V)} {n : Int} (h : H p = some (.dK kvs)) (q : Q (.bl (valV kvs (Sum.inl n)).isSome) H) : RDin (.ref p) (.int n) H Q := ⟨p, _, rfl, DGet.k (k := Sum.inl n) h, q⟩
theorem w_dniI {kvs : List (Key × V)} {n : Int} (h : H p = some (.dK kvs)) (q : Q (.bl (!(valV kvs (Sum.inl n)).isSome)) H) : RDni (.ref p) (.int n) H Q := ⟨p, _, rfl, DGet.k (k := Sum.inl n) h, q⟩
def RDput (x y v : V) (H : Hp) (R : Hp → Prop) : Prop := ∃ a H4, x = .ref a ∧ DPut H a y v H4 ∧ R H4
theorem w_dput (q : tv σ H fun v H1 => td σ H1 fun x H2 => ty σ H2 fun y H3 => RDput x y v H3 (D.nx σ)) : sDPut td ty tv D σ H := q
theorem w_dputI {kvs : List (Key × V)} {n : Int} {R : Hp → Prop} (hs : Hs B L H) (h : Put L p (.dK kvs) (.dK (putK kvs (Sum.inl n) v)) L') (hl : kvs.length < sizeLine) (q : ∀ H', Hs B L' H' → R H') : RDput (.ref p) (.int n) v H R :=
  ⟨p, _, rfl, DPut.k (k := Sum.inl n) (hs.gets h) hl, q _ (hs.puts h)⟩
def RPopA (x : V) (H : Hp) (R : Addr → Prop) : Prop := ∃ a, x = .ref a ∧ IsD H a ∧ R a
def RPopB (a : Addr) (y : V) (H : Hp) (Q : VK) : Prop := ∃ kvs k v, H a = some (.dK kvs) ∧ y = kV k ∧ valV kvs k = some v ∧ Q v (upd H a (.dK (dropK kvs k)))
theorem w_dpop (q : td σ H fun x H1 => RPopA x H1 fun a => ty σ H1 fun y H2 => RPopB a y H2 Q) : tDPop1 td ty σ H Q := q
theorem w_dpopA {kvs : List (Key × V)} {R : Addr → Prop} (h : H p = some (.dK kvs)) (q : R p) : RPopA (.ref p) H R := ⟨p, rfl, .inl ⟨kvs, .inl h⟩, q⟩
theorem w_dpopB {kvs : List (Key × V)} {n : Int} (hs : Hs B L H) (h : Put L p (.dK kvs) (.dK (dropK kvs (Sum.inl n))) L') (hv : valV kvs (Sum.inl n) = some v) (q : ∀ H', Hs B L' H' → Q v H') : RPopB p (.int n) H Q :=
  ⟨kvs, Sum.inl n, v, hs.gets h, rfl, hv, q _ (hs.puts h)⟩
def NewD (Q : VK) (H : Hp) : Prop := ∀ p, H p = none → Q (.ref p) (upd H p (.dK []))
theorem w_dnew (q : NewD Q H) : tDNewK σ H Q := q
theorem w_newD (hs : Hs B L H) (q : ∀ p H', Hs B ((p, .dK []) :: L) H' → Q (.ref p) H') : NewD Q H := w_new hs q
/-! ### o.f op= e -/
def FA1 (K : PySem.W.Frag) (f : Str) (x : V) (H : Hp) (R : Addr → Addr → V → Prop) : Prop := ∃ a C dx fs v, x = .ref a ∧ H a = some (.ins C dx fs) ∧ Cls K C ∧ NoAttr K C f ∧ fs.lookup f = some v ∧ R a C v
def FA2 (f : Str) (a C : Addr) (z : V) (H : Hp) (R : Hp → Prop) : Prop := ∃ dx' fs', H a = some (.ins C dx' fs') ∧ fs'.length < 1000 ∧ R (upd H a (.ins C dx' (putF f z fs')))
theorem w_faug {rd : V → V → Hp → VK → Prop} (q : ta σ H fun x H1 => FA1 K f x H1 fun a C v => tv σ H1 fun y H2 => rd v y H2 fun z H3 => FA2 f a C z H3 (D.nx σ)) : sFldAug K ta tv rd f D σ H := by
  revert q
  unfold sFldAug FA1 FA2
  exact id
theorem w_fa1 {C dx : Addr} {fs : List (Str × V)} {R : Addr → Addr → V → Prop} (h : H p = some (.ins C dx fs)) (hc : Cls K C) (hn : NoAttr K C f) (hl : fs.lookup f = some v) (q : R p C v) : FA1 K f (.ref p) H R := ⟨p, C, dx, fs, v, rfl, h, hc, hn, hl, q⟩
theorem w_fa2 {R : Hp → Prop} {C dx : Addr} {fs gs : List (Str × V)} (hs : Hs B L H) (h : Put L p (.ins C dx fs) (.ins C dx gs) L') (hl : fs.length < 1000) (hg : putF f v fs = gs) (q : ∀ H', Hs B L' H' → R H') : FA2 f p C v H R := by
  subst hg
  exact ⟨dx, fs, hs.gets h, hl, q _ (hs.puts h)⟩
theorem w_rAdd {a b : Int} (q : Q (.int (a + b)) H) : rAdd (.int a) (.int b) H Q := ⟨a, b, rfl, rfl, q⟩
theorem w_rSub {a b : Int} (q : Q (.int (a - b)) H) : rSub (.int a) (.int b) H Q := ⟨a, b, rfl, rfl, q⟩
/-! ### built-ins -/
def rMax2 : List V → Hp → VK → Prop := fun xs H Q => ∃ i j, xs = [.int i, .int j] ∧ Q (.int (if j > i then j else i)) H
def rMin2 : List V → Hp → VK → Prop := fun xs H Q => ∃ i j, xs = [.int i, .int j] ∧ Q (.int (if j < i then j else i)) H
theorem call_maxQ {X : Cx} (hc : X.calm = true) : CallR X (.builtin "max") rMax2 := call_max2 hc
theorem call_minQ {X : Cx} (hc : X.calm = true) : CallR X (.builtin "min") rMin2 := call_min2 hc
theorem w_max {a b : Int} (q : Q (.int (if b > a then b else a)) H) : rMax2 [.int a, .int b] H Q := ⟨a, b, rfl, q⟩
theorem w_min {a b : Int} (q : Q (.int (if b < a then b else a)) H) : rMin2 [.int a, .int b] H Q := ⟨a, b, rfl, q⟩
def rIsN : R2 := fun x y H Q => y = .non ∧ Q (.bl (decide (x = .non))) H
def rNotN : R2 := fun x y H Q => y = .non ∧ Q (.bl (!decide (x = .non))) H
theorem op_isNQ {X : Cx} : OpR X (compareOp .Is) rIsN := op_isN
theorem op_notNQ {X : Cx} : OpR X (compareOp .IsNot) rNotN := op_notN
theorem w_isN (q : Q (.bl (decide (x = .non))) H) : rIsN x .non H Q := ⟨rfl, q⟩
theorem w_notN (q : Q (.bl (!decide (x = .non))) H) : rNotN x .non H Q := ⟨rfl, q⟩
theorem w_eqD {a b : Addr} {d e : PyData} (h1 : Dp K H (.ref a) d) (h2 : Dp K H (.ref b) e) (s1 : SeqAt.shaped d = true) (s2 : SeqAt.shaped e = true) (q : Q (.bl (PyData.eqv d e)) H) : rEqD K (.ref a) (.ref b) H Q := ⟨d, e, h1, h2, s1, s2, q⟩
/-! ### targets -/
theorem w_gtup {n : Nat} {t : TGs} {xs : List V} {R : St → Hp → Prop} (h : SqT K H p xs) (hl : xs.length = n) (q : t xs σ H R) : gTup K n t (.ref p) σ H R := ⟨p, xs, rfl, h, hl, q⟩
theorem w_gnil {R : St → Hp → Prop} (q : R σ H) : gNil [] σ H R := ⟨rfl, q⟩
theorem w_gcons {t : TG} {u : TGs} {r : List V} {R : St → Hp → Prop} (q : t v σ H fun σ' H' => u r σ' H' R) : gCons t u (v :: r) σ H R := ⟨v, r, rfl, q⟩
theorem w_par3 {j l : Nat} (q : ts σ H fun vs H1 => ∃ u v w, vs = [u, v, w] ∧ D.nx (((σ.set i (some u)).set j (some v)).set l (some w)) H1) : tPar3 i j l ts D σ H := q
theorem w_ex3 {a b c : V} {P : V → V → V → Prop} (q : P a b c) : ∃ u v w, [a, b, c] = [u, v, w] ∧ P u v w := ⟨a, b, c, rfl, q⟩
theorem w_par2 {j : Nat} (q : ts σ H fun vs H1 => ∃ u v, vs = [u, v] ∧ D.nx ((σ.set i (some u)).set j (some v)) H1) : tPar i j ts D σ H := q
theorem w_ex2 {a b : V} {P : V → V → Prop} (q : P a b) : ∃ u v, [a, b] = [u, v] ∧ P u v := ⟨a, b, rfl, q⟩
/-! ### [e for i in range(a, b)] -/
theorem w_lcR {vs : List Nat} {tt : TT} {lo hi : Int} (b1 : -(2 ^ 62) ≤ lo ∧ lo < 2 ^ 62 ∧ -(2 ^ 62) ≤ hi ∧ hi < 2 ^ 62) (Pv : Addr → Nat → Hp → Prop) (hta : ∀ Q : List V → Hp → Prop, Q [.int lo, .int hi] H → ts σ H Q) (h0 : ∀ D, H D = none → Pv D 0 (upd H D (.lst [])))
    (hs : ∀ D (i : Nat) H, lo + (i : Int) < hi → Pv D i H → g (.int (lo + (i : Int))) (wipe σ vs) H fun σ2 H2 => wipe σ2 vs = wipe σ vs ∧ tt σ2 H2 fun b H3 =>
      if b = true then te σ2 H3 fun y H4 => ∃ acc, H4 D = some (.lst acc) ∧ acc.length < sizeLine ∧ Pv D (i + 1) (upd H4 D (.lst (acc ++ [y]))) else Pv D (i + 1) H3) (hd : ∀ D H, Pv D (hi - lo).toNat H → Q (.ref D) H) : tLc (iRng2 ts) g tt te vs σ H Q :=
  hta _ ⟨lo, hi, rfl, b1, fun D hD => lc_range (Pv D) (h0 D hD) (fun i H' hi' p => hs D i H' (by omega) p) (hd D)⟩
theorem w_lcR1 {vs : List Nat} {tt : TT} {hi : Int} (b1 : -(2 ^ 62) ≤ hi ∧ hi < 2 ^ 62) (Pv : Addr → Nat → Hp → Prop) (hta : ∀ Q : List V → Hp → Prop, Q [.int hi] H → ts σ H Q) (h0 : ∀ D, H D = none → Pv D 0 (upd H D (.lst [])))
    (hs : ∀ D (i : Nat) H, (i : Int) < hi → Pv D i H → g (.int (i : Int)) (wipe σ vs) H fun σ2 H2 => wipe σ2 vs = wipe σ vs ∧ tt σ2 H2 fun b H3 =>
      if b = true then te σ2 H3 fun y H4 => ∃ acc, H4 D = some (.lst acc) ∧ acc.length < sizeLine ∧ Pv D (i + 1) (upd H4 D (.lst (acc ++ [y]))) else Pv D (i + 1) H3) (hd : ∀ D H, Pv D hi.toNat H → Q (.ref D) H) : tLc (iRng1 ts) g tt te vs σ H Q :=
  hta _ ⟨hi, rfl, b1.1, b1.2, fun D hD => lc_range (Pv D) (h0 D hD) (fun i H' hi' p => by
    have e0 : (0 : Int) + (i : Int) = (i : Int) := Int.zero_add _
    rw [e0]
    exact hs D i H' (by omega) p) (hd D)⟩
end

/-- a statement, then the rest: what stands between is said once -/
theorem w_cut {σ : St} {H : Hp} {D : Ends} {t u : TS} (Mid : St → Hp → Prop) (h1 : t { D with nx := Mid } σ H) (h2 : ∀ σ' H', Mid σ' H' → u D σ' H') : C8.tCut t u D σ H := ⟨Mid, h1, h2⟩
/-! ### rules whose reading names the written part itself -/
section
variable {X : Cx} {K : PySem.W.Frag}
theorem pe_fldK {e : Expr} {f : Str} {ta : TE} {pos : Pos} (he : PE X e ta) (hb : attributeBase e f X.env (eval e X.env) = eval e X.env := by rfl) (hK : X.K = K := by rfl) : PE X (.Attribute e f pos) (tFld K ta f) := by
  subst hK
  exact pe_fld he hb
theorem ps_fldK {o value : Expr} {f : Str} {ta tv : TE} {pos pos' : Pos} (ha : PE X o ta) (hv : PE X value tv) (hs : swapsWith value (some (.Attribute o f pos')) pos.line X.env = pure false := by rfl) (hK : X.K = K := by rfl) : PS X (.Assign [.Attribute o f pos'] value pos) (sFld K ta tv f) := by
  subst hK
  exact ps_fld ha hv hs
theorem ps_fldaugK {o value : Expr} {f : Str} {ta tv : TE} {pos tpos : Pos} {op : Operator} {rd : V → V → Hp → VK → Prop} (ha : PE X o ta) (hv : PE X value tv) (hop : InOp X op rd) (hK : X.K = K := by rfl) : PS X (.AugAssign (.Attribute o f tpos) op value pos) (sFldAug K ta tv rd f) := by
  subst hK
  exact ps_fldaug ha hv hop
theorem ix_listK (hK : X.K = K := by rfl) : IxR X (rIxL K) := by
  subst hK
  exact ix_list
theorem ix_tupK (hK : X.K = K := by rfl) : IxR X (rIxT K) := by
  subst hK
  exact ix_tup
theorem sl_listK (hK : X.K = K := by rfl) : SlR X (rSlL K) := by
  subst hK
  exact sl_list
theorem sl_tupK (hK : X.K = K := by rfl) : SlR X (rSlT K) := by
  subst hK
  exact sl_tup
theorem call_lenK (hK : X.K = K := by rfl) : CallR X (.builtin "len") (rLen K) := by
  subst hK
  exact call_lenQ
theorem op_eqDK (hu : X.A.units + 64 < cLine) (hK : X.K = K := by rfl) : OpR X (compareOp .Eq) (rEqD K) := by
  subst hK
  exact op_eqD hu
theorem op_neDK (hu : X.A.units + 64 < cLine) (hK : X.K = K := by rfl) : OpR X (compareOp .NotEq) (rNeD K) := by
  subst hK
  exact op_neD hu
theorem op_inK (hK : X.K = K := by rfl) : OpR X (compareOp .In) (rIn K false) := by
  subst hK
  exact op_in_seq
theorem op_niK (hK : X.K = K := by rfl) : OpR X (compareOp .NotIn) (rIn K true) := by
  subst hK
  exact op_notIn_seq
theorem pi_listK {tg l : Expr} {tl : TE} (hl : PE X l tl) (hK : X.K = K := by rfl) : PI X tg l (iList K tl) := by
  subst hK
  exact pi_list hl
theorem pi_tupK {tg l : Expr} {tl : TE} (hl : PE X l tl) (hK : X.K = K := by rfl) : PI X tg l (iTup K tl) := by
  subst hK
  exact pi_tup hl
theorem pg_tupK {es : List Expr} {k : Nat} {t : TGs} {n : Nat} {pos : Pos} (hc : X.calm = true) (h : PGs X es t) (hn : (assignEach es X.env).length = n := by rfl) (hst : (assignEach es X.env).findIdx? (·.1) = none := by rfl) (hK : X.K = K := by rfl) : PG X (.Tuple es k pos) (gTup K n t) := by
  subst hK
  exact pg_tup hc h hn hst
theorem pt_truthK {a : Expr} {ta : TE} (ha : PE X a ta) (he : ∀ whole, isTrue a X.env whole = (do let v ← whole; standAt a.pos; holding [v] (truthy v)) := by intro _; rfl) (hK : X.K = K := by rfl) : PT X a (fun σ H Q => ta σ H fun x H' => ∃ k, TruV K x H' k ∧ Q k H') := by
  subst hK
  exact pt_truth ha he
theorem call_isiK (hK : X.K = K := by rfl) : CallR X (.builtin "isinstance") (rIsi K) := by
  subst hK
  exact call_isi
variable {o e : Expr} {es : List Expr} {to : TE} {t : TA} {name : Str} {apos cpos : Pos} {T id : String} {r : V → List V → Hp → VK → Prop}
theorem pe_bm0K (pa : PlainAttrs T) (slot : Slot T name id) (hty : typeOf (.builtin id) = pure (.type "method_descriptor")) (hm : MtR X id r) (ho : PE X o to)
    (hbase : attributeBase o name X.env (eval o X.env) = eval o X.env := by rfl) (hline : (apos.endLine == cpos.line) = true := by rfl) (hK : X.K = K := by rfl) : PE X (.Call (.Attribute o name apos) [] [] cpos) (tBM0 K T r to) := by
  subst hK
  exact pe_bm0 pa slot hty hm ho hbase hline
theorem pe_bmK (pa : PlainAttrs T) (slot : Slot T name id) (hty : typeOf (.builtin id) = pure (.type "method_descriptor")) (hm : MtR X id r) (ho : PE X o to) (ha : PA X (e :: es) t)
    (hb : attributeBase o name X.env (eval o X.env) = eval o X.env := by rfl)
    (hf : ((backTo cpos (starEach (e :: es) X.env)).all (fun x => !x.1) && (backToKw cpos (keywordEach [] X.env)).all (fun x => x.1.isSome) && decide ((e :: es).length + ([] : List Keyword).length + (if ([] : List Keyword).isEmpty then 0 else 1) < 30)) = true := by rfl)
    (hl : (apos.endLine == cpos.line) = true := by rfl) (h1 : starEach (e :: es) X.env = (false, eval e X.env) :: starEach es X.env := by rfl) (h2 : (backTo cpos (starEach es X.env)).any (·.1) = false := by rfl) (hK : X.K = K := by rfl) :
    PE X (.Call (.Attribute o name apos) (e :: es) [] cpos) (tBM K T r to t) := by
  subst hK
  exact pe_bm pa slot hty hm ho ha hb hf hl h1 h2
end
section
variable {H B : Hp} {L L' : List (Addr × HO)} {l : Addr} {y a b c d e : V} {r : List V} {R : Hp → Prop}
theorem w_set0 (hs : Hs B L H) (h : Put L l (.lst (a :: r)) (.lst (y :: r)) L') (q : ∀ H', Hs B L' H' → R H') : rSetL (.ref l) (.int 0) y H R := w_setL (k := 0) hs h rfl (by simp) q
theorem w_set1 (hs : Hs B L H) (h : Put L l (.lst (a :: b :: r)) (.lst (a :: y :: r)) L') (q : ∀ H', Hs B L' H' → R H') : rSetL (.ref l) (.int 1) y H R := w_setL (k := 1) hs h rfl (by simp) q
theorem w_set2 (hs : Hs B L H) (h : Put L l (.lst (a :: b :: c :: r)) (.lst (a :: b :: y :: r)) L') (q : ∀ H', Hs B L' H' → R H') : rSetL (.ref l) (.int 2) y H R := w_setL (k := 2) hs h rfl (by simp) q
theorem w_set3 (hs : Hs B L H) (h : Put L l (.lst (a :: b :: c :: d :: r)) (.lst (a :: b :: c :: y :: r)) L') (q : ∀ H', Hs B L' H' → R H') : rSetL (.ref l) (.int 3) y H R := w_setL (k := 3) hs h rfl (by simp) q
theorem w_set4 (hs : Hs B L H) (h : Put L l (.lst (a :: b :: c :: d :: e :: r)) (.lst (a :: b :: c :: d :: y :: r)) L') (q : ∀ H', Hs B L' H' → R H') : rSetL (.ref l) (.int 4) y H R := w_setL (k := 4) hs h rfl (by simp) q
end
theorem w_eqB {a b : Bool} {H : Hp} {Q : VK} (q : Q (.bl (decide (a = b))) H) : rEq (.bl a) (.bl b) H Q := ⟨rfl, by
  have e : decide (V.bl a = V.bl b) = decide (a = b) := by cases a <;> cases b <;> decide
  rw [e]
  exact q⟩
/-- arguments that are known -/
def kTA (vs : List V) : TA := fun _ H Q => Q vs H
theorem w_for1 {σ : St} {H : Hp} {D : Ends} {ta : TA} {tb : TS} {g : TG} (q : ta σ H fun vs H1 => tFor (iRng1 (kTA vs)) g tb D σ H1) : tFor (iRng1 ta) g tb D σ H := q
theorem w_for2 {σ : St} {H : Hp} {D : Ends} {ta : TA} {tb : TS} {g : TG} (q : ta σ H fun vs H1 => tFor (iRng2 (kTA vs)) g tb D σ H1) : tFor (iRng2 ta) g tb D σ H := q
/-! ### an own exception -/
section
variable {X : Cx} {C a : Addr}
/-- X.__init__(self, ..) of an own class that has its __init__ from ValueError -/
theorem pe_ownInit {x : Str} {e : Expr} {es : List Expr} {ta : TA} {p1 p2 pos : Pos} {pl : Sem Bool} (hg : Gl X x) (hm : X.mg x = some (.ref C)) (r : CRead X.K C (.type "type")) (cv : PySem.W.findCls X.K (.ref C) (.type "type") "__init__" = some (.val (.builtin "ValueError.__init__"))) (ha : PA X (e :: es) ta)
    (hdb : (x == ("__debug__" : Str)) = false := by decide)
    (hc : eval (.Call (.Attribute (.Name x p1) "__init__" p2) (e :: es) [] pos) X.env = (do
      let ov ← eval (.Name x p1) X.env
      standAt p2.atName
      let (f, first) ← holding [ov] (getMethod ov "__init__" pl)
      callWith pos f first (backTo pos (starEach (e :: es) X.env)) (backToKw pos (keywordEach [] X.env))) := by rfl)
    (he : starEach (e :: es) X.env = (false, eval e X.env) :: starEach es X.env := by rfl) (hpl : (backTo pos (starEach es X.env)).any (·.1) = false := by rfl) :
    PE X (.Call (.Attribute (.Name x p1) "__init__" p2) (e :: es) [] pos) (tVeI X.K ta) := by
  constructor
  intro pins s σ H Q I h
  refine PySem.W.methodCall_KW ?_ hc
  refine ld_glob I hg hm ?_ hdb
  refine PySem.W.method_cls I.kIn r.ga (PySem.W.cls_value I.kIn r.rd cv rfl ?_)
  have fin : ∀ (us : List Value) (s1 : Shared), AP X pins σ (fun vs H1 => ∃ (a C : Addr) (ws : List V), vs = .ref a :: ws ∧ ws.length ≤ 1000 ∧ OexC X.K C ∧ H1 a = some (exo a C none) ∧ Q .non H1) us s1 → wpAny (model X.prog X.w) X.A (call (.builtin "ValueError.__init__") us) (EP X pins σ Q) X.xe s1 := by
    rintro us s1 ⟨vs, H1, I1, r1, a', C', ws, rfl, hw, hT, hE, q1⟩
    match us, r1 with
    | u0 :: ur, .cons r0 rr =>
      cases (show u0 = Value.ref a' from r0)
      have hn : ur.length ≤ sizeLine := by
        rw [← Paired.length rr, sizeLine_eq]
        omega
      exact oinit_ok hT I1 hE hn fun _ J => ⟨.non, _, J, rfl, q1⟩
  exact PyProof.Rows.callWith_method1 (thn (ha.run pos pins _ σ H _ (I.tok _) h) fin) he hpl
/-- o.m(e), what it lets out by the slots -/
def tMethQ (C : Addr) (m : Str) (sp : Sp) (E : St → XK) (ta : TE) (t : TA) : TE := fun σ H Q => ta σ H fun x H1 => ∃ a dx fs, x = .ref a ∧ H1 a = some (.ins C dx fs) ∧ fs.lookup m = none ∧ t σ H1 fun vs H2 => sp (x :: vs) H2 Q (E σ)
theorem pe_methQ {CX : CXT} {k : Nat} {f : Addr} {fd : FuncData} {ps : List Str} {sp : Sp} {E : St → XK} {m : Str} {pos apos : Pos} {e o : Expr} {es : List Expr} {ta : TE} {t : TA} {pl : Sem Bool} (ho : PE X o ta) (c : Cls X.K C) (hm : Meth X.K C m f) (F : FnOk X.prog X.w X.K X.mg X.base CX k f fd ps sp)
    (hr : Room k X.A) (hb : Binds X.K fd ps []) (hx : ∀ σ, PassesAt CX X σ (E σ)) (ha : PA X (e :: es) t) (h1 : starEach (e :: es) X.env = (false, eval e X.env) :: starEach es X.env := by rfl) (h2 : (backTo pos (starEach es X.env)).any (·.1) = false := by rfl)
    (h3 : eval (.Call (.Attribute o m apos) (e :: es) [] pos) X.env = (do
      let ov ← eval o X.env
      standAt apos.atName
      let (f, first) ← holding [ov] (getMethod ov m pl)
      callWith pos f first (backTo pos (starEach (e :: es) X.env)) (backToKw pos (keywordEach [] X.env))) := by rfl) :
    PE X (.Call (.Attribute o m apos) (e :: es) [] pos) (tMethQ C m sp E ta t) := by
  constructor
  intro pins s σ H Q I h
  refine PySem.W.methodCall_KW (pl := pl) (thn (ho.run pins s σ H _ I h) ?_) h3
  rintro u s1 ⟨x, H1, I1, rx, a, dx, fs, rfl, ea, l, q⟩
  cases (show u = Value.ref a from rx)
  refine getmeth_ok I1 ea c hm l (PySem.W.callWith_K (first := [.ref a]) (h₀ := X.base) I.ok.mod.kin hm.kp (thn (ha.run pos pins s1 σ H1 _ I1 q) ?_) h1 h2)
  rintro us s2 ⟨vs, H2, I2, r, q2⟩
  exact ⟨I2.kIn, run_fnS (us := .ref a :: us) (vs := .ref a :: vs) F hr hb (hx σ) I2 (.cons rfl r) q2⟩
/-- what an own exception's class D must have for isinstance -/
structure XcC (K : PySem.W.Frag) (D : Addr) : Prop where
  cl : (PySem.W.clsIn K D).isSome = true
  ga : PySem.W.findIn K (.ref D) "__getattribute__" = some (some (.builtin "BaseException.__getattribute__"))
  gt : PySem.W.findIn K (.ref D) "__getattr__" = some none
  ex : PySem.W.subIn K (.ref D) (.type "BaseException") = some true
  cs : PySem.W.findIn K (.ref D) "__class__" = some (some (.builtin "object.__class__"))
  gd : PySem.W.specialIn K (.builtin "object.__class__") "__get__" = some (some (.builtin "getset_descriptor.__get__"))
  tk : PySem.W.takesIn K (.builtin "object.__class__") = some true
  mo : PySem.W.mroIn K D (.type "object") = some true
theorem kit_own {K : PySem.W.Frag} {D C : Addr} {b : Bool} (n : D ≠ C) (hc : PySem.W.isClsIn K C = true) (ht : PySem.W.typeIn K (.ref C) = some (.type "type")) (h : PySem.W.subIn K (.ref D) (.ref C) = some b) : PySem.W.kitOne K (.ref D) (.ref C) = some b := by
  have e : (Value.ref D == Value.ref C) = false := beq_eq_false_iff_ne.mpr fun q => n (Value.ref.inj q)
  have hc' : (PySem.W.clsIn K C).isSome = true := hc
  unfold PySem.W.kitOne PySem.W.kitCls
  simp [e, hc', ht, h]
theorem kit_ownT {K : PySem.W.Frag} {D C : Addr} (hc : PySem.W.isClsIn K C = true) (ht : PySem.W.typeIn K (.ref C) = some (.type "type")) (h : PySem.W.subIn K (.ref D) (.ref C) = some true) : PySem.W.kitOne K (.ref D) (.ref C) = some true := by
  by_cases e : D = C
  · subst e
    unfold PySem.W.kitOne
    rw [if_pos (beq_self_eq_true _)]
  · exact kit_own e hc ht h
/-- isinstance(e, c) of an exception that the suite holds, with its dict -/
def rIsX (K : PySem.W.Frag) (a : Addr) (cls : Value) (d : Option Addr) : List V → Hp → VK → Prop := fun xs H Q => ∃ (D C dd : Addr) (fs : List (Str × V)) (b : Bool), cls = .ref D ∧ d = some dd ∧ H dd = some (.xd fs) ∧ xs = [.ref a, .ref C] ∧ XcC K D ∧ PySem.W.kitOne K (.ref D) (.ref C) = some b ∧ Q (.bl b) H
theorem call_isX {oe : Obj} {cls : Value} {d : Option Addr} {pn : List (Addr × Obj)} (hz : Zc cls d oe) (hf : ∃ vs, oe.data = .fields vs) : CallR (X.suite a ((a, oe) :: pn)) (.builtin "isinstance") (rIsX X.K a cls d) := by
  rintro pins s σ H xs us Q I r ⟨D, C, dd, fs, b, rfl, rfl, hd, rfl, hD, hk, q⟩
  obtain ⟨u1, u2, rfl, r1, r2⟩ := vals2 r
  cases (show u1 = Value.ref a from r1)
  cases (show u2 = Value.ref C from r2)
  obtain ⟨ha, _⟩ := I.pin (a, oe) (List.mem_append_left _ List.mem_cons_self)
  obtain ⟨vs, hv⟩ := hf
  obtain ⟨mA, hns, _⟩ := (show ObjOk X.prog X.w H s.heap dd (.xd fs) from I.hok dd _ hd)
  obtain ⟨od, ho, _⟩ := lookIn_ns hns
  have J : PySem.W.InstAt s.heap a oe D (some od) := ⟨ha, hz.1, by unfold PySem.W.notCls; rw [hv] <;> rfl, by rw [hz.2]; exact ho⟩
  exact PySem.W.kia_one (PySem.W.kitx_exc hD.cl hD.ga hD.gt hD.ex hD.cs hD.gd hD.tk hD.mo) I.kIn J hk (fun z => nomatch z) fun tk => ⟨.bl b, H, I.kept (t' := tk) fun _ _ z => z, rfl, q⟩
end
section
variable {K : PySem.W.Frag} {σ : St} {H : Hp} {Q : VK} {D : Ends} {te tv to : TE} {ts : TA} {f : Str} {v x y : V} {C a : Addr} {B : Hp} {L L' : List (Addr × HO)}
def RVe (K : PySem.W.Frag) (vs : List V) (H : Hp) (Q : VK) : Prop := ∃ (a C : Addr) (ws : List V), vs = .ref a :: ws ∧ ws.length ≤ 1000 ∧ OexC K C ∧ H a = some (exo a C none) ∧ Q .non H
theorem w_vei (q : ts σ H fun vs H1 => RVe K vs H1 Q) : tVeI K ts σ H Q := q
theorem w_ve {ws : List V} (hl : ws.length ≤ 1000) (hT : OexC K C) (h : H a = some (exo a C none)) (q : Q .non H) : RVe K (.ref a :: ws) H Q := ⟨a, C, ws, rfl, hl, hT, h, q⟩
def ROst (K : PySem.W.Frag) (f : Str) (y x : V) (H : Hp) (R : Hp → Prop) : Prop := ∃ a C : Addr, x = .ref a ∧ OexC K C ∧ PySem.W.findIn K (.ref C) f = some none ∧
  ((H a = some (exo a C none) ∧ ∀ dx, H dx = none → dx ≠ a → R (upd (upd H dx (exd dx [(f, y)])) a (exo a C (some dx)))) ∨
    ∃ (dx : Addr) (fs : List (Str × V)), H a = some (exo a C (some dx)) ∧ H dx = some (exd dx fs) ∧ fs.length ≤ 900 ∧ R (upd H dx (exd dx ((f, y) :: fs))))
theorem w_ost0 (q : te σ H fun y H1 => to σ H1 fun x H2 => ROst K f y x H2 (D.nx σ)) : tOst K f to te D σ H := q
theorem w_ost {R : Hp → Prop} (hs : Hs B ((a, exo a C none) :: L) H) (hT : OexC K C) (hn : PySem.W.findIn K (.ref C) f = some none) (q : ∀ dx H', Hs B ((dx, exd dx [(f, y)]) :: (a, exo a C (some dx)) :: L) H' → R H') : ROst K f y (.ref a) H R :=
  ⟨a, C, rfl, hT, hn, .inl ⟨hs.g0, fun dx hd _ => q dx _ ((hs.new hd).p1 _)⟩⟩
/-- the making of an own exception -/
def MkO (C : Addr) (sp : Sp) (vs dvs : List V) (H1 : Hp) (Q : XK) : Prop := vs.length ≤ 1000 ∧ ∀ a, H1 a = none → sp (.ref a :: (vs ++ dvs)) (upd H1 a (exo a C none))
  (fun v H2 => v = .non ∧ ∃ (d : Addr) (fs : List (Str × V)), H2 a = some (exo a C (some d)) ∧ H2 d = some (exd d fs) ∧ H1 d = none ∧ Q (.ref C) (some d) (upd (del H2 a) d (.xd fs))) (fun _ _ _ => False)
theorem w_mko {sp : Sp} {dvs : List V} {Q : XK} (q : ts σ H fun vs H1 => MkO C sp vs dvs H1 Q) : tMkO C sp dvs ts σ H Q := by
  revert q
  unfold tMkO MkO
  exact id
/-- what an own __init__ with one field promises -/
def spXinit (C : Addr) (f : Str) (ok : V → Prop) : Sp := fun vs H Q _ => ∃ (B : Hp) (e : Addr) (v : V), vs = [.ref e, v] ∧ Hs B [(e, exo e C none)] H ∧ ok v ∧ ∀ dx H', Hs B [(dx, exd dx [(f, v)]), (e, exo e C (some dx))] H' → Q .non H'
theorem w_mkX {ok : V → Prop} {Q : XK} (hs : Hs B L H) (hv : ok v) (q : ∀ d H', Hs B ((d, .xd [(f, v)]) :: L) H' → Q (.ref C) (some d) H') : MkO C (spXinit C f ok) [v] [] H Q := by
  refine ⟨by simp, fun a ha => ?_⟩
  have h1 := hs.new (o := exo a C none) ha
  obtain ⟨_, h2, back⟩ := h1.frame [(a, exo a C none)]
  refine ⟨_, a, v, rfl, h2, hv, fun dx H2 h3 => ⟨rfl, dx, [(f, v)], h3.g1, h3.g0, ?_, ?_⟩⟩
  · have n : dx ≠ a := fun e => by
      have := h3.nd
      rw [e] at this
      simp at this
    have z := h3.out _ List.mem_cons_self
    have nm : dx ∉ [(a, exo a C none)].map (·.1) := by
      simp only [List.map_cons, List.map_nil, List.mem_singleton]
      exact n
    have z2 : upd H a (exo a C none) dx = none := (around_out nm).symm.trans z
    rwa [upd_ne n] at z2
  · have h4 := back _ _ h3
    have nd := h4.nd
    have hda : dx ≠ a := fun e => by
      rw [e] at nd
      simp at nd
    have nL : ∀ e ∈ L, e.1 ≠ dx ∧ e.1 ≠ a := fun e he => by
      simp only [List.cons_append, List.nil_append, List.map_cons, List.nodup_cons, List.mem_cons, not_or] at nd
      refine ⟨fun z => nd.1.2 ?_, fun z => nd.2.1 ?_⟩
      · rw [← z]
        exact List.mem_map.mpr ⟨e, he, rfl⟩
      · rw [← z]
        exact List.mem_map.mpr ⟨e, he, rfl⟩
    have ba : B a = none := hs.same.free ha
    have bd : B dx = none := h4.out _ List.mem_cons_self
    refine q dx _ ⟨fun b o e => ?_, ?_, fun e he => ?_, fun e he => ?_⟩
    · have n1 : b ≠ dx := fun z => by
        rw [z, bd] at e
        cases e
      have n2 : b ≠ a := fun z => by
        rw [z, ba] at e
        cases e
      rw [upd_ne n1, del_ne n2]
      exact h4.same b o e
    · simp only [List.cons_append, List.nil_append, List.map_cons, List.nodup_cons, List.mem_cons, not_or] at nd ⊢
      exact ⟨nd.1.2, nd.2.2⟩
    · rcases List.mem_cons.mp he with rfl | he
      · exact bd
      · exact hs.out e he
    · rcases List.mem_cons.mp he with rfl | he
      · exact upd_same
      · obtain ⟨n1, n2⟩ := nL e he
        rw [upd_ne n1, del_ne n2]
        exact h4.at_ e (List.mem_cons_of_mem _ (List.mem_cons_of_mem _ he))
theorem w_methQ {sp : Sp} {E : St → XK} {m : Str} {ta : TE} (q : ta σ H fun x H1 => Rc m C x H1 (ts σ H1 fun vs H2 => sp (x :: vs) H2 Q (E σ))) : tMethQ C m sp E ta ts σ H Q := by
  revert q
  unfold tMethQ Rc
  exact id
theorem w_isX {d : Addr} {fs : List (Str × V)} {C' : Addr} {b : Bool} (h : H d = some (.xd fs)) (hx : XcC K C) (hk : PySem.W.kitOne K (.ref C) (.ref C') = some b) (q : Q (.bl b) H) : rIsX K a (.ref C) (some d) [.ref a, .ref C'] H Q := ⟨C, C', d, fs, b, rfl, rfl, h, rfl, hx, hk, q⟩
def RXf (a : Addr) (cls : Value) (d : Option Addr) (C : Addr) (f : Str) (x : V) (H : Hp) (Q : VK) : Prop := x = .ref a ∧ cls = .ref C ∧ ∃ (dd : Addr) (fs : List (Str × V)) (v : V), d = some dd ∧ H dd = some (.xd fs) ∧ fs.lookup f = some v ∧ Q v H
theorem w_xf0 {cls : Value} {d : Option Addr} (q : te σ H fun x H1 => RXf a cls d C f x H1 Q) : tXf a cls d C f te σ H Q := q
theorem w_xf {d : Addr} {fs : List (Str × V)} (h : H d = some (.xd fs)) (hl : fs.lookup f = some v) (q : Q v H) : RXf a (.ref C) (some d) C f (.ref a) H Q := ⟨rfl, rfl, d, fs, v, rfl, h, hl, q⟩
theorem w_was {i : Nat} {ts : Addr → Value → Option Addr → TS} {Wout : WX} {d : Addr} (he : PySem.W.exmOne K (.ref C) (.ref C) = some true)
    (q : ∀ e, H e = none → ts e (.ref C) (some d) { nx := fun σ' H' => D.nx (σ'.set i none) H', rt := D.rt, bk := fun σ' H' => D.bk (σ'.set i none) H', ct := fun σ' H' => D.ct (σ'.set i none) H' } (σ.set i (some (.ref e))) H) :
    wAs K (.ref C) i ts Wout D (.ref C) (some d) σ H := ⟨true, he, fun _ e h => q e h, fun z => Bool.noConfusion z⟩
theorem w_eqSt {a b : Str} (q : Q (.bl (decide (a = b))) H) : rEq (.str a) (.str b) H Q := ⟨rfl, by
  have e : decide (V.str a = V.str b) = decide (a = b) := by
    by_cases h : a = b
    · rw [decide_eq_true h, decide_eq_true (congrArg V.str h)]
    · rw [decide_eq_false h, decide_eq_false fun q => h (V.str.inj q)]
  rw [e]
  exact q⟩
/-- texts of an f-string -/
theorem w_js {t : TE} {us : List TE} {acc : Str} {Q : Str → Hp → Prop} (q : t σ H fun x H1 => ∃ y : Str, x = .str y ∧ (acc ++ y).length ≤ sizeLine ∧ tJs us (acc ++ y) σ H1 Q) : tJs (t :: us) acc σ H Q := q
theorem w_js0 {acc : Str} {Q : Str → Hp → Prop} (q : Q acc H) : tJs [] acc σ H Q := q
theorem w_js1 {s acc : Str} {R : Str → Prop} (h : (acc ++ s).length ≤ sizeLine) (q : R s) : ∃ y : Str, V.str s = .str y ∧ (acc ++ y).length ≤ sizeLine ∧ R y := ⟨s, rfl, h, q⟩
def RFmt (x : V) (H : Hp) (Q : VK) : Prop := (∃ y : Str, x = .str y ∧ y.length ≤ sizeLine ∧ Q (.str y) H) ∨ ∃ i : Int, x = .int i ∧ i.natAbs.log2 < 1920 ∧ Q (.str (toString i)) H
theorem w_fmt (q : te σ H fun x H1 => RFmt x H1 Q) : tFmt te σ H Q := q
theorem w_fmtS {s : Str} (h : s.length ≤ sizeLine) (q : Q (.str s) H) : RFmt (.str s) H Q := .inl ⟨s, rfl, h, q⟩
theorem w_fmtI {n : Int} (h : n.natAbs < 2 ^ 64) (q : Q (.str (toString n)) H) : RFmt (.int n) H Q := .inr ⟨n, rfl, Nat.lt_of_lt_of_le (PySem.Flt.log2_lt_of (by decide) h) (by decide), q⟩
def tRaiseX (W : WX) (t : St → Hp → XK → Prop) : TS := fun _ σ H => t σ H fun cls d H' => W cls d σ H'
theorem ps_raiseQ {X : Cx} {W : WX} {e : Expr} {t : St → Hp → XK → Prop} {pos : Pos} (hc : X.calm = true) (tk : Takes X W) (he : PMk X e t) : PS X (.Raise (some e) none pos) (tRaiseX W t) := ps_raise hc tk he
theorem w_raise {W : WX} {t : St → Hp → XK → Prop} (q : t σ H fun cls d H' => W cls d σ H') : tRaiseX W t D σ H := q
end

/-! ### data that nobody changes: scalars and tuples -/
mutual
inductive Im (K : PySem.W.Frag) (H : Hp) : V → PyData → Prop
  | non : Im K H .non .none
  | bl (b : Bool) : Im K H (.bl b) (.bool b)
  | int (i : Int) : Im K H (.int i) (.int i)
  | str (x : Str) : Im K H (.str x) (.str x)
  | tup {a : Addr} {xs : List V} {ds : List PyData} : H a = some (.tup xs) → ImAll K H xs ds → Im K H (.ref a) (.tuple ds)
inductive ImAll (K : PySem.W.Frag) (H : Hp) : List V → List PyData → Prop
  | nil : ImAll K H [] []
  | cons {v : V} {vs : List V} {d : PyData} {ds : List PyData} : Im K H v d → ImAll K H vs ds → ImAll K H (v :: vs) (d :: ds)
end
section
variable {K : PySem.W.Frag} {H H' : Hp}
mutual
theorem Im.dp : ∀ {d : PyData} {v : V}, Im K H v d → Dp K H v d
  | .none, _, h => by cases h; exact .non
  | .bool _, _, h => by cases h; exact .bl _
  | .int _, _, h => by cases h; exact .int _
  | .str _, _, h => by cases h; exact .str _
  | .tuple _, _, h => by
    cases h with
    | tup h1 h2 => exact .tup (SqT.of h1) h2.dp
  | .list _, _, h => nomatch h
  | .dict _, _, h => nomatch h
theorem ImAll.dp : ∀ {ds : List PyData} {vs : List V}, ImAll K H vs ds → DpAll K H vs ds
  | [], _, h => by cases h; exact .nil
  | _ :: _, _, h => by
    cases h with
    | cons h1 h2 => exact .cons h1.dp h2.dp
end
mutual
theorem Im.mono (e : ∀ a xs, H a = some (.tup xs) → H' a = some (.tup xs)) : ∀ {d : PyData} {v : V}, Im K H v d → Im K H' v d
  | .none, _, h => by cases h; exact .non
  | .bool _, _, h => by cases h; exact .bl _
  | .int _, _, h => by cases h; exact .int _
  | .str _, _, h => by cases h; exact .str _
  | .tuple _, _, h => by
    cases h with
    | tup h1 h2 => exact .tup (e _ _ h1) (h2.mono e)
  | .list _, _, h => nomatch h
  | .dict _, _, h => nomatch h
theorem ImAll.mono (e : ∀ a xs, H a = some (.tup xs) → H' a = some (.tup xs)) : ∀ {ds : List PyData} {vs : List V}, ImAll K H vs ds → ImAll K H' vs ds
  | [], _, h => by cases h; exact .nil
  | _ :: _, _, h => by
    cases h with
    | cons h1 h2 => exact .cons (h1.mono e) (h2.mono e)
end
theorem Im.same (e : Same H H') {d : PyData} {v : V} (h : Im K H v d) : Im K H' v d := h.mono fun _ _ => e _ _
theorem ImAll.same (e : Same H H') {ds : List PyData} {vs : List V} (h : ImAll K H vs ds) : ImAll K H' vs ds := h.mono fun _ _ => e _ _
theorem ImAll.snoc {ds : List PyData} {vs : List V} {d : PyData} {v : V} (h : ImAll K H vs ds) (h1 : Im K H v d) : ImAll K H (vs ++ [v]) (ds ++ [d]) := by
  induction vs generalizing ds with
  | nil =>
    cases h
    exact .cons h1 .nil
  | cons w ws ih =>
    cases h with
    | cons a b => exact .cons a (ih b)
theorem ImAll.len : ∀ {ds : List PyData} {vs : List V}, ImAll K H vs ds → vs.length = ds.length
  | [], _, h => by cases h; rfl
  | _ :: _, _, h => by
    cases h with
    | cons _ b => exact congrArg (· + 1) b.len
/-- what is data stays data where a list changes -/
theorem tup_but {p : Addr} {o o' : HO} (h : H p = some o) (n : ∀ xs, o ≠ .tup xs) (a : Addr) (xs : List V) (e : H a = some (.tup xs)) : upd H p o' a = some (.tup xs) := by
  have d : a ≠ p := fun z => by
    rw [z, h] at e
    exact n xs (Option.some.inj e)
  rw [upd_ne d]
  exact e
theorem Hs.base {B B2 : Hp} {L : List (Addr × HO)} (e : Same B B2) (h : Hs B2 L H) : Hs B L H := ⟨e.trans h.same, h.nd, fun x hx => e.free (h.out x hx), h.at_⟩
end
section
variable {K : PySem.W.Frag} {σ : St} {H : Hp} {Q : VK} {te : TE} {ts : TA}
/-- [e for i in range(lo, hi)], each e data that is made anew -/
theorem w_lcI {vs : List Nat} {j : Nat} {lo hi : Int} (b1 : -(2 ^ 62) ≤ lo ∧ lo < 2 ^ 62 ∧ -(2 ^ 62) ≤ hi ∧ hi < 2 ^ 62) (hz : hi - lo ≤ 1000000) (ds : Nat → PyData) (hta : ∀ Q : List V → Hp → Prop, Q [.int lo, .int hi] H → ts σ H Q)
    (hw : ∀ v, wipe ((wipe σ vs).set j (some v)) vs = wipe σ vs)
    (he : ∀ (i : Nat) (H' : Hp) (Q' : VK), lo + (i : Int) < hi → Same H H' → (∀ y H3, Same H' H3 → Im K H3 y (ds i) → Q' y H3) → te ((wipe σ vs).set j (some (.int (lo + (i : Int))))) H' Q')
    (hq : ∀ D acc H', Hs H [(D, .lst acc)] H' → ImAll K H' acc ((List.range (hi - lo).toNat).map ds) → Q (.ref D) H') : tLc (iRng2 ts) (gName j) tYes te vs σ H Q := by
  refine w_lcR b1 (fun D i H' => ∃ acc, Hs H [(D, .lst acc)] H' ∧ ImAll K H' acc ((List.range i).map ds)) hta (fun D hD => ⟨[], (Hs.start H).new hD, .nil⟩) ?_ ?_
  · rintro D i H' hi' ⟨acc, h1, h2⟩
    refine ⟨hw _, ?_⟩
    refine w_yes (iteT ?_)
    refine he i H' _ hi' h1.same fun y H3 s3 hy => ?_
    have hD : H3 D = some (.lst acc) := s3 _ _ h1.g0
    have hl := h2.len
    rw [List.length_map, List.length_range] at hl
    refine ⟨acc, hD, szl (by omega), acc ++ [y], ?_, ?_⟩
    · have h3 : Hs H [(D, .lst acc)] H3 := ⟨h1.same.trans s3, h1.nd, h1.out, fun e he => s3 _ _ (h1.at_ e he)⟩
      exact h3.p0 _
    · rw [List.range_succ, List.map_append]
      exact ((h2.same s3).snoc hy).mono fun a xs => tup_but hD (fun _ z => by cases z) a xs
  · rintro D H' ⟨acc, h1, h2⟩
    exact hq D acc H' h1 h2
theorem w_lcI1 {vs : List Nat} {j : Nat} {hi : Int} (b1 : -(2 ^ 62) ≤ hi ∧ hi < 2 ^ 62) (hz : hi ≤ 1000000) (ds : Nat → PyData) (hta : ∀ Q : List V → Hp → Prop, Q [.int hi] H → ts σ H Q)
    (hw : ∀ v, wipe ((wipe σ vs).set j (some v)) vs = wipe σ vs)
    (he : ∀ (i : Nat) (H' : Hp) (Q' : VK), (i : Int) < hi → Same H H' → (∀ y H3, Same H' H3 → Im K H3 y (ds i) → Q' y H3) → te ((wipe σ vs).set j (some (.int (i : Int)))) H' Q')
    (hq : ∀ D acc H', Hs H [(D, .lst acc)] H' → ImAll K H' acc ((List.range hi.toNat).map ds) → Q (.ref D) H') : tLc (iRng1 ts) (gName j) tYes te vs σ H Q := by
  refine w_lcR1 b1 (fun D i H' => ∃ acc, Hs H [(D, .lst acc)] H' ∧ ImAll K H' acc ((List.range i).map ds)) hta (fun D hD => ⟨[], (Hs.start H).new hD, .nil⟩) ?_ ?_
  · rintro D i H' hi' ⟨acc, h1, h2⟩
    refine ⟨hw _, ?_⟩
    refine w_yes (iteT ?_)
    refine he i H' _ hi' h1.same fun y H3 s3 hy => ?_
    have hD : H3 D = some (.lst acc) := s3 _ _ h1.g0
    have hl := h2.len
    rw [List.length_map, List.length_range] at hl
    refine ⟨acc, hD, szl (by omega), acc ++ [y], ?_, ?_⟩
    · have h3 : Hs H [(D, .lst acc)] H3 := ⟨h1.same.trans s3, h1.nd, h1.out, fun e he => s3 _ _ (h1.at_ e he)⟩
      exact h3.p0 _
    · rw [List.range_succ, List.map_append]
      exact ((h2.same s3).snoc hy).mono fun a xs => tup_but hD (fun _ z => by cases z) a xs
  · rintro D H' ⟨acc, h1, h2⟩
    exact hq D acc H' h1 h2
theorem depth_all {n : Nat} : ∀ ds : List PyData, (∀ d ∈ ds, d.depth ≤ n) → PyData.depthAll ds ≤ n
  | [], _ => by simp [PyData.depthAll]
  | d :: ds, h => by
    have h1 := h d List.mem_cons_self
    have h2 := depth_all ds fun x hx => h x (List.mem_cons_of_mem _ hx)
    simp only [PyData.depthAll]
    omega
theorem lay_all : ∀ ds : List PyData, (∀ d ∈ ds, d.canLay0 = true) → PyData.canLayAll0 ds = true
  | [], _ => by simp [PyData.canLayAll0]
  | d :: ds, h => by
    have h1 := h d List.mem_cons_self
    have h2 := lay_all ds fun x hx => h x (List.mem_cons_of_mem _ hx)
    simp only [PyData.canLayAll0, h1, h2, Bool.and_self]
theorem shp_list {ds : List PyData} (h : ∀ d ∈ ds, d.canLay0 = true ∧ d.depth ≤ 60) : SeqAt.shaped (.list ds) = true := by
  have e := depth_all ds fun d hd => (h d hd).2
  have l := lay_all ds fun d hd => (h d hd).1
  unfold SeqAt.shaped PyData.canLay0 PyData.depth
  rw [l]
  simp only [Bool.true_and, decide_eq_true_eq]
  omega
/-- two lists of like data are equal -/
theorem w_eqL {p q : Addr} {xs ys : List V} {ds : List PyData} (hp : H p = some (.lst xs)) (hq : H q = some (.lst ys)) (h1 : ImAll K H xs ds) (h2 : ImAll K H ys ds) (h : ∀ d ∈ ds, d.canLay0 = true ∧ d.depth ≤ 60) (k : Q (.bl true) H) : rEqD K (.ref p) (.ref q) H Q :=
  ⟨_, _, .lst (SqL.of hp) h1.dp, .lst (SqL.of hq) h2.dp, shp_list h, shp_list h, by
    rw [SeqAt.eqv_refl _ (by have := shp_list h; unfold SeqAt.shaped at this; exact (Bool.and_eq_true_iff.mp this).1)]
    exact k⟩
theorem w_neL {p q : Addr} {xs ys : List V} {ds : List PyData} (hp : H p = some (.lst xs)) (hq : H q = some (.lst ys)) (h1 : ImAll K H xs ds) (h2 : ImAll K H ys ds) (h : ∀ d ∈ ds, d.canLay0 = true ∧ d.depth ≤ 60) (k : Q (.bl false) H) : rNeD K (.ref p) (.ref q) H Q :=
  ⟨_, _, .lst (SqL.of hp) h1.dp, .lst (SqL.of hq) h2.dp, shp_list h, shp_list h, by
    rw [SeqAt.eqv_refl _ (by have := shp_list h; unfold SeqAt.shaped at this; exact (Bool.and_eq_true_iff.mp this).1)]
    exact k⟩
theorem ima_str : ∀ xs : List Str, ImAll K H (xs.map V.str) (xs.map PyData.str)
  | [] => .nil
  | x :: xs => .cons (.str x) (ima_str xs)
end
end Hb

set_option Elab.async false
set_option maxRecDepth 100000
set_option maxHeartbeats 4000000
/-! Still more steps: truth of lists, texts in a tuple, slices of tuples, comprehensions over lists of tuples. -/
namespace Hb
open PySem L2
/-- the truth of a list -/
theorem w_truL {K : PySem.W.Frag} {H : Hp} {p : Addr} {xs : List V} {R : Bool → Prop} (h : SqL K H p xs) (q : R (!xs.isEmpty)) : ∃ k, TruV K (.ref p) H k ∧ R k := ⟨_, .inl ⟨xs, h, rfl⟩, q⟩
/-- a text in a new tuple of texts -/
theorem w_inT {K : PySem.W.Frag} {H : Hp} {Q : VK} {x : V} {p : Addr} {neg : Bool} {xs : List V} (h : SqT K H p xs) (hx : flatV x = true) (hf : xs.all flatV = true) (q : Q (.bl (if neg then !inV x xs else inV x xs)) H) : rIn K neg x (.ref p) H Q := ⟨p, xs, rfl, .inr h, hx, hf, q⟩
/-- a tuple's slice, not the whole -/
theorem w_slT0 {K : PySem.W.Frag} {B H : Hp} {L : List (Addr × HO)} {Q : VK} {p : Addr} {xs : List V} {lo hi : Option Int} (hs : Hs B L H) (h : SqT K H p xs) (hw : ¬ (HT.sIx xs.length 0 lo = 0 ∧ HT.sIx xs.length xs.length hi = xs.length)) (q : ∀ l H', Hs B ((l, .tup (cutV xs lo hi)) :: L) H' → Q (.ref l) H') : rSlT K (.ref p) lo hi H Q := by
  exact ⟨p, xs, rfl, h, hw, w_new hs q⟩
/-- what stands aside of our own objects becomes the ground -/
theorem Hs.rebase {B H : Hp} {L : List (Addr × HO)} (hs : Hs B L H) : Same B (around L H) ∧ Hs (around L H) L H := by
  have h := Hs.frame (R := []) L (by rw [List.append_nil]; exact hs)
  exact ⟨h.1, h.2.1⟩
theorem im_around {K : PySem.W.Frag} {H : Hp} {L : List (Addr × HO)} (nt : ∀ e ∈ L, ∀ xs, H e.1 ≠ some (.tup xs)) {vs : List V} {ds : List PyData} (h : ImAll K H vs ds) : ImAll K (around L H) vs ds :=
  h.mono fun a xs e => by
    rw [around_out fun m => ?_]
    · exact e
    · obtain ⟨z, hz, rfl⟩ := List.mem_map.mp m
      exact nt z hz xs e

theorem w_slT {K : PySem.W.Frag} {B H : Hp} {L : List (Addr × HO)} {Q : VK} {p : Addr} {xs : List V} {j : Int} (n : Nat) (e : j = (n : Int)) (hs : Hs B L H) (h : SqT K H p xs) (h0 : 0 < n) (h1 : n ≤ xs.length) (q : ∀ l H', Hs B ((l, .tup (xs.drop n)) :: L) H' → Q (.ref l) H') : rSlT K (.ref p) (some j) none H Q := by
  refine w_slT0 hs h ?_ fun l H' hs' => ?_
  · subst e
    rw [HT.sIx_nat]
    omega
  · rw [cut_from n e] at hs'
    exact q l H' hs'
section
variable {K : PySem.W.Frag} {σ : St} {H : Hp} {Q : VK} {te : TE} {g : TG}
/-- [e for .. in xs], xs a list of data, each e data that is made anew -/
theorem w_lcD {tl : TE} {a : Addr} {xs : List V} {vs : List Nat} (hx : SqL K H a xs) (hz : xs.length ≤ 1000000) (ds : List PyData) (hl : ds.length = xs.length) (htl : ∀ Q : VK, Q (.ref a) H → tl σ H Q)
    (he : ∀ (i : Nat) (x : V) (d : PyData) (H' : Hp) (Q' : VK), xs[i]? = some x → ds[i]? = some d → Same H H' → (∀ y H3, Same H' H3 → Im K H3 y d → Q' y H3) → g x (wipe σ vs) H' fun σ2 H2 => wipe σ2 vs = wipe σ vs ∧ te σ2 H2 Q')
    (hq : ∀ D acc H', Hs H [(D, .lst acc)] H' → ImAll K H' acc ds → Q (.ref D) H') (gm : ∀ x σ H R R', (∀ σ' H', R σ' H' → R' σ' H') → g x σ H R → g x σ H R') : tLc (iList K tl) g tYes te vs σ H Q := by
  refine w_lc hx (fun D i H' => ∃ acc, Hs H [(D, .lst acc)] H' ∧ ImAll K H' acc (ds.take i)) htl (fun D hD => ⟨[], (Hs.start H).new hD, by rw [List.take_zero]; exact .nil⟩) (fun D i H' _ ⟨_, h, _⟩ => h.same.seq hx) ?_ ?_
  · rintro D i x H' hi ⟨acc, h1, h2⟩
    have hin := (List.getElem?_eq_some_iff.mp hi).1
    have hd : ds[i]? = some ds[i] := List.getElem?_eq_getElem (by omega)
    refine gm _ _ _ _ _ (fun σ' H2 ⟨e1, e2⟩ => ⟨e1, w_yes (iteT e2)⟩) (he i x ds[i] H' _ hi hd h1.same fun y H3 s3 hy => ?_)
    have hD : H3 D = some (.lst acc) := s3 _ _ h1.g0
    have hl2 := h2.len
    rw [List.length_take] at hl2
    refine ⟨acc, hD, szl (by omega), acc ++ [y], ?_, ?_⟩
    · have h3 : Hs H [(D, .lst acc)] H3 := ⟨h1.same.trans s3, h1.nd, h1.out, fun e he => s3 _ _ (h1.at_ e he)⟩
      exact h3.p0 _
    · have e : ds.take (i + 1) = ds.take i ++ [ds[i]] := by
        rw [List.take_succ, hd]
        rfl
      rw [e]
      exact ((h2.same s3).snoc hy).mono fun a xs => tup_but hD (fun _ z => by cases z) a xs
  · rintro D H' ⟨acc, h1, h2⟩
    rw [← hl, List.take_length] at h2
    exact hq D acc H' h1 h2
theorem ImAll.get {H : Hp} : ∀ {xs : List V} {ds : List PyData} {i : Nat} {x : V} {d : PyData}, ImAll K H xs ds → xs[i]? = some x → ds[i]? = some d → Im K H x d
  | _ :: _, _ :: _, 0, x, d, .cons h _, e1, e2 => by
    cases e1
    cases e2
    exact h
  | _ :: _, _ :: _, i + 1, x, d, .cons _ h, e1, e2 => ImAll.get (i := i) h (by simpa using e1) (by simpa using e2)
theorem ImAll.app {H : Hp} : ∀ {xs ys : List V} {ds es : List PyData}, ImAll K H xs ds → ImAll K H ys es → ImAll K H (xs ++ ys) (ds ++ es)
  | [], _, _, _, .nil, h => h
  | _ :: _, _, _, _, .cons a b, h => .cons a (b.app h)
end
end Hb

set_option Elab.async false
set_option maxRecDepth 100000
set_option maxHeartbeats 4000000
/-! Dicts with a fixed row of text keys, as a law's plain models have them; tuples put together. -/
namespace Hb
open PySem L2
/-- a dict whose keys are a fixed row of texts -/
def zipK (ks : List Str) (vs : List V) : List (Key × V) := (ks.map Sum.inr).zip vs
theorem val_zip : ∀ {ks : List Str} {vs : List V} {i : Nat} {k : Str} {v : V}, ks.Nodup → ks[i]? = some k → vs[i]? = some v → valV (zipK ks vs) (Sum.inr k) = some v
  | k0 :: ks, v0 :: vs, 0, k, v, _, hk, hv => by
    cases hk
    cases hv
    show Option.map _ (List.find? _ ((Sum.inr k0, v0) :: zipK ks vs)) = _
    rw [List.find?_cons, decide_eq_true (rfl : (Sum.inr k0 : Key) = Sum.inr k0)]
    rfl
  | k0 :: ks, v0 :: vs, i + 1, k, v, nd, hk, hv => by
    have h1 := List.nodup_cons.mp nd
    have hk' : ks[i]? = some k := by simpa using hk
    have hv' : vs[i]? = some v := by simpa using hv
    have hne : ¬ (Sum.inr k0 : Key) = Sum.inr k := fun e => h1.1 (by cases e; exact List.mem_of_getElem? hk')
    show Option.map _ (List.find? _ ((Sum.inr k0, v0) :: zipK ks vs)) = _
    rw [List.find?_cons, decide_eq_false hne]
    exact val_zip h1.2 hk' hv'
theorem map_zip_out : ∀ {ks : List Str} {vs : List V} {k : Str} {v : V}, k ∉ ks → (zipK ks vs).map (fun kv => if kv.1 = (Sum.inr k : Key) then (kv.1, v) else kv) = zipK ks vs
  | [], _, _, _, _ => rfl
  | _ :: _, [], _, _, _ => rfl
  | k0 :: ks, v0 :: vs, k, v, h => by
    have hne : ¬ (Sum.inr k0 : Key) = Sum.inr k := fun e => h (by cases e; exact List.mem_cons_self)
    show (if (Sum.inr k0 : Key) = Sum.inr k then ((Sum.inr k0 : Key), v) else (Sum.inr k0, v0)) :: (zipK ks vs).map _ = _
    rw [if_neg hne, map_zip_out (fun m => h (List.mem_cons_of_mem _ m))]
    rfl
theorem map_zip : ∀ {ks : List Str} {vs : List V} {i : Nat} {k : Str} {v : V}, ks.Nodup → ks[i]? = some k → i < vs.length → (zipK ks vs).map (fun kv => if kv.1 = (Sum.inr k : Key) then (kv.1, v) else kv) = zipK ks (vs.set i v)
  | k0 :: ks, v0 :: vs, 0, k, v, nd, hk, _ => by
    cases hk
    have h1 := List.nodup_cons.mp nd
    show (if (Sum.inr k0 : Key) = Sum.inr k0 then ((Sum.inr k0 : Key), v) else (Sum.inr k0, v0)) :: (zipK ks vs).map _ = _
    rw [if_pos rfl, map_zip_out h1.1]
    rfl
  | k0 :: ks, v0 :: vs, i + 1, k, v, nd, hk, hl => by
    have h1 := List.nodup_cons.mp nd
    have hk' : ks[i]? = some k := by simpa using hk
    have hne : ¬ (Sum.inr k0 : Key) = Sum.inr k := fun e => h1.1 (by cases e; exact List.mem_of_getElem? hk')
    show (if (Sum.inr k0 : Key) = Sum.inr k then ((Sum.inr k0 : Key), v) else (Sum.inr k0, v0)) :: (zipK ks vs).map _ = _
    rw [if_neg hne, map_zip h1.2 hk' (Nat.lt_of_succ_lt_succ hl)]
    rfl
theorem any_of_val {kvs : List (Key × V)} {k : Key} {v : V} (h : valV kvs k = some v) : (kvs.any fun kv => decide (kv.1 = k)) = true := by
  unfold valV at h
  cases e : kvs.find? (fun kv => decide (kv.1 = k)) with
  | none =>
    rw [e] at h
    cases h
  | some z =>
    have h1 := List.find?_some e
    exact List.any_eq_true.mpr ⟨z, List.mem_of_find?_eq_some e, h1⟩
theorem put_zip {ks : List Str} {vs : List V} {i : Nat} {k : Str} {v u : V} (nd : ks.Nodup) (hk : ks[i]? = some k) (hv : vs[i]? = some u) : putK (zipK ks vs) (Sum.inr k) v = zipK ks (vs.set i v) := by
  unfold putK
  rw [if_pos (any_of_val (val_zip nd hk hv))]
  exact map_zip nd hk (List.getElem?_eq_some_iff.mp hv).1
/-! ### their steps -/
section
variable {σ : St} {H : Hp} {Q : VK} {D : Ends} {td ty tv : TE} {p : Addr} {B : Hp} {L L' : List (Addr × HO)} {ks : List Str} {vs us : List V} {i : Nat} {k : Str} {v u : V}
def RDget (x y : V) (H : Hp) (Q : VK) : Prop := ∃ a v, x = .ref a ∧ DGet H a y (some v) ∧ Q v H
theorem w_dget (q : td σ H fun x H1 => ty σ H1 fun y H2 => RDget x y H2 Q) : tDGet td ty σ H Q := q
theorem w_dgetZ (h : H p = some (.dK (zipK ks vs))) (nd : ks.Nodup) (hk : ks[i]? = some k) (hv : vs[i]? = some v) (q : Q v H) : RDget (.ref p) (.str k) H Q :=
  ⟨p, v, rfl, val_zip nd hk hv ▸ DGet.k (k := Sum.inr k) h, q⟩
theorem w_dgetI {kvs : List (Key × V)} {n : Int} (h : H p = some (.dK kvs)) (hv : valV kvs (Sum.inl n) = some v) (q : Q v H) : RDget (.ref p) (.int n) H Q :=
  ⟨p, v, rfl, hv ▸ DGet.k (k := Sum.inl n) h, q⟩
theorem w_dputZ {R : Hp → Prop} (hs : Hs B L H) (h : Put L p (.dK (zipK ks vs)) (.dK (zipK ks us)) L') (nd : ks.Nodup) (hk : ks[i]? = some k) (hv : vs[i]? = some u) (hu : vs.set i v = us) (hl : ks.length < 1000) (q : ∀ H', Hs B L' H' → R H') : RDput (.ref p) (.str k) v H R := by
  subst hu
  refine ⟨p, _, rfl, DPut.k (k := Sum.inr k) (hs.gets h) ?_, ?_⟩
  · refine szl ?_
    show ((ks.map Sum.inr).zip vs).length ≤ 1000000
    rw [List.length_zip, List.length_map]
    omega
  · rw [put_zip nd hk hv]
    exact q _ (hs.puts h)
/-- the same as a target among others -/
theorem w_gsub {tset : TSet} {R : St → Hp → Prop} (q : td σ H fun o H1 => ty σ H1 fun i H2 => tset o i v H2 fun H3 => R σ H3) : gSub td ty tset v σ H R := q
theorem w_setD {x y : V} {R : Hp → Prop} (q : RDput x y v H R) : rSetD x y v H R := q
end
section
variable {K : PySem.W.Frag}
theorem op_catTK {X : Cx} (hK : X.K = K := by rfl) : OpR X (binaryOp .Add) (rCatT K) := by
  subst hK
  exact op_catT
theorem w_catT {B H : Hp} {L : List (Addr × HO)} {Q : VK} {p r : Addr} {xs ys : List V} (hs : Hs B L H) (h1 : SqT K H p xs) (h2 : SqT K H r ys) (n1 : xs ≠ []) (n2 : ys ≠ []) (hl : xs.length + ys.length ≤ 1000) (q : ∀ l H', Hs B ((l, .tup (xs ++ ys)) :: L) H' → Q (.ref l) H') : rCatT K (.ref p) (.ref r) H Q :=
  ⟨p, r, xs, ys, rfl, rfl, h1, h2, n1, Nat.le_of_lt (szl (by omega)), fun e => absurd e n2, fun _ => w_new hs q⟩
end
section
variable {α : Type} {a b c d e f g h i v : α} {l : List α}
theorem v0 : (a :: l)[0]? = some a := rfl
theorem v1 : (a :: b :: l)[1]? = some b := rfl
theorem v2 : (a :: b :: c :: l)[2]? = some c := rfl
theorem v3 : (a :: b :: c :: d :: l)[3]? = some d := rfl
theorem v4 : (a :: b :: c :: d :: e :: l)[4]? = some e := rfl
theorem v5 : (a :: b :: c :: d :: e :: f :: l)[5]? = some f := rfl
theorem v6 : (a :: b :: c :: d :: e :: f :: g :: l)[6]? = some g := rfl
theorem v7 : (a :: b :: c :: d :: e :: f :: g :: h :: l)[7]? = some h := rfl
theorem v8 : (a :: b :: c :: d :: e :: f :: g :: h :: i :: l)[8]? = some i := rfl
theorem st0 : (a :: l).set 0 v = v :: l := rfl
theorem st1 : (a :: b :: l).set 1 v = a :: v :: l := rfl
theorem st2 : (a :: b :: c :: l).set 2 v = a :: b :: v :: l := rfl
theorem st3 : (a :: b :: c :: d :: l).set 3 v = a :: b :: c :: v :: l := rfl
theorem st4 : (a :: b :: c :: d :: e :: l).set 4 v = a :: b :: c :: d :: v :: l := rfl
theorem st5 : (a :: b :: c :: d :: e :: f :: l).set 5 v = a :: b :: c :: d :: e :: v :: l := rfl
theorem st6 : (a :: b :: c :: d :: e :: f :: g :: l).set 6 v = a :: b :: c :: d :: e :: f :: v :: l := rfl
theorem st7 : (a :: b :: c :: d :: e :: f :: g :: h :: l).set 7 v = a :: b :: c :: d :: e :: f :: g :: v :: l := rfl
theorem st8 : (a :: b :: c :: d :: e :: f :: g :: h :: i :: l).set 8 v = a :: b :: c :: d :: e :: f :: g :: h :: v :: l := rfl
end
/-! ### a dict that is written down -/
theorem merge_zip : ∀ {ks : List Str} {vs : List V} {acc : List (Key × V)}, ks.Nodup → (∀ k ∈ ks, ∀ kv ∈ acc, kv.1 ≠ (Sum.inr k : Key)) → mergeK acc (zipK ks vs) = acc ++ zipK ks vs
  | [], _, acc, _, _ => by
    show acc = acc ++ []
    rw [List.append_nil]
  | _ :: _, [], acc, _, _ => by
    show acc = acc ++ []
    rw [List.append_nil]
  | k :: ks, v :: vs, acc, nd, h => by
    have h1 := List.nodup_cons.mp nd
    have e : putK acc (Sum.inr k) v = acc ++ [(Sum.inr k, v)] := by
      unfold putK
      rw [if_neg]
      intro h2
      obtain ⟨z, hz, h3⟩ := List.any_eq_true.mp h2
      exact h k List.mem_cons_self z hz (of_decide_eq_true h3)
    show mergeK (putK acc (Sum.inr k) v) (zipK ks vs) = acc ++ ((Sum.inr k, v) :: zipK ks vs)
    rw [e, merge_zip h1.2 ?_, List.append_assoc]
    · rfl
    · intro k2 hk2 kv hkv
      rcases List.mem_append.mp hkv with m | m
      · exact h k2 (List.mem_cons_of_mem _ hk2) kv m
      · rw [List.mem_singleton.mp m]
        intro c
        cases c
        exact h1.1 hk2
section
variable {σ : St} {H : Hp} {Q : VK} {B : Hp} {L L' : List (Addr × HO)}
def NewP (trs : List (TE × TE)) (σ : St) (Q : VK) (H : Hp) : Prop := ∀ p, H p = none → tPairs trs σ (upd H p (.dK [])) fun ps H2 => H2 p = some (.dK []) ∧ ∃ kvs : List (Key × V), ps = kvs.map (fun kv => (kV kv.1, kv.2)) ∧ kvs.length ≤ 15 ∧ Q (.ref p) (upd H2 p (.dK (mergeK [] kvs)))
def DispP (p : Addr) (Q : VK) (ps : List (V × V)) (H2 : Hp) : Prop := H2 p = some (.dK []) ∧ ∃ kvs : List (Key × V), ps = kvs.map (fun kv => (kV kv.1, kv.2)) ∧ kvs.length ≤ 15 ∧ Q (.ref p) (upd H2 p (.dK (mergeK [] kvs)))
theorem w_disp {trs : List (TE × TE)} (q : NewP trs σ Q H) : tDisp trs σ H Q := q
theorem w_newP {trs : List (TE × TE)} (hs : Hs B L H) (q : ∀ p H', Hs B ((p, .dK []) :: L) H' → tPairs trs σ H' (DispP p Q)) : NewP trs σ Q H := fun p hp => q p _ (hs.new hp)
theorem w_pcons {tk tv : TE} {trs : List (TE × TE)} {R : List (V × V) → Hp → Prop} (q : tk σ H fun k H1 => tv σ H1 fun v H2 => tPairs trs σ H2 fun ps H3 => R ((k, v) :: ps) H3) : tPairs ((tk, tv) :: trs) σ H R := q
theorem w_pnil {R : List (V × V) → Hp → Prop} (q : R [] H) : tPairs [] σ H R := q
theorem w_dispZ {p : Addr} {ps : List (V × V)} (ks : List Str) (vs : List V) (hs : Hs B L H) (h : Put L p (.dK []) (.dK (zipK ks vs)) L') (nd : ks.Nodup) (hl : ks.length ≤ 15) (hp : ps = (zipK ks vs).map (fun kv => (kV kv.1, kv.2))) (q : ∀ H', Hs B L' H' → Q (.ref p) H') : DispP p Q ps H := by
  refine ⟨hs.gets h, zipK ks vs, hp, ?_, ?_⟩
  · unfold zipK
    rw [List.length_zip, List.length_map]
    omega
  · rw [merge_zip nd (fun _ _ _ z => absurd z List.not_mem_nil)]
    exact q _ (hs.puts h)
end
end Hb

set_option Elab.async false
set_option maxRecDepth 100000
set_option maxHeartbeats 4000000
/-! Dicts whose keys are tuples of any depth; sorted of such keys. -/
namespace Hb
open PySem L2
mutual
/-- the value v in the abstract heap is the key k -/
inductive NK (H : Hp) : NestedKey → V → Prop
  | non : NK H .none .non
  | int (i : Int) : NK H (.num i) (.int i)
  | str (x : Str) : NK H (.text x) (.str x)
  | tup {p : Addr} {vs : List V} {ks : List NestedKey} : H p = some (.tup vs) → NKs H ks vs → NK H (.tup ks) (.ref p)
inductive NKs (H : Hp) : List NestedKey → List V → Prop
  | nil : NKs H [] []
  | cons {k : NestedKey} {v : V} {ks : List NestedKey} {vs : List V} : NK H k v → NKs H ks vs → NKs H (k :: ks) (v :: vs)
end
mutual
theorem NK.mono {H H' : Hp} (e : ∀ p xs, H p = some (.tup xs) → H' p = some (.tup xs)) : ∀ {k : NestedKey} {v : V}, NK H k v → NK H' k v
  | _, _, .non => .non
  | _, _, .int i => .int i
  | _, _, .str x => .str x
  | _, _, .tup h hs => .tup (e _ _ h) (NKs.mono e hs)
theorem NKs.mono {H H' : Hp} (e : ∀ p xs, H p = some (.tup xs) → H' p = some (.tup xs)) : ∀ {ks : List NestedKey} {vs : List V}, NKs H ks vs → NKs H' ks vs
  | _, _, .nil => .nil
  | _, _, .cons h hs => .cons (NK.mono e h) (NKs.mono e hs)
end
theorem NK.same {H H' : Hp} (e : Same H H') {k : NestedKey} {v : V} (h : NK H k v) : NK H' k v := h.mono fun _ _ => e _ _
mutual
theorem NK.inj {H : Hp} : ∀ {k k' : NestedKey} {v : V}, NK H k v → NK H k' v → k = k'
  | _, _, _, .non, h => by cases h; rfl
  | _, _, _, .int i, h => by cases h; rfl
  | _, _, _, .str x, h => by cases h; rfl
  | _, _, _, .tup h1 h2, h => by
    cases h with
    | tup k1 k2 =>
      rw [h1] at k1
      cases k1
      rw [NKs.inj h2 k2]
theorem NKs.inj {H : Hp} : ∀ {ks ks' : List NestedKey} {vs : List V}, NKs H ks vs → NKs H ks' vs → ks = ks'
  | _, _, _, .nil, h => by cases h; rfl
  | _, _, _, .cons h1 h2, h => by
    cases h with
    | cons k1 k2 => rw [NK.inj h1 k1, NKs.inj h2 k2]
end
mutual
theorem NK.im {K : PySem.W.Frag} {H : Hp} : ∀ {k : NestedKey} {v : V}, NK H k v → Im K H v k.data
  | _, _, .non => .non
  | _, _, .int i => .int i
  | _, _, .str x => .str x
  | _, _, .tup h hs => .tup h (NKs.im hs)
theorem NKs.im {K : PySem.W.Frag} {H : Hp} : ∀ {ks : List NestedKey} {vs : List V}, NKs H ks vs → ImAll K H vs (NestedKey.datas ks)
  | _, _, .nil => .nil
  | _, _, .cons h hs => .cons (NK.im h) (NKs.im hs)
end
section
variable {P : Program} {w : World} {H : Hp} {h : Heap}
mutual
theorem NK.is (ok : HOk P w H h) : ∀ {k : NestedKey} {v : V} {u : Value}, NK H k v → RelV v u → NestedIs h k u
  | _, _, _, .non, r => by
    cases (show _ = Value.none from r)
    exact .none
  | _, _, _, .int i, r => by
    obtain ⟨t, rfl⟩ := r
    exact .int i t
  | _, _, _, .str x, r => by
    obtain ⟨t, rfl⟩ := r
    exact .text x t
  | _, _, _, .tup e hs, r => by
    cases (show _ = Value.ref _ from r)
    obtain ⟨_, its, r2, o, ho, hc, n, hd⟩ := ok _ _ e
    exact .tup ho hc hd (NKs.is ok hs r2)
theorem NKs.is (ok : HOk P w H h) : ∀ {ks : List NestedKey} {vs : List V} {us : List Value}, NKs H ks vs → Vals vs us → NestedAll h ks us
  | _, _, _, .nil, r => by cases r; exact .nil
  | _, _, _, .cons h1 h2, r => by
    cases r with
    | cons r1 r2 => exact .cons (NK.is ok h1 r1) (NKs.is ok h2 r2)
end
end
/-- a key, where its tuple stands, what it holds -/
abbrev Ent := NestedKey × Addr × V
def atN (es : List Ent) (k : NestedKey) : Option V := (es.find? fun e => decide (e.1 = k)).map (·.2.2)
def putN (es : List Ent) (k : NestedKey) (b : Addr) (v : V) : List Ent := if (atN es k).isSome then es.map (fun e => if e.1 = k then (e.1, e.2.1, v) else e) else es ++ [(k, b, v)]
def dropN (es : List Ent) (k : NestedKey) : List Ent := es.filter fun e => decide (e.1 ≠ k)
abbrev RelE (p : Ent) (q : NestedKey × Addr × Value) : Prop := p.1 = q.1 ∧ p.2.1 = q.2.1 ∧ RelV p.2.2 q.2.2
abbrev RelEs : List Ent → List (NestedKey × Addr × Value) → Prop := Paired RelE
def entN (w : World) (x : NestedKey × Addr × Value) : DictEntry := ⟨x.1.hash w, .ref x.2.1, x.2.2⟩
def DNx (w : World) (a : Addr) (es : List Ent) (h : Heap) : Prop := es.length ≤ sizeLine ∧ (a == sysModules) = false ∧ ∃ xs, RelEs es xs ∧ ∃ o ds ep, h.get? a = some o ∧ o.ExactDict ∧ o.data = .dict ds ep ∧ ds.toList = xs.map (entN w) ∧ (xs.map (·.1)).Nodup
/-- a dict with such keys -/
abbrev DN (w : World) (a : Addr) (es : List Ent) : HO := .ext (DNx w a es)
/-- its keys stand as they are told -/
def EntsOk (H : Hp) (es : List Ent) : Prop := ∀ e ∈ es, NK H e.1 (.ref e.2.1) ∧ e.1.depth ≤ 8
theorem EntsOk.mono {H H' : Hp} (e : ∀ p xs, H p = some (.tup xs) → H' p = some (.tup xs)) {es : List Ent} (h : EntsOk H es) : EntsOk H' es := fun x hx => ⟨(h x hx).1.mono e, (h x hx).2⟩
theorem EntsOk.same {H H' : Hp} (e : Same H H') {es : List Ent} (h : EntsOk H es) : EntsOk H' es := h.mono fun _ _ => e _ _
theorem EntsOk.nil {H : Hp} : EntsOk H [] := fun _ h => nomatch h
theorem EntsOk.drop {H : Hp} {es : List Ent} {k : NestedKey} (h : EntsOk H es) : EntsOk H (dropN es k) := fun e he => h e (List.mem_filter.mp he).1
theorem EntsOk.put {H : Hp} {es : List Ent} {k : NestedKey} {b : Addr} {v : V} (h : EntsOk H es) (hk : NK H k (.ref b)) (hd : k.depth ≤ 8) : EntsOk H (putN es k b v) := fun e he => by
  unfold putN at he
  split at he
  · obtain ⟨y, hy, rfl⟩ := List.mem_map.mp he
    by_cases hc : y.1 = k
    · rw [if_pos hc]
      exact h y hy
    · rw [if_neg hc]
      exact h y hy
  · rcases List.mem_append.mp he with m | m
    · exact h e m
    · rw [List.mem_singleton.mp m]
      exact ⟨hk, hd⟩
theorem RelEs.at {es : List Ent} {xs : List (NestedKey × Addr × Value)} (r : RelEs es xs) (k : NestedKey) : RelO (atN es k) ((atKey xs k).map (·.2)) := by
  induction r with
  | nil => exact trivial
  | @cons p q ps qs h _ ih =>
    obtain ⟨h1, h2, h3⟩ := h
    unfold atN atKey at ih ⊢
    rw [List.find?_cons, List.find?_cons, ← h1]
    by_cases hc : p.1 = k
    · rw [decide_eq_true hc]
      exact h3
    · rw [decide_eq_false hc]
      exact ih
theorem RelEs.keys {es : List Ent} {xs : List (NestedKey × Addr × Value)} (r : RelEs es xs) : xs.map (·.1) = es.map (·.1) := by
  induction r with
  | nil => rfl
  | cons h _ ih => rw [List.map_cons, List.map_cons, ih, h.1]
theorem RelEs.some {es : List Ent} {xs : List (NestedKey × Addr × Value)} (r : RelEs es xs) (k : NestedKey) : (atN es k).isSome = (atKey xs k).isSome := by
  have q := (r.at k).isSome_eq
  rw [Option.isSome_map] at q
  exact q
theorem relEs_map {k : NestedKey} {v : V} {u : Value} (hv : RelV v u) : ∀ {es : List Ent} {xs : List (NestedKey × Addr × Value)}, RelEs es xs → RelEs (es.map (fun e => if e.1 = k then (e.1, e.2.1, v) else e)) (xs.map (putAt k u))
  | _, _, .nil => .nil
  | p :: ps, q :: qs, .cons h t => by
    refine .cons ?_ (relEs_map hv t)
    show RelE (if p.1 = k then (p.1, p.2.1, v) else p) (if q.1 = k then (q.1, q.2.1, u) else q)
    rw [← h.1]
    by_cases hc : p.1 = k
    · rw [if_pos hc, if_pos hc]
      exact ⟨rfl, h.2.1, hv⟩
    · rw [if_neg hc, if_neg hc]
      exact h
theorem relEs_snoc {p : Ent} {q : NestedKey × Addr × Value} (h : RelE p q) : ∀ {es : List Ent} {xs : List (NestedKey × Addr × Value)}, RelEs es xs → RelEs (es ++ [p]) (xs ++ [q])
  | _, _, .nil => .cons h .nil
  | _, _, .cons r t => .cons r (relEs_snoc h t)
theorem RelEs.put {es : List Ent} {xs : List (NestedKey × Addr × Value)} (r : RelEs es xs) (k : NestedKey) (b : Addr) {v : V} {u : Value} (hv : RelV v u) : RelEs (putN es k b v) (storedH xs k b u) := by
  unfold putN storedH
  rw [r.some k]
  cases (atKey xs k).isSome with
  | true =>
    rw [if_pos rfl, if_pos rfl]
    exact relEs_map hv r
  | false =>
    rw [if_neg Bool.false_ne_true, if_neg Bool.false_ne_true]
    exact relEs_snoc ⟨rfl, rfl, hv⟩ r
theorem RelEs.drop {es : List Ent} {xs : List (NestedKey × Addr × Value)} (r : RelEs es xs) (k : NestedKey) : RelEs (dropN es k) (withoutH xs k) := by
  unfold dropN withoutH
  induction r with
  | nil => exact .nil
  | @cons p q ps qs h _ ih =>
    rw [List.filter_cons, List.filter_cons, ← h.1]
    by_cases hc : p.1 = k
    · have e : decide (p.1 ≠ k) = false := decide_eq_false (fun z => z hc)
      rw [e]
      exact ih
    · have e : decide (p.1 ≠ k) = true := decide_eq_true hc
      rw [e]
      exact .cons h ih
theorem RelEs.len {es : List Ent} {xs : List (NestedKey × Addr × Value)} (r : RelEs es xs) : es.length = xs.length := Paired.length r
theorem putN_len {es : List Ent} {k : NestedKey} {b : Addr} {v : V} : (putN es k b v).length ≤ es.length + 1 := by
  unfold putN
  split
  · rw [List.length_map]
    omega
  · rw [List.length_append, List.length_singleton]
    exact Nat.le_refl _
theorem dropN_len {es : List Ent} {k : NestedKey} : (dropN es k).length ≤ es.length := List.length_filter_le _ _
section
variable {P : Program} {w : World} {H : Hp} {h : Heap} {a : Addr} {es : List Ent}
theorem dn_of (ok : HOk P w H h) (e : H a = some (DN w a es)) (hk : EntsOk H es) : es.length ≤ sizeLine ∧ (a == sysModules) = false ∧ ∃ xs, RelEs es xs ∧ h.DictOfH (nestedKind P w) a xs := by
  obtain ⟨⟨z, y, xs, r, o, ds, ep, h1, h2, h3, h4, h5⟩, _, _⟩ := (show ObjOk P w H h a (DN w a es) from ok _ _ e)
  refine ⟨z, y, xs, r, o, ds, ep, h1, h2, h3, h4, ?_, h5⟩
  have all : ∀ {l : List Ent} {m : List (NestedKey × Addr × Value)}, EntsOk H l → RelEs l m → ∀ x ∈ m, (nestedKind P w).is h x.1 x.2.1 := by
    intro l m hl r
    induction r with
    | nil => exact fun _ hx => nomatch hx
    | @cons p q ps qs hpq _ ih =>
      intro x hx
      rcases List.mem_cons.mp hx with rfl | hx
      · obtain ⟨k1, k2⟩ := hl p List.mem_cons_self
        rw [← hpq.1, ← hpq.2.1]
        exact ⟨k1.is ok rfl, k2⟩
      · exact ih (fun e he => hl e (List.mem_cons_of_mem _ he)) x hx
  exact all hk r
theorem dn_obj {H' : Hp} {h' : Heap} {xs : List (NestedKey × Addr × Value)} (z : es.length ≤ sizeLine) (y : (a == sysModules) = false) (r : RelEs es xs) (dd : h'.DictOfH (nestedKind P w) a xs) : ObjOk P w H' h' a (DN w a es) := by
  obtain ⟨o, ds, ep, h1, h2, h3, h4, _, h5⟩ := dd
  refine ⟨⟨z, y, xs, r, o, ds, ep, h1, h2, h3, h4, h5⟩, ⟨o, h1⟩, fun g1 g2 ⟨z, y, xs, r, o, ds, ep, h1, h2⟩ hg => ⟨z, y, xs, r, o, ds, ep, hg _ h1, h2⟩⟩
theorem dn_empty (h : Heap) (hb : sysModules < h.objs.size) : ObjOk P w H (h.push { cls := .type "dict", data := .dict #[] }) h.objs.size (DN w h.objs.size []) :=
  dn_obj (Nat.zero_le _) (beq_eq_false_iff_ne.mpr (Ne.symm (Nat.ne_of_lt hb))) .nil (Heap.DictOfH.new h)
end
/-- the parts of what is asked of such a dict -/
structure AtN (w : World) (H : Hp) (x y : V) (a b : Addr) (es : List Ent) (k : NestedKey) : Prop where
  ex : x = .ref a
  ey : y = .ref b
  ha : H a = some (DN w a es)
  he : EntsOk H es
  hk : NK H k (.ref b)
  hd : k.depth ≤ 8
def rNGet (w : World) (x y : V) (H : Hp) (Q : VK) : Prop := ∃ a b es k v, AtN w H x y a b es k ∧ atN es k = some v ∧ Q v H
def rNIn (w : World) (x y : V) (H : Hp) (Q : Bool → Prop) : Prop := ∃ a b es k, AtN w H x y a b es k ∧ Q (atN es k).isSome
def rNPut (w : World) (x y v : V) (H : Hp) (Q : Hp → Prop) : Prop := ∃ a b es k, AtN w H x y a b es k ∧ es.length < sizeLine ∧ Q (upd H a (DN w a (putN es k b v)))
def rNDel (w : World) (x y : V) (H : Hp) (Q : V → Hp → Prop) : Prop := ∃ a b es k v, AtN w H x y a b es k ∧ atN es k = some v ∧ Q v (upd H a (DN w a (dropN es k)))
def tNGet (w : World) (td ty : TE) : TE := fun σ H Q => td σ H fun x H1 => ty σ H1 fun y H2 => rNGet w x y H2 Q
def tNIn (w : World) (ty td : TE) : TE := fun σ H Q => ty σ H fun y H1 => td σ H1 fun x H2 => rNIn w x y H2 fun b => Q (.bl b) H2
def tNNot (w : World) (ty td : TE) : TE := fun σ H Q => ty σ H fun y H1 => td σ H1 fun x H2 => rNIn w x y H2 fun b => Q (.bl (!b)) H2
def sNPut (w : World) (td ty tv : TE) : TS := fun D σ H => tv σ H fun v H1 => td σ H1 fun x H2 => ty σ H2 fun y H3 => rNPut w x y v H3 fun H4 => D.nx σ H4
def sNDel (w : World) (td ty : TE) : TS := fun D σ H => td σ H fun x H1 => ty σ H1 fun y H2 => rNDel w x y H2 fun _ H3 => D.nx σ H3
def tNNew (w : World) : TE := fun _ H Q => ∀ p, H p = none → Q (.ref p) (upd H p (DN w p []))
def tNPop (w : World) (td ty : TE) : TE := fun σ H Q => td σ H fun x H1 => (∃ a es, x = .ref a ∧ H1 a = some (DN w a es)) ∧ ty σ H1 fun y H2 => rNDel w x y H2 Q
section
variable {X : Cx} {w : World} {o i value : Expr} {pos pos' tpos : Pos} {td ty tv : TE}
theorem AtN.dn {H : Hp} {x y : V} {a b : Addr} {es : List Ent} {k : NestedKey} {pins : List (Addr × Obj)} {σ : St} {s : Shared} (I : Inv X pins σ H s) (hw : X.w = w) (g : AtN w H x y a b es k) : es.length ≤ sizeLine ∧ (a == sysModules) = false ∧ ∃ xs, RelEs es xs ∧ s.heap.DictOfH (nestedKind X.prog X.w) a xs ∧ (nestedKind X.prog X.w).is s.heap k b := by
  subst hw
  obtain ⟨z, hd, xs, r, dd⟩ := dn_of I.hok g.ha g.he
  exact ⟨z, hd, xs, r, dd, g.hk.is I.hok rfl, g.hd⟩
theorem n_room {A : Around} (hu : A.units + 64 < cLine) {P : Program} {w : World} : (nestedKind P w).room A.in1 := by
  show A.in1.units + 8 < cLine
  have e : A.in1.units = A.units + 1 := rfl
  omega
theorem pe_ndget (hu : X.A.units + 64 < cLine) (ho : PE X o td) (hi : PE X i ty) (hs : NoSl i) (hw : X.w = w := by rfl) : PE X (.Subscript o i pos) (tNGet w td ty) := by
  refine ⟨fun pins s σ H Q I h => ?_⟩
  refine subD_of PySem.F.slot_dict_getitem.lookup hs (thn (ho.run pins s σ H _ I h) fun u s1 ⟨x, H1, I1, rx, q1⟩ => thn (hi.run pins s1 σ H1 _ I1 q1) fun iv s2 ⟨y, H2, I2, ry, a, b, es, k, v, g, hv, q2⟩ => ?_)
  obtain ⟨z, hd, xs, r, dd, hk⟩ := g.dn I2 hw
  cases g.ex
  cases g.ey
  obtain rfl : u = Value.ref a := rx
  obtain rfl : iv = Value.ref b := ry
  obtain ⟨w', hw', rw'⟩ := RelO.some_of (v := v) (o := (atKey xs k).map (·.2)) (by rw [← hv]; exact r.at k)
  obtain ⟨p, hp, hp2⟩ := Option.map_eq_some_iff.mp hw'
  refine ⟨dd.typeIs, wpAny_getItem_heap (n_room hu) hk dd hp ?_⟩
  rw [hp2]
  exact ⟨v, H2, I2.tok _, rw', q2⟩
theorem pc_nin (hu : X.A.units + 64 < cLine) (hi : PE X i ty) (ho : PE X o td) (hw : X.w = w := by rfl) : PC X .In i o (tNIn w ty td) := by
  refine ⟨fun pins s σ H Q I h => ?_⟩
  refine thn (hi.run pins s σ H _ I h) fun iv s1 ⟨y, H1, I1, ry, q1⟩ => thn (ho.run pins s1 σ H1 _ I1 q1) fun u s2 ⟨x, H2, I2, rx, a, b, es, k, g, q2⟩ => ?_
  obtain ⟨z, hd, xs, r, dd, hk⟩ := g.dn I2 hw
  cases g.ex
  cases g.ey
  obtain rfl : u = Value.ref a := rx
  obtain rfl : iv = Value.ref b := ry
  refine wpAny_in_heap (n_room hu) hk hd dd ?_
  rw [← r.some k]
  exact ⟨.bl _, H2, I2.tok _, rfl, q2⟩
theorem pc_nnot (hu : X.A.units + 64 < cLine) (hi : PE X i ty) (ho : PE X o td) (hw : X.w = w := by rfl) : PC X .NotIn i o (tNNot w ty td) := by
  refine ⟨fun pins s σ H Q I h => ?_⟩
  refine thn (hi.run pins s σ H _ I h) fun iv s1 ⟨y, H1, I1, ry, q1⟩ => thn (ho.run pins s1 σ H1 _ I1 q1) fun u s2 ⟨x, H2, I2, rx, a, b, es, k, g, q2⟩ => ?_
  obtain ⟨z, hd, xs, r, dd, hk⟩ := g.dn I2 hw
  cases g.ex
  cases g.ey
  obtain rfl : u = Value.ref a := rx
  obtain rfl : iv = Value.ref b := ry
  refine PyProof.Rows.wpAny_notIn_heap (n_room hu) hk hd dd ?_
  rw [← r.some k]
  exact ⟨.bl _, H2, I2.tok _, rfl, q2⟩
theorem ps_nput (hu : X.A.units + 64 < cLine) (ho : PE X o td) (hi : PE X i ty) (hv : PE X value tv) (hs : swapsWith value (some (.Subscript o i pos')) pos.line X.env = pure false) (hw : X.w = w := by rfl) :
    PS X (.Assign [.Subscript o i pos'] value pos) (sNPut w td ty tv) := by
  refine ⟨fun pins s σ H D I h => ?_⟩
  refine wpAny_Assign_Subscript (thn (hv.run pins s σ H _ I h) fun r s1 ⟨v, H1, I1, rv, q1⟩ => thn (ho.run pins s1 σ H1 _ I1 q1) fun u s2 ⟨x, H2, I2, rx, q2⟩ => thn (hi.run pins s2 σ H2 _ I2 q2) fun iv s3 ⟨y, H3, I3, ry, a, b, es, k, g, hl, q3⟩ => ?_) hs
  obtain ⟨z, hd, xs, rr, dd, hk⟩ := g.dn I3 hw
  subst hw
  cases g.ex
  cases g.ey
  obtain rfl : u = Value.ref a := rx
  obtain rfl : iv = Value.ref b := ry
  have hz : xs.length ≤ sizeLine := by rw [← rr.len]; exact z
  have hl2 : (putN es k b v).length ≤ sizeLine := Nat.le_trans putN_len hl
  refine wpAny_setItem_heap (hsz := hz) (n_room hu) hk dd fun h' dd' hs => ⟨σ, _, ?_, q3⟩
  have he : ∃ q, h'.get? a = some q := let ⟨q, _, _, hq, _⟩ := dd'; ⟨q, hq⟩
  exact d_write I3 (by rw [g.ha]; exact True.intro) hs he (dn_obj hl2 hd (rr.put k b rv) dd')
theorem ps_ndel (hu : X.A.units + 64 < cLine) (ho : PE X o td) (hi : PE X i ty) (hw : X.w = w := by rfl) : PS X (.Delete [.Subscript o i tpos] pos) (sNDel w td ty) := by
  refine ⟨fun pins s σ H D I h => ?_⟩
  refine wpAny_Delete (wpAny_deleteEach_cons (wpAny_delete_Subscript (thn (ho.run pins s σ H _ I h) fun u s1 ⟨x, H1, I1, rx, q1⟩ => thn (hi.run pins s1 σ H1 _ I1 q1) fun iv s2 ⟨y, H2, I2, ry, a, b, es, k, v, g, hv, q2⟩ => ?_)))
  obtain ⟨z, hd, xs, rr, dd, hk⟩ := g.dn I2 hw
  subst hw
  cases g.ex
  cases g.ey
  obtain rfl : u = Value.ref a := rx
  obtain rfl : iv = Value.ref b := ry
  have hz : xs.length ≤ sizeLine := by rw [← rr.len]; exact z
  obtain ⟨w', hw', rw'⟩ := RelO.some_of (v := v) (o := (atKey xs k).map (·.2)) (by rw [← hv]; exact rr.at k)
  obtain ⟨p, hp, hp2⟩ := Option.map_eq_some_iff.mp hw'
  refine wpAny_delItem_heap (hsz := hz) (n_room hu) hk hd dd hp fun h' dd' hs => wpAny_deleteEach_nil ⟨σ, _, ?_, q2⟩
  have he : ∃ q, h'.get? a = some q := let ⟨q, _, _, hq, _⟩ := dd'; ⟨q, hq⟩
  exact d_write I2 (by rw [g.ha]; exact True.intro) hs he (dn_obj (Nat.le_trans dropN_len z) hd (rr.drop k) dd')
theorem dn_type {H : Hp} {a : Addr} {es : List Ent} {pins : List (Addr × Obj)} {σ : St} {s : Shared} (I : Inv X pins σ H s) (e : H a = some (DN w a es)) : s.TypeIs (.ref a) "dict" ∧ ∀ b, Value.ref a = .ref b → ∃ ob, s.heap.get? b = some ob ∧ ob.dict = none := by
  obtain ⟨⟨z, y, xs, r, o, ds, ep, h1, h2, h3, h4, h5⟩, _, _⟩ := (show ObjOk X.prog X.w H s.heap a (DN w a es) from I.hok _ _ e)
  exact ⟨⟨o, h1, h2.1⟩, fun b q => by
    cases q
    exact ⟨o, h1, h2.2.1⟩⟩
theorem pe_npop {e : Expr} {apos cpos : Pos} (hu : X.A.units + 64 < cLine) (ho : PE X o td) (he : PE X e ty) (m : M1 X o "pop" apos e cpos) (hw : X.w = w := by rfl) : PE X (.Call (.Attribute o "pop" apos) [e] [] cpos) (tNPop w td ty) := by
  refine ⟨fun pins s σ H Q I h => ?_⟩
  refine wpAny_Call_method m.base m.few m.line PySem.F.plainAttrs_dict PySem.F.slot_dict_pop PySem.F.type_dict_pop (thn (ho.run pins s σ H _ I h) fun u s1 ⟨x, H1, I1, rx, ⟨a0, es0, ex, ea⟩, q1⟩ => ?_)
  cases ex
  obtain rfl : u = Value.ref a0 := rx
  obtain ⟨t1, t2⟩ := dn_type I1 ea
  refine ⟨t1, t2, ?_⟩
  rw [m.trees]
  refine Calls.callWith_builtin rfl (Calls.evalArgs_plain (Calls.spliced_cons (thn (he.run pins s1 σ H1 _ I1 q1) fun iv s2 ⟨y, H2, I2, ry, a, b, es, k, v, g, hv, q2⟩ => Calls.spliced_nil ?_)))
  obtain ⟨z, hd, xs, rr, dd, hk⟩ := g.dn I2 hw
  subst hw
  cases g.ex
  cases g.ey
  obtain rfl : iv = Value.ref b := ry
  have hz : xs.length ≤ sizeLine := by rw [← rr.len]; exact z
  obtain ⟨w', hw', rw'⟩ := RelO.some_of (v := v) (o := (atKey xs k).map (·.2)) (by rw [← hv]; exact rr.at k)
  obtain ⟨p, hp, hp2⟩ := Option.map_eq_some_iff.mp hw'
  refine call_pop_heap (hsz := hz) (.inl rfl) (PySem.F.args_dict_pop_2 _ _) (n_room hu) hk hd dd hp fun h' dd' hs => ?_
  have he : ∃ q, h'.get? a0 = some q := let ⟨q, _, _, hq, _⟩ := dd'; ⟨q, hq⟩
  rw [hp2]
  exact ⟨v, _, d_write I2 (by rw [g.ha]; exact True.intro) hs he (dn_obj (Nat.le_trans dropN_len z) hd (rr.drop k) dd'), rw', q2⟩
theorem pe_nnew (hw : X.w = w := by rfl) : PE X (.Dict [] [] pos) (tNNew w) := ⟨fun pins s σ H Q I h => by
  subst hw
  exact wpAny_Dict_empty ⟨.ref s.heap.objs.size, _, I.laid (a := s.heap.objs.size) (o := DN X.w s.heap.objs.size []) (t' := s.toks) (fun _ _ q => Heap.get?_push_of_some _ q) (Nat.le_refl _) (dn_empty s.heap I.big), rfl, h _ (I.hok.fresh (Nat.le_refl _))⟩⟩
end
end Hb

set_option Elab.async false
set_option maxRecDepth 100000
set_option maxHeartbeats 4000000
/-! sorted(..) of tuples of ints and of tuples of ints. -/
namespace Hb
open PySem L2 PyProof.Rows
/-! ### the order of rows of ints -/
abbrev lexI (x y : List Int) : Bool := HT.lexLt x y
theorem lexI_cons {x y : Int} {xs ys : List Int} : lexI (x :: xs) (y :: ys) = if x = y then lexI xs ys else decide (x < y) := rfl
theorem lexI_self : ∀ x : List Int, lexI x x = false
  | [] => rfl
  | x :: xs => by rw [lexI_cons, if_pos rfl]; exact lexI_self xs
theorem lexI_asym : ∀ x y : List Int, lexI x y = true → lexI y x = false
  | [], [], h => nomatch h
  | [], _ :: _, _ => rfl
  | _ :: _, [], h => nomatch h
  | x :: xs, y :: ys, h => by
    rw [lexI_cons] at h ⊢
    by_cases e : x = y
    · rw [if_pos e] at h
      rw [if_pos e.symm]
      exact lexI_asym xs ys h
    · rw [if_neg e] at h
      rw [if_neg (fun q => e q.symm)]
      have := of_decide_eq_true h
      exact decide_eq_false (by omega)
theorem lexI_tr : ∀ x y z : List Int, lexI y x = false → lexI z y = false → lexI z x = false
  | [], [], _, _, h => h
  | [], _ :: _, _, h1, _ => by
    rename_i z _
    cases z with
    | nil => rfl
    | cons z zs => rfl
  | _ :: _, [], _, h1, _ => nomatch h1
  | x :: xs, y :: ys, [], h1, h2 => nomatch h2
  | x :: xs, y :: ys, z :: zs, h1, h2 => by
    rw [lexI_cons] at h1 h2 ⊢
    by_cases e1 : y = x
    · subst e1
      rw [if_pos rfl] at h1
      by_cases e2 : z = y
      · subst e2
        rw [if_pos rfl] at h2
        rw [if_pos rfl]
        exact lexI_tr xs ys zs h1 h2
      · rw [if_neg e2] at h2 ⊢
        exact h2
    · rw [if_neg e1] at h1
      have g1 := of_decide_eq_false h1
      by_cases e2 : z = y
      · subst e2
        rw [if_neg e1]
        exact h1
      · rw [if_neg e2] at h2
        have g2 := of_decide_eq_false h2
        rw [if_neg (by omega)]
        exact decide_eq_false (by omega)
theorem lexI_total : ∀ x y : List Int, lexI x y = false → lexI y x = false → x = y
  | [], [], _, _ => rfl
  | [], _ :: _, h, _ => nomatch h
  | _ :: _, [], _, h => nomatch h
  | x :: xs, y :: ys, h1, h2 => by
    rw [lexI_cons] at h1 h2
    by_cases e : x = y
    · subst e
      rw [if_pos rfl] at h1 h2
      rw [lexI_total xs ys h1 h2]
    · rw [if_neg e] at h1
      rw [if_neg (fun q => e q.symm)] at h2
      have g1 := of_decide_eq_false h1
      have g2 := of_decide_eq_false h2
      omega
theorem lexI_app : ∀ {x y r t : List Int}, x.length = y.length → lexI (x ++ r) (y ++ t) = if x = y then lexI r t else lexI x y
  | [], [], r, t, _ => by rw [if_pos rfl]; rfl
  | x :: xs, y :: ys, r, t, h => by
    have h' : xs.length = ys.length := by simpa using h
    show lexI (x :: (xs ++ r)) (y :: (ys ++ t)) = _
    rw [lexI_cons, lexI_cons]
    by_cases e : x = y
    · subst e
      rw [if_pos rfl, if_pos rfl, lexI_app h']
      by_cases e2 : xs = ys
      · rw [if_pos e2, if_pos (by rw [e2])]
      · rw [if_neg e2, if_neg (fun q => e2 (List.cons.inj q).2)]
    · rw [if_neg e, if_neg e, if_neg (fun q => e (List.cons.inj q).1)]
theorem swo_lexI {α : Type} (f : α → List Int) : SrtO.Swo fun x y => lexI (f x) (f y) := ⟨fun _ _ => lexI_asym _ _, fun _ _ _ => lexI_tr _ _ _⟩
/-! ### tuples of ints and of tuples of ints -/
abbrev Itm := Int ⊕ List Int
def flI : Itm → List Int
  | .inl i => [i]
  | .inr ns => ns
def flK (ks : List Itm) : List Int := ks.flatMap flI
def shp : Itm → Option Nat
  | .inl _ => none
  | .inr ns => some ns.length
def nkI : Itm → NestedKey
  | .inl i => .num i
  | .inr ns => .tup (ns.map .num)
def nkK (ks : List Itm) : NestedKey := .tup (ks.map nkI)
theorem shp_len {x y : Itm} (h : shp x = shp y) : (flI x).length = (flI y).length := by
  cases x with
  | inl i =>
    cases y with
    | inl j => rfl
    | inr ms => cases h
  | inr ns =>
    cases y with
    | inl j => cases h
    | inr ms => exact Option.some.inj h
theorem flI_inj {x y : Itm} (h : shp x = shp y) (e : flI x = flI y) : x = y := by
  cases x with
  | inl i =>
    cases y with
    | inl j => cases e; rfl
    | inr ms => cases h
  | inr ns =>
    cases y with
    | inl j => cases h
    | inr ms => cases e; rfl
theorem flK_inj : ∀ {xs ys : List Itm}, xs.map shp = ys.map shp → flK xs = flK ys → xs = ys
  | [], [], _, _ => rfl
  | [], _ :: _, h, _ => nomatch h
  | _ :: _, [], h, _ => nomatch h
  | x :: xs, y :: ys, h, e => by
    have h1 : shp x = shp y := (List.cons.inj h).1
    have e' : flI x ++ flK xs = flI y ++ flK ys := e
    have h2 := List.append_inj e' (shp_len h1)
    rw [flI_inj h1 h2.1, flK_inj (List.cons.inj h).2 h2.2]
theorem nums_inj : ∀ {a b : List Int}, a.map NestedKey.num = b.map NestedKey.num → a = b
  | [], [], _ => rfl
  | [], _ :: _, h => nomatch h
  | _ :: _, [], h => nomatch h
  | x :: xs, y :: ys, h => by
    have h1 := List.cons.inj h
    rw [NestedKey.num.inj h1.1, nums_inj h1.2]
theorem nkI_inj {x y : Itm} (h : nkI x = nkI y) : x = y := by
  cases x with
  | inl i =>
    cases y with
    | inl j => cases h; rfl
    | inr ms => cases h
  | inr ns =>
    cases y with
    | inl j => cases h
    | inr ms => rw [nums_inj (NestedKey.tup.inj h)]
section
variable {prog : Program} {w : World} {A : Around} {E : Value → Shared → Prop} {s : Shared}
theorem lt_any {f : Bool} {a b : Int} {t u : Tok} {Q : Bool → Shared → Prop} (h : Q (decide (a < b)) s) : wpAny (model prog w) A (oneLt' f (.int a t) (.int b u)) Q (fun _ _ => False) s := by
  cases f with
  | true => exact oneLt_int h
  | false => exact PySem.W.kat_one _ _ (lt_int h)
/-- an item of such a tuple -/
def ItIs (h : Heap) : Itm → Value → Prop
  | .inl i, v => ∃ t, v = .int i t
  | .inr ns, v => ∃ p items, v = .ref p ∧ IsTup h p items ∧ IntsAre items.toList ns
def K2Is (h : Heap) (ks : List Itm) (v : Value) : Prop := ∃ p o n vs, v = .ref p ∧ h.get? p = some o ∧ o.cls = .type "tuple" ∧ o.data = .seq vs n ∧ Paired (ItIs h) ks vs.toList
theorem ItIs.keeps {h h' : Heap} (k : ∀ b o, h.get? b = some o → o.cls = .type "tuple" → h'.get? b = some o) {x : Itm} {v : Value} (r : ItIs h x v) : ItIs h' x v := by
  cases x with
  | inl i => exact r
  | inr ns =>
    obtain ⟨p, items, e, ⟨o, ho, hc, n, hd⟩, hi⟩ := r
    exact ⟨p, items, e, ⟨o, k _ _ ho hc, hc, n, hd⟩, hi⟩
theorem K2Is.keeps {h h' : Heap} (k : ∀ b o, h.get? b = some o → o.cls = .type "tuple" → h'.get? b = some o) {ks : List Itm} {v : Value} (r : K2Is h ks v) : K2Is h' ks v := by
  obtain ⟨p, o, n, vs, e, ho, hc, hd, r⟩ := r
  exact ⟨p, o, n, vs, e, k _ _ ho hc, hc, hd, Paired.mapP r fun a b => ItIs.keeps k⟩
theorem ints_nested {h : Heap} : ∀ {vs : List Value} {ns : List Int}, IntsAre vs ns → NestedAll h (ns.map .num) vs
  | _, _, .nil => .nil
  | _, _, .cons i t r => .cons (.int i t) (ints_nested r)
theorem ItIs.nested {h : Heap} {x : Itm} {v : Value} (r : ItIs h x v) : NestedIs h (nkI x) v := by
  cases x with
  | inl i =>
    obtain ⟨t, rfl⟩ := r
    exact .int i t
  | inr ns =>
    obtain ⟨p, items, rfl, ⟨o, ho, hc, n, hd⟩, hi⟩ := r
    exact .tup ho hc hd (ints_nested hi)
theorem depth_nums : ∀ ns : List Int, NestedKey.depthAll (ns.map .num) ≤ 1
  | [] => by simp [NestedKey.depthAll]
  | n :: ns => by
    have := depth_nums ns
    simp only [List.map_cons, NestedKey.depthAll, NestedKey.depth]
    omega
theorem depth_nkI (x : Itm) : (nkI x).depth ≤ 2 := by
  cases x with
  | inl i => simp [nkI, NestedKey.depth]
  | inr ns =>
    have := depth_nums ns
    simp only [nkI, NestedKey.depth]
    omega
theorem k2_lex {b fin : Bool} {Q : Bool → Shared → Prop} (hu : A.units + 2 < cLine) : ∀ {xs ys : List Itm} {vs ws : List Value} {i : Nat}, Paired (ItIs s.heap) xs vs → Paired (ItIs s.heap) ys ws → xs.map shp = ys.map shp → (b = true → i = 0 → ∀ x ∈ xs.head?, shp x = none) → fin = false → Q (lexI (flK xs) (flK ys)) s →
    PySem.W.KatLex prog w A b fin Q (vs.zip ws) i s
  | _, _, _, _, i, .nil, .nil, _, _, hf, h => by
    subst hf
    exact PySem.W.kat_nil h
  | _, _, _, _, _, .nil, .cons _ _, hs, _, _, _ => nomatch hs
  | _, _, _, _, _, .cons _ _, .nil, hs, _, _, _ => nomatch hs
  | x :: xs, y :: ys, v :: vs, u :: us, i, .cons r rs, .cons q qs, hs, hb, hf, h => by
    have h1 : shp x = shp y := (List.cons.inj hs).1
    have h2 := (List.cons.inj hs).2
    have e : lexI (flK (x :: xs)) (flK (y :: ys)) = if flI x = flI y then lexI (flK xs) (flK ys) else lexI (flI x) (flI y) := lexI_app (shp_len h1)
    rw [e] at h
    refine PySem.W.kat_cons (eqAt_key (nkI x) (nkI y) A s v u r.nested q.nested (by have := depth_nkI x; omega) prog w _ _ ?_)
    rw [← NestedKey.decide_eq]
    refine PySem.W.kat_go (fun e1 => ?_) (fun e1 => ?_)
    · have e2 : x = y := nkI_inj (of_decide_eq_true e1)
      rw [if_pos (by rw [e2])] at h
      exact PySem.W.kat_yes (k2_lex hu rs qs h2 (fun _ z => nomatch z) hf h)
    · have e2 : ¬ flI x = flI y := fun z => of_decide_eq_false e1 (by rw [flI_inj h1 z])
      rw [if_neg e2] at h
      refine PySem.W.kat_no ?_
      cases x with
      | inl n =>
        cases y with
        | inr ms => cases h1
        | inl m =>
          obtain ⟨t, rfl⟩ := r
          obtain ⟨t', rfl⟩ := q
          have e3 : lexI (flI (.inl n)) (flI (.inl m)) = decide (n < m) := by
            show lexI [n] [m] = _
            rw [lexI_cons, if_neg (fun z => e2 (by rw [z]))]
          rw [e3] at h
          exact lt_any h
      | inr ns =>
        cases y with
        | inl m => cases h1
        | inr ms =>
          have hc : (b && i == 0) = false := by
            cases hb1 : b with
            | false => rfl
            | true =>
              cases hi : i == 0 with
              | false => rfl
              | true =>
                have := hb hb1 (by simpa using hi) (.inr ns) rfl
                cases this
          rw [hc]
          obtain ⟨p, its, rfl, ht, hi⟩ := r
          obtain ⟨p', its', rfl, ht', hi'⟩ := q
          exact PySem.W.kat_one _ _ (HT.lt_tupInts ht ht' hi hi' (by omega) h)
theorem paired_len {α β : Type} {R : α → β → Prop} {xs : List α} {ys : List β} (h : Paired R xs ys) : xs.length = ys.length := Paired.length h
/-- the first items -/
theorem firsts2 {h : Heap} {k : Value → List Itm} {c : Option Nat} {sh : List (Option Nat)} : ∀ {vs : List Value}, (∀ v ∈ vs, K2Is h (k v) v ∧ (k v).map shp = c :: sh) → ∃ fs : List Value, PySem.W.KatTups h vs fs ∧ fs.length = vs.length ∧ ∀ f ∈ fs, ∃ x, ItIs h x f ∧ shp x = c
  | [], _ => ⟨[], PySem.W.KatTups.nil, rfl, fun _ hm => by simp at hm⟩
  | v :: vs, hp => by
    obtain ⟨fs, h1, h2, h3⟩ := firsts2 (vs := vs) fun v' hm => hp v' (List.mem_cons_of_mem _ hm)
    obtain ⟨⟨p, o, n, ws, e, ho, hc, hd, r⟩, hsh⟩ := hp v (List.mem_cons_self ..)
    generalize k v = ks at r hsh
    match ks, hsh, hw : ws.toList, r with
    | x :: ks, hsh, u :: us, .cons r _ =>
      subst e
      refine ⟨u :: fs, PySem.W.KatTups.cons ho hc hd (by rw [← Array.getElem?_toList, hw]; rfl) h1, by rw [List.length_cons, List.length_cons, h2], fun f hm => ?_⟩
      rcases List.mem_cons.mp hm with rfl | hm
      · exact ⟨x, r, (List.cons.inj hsh).1⟩
      · exact h3 f hm
theorem k2_cmp {vs : List Value} {k : Value → List Itm} {b : Bool} {c : Option Nat} {sh : List (Option Nat)} (hu : A.units + 2 < cLine) (hb : b = true → c = none) (hp : ∀ v ∈ vs, K2Is s.heap (k v) v ∧ (k v).map shp = c :: sh) : SrtO.Cmp prog w A s (tuples' b) (fun p => p.1 ∈ vs) (SrtO.lt2 fun v u => lexI (flK (k v)) (flK (k u))) := by
  intro p q hm hm'
  obtain ⟨⟨a, o, n, ws, e, ho, hc, hd, r⟩, hs⟩ := hp _ hm
  obtain ⟨⟨a', o', n', ws', e', ho', hc', hd', r'⟩, hs'⟩ := hp _ hm'
  show wpAny (model prog w) A (keyLt' (tuples' b) p.1 q.1) (fun r s' => s' = s ∧ r = lexI (flK (k p.1)) (flK (k q.1))) (fun _ _ => False) s
  generalize k p.1 = ks at r hs ⊢
  generalize k q.1 = ks' at r' hs' ⊢
  rw [e, e']
  refine PySem.W.kat_lt ho hd ho' hd' ?_
  have l1 : ks.length = ws.size := by
    have := paired_len r
    simpa using this
  have l2 : ks'.length = ws'.size := by
    have := paired_len r'
    simpa using this
  have l3 : ks.length = ks'.length := by
    have := congrArg List.length (hs.trans hs'.symm)
    simpa using this
  refine k2_lex hu r r' (hs.trans hs'.symm) (fun h1 _ x hx => ?_) ?_ ⟨rfl, rfl⟩
  · match ks, hs, hx with
    | y :: ks, hs, hx =>
      cases hx
      rw [← hb h1]
      exact (List.cons.inj hs).1
  · exact decide_eq_false (by omega)
theorem k2_sortable {a : Addr} {vs : List Value} {k : Value → List Itm} {c : Option Nat} {sh : List (Option Nat)} (hu : A.units + 2 < cLine) (h0 : 0 < vs.length) (hp : ∀ v ∈ vs, K2Is s.heap (k v) v ∧ (k v).map shp = c :: sh) (ha : ∀ o, s.heap.get? a = some o → o.cls ≠ .type "tuple") : SrtO.SortableO prog w A s a vs fun v u => lexI (flK (k v)) (flK (k u)) := by
  intro h' keep
  have hp' : ∀ v ∈ vs, K2Is h' (k v) v ∧ (k v).map shp = c :: sh := fun v hm => ⟨(hp v hm).1.keeps fun b o e cc => keep b o (fun z => by subst z; exact ha o e cc) e, (hp v hm).2⟩
  obtain ⟨fs, h1, h2, h3⟩ := firsts2 hp'
  cases c with
  | none =>
    refine ⟨tuples' true, fun Q E hq => ?_, k2_cmp hu (fun _ => rfl) hp'⟩
    refine PySem.W.kat_kind (T := .type "int") h1 (by omega) (fun f hm => ?_) (by rfl) ?_
    · obtain ⟨x, r, e⟩ := h3 f hm
      cases x with
      | inr ns => cases e
      | inl i =>
        obtain ⟨t, rfl⟩ := r
        exact PySem.W.Looks.now
    · have e : (Value.type "int" != Value.type "tuple") = true := by first | decide +kernel | rfl | decide
      rw [e]
      exact hq
  | some n =>
    refine ⟨tuples' false, fun Q E hq => ?_, k2_cmp hu (fun z => nomatch z) hp'⟩
    refine PySem.W.kat_kind (T := .type "tuple") h1 (by omega) (fun f hm => ?_) (by rfl) ?_
    · obtain ⟨x, r, e⟩ := h3 f hm
      cases x with
      | inl i => cases e
      | inr ns =>
        obtain ⟨p, its, rfl, ⟨o, ho, hc, n, hd⟩, hi⟩ := r
        exact (PySem.W.Looks.ld ho).andThen (by rw [hc]; exact .now)
    · have e : (Value.type "tuple" != Value.type "tuple") = false := by first | decide +kernel | rfl | decide
      rw [e]
      exact hq
end
/-! ### as rules -/
theorem nums_ints {H : Hp} : ∀ {ns : List Int} {vs : List V} {us : List Value}, NKs H (ns.map .num) vs → Vals vs us → IntsAre us ns
  | [], _, _, .nil, r => by cases r; exact .nil
  | n :: ns, _, _, .cons h hs, r => by
    cases h
    cases r with
    | cons r1 r2 =>
      obtain ⟨t, rfl⟩ := r1
      exact .cons n t (nums_ints hs r2)
theorem NK.it {P : Program} {w : World} {H : Hp} {h : Heap} (ok : HOk P w H h) {x : Itm} {v : V} {u : Value} (hk : NK H (nkI x) v) (r : RelV v u) : ItIs h x u := by
  cases x with
  | inl i =>
    cases hk
    exact r
  | inr ns =>
    cases hk with
    | tup e hs =>
      cases (show u = Value.ref _ from r)
      obtain ⟨_, its, r2, ht⟩ := ok _ _ e
      exact ⟨_, _, rfl, ht, nums_ints hs r2⟩
theorem NKs.its {P : Program} {w : World} {H : Hp} {h : Heap} (ok : HOk P w H h) : ∀ {ks : List Itm} {vs : List V} {us : List Value}, NKs H (ks.map nkI) vs → Vals vs us → Paired (ItIs h) ks us
  | [], _, _, .nil, r => by cases r; exact .nil
  | k :: ks, _, _, .cons hk hs, r => by
    cases r with
    | cons r1 r2 => exact .cons (hk.it ok r1) (NKs.its ok hs r2)
theorem NK.k2 {P : Program} {w : World} {H : Hp} {h : Heap} (ok : HOk P w H h) {ks : List Itm} {b : Addr} (hk : NK H (nkK ks) (.ref b)) : K2Is h ks (.ref b) := by
  cases hk with
  | tup e hs =>
    obtain ⟨_, its, r2, o, ho, hc, n, hd⟩ := ok _ _ e
    exact ⟨b, o, n, _, rfl, ho, hc, hd, NKs.its ok hs r2⟩
theorem _root_.Hb.RelEs.addrs : ∀ {es : List Ent} {xs : List (NestedKey × Addr × Value)}, RelEs es xs → es.map (fun e => Value.ref e.2.1) = xs.map fun x => Value.ref x.2.1
  | _, _, .nil => rfl
  | _, _, .cons h t => by rw [List.map_cons, List.map_cons, RelEs.addrs t, h.2.1]
/-- by the ints of the keys -/
abbrev ltK (k : V → List Itm) (x y : V) : Bool := lexI (flK (k x)) (flK (k y))
theorem ltK_swo (k : V → List Itm) : SrtO.Swo (ltK k) := swo_lexI fun x => flK (k x)
/-- sorted(xs): xs a list of such tuples, all of one shape -/
def rSortN (K : PySem.W.Frag) (c : Option Nat) (sh : List (Option Nat)) : List V → Hp → VK → Prop := fun vs H Q => ∃ (a : Addr) (xs : List V) (k : V → List Itm), vs = [V.ref a] ∧ SqL K H a xs ∧ (∀ x ∈ xs, (∃ b, x = V.ref b) ∧ NK H (nkK (k x)) x ∧ (k x).map shp = c :: sh) ∧
  ∀ ys p, SrtO.Srtd (ltK k) ys → SrtO.Stb (ltK k) ys xs → H p = none → Q (.ref p) (upd H p (.lst ys))
/-- sorted(d) of a dict with such keys -/
def rSortDN (w : World) (c : Option Nat) (sh : List (Option Nat)) : List V → Hp → VK → Prop := fun vs H Q => ∃ (a : Addr) (es : List Ent) (k : V → List Itm), vs = [V.ref a] ∧ H a = some (DN w a es) ∧ (∀ e ∈ es, NK H (nkK (k (.ref e.2.1))) (.ref e.2.1) ∧ (k (.ref e.2.1)).map shp = c :: sh) ∧
  ∀ ys p, SrtO.Srtd (ltK k) ys → SrtO.Stb (ltK k) ys (es.map fun e => V.ref e.2.1) → H p = none → Q (.ref p) (upd H p (.lst ys))
section
variable {X : Cx} {c : Option Nat} {sh : List (Option Nat)} {K : PySem.W.Frag} {w : World}
theorem cr_sortN (hu : X.A.units + 64 < cLine) (hK : X.K = K := by rfl) : CallR X (.builtin "sorted") (rSortN K c sh) := by
  subst hK
  intro pins s σ H vs us Q I r h
  obtain ⟨a, xs, k, rfl, hs, hx, q⟩ := h
  obtain ⟨its, rv, hl, hz⟩ := I.list hs
  obtain ⟨u, rfl, ru⟩ := vals1 r
  obtain rfl : u = Value.ref a := ru
  obtain ⟨e1, e2⟩ := refs_back rv fun x m => (hx x m).1
  have hp : ∀ v ∈ its, K2Is s.heap (k (backV v)) v ∧ (k (backV v)).map shp = c :: sh := fun v hv => by
    obtain ⟨t, rfl⟩ := e2 v hv
    have hm : V.ref t ∈ xs := by
      rw [e1]
      exact List.mem_map.mpr ⟨_, hv, rfl⟩
    obtain ⟨_, h1, h2⟩ := hx _ hm
    exact ⟨NK.k2 I.hok h1, h2⟩
  have hu2 : X.A.in1.in1.units + 2 < cLine := by
    have e : X.A.in1.in1.units = X.A.units + 1 + 1 := rfl
    omega
  refine SrtO.sorted_ord (ltv := fun v u => lexI (flK (k (backV v))) (flK (k (backV u)))) (swo_lexI fun v => flK (k (backV v))) hl.isList (by rw [← rv.length]; exact hz) (fun h2 h₁ a ha kk => ?_) fun out h1 h2 => ?_
  · refine k2_sortable (s := { s with heap := h₁ }) hu2 (by omega) (fun v hm => ⟨(hp v hm).1.keeps fun b o e _ => (kk b o e).2, (hp v hm).2⟩) fun o e => ?_
    have e' : some o = some (seqObj "list" its.toArray 0) := e.symm.trans ha
    cases e'
    intro cc
    exact absurd (Value.type.inj cc) (by decide)
  · have h3 : ∀ u ∈ out, ∃ a, u = Value.ref a := fun u hu => e2 u (h2.perm.mem_iff.mp hu)
    obtain ⟨n, hn⟩ := sortedAll_at s.heap its out.toArray
    have hb : SrtO.Stb (ltK k) (out.map backV) xs := by
      rw [e1]
      exact SrtO.Stb.map (ltK_swo k) backV h2
    refine ⟨.ref (s.heap.objs.size + 1), upd H (s.heap.objs.size + 1) (.lst (out.map backV)), I.laid (t' := s.toks) (fun b o e => sortedAll_old e) (Nat.le_succ _) ⟨?_, out, n, vals_back h3, hn⟩, rfl, q _ _ (SrtO.srtd_map h1) hb (I.hok.fresh (Nat.le_succ _))⟩
    rw [hb.len]
    exact hz
theorem cr_sortDN (hc : X.calm = true) (hu : X.A.units + 64 < cLine) (hw : X.w = w := by rfl) : CallR X (.builtin "sorted") (rSortDN w c sh) := by
  subst hw
  intro pins s σ H vs us Q I r h
  obtain ⟨a, es, k, rfl, ha, hx, q⟩ := h
  obtain ⟨u, rfl, ru⟩ := vals1 r
  obtain rfl : u = Value.ref a := ru
  obtain ⟨⟨z, lo, xs, rel, o, ds, ep, h1, h2, h3, h4, h5⟩, _, _⟩ := (show ObjOk X.prog X.w H s.heap a (DN X.w a es) from I.hok _ _ ha)
  have hu2 : X.A.in1.in1.units + 2 < cLine := by
    have e : X.A.in1.in1.units = X.A.units + 1 + 1 := rfl
    omega
  have hsz : ds.size = es.length := by
    rw [← Array.length_toList, h4, List.length_map, rel.len]
  refine Calls.call_function_entry kind_sorted plain_sorted entry_sorted (args_sorted1 _) ?_
  unfold Builtin.«sorted»
  refine wpAny_bind (m := checkCount "sorted" 1 1 _) (wpAny_pure ?_)
  refine wpAny_bind (PySem.W.kdu_collect (A := X.A.in1) (kdl_raw lo h2 h3) (I.ok.hd hc) h1 (by rw [hsz]; exact z) fun h' tk acc hk hacc => ?_)
  have hal : acc.toList.length = es.length := by rw [Array.length_toList, hacc.1, hsz]
  have hac : acc.toList = es.map fun e => Value.ref e.2.1 := by
    refine List.ext_getElem? fun j => ?_
    rw [List.getElem?_map]
    cases e1 : acc.toList[j]? with
    | none =>
      have g1 := List.getElem?_eq_none_iff.mp e1
      rw [List.getElem?_eq_none (by omega)]
      rfl
    | some v =>
      obtain ⟨en, g1, g2⟩ := hacc.2 j v (by rw [← Array.getElem?_toList]; exact e1)
      rw [← Array.getElem?_toList, h4, List.getElem?_map] at g1
      obtain ⟨x, g3, g4⟩ := Option.map_eq_some_iff.mp g1
      have g5 : (es.map fun e => Value.ref e.2.1)[j]? = some (Value.ref x.2.1) := by
        have g6 : es.map (fun e => Value.ref e.2.1) = xs.map fun x => Value.ref x.2.1 := by
          exact rel.addrs
        rw [g6, List.getElem?_map, g3]
        rfl
      rw [List.getElem?_map] at g5
      rw [g5, g2, ← g4]
      rfl
  have I1 : Inv X pins σ H { s with heap := h', toks := tk } := I.kept hk
  have hp : ∀ v ∈ acc.toList, K2Is h' (k (backV v)) v ∧ (k (backV v)).map shp = c :: sh := fun v hv => by
    rw [hac] at hv
    obtain ⟨e, he, rfl⟩ := List.mem_map.mp hv
    obtain ⟨g1, g2⟩ := hx e he
    exact ⟨NK.k2 I1.hok g1, g2⟩
  refine wpAny_bind (wpAny_newList ?_ (by rw [hal]; exact z))
  have hoL : (h'.push (seqObj "list" acc.toList.toArray 0)).get? h'.objs.size = some (seqObj "list" acc.toList.toArray 0) := Heap.get?_push_size _ rfl
  show wpAny _ _ _ _ _ { s with heap := h'.push (seqObj "list" acc.toList.toArray 0), toks := tk }
  refine wpAny_bind (wpAny_holding (wpAny_call_entry slot_list_sort ⟨_, hoL, rfl⟩ entry_list_sort
    (SrtO.list_sort_ord (s := { s with heap := h'.push (seqObj "list" acc.toList.toArray 0), toks := tk }) (ltv := fun v u => lexI (flK (k (backV v))) (flK (k (backV u)))) (swo_lexI fun v => flK (k (backV v))) hoL (by rw [hal]; exact z) (fun g0 => ?_) fun out g1 g2 => ⟨_, rfl, ?_⟩) (args_list_sort _)))
  · refine k2_sortable (s := { s with heap := h'.push (seqObj "list" acc.toList.toArray 0), toks := tk }) hu2 (by omega) (fun v hm => ⟨(hp v hm).1.keeps fun b o e _ => Heap.get?_push_of_some _ e, (hp v hm).2⟩) fun o e => ?_
    have e' : some o = some (seqObj "list" acc.toList.toArray 0) := e.symm.trans hoL
    cases e'
    intro cc
    exact absurd (Value.type.inj cc) (by decide)
  · obtain ⟨e', he'⟩ := sortedHeap_at (vs := acc.toList) (out := out.toArray) hoL
    have g3 : ∀ u ∈ out, ∃ a, u = Value.ref a := fun u hu => by
      have hm := g2.perm.mem_iff.mp hu
      rw [hac] at hm
      obtain ⟨e, _, rfl⟩ := List.mem_map.mp hm
      exact ⟨_, rfl⟩
    have hb : SrtO.Stb (ltK k) (out.map backV) (es.map fun e => V.ref e.2.1) := by
      have hm := SrtO.Stb.map (ltK_swo k) backV g2
      rw [hac, List.map_map] at hm
      exact hm
    refine wpAny_pure ⟨_, rfl, .ref h'.objs.size, upd H h'.objs.size (.lst (out.map backV)), I1.laid (t' := tk) (fun b u e => ?_) (Nat.le_refl _)
      (show ObjOk X.prog X.w _ _ _ (.lst (out.map backV)) from ⟨?_, out, e', vals_back g3, he'⟩), rfl, q _ _ (SrtO.srtd_map g1) hb (I1.hok.fresh (Nat.le_refl _))⟩
    · have hlt : b < h'.objs.size := Heap.lt_size e
      rw [sortedHeap_old (Nat.ne_of_lt hlt) (by rw [size_push']; exact Nat.lt_succ_of_lt hlt)]
      exact Heap.get?_push_of_some _ e
    · rw [hb.len, List.length_map]
      exact z
end
/-! ### min and max of two tuples of ints -/
section
open PySem.SeqAt
open PySem.W (keyToksAll dataLt alike alikeAll dataLt_cons dataLt_int AlikeAll reads_keeps iter_tupleW cmpIn_lt cmpIn_gt moved_old)
theorem toks_ints : ∀ ns ms : List Int, PyProof.Rows.lexLt itemOrd (keyToksAll (ns.map .int)) (keyToksAll (ms.map .int)) = lexI ns ms
  | [], [] => lex_irrefl _
  | [], m :: ms => by
    show PyProof.Rows.lexLt itemOrd [.inl 0] (.inl 1 :: _) = true
    exact lex_diff (by decide)
  | n :: ns, [] => by
    show PyProof.Rows.lexLt itemOrd (.inl 1 :: _) [.inl 0] = false
    exact lex_diff (by decide)
  | n :: ns, m :: ms => by
    show PyProof.Rows.lexLt itemOrd (keyToksAll (.int n :: ns.map .int)) (keyToksAll (.int m :: ms.map .int)) = _
    rw [dataLt_cons (by rfl), lexI_cons, dataLt_int, toks_ints ns ms]
    have e : PyData.eqv (.int n) (.int m) = (n == m) := by simp only [PyData.eqv]
    rw [e]
    by_cases h : n = m
    · rw [if_pos h, if_pos (by rw [h]; exact beq_self_eq_true m)]
    · rw [if_neg h, if_neg (fun z => h (by simpa using z))]
theorem dataLt_ints (ns ms : List Int) : dataLt (.tuple (ns.map .int)) (.tuple (ms.map .int)) = lexI ns ms := toks_ints ns ms
theorem alike_ints : ∀ {ns ms : List Int}, ns.length = ms.length → alikeAll (ns.map .int) (ms.map .int) = true
  | [], [], _ => by simp [alikeAll]
  | n :: ns, m :: ms, h => by
    simp only [List.map_cons, alikeAll, alike, Bool.true_and]
    exact alike_ints (by simpa using h)
theorem depth_ints : ∀ ns : List Int, PyData.depthAll (ns.map .int) ≤ 1
  | [] => by simp [PyData.depthAll]
  | n :: ns => by
    have := depth_ints ns
    simp only [List.map_cons, PyData.depthAll, PyData.depth]
    omega
section
variable {prog : Program} {w : World} {A : Around} {E : Value → Shared → Prop} {s : Shared}
theorem alike2 {ns ms : List Int} (hl : ns.length = ms.length) : AlikeAll [PyData.tuple (ns.map .int), .tuple (ms.map .int)] := by
  have a : ∀ x y : List Int, x.length = y.length → alike (.tuple (x.map .int)) (.tuple (y.map .int)) = true := fun x y h => by
    simp only [alike]
    exact alike_ints h
  refine ⟨fun x hx y hy => ?_, fun x hx => ?_⟩
  · simp only [List.mem_cons, List.not_mem_nil, or_false] at hx hy
    rcases hx with rfl | rfl <;> rcases hy with rfl | rfl
    · exact a _ _ rfl
    · exact a _ _ hl
    · exact a _ _ hl.symm
    · exact a _ _ rfl
  · simp only [List.mem_cons, List.not_mem_nil, or_false] at hx
    rcases hx with rfl | rfl <;> exact fun z => nomatch z
theorem depth2 {ns ms : List Int} : PyData.depthAll [PyData.tuple (ns.map .int), .tuple (ms.map .int)] ≤ 2 := by
  have h1 := depth_ints ns
  have h2 := depth_ints ms
  simp only [PyData.depthAll, PyData.depth]
  omega
theorem min_two_tups {a b : Addr} {ns ms : List Int} {as bs : List Addr} {Q : Value → Shared → Prop} (hh : A.handled = none) (hu : A.units + 3 < cLine) (r1 : Reads s.heap (.ref a) (.tuple (ns.map .int)) as) (r2 : Reads s.heap (.ref b) (.tuple (ms.map .int)) bs) (hl : ns.length = ms.length)
    (h : ∀ h' tk, (∀ c o, s.heap.get? c = some o → h'.get? c = some o) → Q (.ref (if lexI ms ns = true then b else a)) { s with heap := h', toks := tk }) :
    wpAny (model prog w) A (call (.builtin "min") [.ref a, .ref b]) Q E s := by
  have hname : (toString "min" ++ toString ".loop" : String) = "min.loop" := by decide
  refine call_function_tree PySem.F.kind_min PySem.F.plain_min PySem.F.entry_min (PySem.F.args_min2 _ _) ?_
  show wpAny _ A.in1 (Builtin.Builtins.bindParams "min" ["key", "default"] 0 ⟨[], []⟩ >>= _) _ _ s
  refine wpAny_bind (wpAny_of_eq (show Builtin.Builtins.bindParams "min" ["key", "default"] 0 ⟨[], []⟩ = pure [none, none] from rfl) ?_)
  show wpAny _ A.in1 (newTuple [.ref a, .ref b] >>= _) _ _ s
  refine wpAny_bind (wpAny_newObj_type ?_)
  have k0 : ∀ c o, s.heap.get? c = some o → (s.heap.push { cls := .type "tuple", data := .seq #[Value.ref a, .ref b] }).get? c = some o := fun c o e => Heap.get?_push_of_some _ e
  have hT : (s.heap.push { cls := .type "tuple", data := .seq #[Value.ref a, .ref b] }).IsTuple s.heap.objs.size #[.ref a, .ref b] := ⟨_, Heap.get?_push_size _ rfl, rfl, 0, rfl⟩
  have hr : ReadsAll (s.heap.push { cls := .type "tuple", data := .seq #[Value.ref a, .ref b] }) (#[Value.ref a, .ref b] : Array Value).toList [PyData.tuple (ns.map .int), .tuple (ms.map .int)] (as ++ (bs ++ [])) := .cons (reads_keeps k0 r1) (.cons (reads_keeps k0 r2) .nil)
  refine wpAny_bind (iter_tupleW (A := A.in1) (s := { s with heap := s.heap.push { cls := .type "tuple", data := .seq #[Value.ref a, .ref b] } }) hh hT fun s₂ e W st hfp hw hk => ?_)
  refine wpAny_bind (wpAny_newObj_type ?_)
  have hSf : s₂.heap.objs.size ∉ [(s.heap.push { cls := .type "tuple", data := .seq #[Value.ref a, .ref b] }).objs.size, s.heap.objs.size] := fun hm => Nat.lt_irrefl _ (hfp _ hm)
  rw [hname]
  have hcm := cmpIn_lt (prog := prog) (w := w) (A := A.in1) (s := { s with heap := s.heap.push { cls := .type "tuple", data := .seq #[Value.ref a, .ref b] } }) hr (alike2 hl) (by
    have := depth2 (ns := ns) (ms := ms)
    show A.units + 1 + _ < cLine
    omega)
  refine wpAny_pure ⟨plainId_quiet PySem.F.plain_min_loop _, codeAny_min_loop_firstH W _ hw _ hcm s₂.heap.objs.size hSf (fresh_in hk) _ (Nat.succ_pos 1) (fun b o e => Heap.get?_push_of_some _ (hk b o e)) (W.frame 0 s₂ _ s₂.toks st (Nat.le_refl _) fun b _ o e => Heap.get?_push_of_some _ e) (Heap.get?_push_size _ rfl) fun v s' hP hm => ?_⟩
  have hm2 := Moved.drop_new (tk := s₂.toks) hm (Nat.le_refl _)
  obtain ⟨h', tk, rfl, hk'⟩ := moved_old e rfl hm2
  have e2 : v = .ref (if lexI ms ns = true then b else a) := by
    have e3 : argBest (fun i j => dataLt ([PyData.tuple (ns.map .int), .tuple (ms.map .int)].getD i .none) ([PyData.tuple (ns.map .int), .tuple (ms.map .int)].getD j .none)) 1 = if lexI ms ns = true then 1 else 0 := by
      show (if dataLt (.tuple (ms.map .int)) (.tuple (ns.map .int)) = true then 1 else 0) = _
      rw [dataLt_ints]
    have hP' : (#[Value.ref a, .ref b] : Array Value)[argBest (fun i j => dataLt ([PyData.tuple (ns.map .int), .tuple (ms.map .int)].getD i .none) ([PyData.tuple (ns.map .int), .tuple (ms.map .int)].getD j .none)) 1]? = some v := hP
    rw [e3] at hP'
    by_cases hc : lexI ms ns = true
    · rw [if_pos hc] at hP' ⊢
      exact (Option.some.inj hP').symm
    · rw [if_neg hc] at hP' ⊢
      exact (Option.some.inj hP').symm
  rw [e2]
  exact h h' tk fun c o ec => hk' c o (k0 c o ec)
theorem max_two_tups {a b : Addr} {ns ms : List Int} {as bs : List Addr} {Q : Value → Shared → Prop} (hh : A.handled = none) (hu : A.units + 3 < cLine) (r1 : Reads s.heap (.ref a) (.tuple (ns.map .int)) as) (r2 : Reads s.heap (.ref b) (.tuple (ms.map .int)) bs) (hl : ns.length = ms.length)
    (h : ∀ h' tk, (∀ c o, s.heap.get? c = some o → h'.get? c = some o) → Q (.ref (if lexI ns ms = true then b else a)) { s with heap := h', toks := tk }) :
    wpAny (model prog w) A (call (.builtin "max") [.ref a, .ref b]) Q E s := by
  have hname : (toString "max" ++ toString ".loop" : String) = "max.loop" := by decide
  refine call_function_tree PySem.F.kind_max PySem.F.plain_max PySem.F.entry_max (PySem.F.args_max2 _ _) ?_
  show wpAny _ A.in1 (Builtin.Builtins.bindParams "max" ["key", "default"] 0 ⟨[], []⟩ >>= _) _ _ s
  refine wpAny_bind (wpAny_of_eq (show Builtin.Builtins.bindParams "max" ["key", "default"] 0 ⟨[], []⟩ = pure [none, none] from rfl) ?_)
  show wpAny _ A.in1 (newTuple [.ref a, .ref b] >>= _) _ _ s
  refine wpAny_bind (wpAny_newObj_type ?_)
  have k0 : ∀ c o, s.heap.get? c = some o → (s.heap.push { cls := .type "tuple", data := .seq #[Value.ref a, .ref b] }).get? c = some o := fun c o e => Heap.get?_push_of_some _ e
  have hT : (s.heap.push { cls := .type "tuple", data := .seq #[Value.ref a, .ref b] }).IsTuple s.heap.objs.size #[.ref a, .ref b] := ⟨_, Heap.get?_push_size _ rfl, rfl, 0, rfl⟩
  have hr : ReadsAll (s.heap.push { cls := .type "tuple", data := .seq #[Value.ref a, .ref b] }) (#[Value.ref a, .ref b] : Array Value).toList [PyData.tuple (ns.map .int), .tuple (ms.map .int)] (as ++ (bs ++ [])) := .cons (reads_keeps k0 r1) (.cons (reads_keeps k0 r2) .nil)
  refine wpAny_bind (iter_tupleW (A := A.in1) (s := { s with heap := s.heap.push { cls := .type "tuple", data := .seq #[Value.ref a, .ref b] } }) hh hT fun s₂ e W st hfp hw hk => ?_)
  refine wpAny_bind (wpAny_newObj_type ?_)
  have hSf : s₂.heap.objs.size ∉ [(s.heap.push { cls := .type "tuple", data := .seq #[Value.ref a, .ref b] }).objs.size, s.heap.objs.size] := fun hm => Nat.lt_irrefl _ (hfp _ hm)
  rw [hname]
  have hcm := cmpIn_gt (prog := prog) (w := w) (A := A.in1) (s := { s with heap := s.heap.push { cls := .type "tuple", data := .seq #[Value.ref a, .ref b] } }) hr (alike2 hl) (by
    have := depth2 (ns := ns) (ms := ms)
    show A.units + 1 + _ < cLine
    omega)
  refine wpAny_pure ⟨plainId_quiet PySem.F.plain_max_loop _, codeAny_max_loop_firstH W _ hw _ hcm s₂.heap.objs.size hSf (fresh_in hk) _ (Nat.succ_pos 1) (fun b o e => Heap.get?_push_of_some _ (hk b o e)) (W.frame 0 s₂ _ s₂.toks st (Nat.le_refl _) fun b _ o e => Heap.get?_push_of_some _ e) (Heap.get?_push_size _ rfl) fun v s' hP hm => ?_⟩
  have hm2 := Moved.drop_new (tk := s₂.toks) hm (Nat.le_refl _)
  obtain ⟨h', tk, rfl, hk'⟩ := moved_old e rfl hm2
  have e2 : v = .ref (if lexI ns ms = true then b else a) := by
    have e3 : argBest (fun i j => dataLt ([PyData.tuple (ns.map .int), .tuple (ms.map .int)].getD j .none) ([PyData.tuple (ns.map .int), .tuple (ms.map .int)].getD i .none)) 1 = if lexI ns ms = true then 1 else 0 := by
      show (if dataLt (.tuple (ns.map .int)) (.tuple (ms.map .int)) = true then 1 else 0) = _
      rw [dataLt_ints]
    have hP' : (#[Value.ref a, .ref b] : Array Value)[argBest (fun i j => dataLt ([PyData.tuple (ns.map .int), .tuple (ms.map .int)].getD j .none) ([PyData.tuple (ns.map .int), .tuple (ms.map .int)].getD i .none)) 1]? = some v := hP
    rw [e3] at hP'
    by_cases hc : lexI ns ms = true
    · rw [if_pos hc] at hP' ⊢
      exact (Option.some.inj hP').symm
    · rw [if_neg hc] at hP' ⊢
      exact (Option.some.inj hP').symm
  rw [e2]
  exact h h' tk fun c o ec => hk' c o (k0 c o ec)
end
/-- min(t, u), max(t, u) of tuples of as many ints -/
def rMinT (mx : Bool) : List V → Hp → VK → Prop := fun vs H Q => ∃ (a b : Addr) (ns ms : List Int), vs = [.ref a, .ref b] ∧ H a = some (.tup (ns.map V.int)) ∧ H b = some (.tup (ms.map V.int)) ∧ ns.length = ms.length ∧ Q (.ref (if (if mx then lexI ns ms else lexI ms ns) = true then b else a)) H
/-- x in a tuple, data of any depth -/
def rInDT (K : PySem.W.Frag) (neg : Bool) : R2 := fun x y H Q => ∃ d ds, Dp K H x d ∧ Dp K H y (.tuple ds) ∧ SeqAt.shaped d = true ∧ SeqAt.shaped (.tuple ds) = true ∧ Q (.bl (if neg then !(ds.any fun z => PyData.eqv z d) else ds.any fun z => PyData.eqv z d)) H
def rInDL (K : PySem.W.Frag) (neg : Bool) : R2 := fun x y H Q => ∃ d ds, Dp K H x d ∧ Dp K H y (.list ds) ∧ SeqAt.shaped d = true ∧ SeqAt.shaped (.list ds) = true ∧ Q (.bl (if neg then !(ds.any fun z => PyData.eqv z d) else ds.any fun z => PyData.eqv z d)) H
section
variable {X : Cx} {K : PySem.W.Frag}
theorem im_ints {H : Hp} : ∀ ns : List Int, ImAll K H (ns.map V.int) (ns.map PyData.int)
  | [] => .nil
  | n :: ns => .cons (.int n) (im_ints ns)
theorem call_minT (hc : X.calm = true) (hu : X.A.units + 64 < cLine) : CallR X (.builtin "min") (rMinT false) := by
  intro pins s σ H vs us Q I r h
  obtain ⟨a, b, ns, ms, rfl, ha, hb, hl, q⟩ := h
  obtain ⟨u1, u2, rfl, r1, r2⟩ := vals2 r
  cases r1
  cases r2
  obtain ⟨as, g1⟩ := Dp.reads I (.tuple (ns.map .int)) _ _ (.tup (SqT.of ha) (im_ints ns).dp) rfl
  obtain ⟨bs, g2⟩ := Dp.reads I (.tuple (ms.map .int)) _ _ (.tup (SqT.of hb) (im_ints ms).dp) rfl
  exact min_two_tups (I.ok.hd hc) (by omega) g1 g2 hl fun h' tk k => ⟨.ref (if lexI ms ns = true then b else a), H, I.kept k, rfl, q⟩
theorem call_maxT (hc : X.calm = true) (hu : X.A.units + 64 < cLine) : CallR X (.builtin "max") (rMinT true) := by
  intro pins s σ H vs us Q I r h
  obtain ⟨a, b, ns, ms, rfl, ha, hb, hl, q⟩ := h
  obtain ⟨u1, u2, rfl, r1, r2⟩ := vals2 r
  cases r1
  cases r2
  obtain ⟨as, g1⟩ := Dp.reads I (.tuple (ns.map .int)) _ _ (.tup (SqT.of ha) (im_ints ns).dp) rfl
  obtain ⟨bs, g2⟩ := Dp.reads I (.tuple (ms.map .int)) _ _ (.tup (SqT.of hb) (im_ints ms).dp) rfl
  exact max_two_tups (I.ok.hd hc) (by omega) g1 g2 hl fun h' tk k => ⟨.ref (if lexI ns ms = true then b else a), H, I.kept k, rfl, q⟩
theorem op_inDT (hu : X.A.units + 65 < cLine) (hK : X.K = K := by rfl) : OpR X (compareOp .In) (rInDT K false) := by
  subst hK
  intro pins s σ H x y v u Q I rx ry h
  obtain ⟨d, ds, hd, he, sd, se, q⟩ := h
  obtain ⟨as, r1⟩ := Dp.reads I d x v hd rx
  obtain ⟨bs, r2⟩ := Dp.reads I (.tuple ds) y u he ry
  exact SeqAt.in_tuple_reads r2 r1 (SeqAt.canLay_of_shaped se) (SeqAt.canLay_of_shaped sd) (room_in_shaped sd hu) ⟨.bl _, H, I, rfl, q⟩
theorem op_inDL (hu : X.A.units + 65 < cLine) (hK : X.K = K := by rfl) : OpR X (compareOp .In) (rInDL K false) := by
  subst hK
  exact op_inD hu
theorem op_niDL (hu : X.A.units + 65 < cLine) (hK : X.K = K := by rfl) : OpR X (compareOp .NotIn) (rInDL K true) := by
  subst hK
  exact op_notInD hu
end
end
end Hb

set_option Elab.async false
set_option maxRecDepth 100000
set_option maxHeartbeats 4000000
/-! Links as keys: pairs of pairs of ints, their dicts, their sorted lists. -/
namespace Hb
open PySem L2
abbrev E2 := Int × Int
abbrev Lk := E2 × E2
def flL (l : Lk) : List Int := [l.1.1, l.1.2, l.2.1, l.2.2]
def itL (l : Lk) : List Itm := [.inr [l.1.1, l.1.2], .inr [l.2.1, l.2.2]]
def lkK (l : Lk) : NestedKey := nkK (itL l)
theorem flK_it (l : Lk) : flK (itL l) = flL l := rfl
theorem flL_inj {x y : Lk} (h : flL x = flL y) : x = y := by
  obtain ⟨⟨a, b⟩, c, d⟩ := x
  obtain ⟨⟨a', b'⟩, c', d'⟩ := y
  have h1 := List.cons.inj h
  have h2 := List.cons.inj h1.2
  have h3 := List.cons.inj h2.2
  have h4 := List.cons.inj h3.2
  simp only at h1 h2 h3 h4
  rw [h1.1, h2.1, h3.1, h4.1]
theorem lkK_inj {x y : Lk} (h : lkK x = lkK y) : x = y := by
  have h1 : (itL x).map nkI = (itL y).map nkI := NestedKey.tup.inj h
  have h2 := List.cons.inj h1
  have h3 := List.cons.inj h2.2
  have e1 := nkI_inj h2.1
  have e2 := nkI_inj h3.1
  refine flL_inj ?_
  have e3 : ([x.1.1, x.1.2] : List Int) = [y.1.1, y.1.2] := Sum.inr.inj e1
  have e4 : ([x.2.1, x.2.2] : List Int) = [y.2.1, y.2.2] := Sum.inr.inj e2
  show [x.1.1, x.1.2] ++ [x.2.1, x.2.2] = [y.1.1, y.1.2] ++ [y.2.1, y.2.2]
  rw [e3, e4]
theorem lkK_depth (l : Lk) : (lkK l).depth ≤ 8 := by
  simp [lkK, nkK, itL, nkI, NestedKey.depth, NestedKey.depthAll]
/-! ### sorted -/
def ltL (x y : Lk) : Bool := lexI (flL x) (flL y)
abbrev SortedL (l : List Lk) : Prop := l.Pairwise fun x y => ltL y x = false
def insL (x : Lk) : List Lk → List Lk
  | [] => [x]
  | y :: ys => if ltL y x then y :: insL x ys else x :: y :: ys
def srt : List Lk → List Lk
  | [] => []
  | x :: xs => insL x (srt xs)
theorem insL_perm (x : Lk) : ∀ ys : List Lk, (insL x ys).Perm (x :: ys)
  | [] => List.Perm.refl _
  | y :: ys => by
    unfold insL
    split
    · exact ((insL_perm x ys).cons y).trans (List.Perm.swap x y ys)
    · exact List.Perm.refl _
theorem srt_perm : ∀ ls : List Lk, (srt ls).Perm ls
  | [] => List.Perm.refl _
  | x :: xs => (insL_perm x (srt xs)).trans ((srt_perm xs).cons x)
theorem insL_sorted (x : Lk) : ∀ ys : List Lk, SortedL ys → SortedL (insL x ys)
  | [], _ => List.pairwise_singleton _ _
  | y :: ys, h => by
    have h1 := List.pairwise_cons.mp h
    unfold insL
    by_cases hc : ltL y x = true
    · rw [if_pos hc]
      refine List.pairwise_cons.mpr ⟨fun z hz => ?_, insL_sorted x ys h1.2⟩
      rcases List.mem_cons.mp ((insL_perm x ys).mem_iff.mp hz) with rfl | hz
      · exact lexI_asym _ _ hc
      · exact h1.1 z hz
    · rw [if_neg hc]
      have hc' : ltL y x = false := by
        cases q : ltL y x with
        | true => exact absurd q hc
        | false => rfl
      refine List.pairwise_cons.mpr ⟨fun z hz => ?_, h⟩
      rcases List.mem_cons.mp hz with rfl | hz
      · exact hc'
      · exact lexI_tr _ _ _ hc' (h1.1 z hz)
theorem srt_sorted : ∀ ls : List Lk, SortedL (srt ls)
  | [] => List.Pairwise.nil
  | x :: xs => insL_sorted x _ (srt_sorted xs)
theorem sorted_uniq : ∀ {l m : List Lk}, l.Perm m → SortedL l → SortedL m → l = m
  | [], m, p, _, _ => (List.Perm.eq_nil p.symm).symm
  | x :: l, [], p, _, _ => absurd p.length_eq (by simp)
  | x :: l, y :: m, p, hl, hm => by
    have h1 := List.pairwise_cons.mp hl
    have h2 := List.pairwise_cons.mp hm
    have e : x = y := by
      rcases List.mem_cons.mp (p.mem_iff.mp List.mem_cons_self) with e | hx
      · exact e
      · rcases List.mem_cons.mp (p.mem_iff.mpr List.mem_cons_self) with e | hy
        · exact e.symm
        · exact flL_inj (lexI_total _ _ (h2.1 x hx) (h1.1 y hy))
    subst e
    rw [sorted_uniq p.cons_inv h1.2 h2.2]
theorem srt_uniq {l ls : List Lk} (p : l.Perm ls) (h : SortedL l) : l = srt ls := sorted_uniq (p.trans (srt_perm ls).symm) h (srt_sorted ls)
theorem srt_filter (p : Lk → Bool) (ls : List Lk) : (srt ls).filter p = srt (ls.filter p) := srt_uniq ((srt_perm ls).filter p) ((srt_sorted ls).filter p)
theorem mem_srt {ls : List Lk} {l : Lk} : l ∈ srt ls ↔ l ∈ ls := (srt_perm ls).mem_iff
/-! ### where they stand -/
theorem nk_link {H : Hp} {l : Lk} {a : Addr} (h : NK H (lkK l) (.ref a)) : ∃ p q, H a = some (.tup [.ref p, .ref q]) ∧ H p = some (.tup [.int l.1.1, .int l.1.2]) ∧ H q = some (.tup [.int l.2.1, .int l.2.2]) := by
  have end_ : ∀ {x y : Int} {v : V}, NK H (nkI (.inr [x, y])) v → ∃ p, v = .ref p ∧ H p = some (.tup [.int x, .int y]) := by
    intro x y v h
    cases h with
    | tup e hs =>
      cases hs with
      | cons h1 h2 =>
        cases h2 with
        | cons h2 h3 =>
          cases h3
          cases h1
          cases h2
          exact ⟨_, rfl, e⟩
  cases h with
  | tup e hs =>
    cases hs with
    | cons h1 h2 =>
      cases h2 with
      | cons h2 h3 =>
        cases h3
        obtain ⟨p, rfl, hp⟩ := end_ h1
        obtain ⟨q, rfl, hq⟩ := end_ h2
        exact ⟨p, q, e, hp, hq⟩
theorem nk_end {H : Hp} {p : Addr} {x y : Int} (h : H p = some (.tup [.int x, .int y])) : NK H (nkI (.inr [x, y])) (.ref p) := .tup h (.cons (.int x) (.cons (.int y) .nil))
theorem nk_mk {H : Hp} {l : Lk} {a p q : Addr} (h : H a = some (.tup [.ref p, .ref q])) (hp : H p = some (.tup [.int l.1.1, .int l.1.2])) (hq : H q = some (.tup [.int l.2.1, .int l.2.2])) : NK H (lkK l) (.ref a) := .tup h (.cons (nk_end hp) (.cons (nk_end hq) .nil))
/-- a list of links -/
abbrev LkL (H : Hp) (vs : List V) (ls : List Lk) : Prop := Paired (fun v l => ∃ a, v = V.ref a ∧ NK H (lkK l) (.ref a)) vs ls
theorem LkL.mono {H H' : Hp} (e : ∀ p xs, H p = some (.tup xs) → H' p = some (.tup xs)) {vs : List V} {ls : List Lk} (h : LkL H vs ls) : LkL H' vs ls := Paired.mapP h fun _ _ ⟨a, e1, e2⟩ => ⟨a, e1, e2.mono e⟩
theorem LkL.same {H H' : Hp} (e : Same H H') {vs : List V} {ls : List Lk} (h : LkL H vs ls) : LkL H' vs ls := h.mono fun _ _ => e _ _
theorem LkL.len {H : Hp} {vs : List V} {ls : List Lk} (h : LkL H vs ls) : vs.length = ls.length := Paired.length h
theorem LkL.get {H : Hp} : ∀ {vs : List V} {ls : List Lk} {i : Nat} {v : V}, LkL H vs ls → vs[i]? = some v → ∃ a l, v = .ref a ∧ ls[i]? = some l ∧ NK H (lkK l) (.ref a)
  | _ :: _, l :: _, 0, _, .cons ⟨a, e1, e2⟩ _, e => by
    cases e
    exact ⟨a, l, e1, rfl, e2⟩
  | _ :: _, _ :: _, i + 1, _, .cons _ t, e => LkL.get (i := i) t (by simpa using e)
theorem LkL.app {H : Hp} : ∀ {vs us : List V} {ls ms : List Lk}, LkL H vs ls → LkL H us ms → LkL H (vs ++ us) (ls ++ ms)
  | _, _, _, _, .nil, h => h
  | _, _, _, _, .cons h t, h2 => .cons h (LkL.app t h2)
theorem LkL.snoc {H : Hp} {vs : List V} {ls : List Lk} {a : Addr} {l : Lk} (h : LkL H vs ls) (hk : NK H (lkK l) (.ref a)) : LkL H (vs ++ [.ref a]) (ls ++ [l]) := h.app (.cons ⟨a, rfl, hk⟩ .nil)
theorem LkL.ima {K : PySem.W.Frag} {H : Hp} : ∀ {vs : List V} {ls : List Lk}, LkL H vs ls → ImAll K H vs (ls.map fun l => (lkK l).data)
  | _, _, .nil => .nil
  | _, _, .cons ⟨a, e1, e2⟩ t => by
    subst e1
    exact .cons e2.im (LkL.ima t)
theorem paired_perm {α β : Type} {R : α → β → Prop} : ∀ {xs ys : List α}, ys.Perm xs → ∀ {ls : List β}, Paired R xs ls → ∃ ms, ms.Perm ls ∧ Paired R ys ms := by
  intro xs ys p
  induction p with
  | nil => exact fun h => ⟨_, List.Perm.refl _, h⟩
  | cons x _ ih =>
    intro ls h
    cases h with
    | cons h1 h2 =>
      obtain ⟨ms, p1, p2⟩ := ih h2
      exact ⟨_, p1.cons _, .cons h1 p2⟩
  | swap x y l =>
    intro ls h
    cases h with
    | cons h1 h2 =>
      cases h2 with
      | cons h2 h3 => exact ⟨_, List.Perm.swap _ _ _, .cons h2 (.cons h1 h3)⟩
  | trans _ _ ih1 ih2 =>
    intro ls h
    obtain ⟨ms, p1, p2⟩ := ih2 h
    obtain ⟨ns, p3, p4⟩ := ih1 p2
    exact ⟨ns, p3.trans p1, p4⟩
/-- the items of what stands there -/
noncomputable def itK (H : Hp) (v : V) : List Itm := Classical.epsilon fun ks => NK H (nkK ks) v
theorem nkK_inj {x y : List Itm} (h : nkK x = nkK y) : x = y := by
  have h1 : x.map nkI = y.map nkI := NestedKey.tup.inj h
  clear h
  induction x generalizing y with
  | nil =>
    cases y with
    | nil => rfl
    | cons _ _ => cases h1
  | cons a x ih =>
    cases y with
    | nil => cases h1
    | cons b y =>
      have h2 := List.cons.inj h1
      rw [nkI_inj h2.1, ih h2.2]
theorem itK_eq {H : Hp} {ks : List Itm} {v : V} (h : NK H (nkK ks) v) : itK H v = ks := by
  have h2 : NK H (nkK (itK H v)) v := Classical.epsilon_spec (p := fun ks => NK H (nkK ks) v) ⟨ks, h⟩
  exact nkK_inj (h2.inj h)
theorem srtd_links {H : Hp} : ∀ {ys : List V} {ls : List Lk}, LkL H ys ls → SrtO.Srtd (ltK (itK H)) ys → SortedL ls
  | _, _, .nil, _ => List.Pairwise.nil
  | _, _, .cons (a := v) (b := l) ⟨a, e1, e2⟩ t, h => by
    have h1 := List.pairwise_cons.mp h
    refine List.pairwise_cons.mpr ⟨fun m hm => ?_, srtd_links t h1.2⟩
    have key : ∀ {vs : List V} {ms : List Lk}, LkL H vs ms → (∀ u ∈ vs, ltK (itK H) u v = false) → ∀ m ∈ ms, ltL m l = false := by
      intro vs ms hL
      induction hL with
      | nil => exact fun _ m hm => nomatch hm
      | cons hx _ ih =>
        obtain ⟨b, g1, g2⟩ := hx
        intro hu m hm
        rcases List.mem_cons.mp hm with rfl | hm
        · have := hu _ List.mem_cons_self
          unfold ltK at this
          rw [g1, e1, itK_eq (ks := itL m) g2, itK_eq (ks := itL l) e2, flK_it, flK_it] at this
          exact this
        · exact ih (fun u hu' => hu u (List.mem_cons_of_mem _ hu')) m hm
    exact key t h1.1 m hm
/-- data of links can be compared -/
theorem lk_data (l : Lk) : (lkK l).data = .tuple [.tuple [.int l.1.1, .int l.1.2], .tuple [.int l.2.1, .int l.2.2]] := by simp [lkK, nkK, itL, nkI, NestedKey.data, NestedKey.datas]
theorem lk_ok {ls : List Lk} : ∀ d ∈ ls.map (fun l => (lkK l).data), d.canLay0 = true ∧ d.depth ≤ 60 := fun d hd => by
  obtain ⟨l, _, rfl⟩ := List.mem_map.mp hd
  rw [lk_data]
  constructor
  · simp [PyData.canLay0, PyData.canLayAll0]
  · simp [PyData.depth, PyData.depthAll]
theorem eqv_end {x y : E2} : PyData.eqv (.tuple [.int x.1, .int x.2]) (.tuple [.int y.1, .int y.2]) = decide (x = y) := by
  have e : PyData.eqv (.tuple [.int x.1, .int x.2]) (.tuple [.int y.1, .int y.2]) = ((x.1 == y.1) && ((x.2 == y.2) && true)) := by simp only [PyData.eqv, PyData.eqvAll]
  rw [e, Bool.and_true]
  by_cases h : x = y
  · rw [decide_eq_true h, h]
    simp
  · rw [decide_eq_false h]
    cases q : (x.1 == y.1) && (x.2 == y.2) with
    | false => rfl
    | true =>
      rw [Bool.and_eq_true] at q
      exact absurd (Prod.ext (by simpa using q.1) (by simpa using q.2)) h
theorem eqv_link {x y : Lk} : PyData.eqv (lkK x).data (lkK y).data = decide (x = y) := by
  rw [lk_data, lk_data]
  have e : PyData.eqv (.tuple [.tuple [.int x.1.1, .int x.1.2], .tuple [.int x.2.1, .int x.2.2]]) (.tuple [.tuple [.int y.1.1, .int y.1.2], .tuple [.int y.2.1, .int y.2.2]]) = (PyData.eqv (.tuple [.int x.1.1, .int x.1.2]) (.tuple [.int y.1.1, .int y.1.2]) && (PyData.eqv (.tuple [.int x.2.1, .int x.2.2]) (.tuple [.int y.2.1, .int y.2.2]) && true)) := by simp only [PyData.eqv, PyData.eqvAll]
  rw [e, eqv_end, eqv_end, Bool.and_true]
  by_cases h : x = y
  · rw [decide_eq_true h, h]
    simp
  · rw [decide_eq_false h]
    cases q : decide (x.1 = y.1) && decide (x.2 = y.2) with
    | false => rfl
    | true =>
      rw [Bool.and_eq_true, decide_eq_true_eq, decide_eq_true_eq] at q
      exact absurd (Prod.ext q.1 q.2) h
/-! ### dicts by links -/
abbrev Mp := List (Lk × Int)
/-- the entries at B's tuples are M's -/
abbrev EntM (B : Hp) (es : List Ent) (M : Mp) : Prop := Paired (fun e x => e.1 = lkK x.1 ∧ e.2.2 = V.int x.2 ∧ NK B (lkK x.1) (.ref e.2.1)) es M
def keysM (M : Mp) : List Lk := M.map (·.1)
def valM (M : Mp) (l : Lk) : Option Int := (M.find? fun x => decide (x.1 = l)).map (·.2)
def dropM (M : Mp) (ls : List Lk) : Mp := M.filter fun x => decide (x.1 ∉ ls)
def putM (M : Mp) (l : Lk) (n : Int) : Mp := if (valM M l).isSome then M.map (fun x => if x.1 = l then (x.1, n) else x) else M ++ [(l, n)]
def has (e : E2) (l : Lk) : Bool := decide (l.1 = e) || decide (l.2 = e)
def atM (M : Mp) (e : E2) : List Lk := (srt (keysM M)).filter (has e)
theorem EntM.mono {B B' : Hp} (e : ∀ p xs, B p = some (.tup xs) → B' p = some (.tup xs)) {es : List Ent} {M : Mp} (h : EntM B es M) : EntM B' es M := Paired.mapP h fun _ _ ⟨h1, h2, h3⟩ => ⟨h1, h2, h3.mono e⟩
theorem EntM.same {B B' : Hp} (e : Same B B') {es : List Ent} {M : Mp} (h : EntM B es M) : EntM B' es M := h.mono fun _ _ => e _ _
theorem EntM.ok {B : Hp} {es : List Ent} {M : Mp} (h : EntM B es M) : EntsOk B es := by
  induction h with
  | nil => exact EntsOk.nil
  | cons h _ ih =>
    intro e he
    rcases List.mem_cons.mp he with rfl | he
    · rw [h.1]
      exact ⟨h.2.2, lkK_depth _⟩
    · exact ih e he
theorem EntM.len {B : Hp} {es : List Ent} {M : Mp} (h : EntM B es M) : es.length = M.length := Paired.length h
theorem EntM.at {B : Hp} {es : List Ent} {M : Mp} (h : EntM B es M) (l : Lk) : atN es (lkK l) = (valM M l).map V.int := by
  induction h with
  | nil => rfl
  | @cons e x es xs h _ ih =>
    unfold atN valM at ih ⊢
    rw [List.find?_cons, List.find?_cons, h.1]
    by_cases hc : x.1 = l
    · rw [decide_eq_true hc, decide_eq_true (by rw [hc])]
      show some e.2.2 = some (V.int x.2)
      rw [h.2.1]
    · rw [decide_eq_false hc, decide_eq_false (fun z => hc (lkK_inj z))]
      exact ih
theorem entM_map {B : Hp} {l : Lk} {n : Int} : ∀ {es : List Ent} {M : Mp}, EntM B es M → EntM B (es.map fun e => if e.1 = lkK l then (e.1, e.2.1, V.int n) else e) (M.map fun x => if x.1 = l then (x.1, n) else x)
  | _, _, .nil => .nil
  | e :: es, x :: xs, .cons h t => by
    refine .cons ?_ (entM_map t)
    by_cases hc : x.1 = l
    · have hc2 : e.1 = lkK l := by rw [h.1, hc]
      simp only [if_pos hc2, if_pos hc]
      exact ⟨h.1, trivial, h.2.2⟩
    · have hc2 : ¬ e.1 = lkK l := fun z => hc (lkK_inj (h.1.symm.trans z))
      simp only [if_neg hc2, if_neg hc]
      exact h
theorem paired_app {α β : Type} {R : α → β → Prop} : ∀ {xs us : List α} {ys ws : List β}, Paired R xs ys → Paired R us ws → Paired R (xs ++ us) (ys ++ ws)
  | _, _, _, _, .nil, h => h
  | _, _, _, _, .cons h t, h2 => .cons h (paired_app t h2)
theorem EntM.put {B : Hp} {es : List Ent} {M : Mp} (h : EntM B es M) {l : Lk} {b : Addr} (n : Int) (hk : NK B (lkK l) (.ref b)) : EntM B (putN es (lkK l) b (.int n)) (putM M l n) := by
  unfold putN putM
  rw [h.at l, Option.isSome_map]
  by_cases hc : (valM M l).isSome = true
  · rw [if_pos hc, if_pos hc]
    exact entM_map h
  · rw [if_neg hc, if_neg hc]
    exact paired_app h (.cons ⟨rfl, rfl, hk⟩ .nil)
theorem EntM.drop {B : Hp} {l : Lk} : ∀ {es : List Ent} {M : Mp}, EntM B es M → EntM B (dropN es (lkK l)) (dropM M [l])
  | _, _, .nil => .nil
  | e :: es, x :: xs, .cons h t => by
    unfold dropN dropM
    rw [List.filter_cons, List.filter_cons]
    by_cases hc : x.1 = l
    · have e1 : decide (e.1 ≠ lkK l) = false := decide_eq_false (fun z => z (by rw [h.1, hc]))
      have e2 : decide (x.1 ∉ [l]) = false := decide_eq_false (fun z => z (by rw [hc]; exact List.mem_cons_self))
      rw [e1, e2]
      exact EntM.drop t
    · have e1 : decide (e.1 ≠ lkK l) = true := decide_eq_true (fun z => hc (lkK_inj (h.1.symm.trans z)))
      have e2 : decide (x.1 ∉ [l]) = true := decide_eq_true (fun z => hc (List.mem_singleton.mp z))
      rw [e1, e2]
      exact .cons h (EntM.drop t)
theorem EntM.lkl {B : Hp} : ∀ {es : List Ent} {M : Mp}, EntM B es M → LkL B (es.map fun e => V.ref e.2.1) (keysM M)
  | _, _, .nil => .nil
  | _, _, .cons h t => .cons ⟨_, rfl, h.2.2⟩ (EntM.lkl t)
/-! ### their steps -/
section
variable {w : World} {σ : St} {H B : Hp} {Q : VK} {D : Ends} {td ty tv : TE} {L L' : List (Addr × HO)} {es : List Ent} {M : Mp} {l : Lk} {d b : Addr} {n : Int}
theorem w_nget (q : td σ H fun x H1 => ty σ H1 fun y H2 => rNGet w x y H2 Q) : tNGet w td ty σ H Q := q
theorem w_nin (q : ty σ H fun y H1 => td σ H1 fun x H2 => rNIn w x y H2 fun b => Q (.bl b) H2) : tNIn w ty td σ H Q := q
theorem w_nnot (q : ty σ H fun y H1 => td σ H1 fun x H2 => rNIn w x y H2 fun b => Q (.bl (!b)) H2) : tNNot w ty td σ H Q := q
theorem w_nput (q : tv σ H fun v H1 => td σ H1 fun x H2 => ty σ H2 fun y H3 => rNPut w x y v H3 fun H4 => D.nx σ H4) : sNPut w td ty tv D σ H := q
theorem w_ndel (q : td σ H fun x H1 => ty σ H1 fun y H2 => rNDel w x y H2 fun _ H3 => D.nx σ H3) : sNDel w td ty D σ H := q
theorem w_npop (q : td σ H fun x H1 => (∃ a es, x = .ref a ∧ H1 a = some (DN w a es)) ∧ ty σ H1 fun y H2 => rNDel w x y H2 Q) : tNPop w td ty σ H Q := q
theorem w_nnew (hs : Hs B L H) (q : ∀ p H', Hs B ((p, DN w p []) :: L) H' → Q (.ref p) H') : tNNew w σ H Q := fun p hp => q p _ (hs.new hp)
theorem atN_of (h : H d = some (DN w d es)) (e : EntM H es M) (hk : NK H (lkK l) (.ref b)) : AtN w H (.ref d) (.ref b) d b es (lkK l) := ⟨rfl, rfl, h, e.ok, hk, lkK_depth l⟩
theorem wn_get (hs : Hs B L H) (h : H d = some (DN w d es)) (e : EntM B es M) (hk : NK B (lkK l) (.ref b)) (hv : valM M l = some n) (q : Q (.int n) H) : rNGet w (.ref d) (.ref b) H Q :=
  ⟨d, b, es, lkK l, .int n, atN_of h (e.same hs.same) (hk.same hs.same), by rw [e.at l, hv]; rfl, q⟩
theorem wn_in {R : Bool → Prop} (hs : Hs B L H) (h : H d = some (DN w d es)) (e : EntM B es M) (hk : NK B (lkK l) (.ref b)) (q : R (valM M l).isSome) : rNIn w (.ref d) (.ref b) H R :=
  ⟨d, b, es, lkK l, atN_of h (e.same hs.same) (hk.same hs.same), by rw [e.at l, Option.isSome_map]; exact q⟩
theorem wn_put {R : Hp → Prop} (hs : Hs B L H) (h : Put L d (DN w d es) (DN w d (putN es (lkK l) b (.int n))) L') (e : EntM B es M) (hk : NK B (lkK l) (.ref b)) (hl : M.length ≤ 1000) (q : ∀ H', Hs B L' H' → EntM B (putN es (lkK l) b (.int n)) (putM M l n) → R H') : rNPut w (.ref d) (.ref b) (.int n) H R :=
  ⟨d, b, es, lkK l, atN_of (hs.gets h) (e.same hs.same) (hk.same hs.same), by rw [e.len, sizeLine_eq]; omega, q _ (hs.puts h) (e.put n hk)⟩
theorem wn_del {R : V → Hp → Prop} (hs : Hs B L H) (h : Put L d (DN w d es) (DN w d (dropN es (lkK l))) L') (e : EntM B es M) (hk : NK B (lkK l) (.ref b)) (hv : valM M l = some n) (q : ∀ H', Hs B L' H' → EntM B (dropN es (lkK l)) (dropM M [l]) → R (.int n) H') : rNDel w (.ref d) (.ref b) H R :=
  ⟨d, b, es, lkK l, .int n, atN_of (hs.gets h) (e.same hs.same) (hk.same hs.same), by rw [e.at l, hv]; rfl, q _ (hs.puts h) e.drop⟩
theorem w_sortD (hs : Hs B L H) (h : H d = some (DN w d es)) (e : EntM B es M) (q : ∀ p ys H', LkL B ys (srt (keysM M)) → Hs B ((p, .lst ys) :: L) H' → Q (.ref p) H') : rSortDN w (some 2) [some 2] [.ref d] H Q := by
  have eH := e.same hs.same
  refine ⟨d, es, itK H, rfl, h, fun z hz => ?_, fun ys p h1 h2 hp => ?_⟩
  · have key : ∀ {es : List Ent} {M : Mp}, EntM H es M → ∀ z ∈ es, ∃ l, NK H (lkK l) (.ref z.2.1) := by
      intro es M e
      induction e with
      | nil => exact fun _ hz => nomatch hz
      | cons h _ ih =>
        intro z hz
        rcases List.mem_cons.mp hz with rfl | hz
        · exact ⟨_, h.2.2⟩
        · exact ih z hz
    obtain ⟨l, hl⟩ := key eH z hz
    rw [itK_eq (ks := itL l) hl]
    exact ⟨hl, rfl⟩
  · obtain ⟨ms, p1, p2⟩ := paired_perm h2.perm e.lkl
    have e1 := srt_uniq p1 (srtd_links (LkL.same hs.same p2) h1)
    subst e1
    exact q p ys _ p2 (hs.new hp)
theorem w_ltT {K : PySem.W.Frag} {p q : Addr} {ns ms : List Int} (h1 : H p = some (.tup (ns.map V.int))) (h2 : H q = some (.tup (ms.map V.int))) (k : Q (.bl (lexI ns ms)) H) : rLtT K (.ref p) (.ref q) H Q := ⟨p, q, ns, ms, rfl, rfl, SqT.of h1, SqT.of h2, k⟩
end
def ntQ : HO → Bool
  | .tup _ => false
  | _ => true
/-- what stands aside of our own objects, none a tuple, is the ground: all tuples stand there -/
theorem Hs.ground {B H : Hp} {L : List (Addr × HO)} (hs : Hs B L H) (nt : L.all (fun e => ntQ e.2) = true) : ∃ B1, Same B B1 ∧ Hs B1 L H ∧ ∀ p xs, H p = some (.tup xs) → B1 p = some (.tup xs) := by
  obtain ⟨h1, h2⟩ := hs.rebase
  refine ⟨_, h1, h2, fun p xs e => ?_⟩
  rw [around_out fun m => ?_]
  · exact e
  · obtain ⟨z, hz, rfl⟩ := List.mem_map.mp m
    have h3 := List.all_eq_true.mp nt z hz
    rw [hs.at_ z hz] at e
    rw [Option.some.inj e] at h3
    cases h3
theorem r64 {k : Nat} {A : Around} (r : Room k A) : A.units + 64 < cLine := by
  have := r.un
  omega
theorem r65 {k : Nat} {A : Around} (r : Room k A) : A.units + 65 < cLine := by
  have := r.un
  omega
theorem r0 {k : Nat} {A : Around} (r : Room k A) : A.units < cLine := by
  have := r.un
  omega
abbrev endO (x : E2) : HO := .tup [.int x.1, .int x.2]
theorem shp_end (x : E2) : SeqAt.shaped (.tuple [.int x.1, .int x.2]) = true := by simp [SeqAt.shaped, PyData.canLay0, PyData.canLayAll0, PyData.depth, PyData.depthAll]
theorem dp_end {K : PySem.W.Frag} {H : Hp} {p : Addr} {x : E2} (h : H p = some (endO x)) : Dp K H (.ref p) (.tuple [.int x.1, .int x.2]) := .tup (SqT.of h) (ImAll.cons (.int _) (.cons (.int _) .nil)).dp
theorem w_eqE {K : PySem.W.Frag} {H : Hp} {Q : VK} {p q : Addr} {x y : E2} (h1 : H p = some (endO x)) (h2 : H q = some (endO y)) (k : Q (.bl (decide (x = y))) H) : rEqD K (.ref p) (.ref q) H Q :=
  w_eqD (dp_end h1) (dp_end h2) (shp_end x) (shp_end y) (by rw [eqv_end]; exact k)
/-! ### what holds of the links -/
structure IM (M : Mp) : Prop where
  nd : (keysM M).Nodup
  ok : ∀ l ∈ keysM M, l.1.1 ≠ l.2.1 ∧ lexI [l.1.1, l.1.2] [l.2.1, l.2.2] = true
  dj : ∀ x ∈ keysM M, ∀ y ∈ keysM M, ∀ e : E2, has e x = true → has e y = true → x = y
theorem keys_drop {M : Mp} {ls : List Lk} : keysM (dropM M ls) = (keysM M).filter fun l => decide (l ∉ ls) := by
  unfold keysM dropM
  rw [List.filter_map]
  rfl
theorem mem_keys_drop {M : Mp} {ls : List Lk} {l : Lk} : l ∈ keysM (dropM M ls) ↔ l ∈ keysM M ∧ l ∉ ls := by
  rw [keys_drop, List.mem_filter, decide_eq_true_eq]
theorem IM.nil : IM [] := ⟨List.nodup_nil, (fun _ h => nomatch h), (fun _ h => nomatch h)⟩
theorem IM.drop {M : Mp} (h : IM M) (ls : List Lk) : IM (dropM M ls) := by
  refine ⟨?_, fun l hl => h.ok l (mem_keys_drop.mp hl).1, fun x hx y hy => h.dj x (mem_keys_drop.mp hx).1 y (mem_keys_drop.mp hy).1⟩
  rw [keys_drop]
  exact h.nd.filter _
theorem val_some {M : Mp} {l : Lk} : (valM M l).isSome = true ↔ l ∈ keysM M := by
  unfold valM
  rw [Option.isSome_map, List.find?_isSome]
  constructor
  · rintro ⟨x, hx, e⟩
    exact List.mem_map.mpr ⟨x, hx, of_decide_eq_true e⟩
  · intro h
    obtain ⟨x, hx, e⟩ := List.mem_map.mp h
    exact ⟨x, hx, decide_eq_true e⟩
theorem val_of {M : Mp} {l : Lk} (h : l ∈ keysM M) : ∃ n, valM M l = some n := Option.isSome_iff_exists.mp (val_some.mpr h)
theorem mem_at {M : Mp} {e : E2} {l : Lk} : l ∈ atM M e ↔ l ∈ keysM M ∧ has e l = true := by
  unfold atM
  rw [List.mem_filter, mem_srt]
theorem at_nodup {M : Mp} (h : IM M) (e : E2) : (atM M e).Nodup := ((srt_perm _).nodup_iff.mpr h.nd).filter _
theorem at_one {M : Mp} (h : IM M) (e : E2) : atM M e = [] ∨ ∃ l, atM M e = [l] := by
  have nd := at_nodup h e
  match hm : atM M e with
  | [] => exact .inl rfl
  | [l] => exact .inr ⟨l, rfl⟩
  | x :: y :: r =>
    have hx : x ∈ atM M e := by rw [hm]; exact List.mem_cons_self
    have hy : y ∈ atM M e := by rw [hm]; exact List.mem_cons_of_mem _ List.mem_cons_self
    obtain ⟨x1, x2⟩ := mem_at.mp hx
    obtain ⟨y1, y2⟩ := mem_at.mp hy
    have := h.dj x x1 y y1 e x2 y2
    subst this
    rw [hm] at nd
    exact absurd List.mem_cons_self (List.nodup_cons.mp nd).1
theorem find_at {M : Mp} (e : E2) : (srt (keysM M)).find? (has e) = (atM M e).head? := by
  unfold atM
  rw [List.head?_filter]
theorem at_drop {M : Mp} {ls : List Lk} {e : E2} : atM (dropM M ls) e = (atM M e).filter fun l => decide (l ∉ ls) := by
  unfold atM
  rw [keys_drop, ← srt_filter, List.filter_filter, List.filter_filter]
  congr 1
  funext l
  exact Bool.and_comm _ _
theorem drop_drop {M : Mp} {a b : List Lk} : dropM (dropM M a) b = dropM M (a ++ b) := by
  unfold dropM
  rw [List.filter_filter]
  congr 1
  funext x
  by_cases h1 : x.1 ∈ a <;> by_cases h2 : x.1 ∈ b <;> simp [h1, h2]
theorem drop_nil {M : Mp} : dropM M [] = M := by
  unfold dropM
  rw [List.filter_eq_self]
  exact fun _ _ => decide_eq_true (fun z => nomatch z)
theorem drop_len {M : Mp} {ls : List Lk} : (dropM M ls).length ≤ M.length := List.length_filter_le _ _
/-- the law's list is the program's -/
theorem at_two {M : Mp} {one other : E2} : (atM M one ++ (atM M other).filter fun l => decide (l ∉ atM M one)) = atM M one ++ atM (dropM M (atM M one)) other := by rw [at_drop]
/-- the link of two ends -/
def mkL (x y : E2) : Lk := if lexI [x.1, x.2] [y.1, y.2] = true then (x, y) else (y, x)
theorem lexI_ne {x y : E2} (h : x.1 ≠ y.1) : lexI [x.1, x.2] [y.1, y.2] = decide (x.1 < y.1) := by rw [lexI_cons, if_neg h]
theorem mkL_ok {x y : E2} (h : x.1 ≠ y.1) : (mkL x y).1.1 ≠ (mkL x y).2.1 ∧ lexI [(mkL x y).1.1, (mkL x y).1.2] [(mkL x y).2.1, (mkL x y).2.2] = true := by
  unfold mkL
  by_cases hc : lexI [x.1, x.2] [y.1, y.2] = true
  · rw [if_pos hc]
    exact ⟨h, hc⟩
  · rw [if_neg hc]
    refine ⟨fun z => h z.symm, ?_⟩
    rw [lexI_ne h] at hc
    show lexI [y.1, y.2] [x.1, x.2] = true
    rw [lexI_ne (fun z => h z.symm)]
    have : ¬ x.1 < y.1 := fun z => hc (decide_eq_true z)
    exact decide_eq_true (by omega)
theorem mkL_comm {x y : E2} (h : x.1 ≠ y.1) : mkL x y = mkL y x := by
  unfold mkL
  rw [lexI_ne h, lexI_ne (fun z => h z.symm)]
  by_cases hc : x.1 < y.1
  · rw [if_pos (decide_eq_true hc), if_neg (by rw [decide_eq_true_eq]; omega)]
  · rw [if_neg (by rw [decide_eq_true_eq]; exact hc), if_pos (decide_eq_true (by omega))]
theorem mkL_of {l : Lk} (h : l.1.1 ≠ l.2.1 ∧ lexI [l.1.1, l.1.2] [l.2.1, l.2.2] = true) : mkL l.1 l.2 = l := by
  unfold mkL
  rw [if_pos h.2]
theorem has_mkL {x y e : E2} : has e (mkL x y) = true ↔ e = x ∨ e = y := by
  unfold has mkL
  split
  · rw [Bool.or_eq_true, decide_eq_true_eq, decide_eq_true_eq]
    exact ⟨fun z => z.elim (fun q => .inl q.symm) (fun q => .inr q.symm), fun z => z.elim (fun q => .inl q.symm) (fun q => .inr q.symm)⟩
  · rw [Bool.or_eq_true, decide_eq_true_eq, decide_eq_true_eq]
    exact ⟨fun z => z.elim (fun q => .inr q.symm) (fun q => .inl q.symm), fun z => z.elim (fun q => .inr q.symm) (fun q => .inl q.symm)⟩
theorem keys_put {M : Mp} {l : Lk} {n : Int} : keysM (putM M l n) = if l ∈ keysM M then keysM M else keysM M ++ [l] := by
  unfold putM
  by_cases hc : l ∈ keysM M
  · rw [if_pos (val_some.mpr hc), if_pos hc]
    unfold keysM
    rw [List.map_map]
    refine List.map_congr_left fun x _ => ?_
    show (if x.1 = l then (x.1, n) else x).1 = x.1
    split <;> rfl
  · rw [if_neg (fun z => hc (val_some.mp z)), if_neg hc]
    unfold keysM
    rw [List.map_append]
    rfl
theorem IM.put_old {M : Mp} (h : IM M) {l : Lk} (n : Int) (hl : l ∈ keysM M) : IM (putM M l n) := by
  have e : keysM (putM M l n) = keysM M := by rw [keys_put, if_pos hl]
  exact ⟨by rw [e]; exact h.nd, by rw [e]; exact h.ok, by rw [e]; exact h.dj⟩
/-- a link that is seen, whose ends' links are lost -/
theorem IM.put_new {M : Mp} (h : IM M) {x y : E2} (n : Int) (hxy : x.1 ≠ y.1) (hx : ∀ l ∈ keysM M, has x l = false) (hy : ∀ l ∈ keysM M, has y l = false) : IM (putM M (mkL x y) n) ∧ mkL x y ∉ keysM M := by
  have hn : mkL x y ∉ keysM M := fun z => by
    have h1 : has x (mkL x y) = true := has_mkL.mpr (.inl rfl)
    rw [hx _ z] at h1
    cases h1
  have e : keysM (putM M (mkL x y) n) = keysM M ++ [mkL x y] := by rw [keys_put, if_neg hn]
  have no : ∀ e : E2, has e (mkL x y) = true → ∀ l ∈ keysM M, has e l = false := fun e he l hl => by
    rcases has_mkL.mp he with rfl | rfl
    · exact hx l hl
    · exact hy l hl
  refine ⟨⟨?_, fun l hl => ?_, fun u hu v hv e2 h1 h2 => ?_⟩, hn⟩
  · rw [e, List.nodup_append]
    refine ⟨h.nd, List.pairwise_singleton _ _, fun a ha b hb z => ?_⟩
    rw [List.mem_singleton.mp hb] at z
    subst z
    exact hn ha
  · rw [e] at hl
    rcases List.mem_append.mp hl with m | m
    · exact h.ok l m
    · rw [List.mem_singleton.mp m]
      exact mkL_ok hxy
  · rw [e] at hu hv
    rcases List.mem_append.mp hu with m | m <;> rcases List.mem_append.mp hv with m' | m'
    · exact h.dj u m v m' e2 h1 h2
    · rw [List.mem_singleton.mp m'] at h2 ⊢
      rw [no e2 h2 u m] at h1
      cases h1
    · rw [List.mem_singleton.mp m] at h1 ⊢
      rw [no e2 h1 v m'] at h2
      cases h2
    · rw [List.mem_singleton.mp m, List.mem_singleton.mp m']
theorem at_none {M : Mp} {ls : List Lk} {e : E2} (h : ∀ l ∈ atM M e, l ∈ ls) : ∀ l ∈ keysM (dropM M ls), has e l = false := fun l hl => by
  obtain ⟨h1, h2⟩ := mem_keys_drop.mp hl
  cases q : has e l with
  | false => rfl
  | true => exact absurd (h l (mem_at.mpr ⟨h1, q⟩)) h2
theorem put_len {M : Mp} {l : Lk} {n : Int} : (putM M l n).length ≤ M.length + 1 := by
  unfold putM
  split
  · rw [List.length_map]
    omega
  · rw [List.length_append]
    exact Nat.le_refl _
theorem srt_len {ls : List Lk} : (srt ls).length = ls.length := (srt_perm ls).length_eq
theorem keys_len {M : Mp} : (keysM M).length = M.length := List.length_map _
theorem at_len {M : Mp} {e : E2} : (atM M e).length ≤ M.length := by
  unfold atM
  refine Nat.le_trans (List.length_filter_le _ _) ?_
  rw [srt_len, keys_len]
  exact Nat.le_refl _
/-! ### lists of links, by a test -/
theorem take_filter {α : Type} {ls : List α} {i : Nat} {l : α} {p : α → Bool} (e : ls[i]? = some l) : (ls.take (i + 1)).filter p = (ls.take i).filter p ++ (if p l = true then [l] else []) := by
  rw [List.take_add_one, e, List.filter_append]
  congr 1
  show [l].filter p = _
  rw [List.filter_cons]
  split <;> rfl
theorem w_lcF {K : PySem.W.Frag} {σ : St} {H B : Hp} {Q : VK} {tl : TE} {a : Addr} {tt : TT} {us : List V} {ls : List Lk} {i : Nat} (p : Lk → Bool) (hx : SqL K H a us) (hL : LkL B us ls) (hz : us.length ≤ 1000) (htl : ∀ Q : VK, Q (.ref a) H → tl σ H Q)
    (hw : ∀ x, wipe ((wipe σ [i]).set i (some x)) [i] = wipe σ [i]) (hv : ∀ x, ((wipe σ [i]).set i (some x))[i]? = some (some x))
    (ht : ∀ t l H1, l ∈ ls → NK B (lkK l) (.ref t) → Same H H1 → ∀ R : Bool → Hp → Prop, (∀ H2, Same H1 H2 → R (p l) H2) → tt ((wipe σ [i]).set i (some (.ref t))) H1 R)
    (hq : ∀ D acc H', Hs H [(D, .lst acc)] H' → LkL B acc (ls.filter p) → Q (.ref D) H') : tLc (iList K tl) (gName i) tt (tVar i) [i] σ H Q := by
  refine w_lc hx (fun D j H' => ∃ acc, Hs H [(D, .lst acc)] H' ∧ LkL B acc ((ls.take j).filter p)) htl (fun D hD => ⟨[], (Hs.start H).new hD, .nil⟩) (fun D j H' _ ⟨_, h, _⟩ => h.same.seq hx) ?_ ?_
  · rintro D j x H' hj ⟨acc, h1, h2⟩
    obtain ⟨t, l, rfl, hl, hk⟩ := LkL.get hL hj
    refine ⟨hw _, ht t l H' (List.mem_of_getElem? hl) hk h1.same _ fun H2 sb => ?_⟩
    have hlen := LkL.len h2
    have hj2 := (List.getElem?_eq_some_iff.mp hl).1
    have hll := LkL.len hL
    have h3 : Hs H [(D, .lst acc)] H2 := ⟨h1.same.trans sb, h1.nd, h1.out, fun e he => sb _ _ (h1.at_ e he)⟩
    have e1 := take_filter (p := p) hl
    by_cases hp : p l = true
    · rw [if_pos hp]
      rw [if_pos hp] at e1
      refine ⟨_, hv _, acc, h3.g0, ?_, acc ++ [.ref t], h3.p0 _, ?_⟩
      · refine szl ?_
        have := List.length_filter_le p (ls.take j)
        rw [List.length_take] at this
        omega
      · rw [e1]
        exact h2.snoc hk
    · rw [if_neg hp]
      rw [if_neg hp, List.append_nil] at e1
      refine ⟨acc, h3, ?_⟩
      rw [e1]
      exact h2
  · rintro D H' ⟨acc, h1, h2⟩
    rw [LkL.len hL, List.take_length] at h2
    exact hq D acc H' h1 h2
/-- what is walked first, then the walk -/
theorem w_lcS {K : PySem.W.Frag} {σ : St} {H : Hp} {Q : VK} {tl : TE} {g : TG} {tt : TT} {te : TE} {vs : List Nat} (q : tl σ H fun v H1 => tLc (iList K (tC v)) g tt te vs σ H1 Q) : tLc (iList K tl) g tt te vs σ H Q := q
theorem w_forS {K : PySem.W.Frag} {σ : St} {H : Hp} {D : Ends} {tl : TE} {g : TG} {tb : TS} (q : tl σ H fun v H1 => tFor (iList K (tC v)) g tb D σ H1) : tFor (iList K tl) g tb D σ H := q
theorem w_isL {K : PySem.W.Frag} {H : Hp} {Q : VK} {p : Addr} {xs : List V} (h : H p = some (.lst xs)) (k : Q (.bl true) H) : rIsi K [.ref p, .ty "list"] H Q :=
  ⟨_, _, _, _, true, rfl, .ty "list", .base (.lst h), kit_ty (by decide +kernel), k⟩
end Hb

set_option Elab.async false
set_option maxRecDepth 100000
set_option maxHeartbeats 4000000
namespace K10
open PySem L2 Hb
def top (i : Nat) : Stmt := PySem.Challenge.pw_hangbridge_k10_links_that_were_seen.main.body.getD i (.Pass ⟨0, 0, 0, 0⟩)
abbrev s_link_of : Stmt := (top 1)
abbrev s_peer : Stmt := (top 2)
abbrev s_Seen_init : Stmt := (inClass (top 4) 0)
abbrev s_Seen_links : Stmt := (inClass (top 4) 1)
abbrev s_Seen_lose : Stmt := (inClass (top 4) 3)
abbrev s_Seen_see : Stmt := (inClass (top 4) 2)
abbrev s_Seen_old : Stmt := (inClass (top 4) 4)
abbrev s__law_state : Stmt := (top 6)
abbrev s__law_draw : Stmt := (top 7)
abbrev s__law_at : Stmt := (top 9)
abbrev s_law : Stmt := (top 10)
abbrev N_link_of : List Str := ["one", "other"]
theorem sc_link_of : FnScope N_link_of ["one", "other"] (defScope s_link_of) := ⟨rfl, rfl, rfl, by decide +kernel, rfl, by decide +kernel, by decide +kernel⟩
abbrev N_peer : List Str := ["links", "end", "one", "other"]
theorem sc_peer : FnScope N_peer ["links", "end"] (defScope s_peer) := ⟨rfl, rfl, rfl, by decide +kernel, rfl, by decide +kernel, by decide +kernel⟩
abbrev N_Seen_init : List Str := ["self"]
theorem sc_Seen_init : FnScope N_Seen_init ["self"] (defScope s_Seen_init) := ⟨rfl, rfl, rfl, by decide +kernel, rfl, by decide +kernel, by decide +kernel⟩
abbrev N_Seen_links : List Str := ["self"]
theorem sc_Seen_links : FnScope N_Seen_links ["self"] (defScope s_Seen_links) := ⟨rfl, rfl, rfl, by decide +kernel, rfl, by decide +kernel, by decide +kernel⟩
abbrev N_Seen_lose : List Str := ["self", "end", "other", "link"]
theorem sc_Seen_lose : FnScope N_Seen_lose ["self", "end"] (defScope s_Seen_lose) := ⟨rfl, rfl, rfl, by decide +kernel, rfl, by decide +kernel, by decide +kernel⟩
abbrev N_Seen_see : List Str := ["self", "end", "other", "now", "link", "lost"]
theorem sc_Seen_see : FnScope N_Seen_see ["self", "end", "other", "now"] (defScope s_Seen_see) := ⟨rfl, rfl, rfl, by decide +kernel, rfl, by decide +kernel, by decide +kernel⟩
abbrev N_Seen_old : List Str := ["self", "now", "age", "links", "link"]
theorem sc_Seen_old : FnScope N_Seen_old ["self", "now", "age"] (defScope s_Seen_old) := ⟨rfl, rfl, rfl, by decide +kernel, rfl, by decide +kernel, by decide +kernel⟩
abbrev N__law_state : List Str := ["script", "seed", "cell"]
theorem sc__law_state : FnScope N__law_state ["script"] (defScope s__law_state) := ⟨rfl, rfl, rfl, by decide +kernel, rfl, by decide +kernel, by decide +kernel⟩
abbrev N__law_draw : List Str := ["state", "many", "cells", "value", "mixed"]
theorem sc__law_draw : FnScope N__law_draw ["state", "many"] (defScope s__law_draw) := ⟨rfl, rfl, rfl, by decide +kernel, rfl, by decide +kernel, by decide +kernel⟩
abbrev N__law_at : List Str := ["known", "end", "link"]
theorem sc__law_at : FnScope N__law_at ["known", "end"] (defScope s__law_at) := ⟨rfl, rfl, rfl, by decide +kernel, rfl, by decide +kernel, by decide +kernel⟩
abbrev N_law : List Str := ["script", "state", "seen", "known", "now", "k", "one", "other", "kind", "link", "due", "each", "told", "age"]
theorem sc_law : FnScope N_law ["script"] (defScope s_law) := ⟨rfl, rfl, rfl, by decide +kernel, rfl, by decide +kernel, by decide +kernel⟩
structure Ad where
  Seen : Addr
  link_of : Addr
  fd_link_of : FuncData
  peer : Addr
  fd_peer : FuncData
  Seen_init : Addr
  fd_Seen_init : FuncData
  Seen_links : Addr
  fd_Seen_links : FuncData
  Seen_lose : Addr
  fd_Seen_lose : FuncData
  Seen_see : Addr
  fd_Seen_see : FuncData
  Seen_old : Addr
  fd_Seen_old : FuncData
  _law_state : Addr
  fd__law_state : FuncData
  _law_draw : Addr
  fd__law_draw : FuncData
  _law_at : Addr
  fd__law_at : FuncData
  law : Addr
  fd_law : FuncData
structure Txt (K : PySem.W.Frag) (mg : Str → Option Value) (a : Ad) : Prop where
  cl_Seen : Cls K a.Seen
  mg_Seen : mg "Seen" = some (.ref a.Seen)
  na_Seen__ticks : NoAttr K a.Seen "_ticks"
  fn_link_of : Fun K "link_of" "link_of" s_link_of a.link_of a.fd_link_of
  bi_link_of : Binds K a.fd_link_of ["one", "other"] []
  mg_link_of : mg "link_of" = some (.ref a.link_of)
  kp_link_of : PySem.W.keepIn K (.ref a.link_of) = true
  fn_peer : Fun K "peer" "peer" s_peer a.peer a.fd_peer
  bi_peer : Binds K a.fd_peer ["links", "end"] []
  mg_peer : mg "peer" = some (.ref a.peer)
  kp_peer : PySem.W.keepIn K (.ref a.peer) = true
  fn_Seen_init : Fun K "__init__" "Seen.__init__" s_Seen_init a.Seen_init a.fd_Seen_init
  bi_Seen_init : Binds K a.fd_Seen_init ["self"] []
  mk_Seen : Mk K a.Seen a.Seen_init
  fn_Seen_links : Fun K "links" "Seen.links" s_Seen_links a.Seen_links a.fd_Seen_links
  bi_Seen_links : Binds K a.fd_Seen_links ["self"] []
  me_Seen_links : Meth K a.Seen "links" a.Seen_links
  fn_Seen_lose : Fun K "lose" "Seen.lose" s_Seen_lose a.Seen_lose a.fd_Seen_lose
  bi_Seen_lose : Binds K a.fd_Seen_lose ["self", "end"] []
  me_Seen_lose : Meth K a.Seen "lose" a.Seen_lose
  fn_Seen_see : Fun K "see" "Seen.see" s_Seen_see a.Seen_see a.fd_Seen_see
  bi_Seen_see : Binds K a.fd_Seen_see ["self", "end", "other", "now"] []
  me_Seen_see : Meth K a.Seen "see" a.Seen_see
  fn_Seen_old : Fun K "old" "Seen.old" s_Seen_old a.Seen_old a.fd_Seen_old
  bi_Seen_old : Binds K a.fd_Seen_old ["self", "now", "age"] []
  me_Seen_old : Meth K a.Seen "old" a.Seen_old
  fn__law_state : Fun K "_law_state" "_law_state" s__law_state a._law_state a.fd__law_state
  bi__law_state : Binds K a.fd__law_state ["script"] []
  mg__law_state : mg "_law_state" = some (.ref a._law_state)
  kp__law_state : PySem.W.keepIn K (.ref a._law_state) = true
  fn__law_draw : Fun K "_law_draw" "_law_draw" s__law_draw a._law_draw a.fd__law_draw
  bi__law_draw : Binds K a.fd__law_draw ["state", "many"] []
  mg__law_draw : mg "_law_draw" = some (.ref a._law_draw)
  kp__law_draw : PySem.W.keepIn K (.ref a._law_draw) = true
  fn__law_at : Fun K "_law_at" "_law_at" s__law_at a._law_at a.fd__law_at
  bi__law_at : Binds K a.fd__law_at ["known", "end"] []
  mg__law_at : mg "_law_at" = some (.ref a._law_at)
  kp__law_at : PySem.W.keepIn K (.ref a._law_at) = true
  fn_law : Fun K "law" "law" s_law a.law a.fd_law
  bi_law : Binds K a.fd_law ["script"] []
  mg_law : mg "law" = some (.ref a.law)
  kp_law : PySem.W.keepIn K (.ref a.law) = true
  mg_sorted : mg "sorted" = none
  mg_abs : mg "abs" = none
  mg_int : mg "int" = none
  mg_len : mg "len" = none
  mg_range : mg "range" = none
  mg_isinstance : mg "isinstance" = none
  mg_list : mg "list" = none
  mg_max : mg "max" = none
  mg_min : mg "min" = none
local macro_rules | `(tactic| walk_at "g") => `(tactic| first | assumption | exact Hs.g0 (by assumption) | exact Hs.g1 (by assumption) | exact Hs.g2 (by assumption) | exact Hs.g3 (by assumption) | exact Hs.g4 (by assumption) | exact Hs.g5 (by assumption) | exact Hs.g6 (by assumption) | exact Hs.g7 (by assumption) | exact Hs.g8 (by assumption) | exact Hs.g9 (by assumption) | exact Hs.g10 (by assumption) | exact Hs.g11 (by assumption) | exact Hs.g12 (by assumption) | exact Hs.g13 (by assumption) | exact Hs.g14 (by assumption) | exact Hs.g15 (by assumption) | exact Hs.old (by assumption) (by assumption))
local macro_rules | `(tactic| walk_at "l") => `(tactic| first | assumption | exact SqL.of (by walk_at "g") | exact Hs.sql (by assumption) (by assumption))
local macro_rules | `(tactic| walk_at "p") => `(tactic| first | exact .here | exact .there .here | exact .there (.there .here) | exact .there (.there (.there .here)) | exact .there (.there (.there (.there .here))) | exact .there (.there (.there (.there (.there .here)))) | exact .there (.there (.there (.there (.there (.there .here))))) | exact .there (.there (.there (.there (.there (.there (.there .here)))))) | exact .there (.there (.there (.there (.there (.there (.there (.there .here))))))) | exact .there (.there (.there (.there (.there (.there (.there (.there (.there .here)))))))) | exact .there (.there (.there (.there (.there (.there (.there (.there (.there (.there .here))))))))) | exact .there (.there (.there (.there (.there (.there (.there (.there (.there (.there (.there .here)))))))))) | exact .there (.there (.there (.there (.there (.there (.there (.there (.there (.there (.there (.there .here))))))))))) | exact .there (.there (.there (.there (.there (.there (.there (.there (.there (.there (.there (.there (.there .here)))))))))))))
local macro_rules | `(tactic| walk_at "f") => `(tactic| first | exact lk0 | exact lk1 (by decide +kernel) lk0 | exact lk1 (by decide +kernel) (lk1 (by decide +kernel) lk0) | exact lk1 (by decide +kernel) (lk1 (by decide +kernel) (lk1 (by decide +kernel) lk0)) | exact lk1 (by decide +kernel) (lk1 (by decide +kernel) (lk1 (by decide +kernel) (lk1 (by decide +kernel) lk0))) | exact lk1 (by decide +kernel) (lk1 (by decide +kernel) (lk1 (by decide +kernel) (lk1 (by decide +kernel) (lk1 (by decide +kernel) lk0)))) | exact lk1 (by decide +kernel) (lk1 (by decide +kernel) (lk1 (by decide +kernel) (lk1 (by decide +kernel) (lk1 (by decide +kernel) (lk1 (by decide +kernel) lk0))))) | exact lk1 (by decide +kernel) (lk1 (by decide +kernel) (lk1 (by decide +kernel) (lk1 (by decide +kernel) (lk1 (by decide +kernel) (lk1 (by decide +kernel) (lk1 (by decide +kernel) lk0)))))) | exact lk1 (by decide +kernel) (lk1 (by decide +kernel) (lk1 (by decide +kernel) (lk1 (by decide +kernel) (lk1 (by decide +kernel) (lk1 (by decide +kernel) (lk1 (by decide +kernel) (lk1 (by decide +kernel) lk0))))))))
local macro_rules | `(tactic| walk_at "fn") => `(tactic| first | exact lke | exact lkn (by decide +kernel) lke | exact lkn (by decide +kernel) (lkn (by decide +kernel) lke) | exact lkn (by decide +kernel) (lkn (by decide +kernel) (lkn (by decide +kernel) lke)) | exact lkn (by decide +kernel) (lkn (by decide +kernel) (lkn (by decide +kernel) (lkn (by decide +kernel) lke))) | exact lkn (by decide +kernel) (lkn (by decide +kernel) (lkn (by decide +kernel) (lkn (by decide +kernel) (lkn (by decide +kernel) lke)))) | exact lkn (by decide +kernel) (lkn (by decide +kernel) (lkn (by decide +kernel) (lkn (by decide +kernel) (lkn (by decide +kernel) (lkn (by decide +kernel) lke))))) | exact lkn (by decide +kernel) (lkn (by decide +kernel) (lkn (by decide +kernel) (lkn (by decide +kernel) (lkn (by decide +kernel) (lkn (by decide +kernel) (lkn (by decide +kernel) lke)))))) | exact lkn (by decide +kernel) (lkn (by decide +kernel) (lkn (by decide +kernel) (lkn (by decide +kernel) (lkn (by decide +kernel) (lkn (by decide +kernel) (lkn (by decide +kernel) (lkn (by decide +kernel) lke))))))))
local macro_rules | `(tactic| walk_at "fp") => `(tactic| first | exact pue | exact pu0 | exact pu2 (by decide +kernel) pue | exact pu2 (by decide +kernel) pu0 | exact pu2 (by decide +kernel) (pu2 (by decide +kernel) pue) | exact pu2 (by decide +kernel) (pu2 (by decide +kernel) pu0) | exact pu2 (by decide +kernel) (pu2 (by decide +kernel) (pu2 (by decide +kernel) pue)) | exact pu2 (by decide +kernel) (pu2 (by decide +kernel) (pu2 (by decide +kernel) pu0)) | exact pu2 (by decide +kernel) (pu2 (by decide +kernel) (pu2 (by decide +kernel) (pu2 (by decide +kernel) pue))) | exact pu2 (by decide +kernel) (pu2 (by decide +kernel) (pu2 (by decide +kernel) (pu2 (by decide +kernel) pu0))) | exact pu2 (by decide +kernel) (pu2 (by decide +kernel) (pu2 (by decide +kernel) (pu2 (by decide +kernel) (pu2 (by decide +kernel) pue)))) | exact pu2 (by decide +kernel) (pu2 (by decide +kernel) (pu2 (by decide +kernel) (pu2 (by decide +kernel) (pu2 (by decide +kernel) pu0)))) | exact pu2 (by decide +kernel) (pu2 (by decide +kernel) (pu2 (by decide +kernel) (pu2 (by decide +kernel) (pu2 (by decide +kernel) (pu2 (by decide +kernel) pue))))) | exact pu2 (by decide +kernel) (pu2 (by decide +kernel) (pu2 (by decide +kernel) (pu2 (by decide +kernel) (pu2 (by decide +kernel) (pu2 (by decide +kernel) pu0))))) | exact pu2 (by decide +kernel) (pu2 (by decide +kernel) (pu2 (by decide +kernel) (pu2 (by decide +kernel) (pu2 (by decide +kernel) (pu2 (by decide +kernel) (pu2 (by decide +kernel) pue)))))) | exact pu2 (by decide +kernel) (pu2 (by decide +kernel) (pu2 (by decide +kernel) (pu2 (by decide +kernel) (pu2 (by decide +kernel) (pu2 (by decide +kernel) (pu2 (by decide +kernel) pu0)))))))
local macro_rules | `(tactic| walk_at "c") => `(tactic| first | assumption | omega | (dsimp only; omega) | (unfold CMul; omega))
local macro_rules | `(tactic| walk_at "z") => `(tactic| first | assumption | (refine sz ?_; first | decide | omega | (simp only [List.length_map, List.length_append] <;> omega) | (simp only [List.length_cons, List.length_nil, List.length_map, List.length_append] <;> omega)) | (refine szl ?_; first | decide | omega | (simp only [List.length_map, List.length_append] <;> omega) | (simp only [List.length_cons, List.length_nil, List.length_map, List.length_append] <;> omega)))
local macro_rules | `(tactic| walk_at "s") => `(tactic| first
  | with_reducible refine w_seq ?_
  | ((with_reducible refine' w_var ?h ?_); case h => exact rfl)
  | with_reducible refine w_c ?_
  | with_reducible refine w_name ?_
  | with_reducible refine w_asg ?_
  | with_reducible refine w_op ?_
  | with_reducible refine w_I0 ?_
  | with_reducible refine w_exb ?_
  | with_reducible refine w_if ?_
  | with_reducible refine w_test ?_
  | with_reducible refine w_fld ?_
  | ((with_reducible refine' w_fl ?h ?hc ?hn ?hl ?_); (case h => walk_at "g"); (case hc => assumption); (case hn => assumption); (case hl => walk_at "f"))
  | with_reducible refine w_nil ?_
  | with_reducible refine w_cons ?_
  | with_reducible refine w_cb ?_
  | with_reducible refine w_call ?_
  | with_reducible refine w_meth ?_
  | with_reducible refine w_make ?_
  | ((with_reducible refine' w_rc ?h ?hl ?_); (case h => walk_at "g"); (case hl => walk_at "fn"))
  | with_reducible refine w_drop ?_
  | with_reducible refine w_ret ?_
  | with_reducible refine w_retN ?_
  | with_reducible refine w_next ?_
  | with_reducible refine w_brk ?_
  | with_reducible refine w_cont ?_
  | with_reducible refine w_eqI ?_
  | with_reducible refine w_neI ?_
  | with_reducible refine w_neB ?_
  | with_reducible refine w_isi ?_
  | ((with_reducible refine' w_len ?h ?_); case h => walk_at "l")
  | ((with_reducible refine' w_ixL ?h ?a ?_); (case h => walk_at "l"); (case a => first | exact at0 | exact at1 | exact at2 | exact at3 | assumption))
  | with_reducible refine w_bm ?_
  | with_reducible refine w_bm0 ?_
  | ((with_reducible refine' w_tyL ?h ?_); case h => walk_at "l")
  | with_reducible refine w_B ?_
  | with_reducible refine w_not ?_
  | with_reducible refine w_and ?_
  | with_reducible refine w_or ?_
  | with_reducible refine w_andV ?_
  | with_reducible refine w_orV ?_
  | with_reducible refine w_notV ?_
  | with_reducible refine w_ifE ?_
  | with_reducible refine w_chain ?_
  | with_reducible refine w_un ?_
  | with_reducible refine w_U ?_
  | with_reducible refine w_int ?_
  | with_reducible refine w_abs ?_
  | with_reducible refine w_tup ?_
  | with_reducible refine w_lst ?_
  | with_reducible refine w_sl ?_
  | with_reducible refine w_noPart ?_
  | with_reducible refine w_part ?_
  | with_reducible refine w_exi ?_
  | ((with_reducible refine' w_newL ?hs ?hl ?_); (case hs => assumption); (case hl => walk_at "z"); intro _ _ _)
  | ((with_reducible refine' w_newT ?hs ?hl ?_); (case hs => assumption); (case hl => walk_at "z"); intro _ _ _)
  | ((with_reducible refine' w_slL ?hs ?h ?_); (case hs => assumption); (case h => walk_at "l"); intro _ _ _)
  | ((with_reducible refine' w_cat ?hs ?ha ?hb ?hl ?_); (case hs => assumption); (case ha => walk_at "g"); (case hb => walk_at "g"); (case hl => walk_at "z"); intro _ _ _)
  | ((with_reducible refine' w_app ?hs ?h ?hl ?_); (case hs => assumption); (case h => walk_at "p"); (case hl => walk_at "z"); intro _ _)
  | ((with_reducible refine' w_clear ?hs ?h ?_); (case hs => assumption); (case h => walk_at "p"); intro _ _)
  | with_reducible refine w_sfld ?_
  | ((with_reducible refine' w_fsP ?hs ?h ?hc ?hn ?hl ?hg ?_); (case hs => assumption); (case h => walk_at "p"); (case hc => assumption); (case hn => assumption); (case hl => exact Nat.lt_of_lt_of_le (by simp only [List.length_cons, List.length_nil]; omega) (Nat.le_refl 1000)); (case hg => walk_at "fp"); intro _ _)
  | with_reducible refine w_lpb ?_
  | with_reducible refine w_yes ?_
  | with_reducible refine w_sub ?_
  | with_reducible refine w_delL0 ?_
  | ((with_reducible refine' w_I ?h ?_); case h => walk_at "c"))
local macro_rules | `(tactic| walk_at "ss") => `(tactic| repeat walk_at "s")

local macro_rules | `(tactic| walk_at "t") => `(tactic| first | assumption | exact SqT.of (by walk_at "g"))
local macro_rules | `(tactic| walk_at "s") => `(tactic| first
  | with_reducible refine iteT ?_
  | with_reducible refine iteF ?_
  | with_reducible refine w_din ?_
  | with_reducible refine w_dni ?_
  | ((with_reducible refine' w_dinI ?h ?_); case h => walk_at "g")
  | ((with_reducible refine' w_dniI ?h ?_); case h => walk_at "g")
  | with_reducible refine w_dput ?_
  | ((with_reducible refine' w_dputI ?hs ?h ?hl ?_); (case hs => assumption); (case h => walk_at "p"); (case hl => walk_at "z"); intro _ _)
  | with_reducible refine w_dpop ?_
  | ((with_reducible refine' w_dpopA ?h ?_); case h => walk_at "g")
  | with_reducible refine w_dnew ?_
  | ((with_reducible refine' w_newD ?hs ?_); (case hs => assumption); intro _ _ _)
  | with_reducible refine w_faug ?_
  | ((with_reducible refine' w_fa1 ?h ?hc ?hn ?hl ?_); (case h => walk_at "g"); (case hc => assumption); (case hn => assumption); (case hl => walk_at "f"))
  | ((with_reducible refine' w_fa2 ?hs ?h ?hl ?hg ?_); (case hs => assumption); (case h => walk_at "p"); (case hl => exact Nat.lt_of_lt_of_le (by simp only [List.length_cons, List.length_nil]; omega) (Nat.le_refl 1000)); (case hg => walk_at "fp"); intro _ _)
  | with_reducible refine w_rAdd ?_
  | with_reducible refine w_rSub ?_
  | with_reducible refine w_max ?_
  | with_reducible refine w_min ?_
  | with_reducible refine w_eqB ?_
  | with_reducible refine w_methQ ?_
  | with_reducible refine w_xf0 ?_
  | ((with_reducible refine' w_xf ?h ?hl ?_); (case h => walk_at "g"); (case hl => walk_at "f"))
  | with_reducible refine w_eqSt ?_
  | with_reducible refine w_isN ?_
  | with_reducible refine w_notN ?_
  | ((with_reducible refine' w_gtup ?h ?hl ?_); (case h => walk_at "t"); (case hl => rfl))
  | with_reducible refine w_gnil ?_
  | with_reducible refine w_gcons ?_
  | with_reducible refine w_par3 ?_
  | with_reducible refine w_ex3 ?_
  | with_reducible refine w_par2 ?_
  | with_reducible refine w_ex2 ?_
  | ((with_reducible refine' w_ixT ?h ?a ?_); (case h => walk_at "t"); (case a => first | exact at0 | exact at1 | exact at2 | exact at3 | assumption))
  | ((with_reducible refine' w_lenT ?h ?_); case h => walk_at "t")
  | ((with_reducible refine' w_set0 ?hs ?h ?_); (case hs => assumption); (case h => walk_at "p"); intro _ _)
  | ((with_reducible refine' w_set1 ?hs ?h ?_); (case hs => assumption); (case h => walk_at "p"); intro _ _)
  | ((with_reducible refine' w_set2 ?hs ?h ?_); (case hs => assumption); (case h => walk_at "p"); intro _ _)
  | ((with_reducible refine' w_set3 ?hs ?h ?_); (case hs => assumption); (case h => walk_at "p"); intro _ _)
  | ((with_reducible refine' w_set4 ?hs ?h ?_); (case hs => assumption); (case h => walk_at "p"); intro _ _)
  | with_reducible refine w_vei ?_
  | with_reducible refine w_ost0 ?_
  | with_reducible refine w_mko ?_
  | with_reducible refine w_raise ?_
  | with_reducible refine w_js ?_
  | with_reducible refine w_js0 ?_
  | with_reducible refine w_fmt ?_)

local macro_rules | `(tactic| walk_at "s") => `(tactic| first
  | with_reducible refine w_nget ?_
  | with_reducible refine w_nin ?_
  | with_reducible refine w_nnot ?_
  | with_reducible refine w_nput ?_
  | with_reducible refine w_ndel ?_
  | with_reducible refine w_npop ?_
  | ((with_reducible refine' w_nnew ?hs ?_); (case hs => assumption); intro _ _ _))

section
variable {P : Program} {w : World} {K : PySem.W.Frag} {mg : Str → Option Value} {base : Heap} {a : Ad}
abbrev seenL (w : World) (a : Ad) (s ds d : Addr) (es : List Ent) : List (Addr × HO) := [(s, .ins a.Seen ds [("_ticks", .ref d)]), (d, DN w d es)]
def sp_link_of : Sp := fun vs H Q _ => ∃ (p q : Addr) (x y : E2), vs = [.ref p, .ref q] ∧ H p = some (endO x) ∧ H q = some (endO y) ∧
  ∀ t u v H', Hs H [(t, .tup [.ref u, .ref v])] H' → H u = some (endO (mkL x y).1) → H v = some (endO (mkL x y).2) → Q (.ref t) H'
def sp_peer : Sp := fun vs H Q _ => ∃ (B : Hp) (r e : Addr) (us : List V) (ls : List Lk) (x : E2), vs = [.ref r, .ref e] ∧ Hs B [(r, .lst us)] H ∧ LkL B us ls ∧ ls.length ≤ 1000 ∧ B e = some (endO x) ∧
  (ls.find? (has x) = none → ∀ H', Hs B [(r, .lst us)] H' → Q .non H') ∧ (∀ l, ls.find? (has x) = some l → ∀ q H', Hs B [(r, .lst us)] H' → B q = some (endO (if l.1 = x then l.2 else l.1)) → Q (.ref q) H')
def sp_Seen_init (w : World) (a : Ad) : Sp := fun vs H Q _ => ∃ (B : Hp) (s ds : Addr), vs = [.ref s] ∧ Hs B [(s, .ins a.Seen ds [])] H ∧ ∀ d H', Hs B (seenL w a s ds d []) H' → Q .non H'
def sp_Seen_links (w : World) (a : Ad) : Sp := fun vs H Q _ => ∃ (B : Hp) (s ds d : Addr) (es : List Ent) (M : Mp), vs = [.ref s] ∧ Hs B (seenL w a s ds d es) H ∧ EntM B es M ∧ ∀ r ys H', LkL B ys (srt (keysM M)) → Hs B ((r, .lst ys) :: seenL w a s ds d es) H' → Q (.ref r) H'
theorem ok_link_of (T : Txt K mg a) : FnOk P w K mg base CX0 1 a.link_of a.fd_link_of ["one", "other"] sp_link_of := by
  refine T.fn_link_of.ok sc_link_of (fun vs H Q E h => ?_) (fun cdv A outer s H vs Q E hr h => ?_)
  · obtain ⟨_, _, _, _, rfl, _⟩ := h
    rfl
  · obtain ⟨p, q, x, y, rfl, hp, hq, k⟩ := h
    have hs := Hs.start H
    refine ⟨_, (pss_one (ps_ret (pe_ifExp (pt_cmpR (op_ltT (r0 hr)) (pv 0) (pv 1) (nomark _)) (pe_tup (pa_cons (pv 0) (pa_cons (pv 1) pa_nil))) (pe_tup (pa_cons (pv 1) (pa_cons (pv 0) pa_nil)))))), ?_⟩
    walk_at "ss"
    refine w_ltT (ns := [x.1, x.2]) (ms := [y.1, y.2]) hp hq ?_
    cases hc : lexI [x.1, x.2] [y.1, y.2] with
    | true =>
      have e : mkL x y = (x, y) := if_pos hc
      refine ⟨true, rfl, iteT ?_⟩
      walk_at "ss"
      rename_i t H1 hs1
      refine k t p q H1 hs1 ?_ ?_ <;> rw [e]
      · exact hp
      · exact hq
    | false =>
      have e : mkL x y = (y, x) := if_neg (by rw [hc]; exact Bool.false_ne_true)
      refine ⟨false, rfl, iteF ?_⟩
      walk_at "ss"
      rename_i t H1 hs1
      refine k t q p H1 hs1 ?_ ?_ <;> rw [e]
      · exact hq
      · exact hp
theorem find_take {α : Type} {p : α → Bool} : ∀ {ls : List α} {i : Nat} {l : α}, ls[i]? = some l → (ls.take i).find? p = none → p l = true → ls.find? p = some l
  | y :: ys, 0, l, e, _, h => by
    cases e
    rw [List.find?_cons, h]
  | y :: ys, i + 1, l, e, h0, h => by
    rw [List.take_succ_cons, List.find?_cons] at h0
    cases hy : p y with
    | true =>
      rw [hy] at h0
      cases h0
    | false =>
      rw [hy] at h0
      rw [List.find?_cons, hy]
      exact find_take (by simpa using e) h0 h
theorem find_more {α : Type} {p : α → Bool} {ls : List α} {i : Nat} {l : α} (e : ls[i]? = some l) (h0 : (ls.take i).find? p = none) (h : p l = false) : (ls.take (i + 1)).find? p = none := by
  rw [List.take_add_one, e, List.find?_append, h0]
  show List.find? p [l] = none
  rw [List.find?_cons, h]
  rfl
theorem ok_peer (T : Txt K mg a) : FnOk P w K mg base CX0 1 a.peer a.fd_peer ["links", "end"] sp_peer := by
  refine T.fn_peer.ok sc_peer (fun vs H Q E h => ?_) (fun cdv A outer s H vs Q E hr h => ?_)
  · obtain ⟨_, _, _, _, _, _, rfl, _⟩ := h
    rfl
  · obtain ⟨B, r, e, us, ls, x, rfl, hs, hL, hl, he, k1, k2⟩ := h
    refine ⟨_, (pss_cons (ps_for PassesOwn.never rfl (pi_listK (K := K) (pv 0)) (pg_tupK (K := K) rfl (pgs_cons (pg_name (i := 2) sc_peer.nd rfl (Or.inl rfl)) (pgs_cons (pg_name (i := 3) sc_peer.nd rfl (Or.inl rfl)) pgs_nil)))
  (pss_cons (ps_if (pt_cmpR (op_eqDK (K := K) hr.units) (pv 2) (pv 1) (nomark _))
  (pss_one (ps_ret (pv 3)))
  pss_nil)
  (pss_one (ps_if (pt_cmpR (op_eqDK (K := K) hr.units) (pv 3) (pv 1) (nomark _))
  (pss_one (ps_ret (pv 2)))
  pss_nil))))
  (pss_one (ps_ret pe_non))), ?_⟩
    walk_at "ss"
    refine w_forL (SqL.of hs.g0) (fun i σ H' => ∃ v2 v3, σ = [some (.ref r), some (.ref e), v2, v3] ∧ (ls.take i).find? (has x) = none ∧ Hs B [(r, .lst us)] H') (fun Q q => ⟨_, rfl, q⟩) ⟨none, none, rfl, rfl, hs⟩ (fun i σ H' _ ⟨_, _, _, _, h⟩ => SqL.of h.g0) ?_ ?_
    · clear hs
      rintro i y σ H1 hi ⟨v2, v3, rfl, hf, hs⟩
      obtain ⟨t, l, rfl, hli, hk⟩ := LkL.get hL hi
      obtain ⟨p, q, ht, hp, hq⟩ := nk_link hk
      walk_at "ss"
      refine w_eqE (x := l.1) (y := x) (hs.old hp) (hs.old he) ?_
      refine ⟨_, rfl, ifd (fun h1 => ?_) (fun h1 => ?_)⟩
      · have hh : has x l = true := by
          unfold has
          rw [decide_eq_true h1]
          rfl
        walk_at "ss"
        refine k2 l (find_take hli hf hh) q H1 hs ?_
        rw [if_pos h1]
        exact hq
      · walk_at "ss"
        refine w_eqE (x := l.2) (y := x) (hs.old hq) (hs.old he) ?_
        refine ⟨_, rfl, ifd (fun h2 => ?_) (fun h2 => ?_)⟩
        · have hh : has x l = true := by
            unfold has
            rw [decide_eq_true h2, Bool.or_true]
          walk_at "ss"
          refine k2 l (find_take hli hf hh) p H1 hs ?_
          rw [if_neg h1]
          exact hp
        · have hh : has x l = false := by
            unfold has
            rw [decide_eq_false h1, decide_eq_false h2]
            rfl
          walk_at "ss"
          exact ⟨_, _, rfl, find_more hli hf hh, hs⟩
    · clear hs
      rintro σ H1 ⟨v2, v3, rfl, hf, hs⟩
      walk_at "ss"
      refine k1 ?_ H1 hs
      rw [LkL.len hL, List.take_length] at hf
      exact hf
theorem ok_Seen_init (T : Txt K mg a) : FnOk P w K mg base CX0 1 a.Seen_init a.fd_Seen_init ["self"] (sp_Seen_init w a) := by
  refine T.fn_Seen_init.ok sc_Seen_init (fun vs H Q E h => ?_) (fun cdv A outer s H vs Q E hr h => ?_)
  · obtain ⟨_, _, _, rfl, _⟩ := h
    rfl
  · obtain ⟨B, s0, ds, rfl, hs, k⟩ := h
    have c1 := T.cl_Seen
    have n1 := T.na_Seen__ticks
    refine ⟨_, (pss_one (ps_fldK (K := K) (pv 0) (pe_nnew (w := w)))), ?_⟩
    walk_at "ss"
    rename_i d H1 hs1 H2 hs2
    exact k d H2 (hs2.sel [1, 0])
theorem ok_Seen_links (T : Txt K mg a) : FnOk P w K mg base CX0 1 a.Seen_links a.fd_Seen_links ["self"] (sp_Seen_links w a) := by
  refine T.fn_Seen_links.ok sc_Seen_links (fun vs H Q E h => ?_) (fun cdv A outer s H vs Q E hr h => ?_)
  · obtain ⟨_, _, _, _, _, _, rfl, _⟩ := h
    rfl
  · obtain ⟨B, s0, ds, d, es, M, rfl, hs, he, k⟩ := h
    have c1 := T.cl_Seen
    have n1 := T.na_Seen__ticks
    refine ⟨_, (pss_one (ps_ret (pe_callB (cr_sortDN (w := w) (c := some 2) (sh := [some 2]) rfl (r64 hr)) (by rfl) T.mg_sorted (by decide +kernel) (pa_cons (pe_fldK (K := K) (pv 0)) pa_nil)))), ?_⟩
    walk_at "ss"
    refine w_sortD hs hs.g1 he fun r ys H1 hL hs1 => ?_
    walk_at "ss"
    exact k r ys H1 hL hs1
end
local macro_rules | `(tactic| walk_at "s") => `(tactic| first
  | with_reducible refine w_nget ?_
  | with_reducible refine w_nin ?_
  | with_reducible refine w_nnot ?_
  | with_reducible refine w_nput ?_
  | with_reducible refine w_ndel ?_
  | with_reducible refine w_npop ?_
  | ((with_reducible refine' w_nnew ?hs ?_); (case hs => assumption); intro _ _ _))

section
variable {P : Program} {w : World} {K : PySem.W.Frag} {mg : Str → Option Value} {base : Heap} {a : Ad}
theorem w_link {H : Hp} {Q : VK} {E : XK} {p q : Addr} {x y : E2} (hp : H p = some (endO x)) (hq : H q = some (endO y)) (k : ∀ t u v H', Hs H [(t, .tup [.ref u, .ref v])] H' → H u = some (endO (mkL x y).1) → H v = some (endO (mkL x y).2) → Q (.ref t) H') : sp_link_of [.ref p, .ref q] H Q E :=
  ⟨p, q, x, y, rfl, hp, hq, k⟩
theorem w_links {B H : Hp} {Q : VK} {E : XK} {s ds d : Addr} {es : List Ent} {M : Mp} {R : List (Addr × HO)} (hs : Hs B (seenL w a s ds d es ++ R) H) (he : EntM B es M) (k : ∀ r ys H', LkL H' ys (srt (keysM M)) → Hs B (((r, .lst ys) :: seenL w a s ds d es) ++ R) H' → Q (.ref r) H') : sp_Seen_links w a [.ref s] H Q E := by
  obtain ⟨h0, h1, back⟩ := hs.frame (seenL w a s ds d es)
  refine ⟨_, s, ds, d, es, M, rfl, h1, EntM.same h0 he, fun r ys H' h2 h3 => k r ys H' (LkL.same h3.same h2) (back _ _ h3)⟩
theorem w_peer {B H : Hp} {Q : VK} {E : XK} {r e : Addr} {us : List V} {ls : List Lk} {x : E2} {R : List (Addr × HO)} (hs : Hs B ((r, .lst us) :: R) H) (hL : LkL B us ls) (hl : ls.length ≤ 1000) (he : B e = some (endO x))
    (k1 : ls.find? (has x) = none → ∀ H', Hs B ((r, .lst us) :: R) H' → Q .non H') (k2 : ∀ l, ls.find? (has x) = some l → ∀ q H', Hs B ((r, .lst us) :: R) H' → H' q = some (endO (if l.1 = x then l.2 else l.1)) → Q (.ref q) H') : sp_peer [.ref r, .ref e] H Q E := by
  obtain ⟨h0, h1, back⟩ := hs.frame [(r, .lst us)]
  exact ⟨_, r, e, us, ls, x, rfl, h1, LkL.same h0 hL, hl, h0 _ _ he, fun h H' h2 => k1 h H' (back _ _ h2), fun l h q H' h2 h3 => k2 l h q H' (back _ _ h2) (h2.old h3)⟩
def sp_Seen_lose (w : World) (a : Ad) : Sp := fun vs H Q _ => ∃ (B : Hp) (s ds d e : Addr) (es : List Ent) (M : Mp) (x : E2), vs = [.ref s, .ref e] ∧ Hs B (seenL w a s ds d es) H ∧ EntM H es M ∧ IM M ∧ M.length ≤ 1000 ∧ H e = some (endO x) ∧
  ∀ r us es' H', Hs B ((r, .lst us) :: seenL w a s ds d es') H' → LkL H' us (atM M x) → EntM H' es' (dropM M (atM M x)) → Q (.ref r) H'
theorem ok_Seen_lose (T : Txt K mg a) : FnOk P w K mg base CX0 2 a.Seen_lose a.fd_Seen_lose ["self", "end"] (sp_Seen_lose w a) := by
  have G_link_of := ok_link_of (P := P) (w := w) (base := base) T
  have G_peer := ok_peer (P := P) (w := w) (base := base) T
  have G_Seen_links := ok_Seen_links (P := P) (w := w) (base := base) T
  refine T.fn_Seen_lose.ok sc_Seen_lose (fun vs H Q E h => ?_) (fun cdv A outer s H vs Q E hr h => ?_)
  · obtain ⟨_, _, _, _, _, _, _, _, rfl, _⟩ := h
    rfl
  · obtain ⟨B, s0, ds, d, e, es, M, x, rfl, hs, he, im, hl, hx, k⟩ := h
    have c1 := T.cl_Seen
    have n1 := T.na_Seen__ticks
    obtain ⟨B1, sb, hs1, tb⟩ := hs.ground rfl
    have he1 := EntM.mono tb he
    have hx1 := tb _ _ hx
    clear hs he hx
    refine ⟨_, (pss_cons (ps_set (i := 2) sc_Seen_lose.nd rfl (Or.inl rfl) (pe_call G_peer (hr.mono (by decide)) rfl T.mg_peer T.kp_peer T.bi_peer .nil pass0 (pa_cons (pe_meth0 (pv 0) T.cl_Seen T.me_Seen_links G_Seen_links (hr.mono (by decide)) T.bi_Seen_links .nil pass0) (pa_cons (pv 1) pa_nil))))
  (pss_cons (ps_if (pt_cmpR op_isNQ (pv 2) pe_non (nomark _))
  (pss_one (ps_ret (pe_lst pa_nil)))
  pss_nil)
  (pss_cons (ps_set (i := 3) sc_Seen_lose.nd rfl (Or.inl rfl) (pe_call G_link_of (hr.mono (by decide)) rfl T.mg_link_of T.kp_link_of T.bi_link_of .nil pass0 (pa_cons (pv 1) (pa_cons (pv 2) pa_nil))))
  (pss_cons (ps_ndel (w := w) (r64 hr) (pe_fldK (K := K) (pv 0)) (pv 3))
  (pss_one (ps_ret (pe_lst (pa_cons (pv 3) pa_nil)))))))), ?_⟩
    walk_at "ss"
    refine w_links (R := []) hs1 he1 fun r ys H2 hL hs2 => ?_
    clear hs1
    have hs3 : Hs B1 [(r, .lst ys), _, _] H2 := hs2
    clear hs2
    obtain ⟨B2, sb2, hs4, tb2⟩ := hs3.ground rfl
    have hL2 := LkL.mono tb2 hL
    walk_at "ss"
    have fa := find_at (M := M) x
    refine w_peer hs4 hL2 (by rw [srt_len, keys_len]; exact hl) (sb2 _ _ hx1) (fun hf H3 hs5 => ?_) (fun l hf q H3 hs5 hq => ?_)
    · clear hs3 hs4
      walk_at "ss"
      refine ifd (fun _ => ?_) (fun h => absurd rfl h)
      walk_at "ss"
      rename_i r2 H4 hs6
      have e0 : atM M x = [] := by
        rw [fa] at hf
        cases h : atM M x with
        | nil => rfl
        | cons y t =>
          rw [h] at hf
          cases hf
      have := k r2 [] es H4
      rw [e0, drop_nil] at this
      exact this (((hs6.sel [0, 2, 3]).base sb2).base sb) .nil (EntM.same hs6.same (EntM.same sb2 he1))
    · clear hs3 hs4
      walk_at "ss"
      have e0 : atM M x = [l] := by
        rw [fa] at hf
        rcases at_one im x with h | ⟨m, h⟩
        · rw [h] at hf
          cases hf
        · rw [h] at hf ⊢
          cases hf
          rfl
      have hm : l ∈ atM M x := by rw [e0]; exact List.mem_cons_self
      obtain ⟨hk, hh⟩ := mem_at.mp hm
      have lok := im.ok l hk
      have ml : mkL x (if l.1 = x then l.2 else l.1) = l := by
        by_cases hc : l.1 = x
        · rw [if_pos hc, ← hc]
          exact mkL_of lok
        · rw [if_neg hc]
          unfold has at hh
          rw [decide_eq_false hc, Bool.false_or, decide_eq_true_eq] at hh
          rw [← hh, mkL_comm (fun z => lok.1 z.symm)]
          exact mkL_of lok
      refine ifd (fun h => nomatch h) (fun _ => ?_)
      walk_at "ss"
      refine w_link (hs5.old (sb2 _ _ hx1)) hq fun t u v H4 hs6 hu hv => ?_
      rw [ml] at hu hv
      have hs7 : Hs B2 [(t, .tup [.ref u, .ref v]), (r, .lst ys), _, _] H4 := hs5.add hs6
      have hkt : NK H4 (lkK l) (.ref t) := nk_mk hs7.g0 (hs6.old hu) (hs6.old hv)
      clear hs5 hs6
      obtain ⟨B3, sb3, hs8, tb3⟩ := (show Hs B2 [_, _] H4 from hs7.sel [2, 3]).ground rfl
      clear hs7
      have hkt3 := hkt.mono tb3
      have he3 := EntM.same sb3 (EntM.same sb2 he1)
      obtain ⟨n, hn⟩ := val_of hk
      walk_at "ss"
      refine wn_del hs8 (by walk_at "p") he3 hkt3 hn fun H5 hs9 he5 => ?_
      clear hs8
      walk_at "ss"
      rename_i r2 H6 hs10
      have := k r2 [.ref t] _ H6 (((hs10.base sb3).base sb2).base sb)
      rw [e0] at this
      exact this (.cons ⟨t, rfl, hkt3.same hs10.same⟩ .nil) (EntM.same hs10.same he5)
end
local macro_rules | `(tactic| walk_at "s") => `(tactic| first
  | with_reducible refine w_nget ?_
  | with_reducible refine w_nin ?_
  | with_reducible refine w_nnot ?_
  | with_reducible refine w_nput ?_
  | with_reducible refine w_ndel ?_
  | with_reducible refine w_npop ?_
  | ((with_reducible refine' w_nnew ?hs ?_); (case hs => assumption); intro _ _ _))

section
variable {P : Program} {w : World} {K : PySem.W.Frag} {mg : Str → Option Value} {base : Heap} {a : Ad}
/-- what is not newer than c -/
def oldP (M : Mp) (c : Int) (l : Lk) : Bool := match valM M l with | some n => decide (n ≤ c) | none => false
def oldL (M : Mp) (c : Int) : List Lk := (srt (keysM M)).filter (oldP M c)
def sp_Seen_old (w : World) (a : Ad) : Sp := fun vs H Q _ => ∃ (B : Hp) (s ds d : Addr) (es : List Ent) (M : Mp) (now age : Int), vs = [.ref s, .int now, .int age] ∧ Hs B (seenL w a s ds d es) H ∧ EntM H es M ∧ IM M ∧ M.length ≤ 1000 ∧
  ∀ r us es' H', Hs B ((r, .lst us) :: seenL w a s ds d es') H' → LkL H' us (oldL M (now - age)) → EntM H' es' (dropM M (oldL M (now - age))) → Q (.ref r) H'
theorem val_drop {M : Mp} {ls : List Lk} {l : Lk} (h : l ∉ ls) : valM (dropM M ls) l = valM M l := by
  unfold valM dropM
  rw [List.find?_filter]
  congr 1
  congr 1
  funext x
  by_cases hc : x.1 = l
  · simp [hc, h]
  · simp [hc]
theorem drop_snoc {M : Mp} {ls : List Lk} {l : Lk} : dropM (dropM M ls) [l] = dropM M (ls ++ [l]) := drop_drop
theorem take_next {α : Type} {ls : List α} {i : Nat} {l : α} (e : ls[i]? = some l) : ls.take (i + 1) = ls.take i ++ [l] := by
  rw [List.take_add_one, e]
  rfl
theorem nodup_at {α : Type} : ∀ {ls : List α} {i : Nat} {l : α}, ls.Nodup → ls[i]? = some l → l ∉ ls.take i
  | _ :: _, 0, _, _, _ => fun z => nomatch z
  | y :: ys, i + 1, l, nd, e => by
    have h := List.nodup_cons.mp nd
    rw [List.take_succ_cons]
    intro z
    have e' : ys[i]? = some l := by simpa using e
    rcases List.mem_cons.mp z with rfl | z
    · exact h.1 (List.mem_of_getElem? e')
    · exact nodup_at h.2 e' z
theorem old_nodup {M : Mp} (im : IM M) (c : Int) : (oldL M c).Nodup := ((srt_perm _).nodup_iff.mpr im.nd).filter _
theorem old_mem {M : Mp} {c : Int} {l : Lk} (h : l ∈ oldL M c) : l ∈ keysM M := mem_srt.mp (List.mem_filter.mp h).1
theorem ok_Seen_old (T : Txt K mg a) : FnOk P w K mg base CX0 2 a.Seen_old a.fd_Seen_old ["self", "now", "age"] (sp_Seen_old w a) := by
  have G_Seen_links := ok_Seen_links (P := P) (w := w) (base := base) T
  refine T.fn_Seen_old.ok sc_Seen_old (fun vs H Q E h => ?_) (fun cdv A outer s H vs Q E hr h => ?_)
  · obtain ⟨_, _, _, _, _, _, _, _, rfl, _⟩ := h
    rfl
  · obtain ⟨B, s0, ds, d, es, M, now, age, rfl, hs, he, im, hl, k⟩ := h
    have c1 := T.cl_Seen
    have n1 := T.na_Seen__ticks
    obtain ⟨B1, sb, hs1, tb⟩ := hs.ground rfl
    have he1 := EntM.mono tb he
    clear hs he
    refine ⟨_, (pss_cons (ps_setLc (i := 3) (own := [("link", 4)]) (g := (gName 4)) rfl sc_Seen_old.nd rfl rfl (sw_true rfl rfl rfl (by decide +kernel)) (pi_listK (K := K) (pe_meth0 (pv 0) T.cl_Seen T.me_Seen_links G_Seen_links (hr.mono (by decide)) T.bi_Seen_links .nil pass0)) (blkOk_by (own := [("link", 4)]) (N := N_Seen_old) (sc := defScope s_Seen_old) (by decide +kernel)) (fun _ _ _ _ _ => by exact (pg_name (i := 4) sc_Seen_old.nd rfl (Or.inl rfl))) (fun _ _ _ _ _ => by exact pts_one (pt_cmpR op_le (pe_ndget (w := w) (r64 hr) (pe_fldK (K := K) (pv 0)) (pv 4) (fun _ _ => rfl)) (pe_op op_sub (pv 1) (pv 2)) (nomark _))) (fun _ _ _ _ _ => by exact (pv 4)))
  (pss_cons (ps_for PassesOwn.never rfl (pi_listK (K := K) (pv 3)) (pg_name (i := 4) sc_Seen_old.nd rfl (Or.inl rfl))
  (pss_one (ps_ndel (w := w) (r64 hr) (pe_fldK (K := K) (pv 0)) (pv 4))))
  (pss_one (ps_ret (pv 3))))), ?_⟩
    walk_at "ss"
    refine w_lcS ?_
    walk_at "ss"
    refine w_links (R := []) hs1 he1 fun r ys H2 hL hs2 => ?_
    clear hs1
    have hs3 : Hs B1 [(r, .lst ys), _, _] H2 := hs2
    clear hs2
    obtain ⟨B2, sb2, hs4, tb2⟩ := hs3.ground rfl
    have hL2 := LkL.mono tb2 hL
    have he2 := EntM.same sb2 he1
    clear hs3
    have hl2 := LkL.len hL
    rw [srt_len, keys_len] at hl2
    refine w_lcF (oldP M (now - age)) (SqL.of hs4.g0) hL2 (by omega) (fun Q q => q) (fun _ => rfl) (fun _ => rfl) ?_ ?_
    · intro t l H3 hm hk hS R hR
      have g0 := hS _ _ hs4.g1
      have g1 := hS _ _ hs4.g2
      obtain ⟨n, hn⟩ := val_of (mem_srt.mp hm)
      have eo : oldP M (now - age) l = decide (n ≤ now - age) := by
        unfold oldP
        rw [hn]
      have he3 := EntM.same (hs4.same.trans hS) he2
      have hk3 := hk.same (hs4.same.trans hS)
      have hs5 := Hs.start H3
      clear hs4
      walk_at "ss"
      refine wn_get hs5 g1 he3 hk3 hn ?_
      walk_at "ss"
      rw [← eo]
      exact hR H3 (Same.refl _)
    · intro D acc H3 h1 hA'
      have hA : LkL B2 acc (oldL M (now - age)) := hA'
      clear hA'
      have hs5 : Hs B2 [(D, .lst acc), _, _, _] H3 := hs4.add h1
      clear hs4
      have hlen := LkL.len hA
      walk_at "ss"
      refine w_forL (SqL.of hs5.g0) (fun i σ H' => ∃ v4 es', σ = [some (.ref s0), some (.int now), some (.int age), some (.ref D), v4] ∧ Hs B2 ((D, .lst acc) :: (r, .lst ys) :: seenL w a s0 ds d es') H' ∧ EntM B2 es' (dropM M ((oldL M (now - age)).take i))) (fun Q q => ⟨_, rfl, q⟩) ⟨none, es, rfl, hs5, ?_⟩ (fun i σ H' _ ⟨_, _, _, h, _⟩ => SqL.of h.g0) ?_ ?_
      · rw [List.take_zero, drop_nil]
        exact he2
      · clear hs5
        rintro i x σ H4 hi ⟨v4, es', rfl, hs6, he6⟩
        obtain ⟨t, l, rfl, hli, hk⟩ := LkL.get hA hi
        have hmem : l ∈ oldL M (now - age) := List.mem_of_getElem? hli
        have hnot := nodup_at (old_nodup im (now - age)) hli
        obtain ⟨n, hn⟩ := val_of (old_mem hmem)
        walk_at "ss"
        refine wn_del hs6 (by walk_at "p") he6 hk (n := n) (by rw [val_drop hnot]; exact hn) fun H5 hs7 he7 => ?_
        walk_at "ss"
        refine ⟨_, _, rfl, hs7, ?_⟩
        rw [take_next hli, ← drop_snoc]
        exact he7
      · clear hs5
        rintro σ H4 ⟨v4, es', rfl, hs6, he6⟩
        walk_at "ss"
        rw [hlen, List.take_length] at he6
        exact k D acc es' H4 (((hs6.sel [0, 2, 3]).base sb2).base sb) (LkL.same hs6.same hA) (EntM.same hs6.same he6)
def sp_Seen_see (w : World) (a : Ad) : Sp := fun vs H Q _ => ∃ (B : Hp) (s ds d e o : Addr) (es : List Ent) (M : Mp) (x y : E2) (now : Int), vs = [.ref s, .ref e, .ref o, .int now] ∧ Hs B (seenL w a s ds d es) H ∧ EntM H es M ∧ IM M ∧ M.length ≤ 900 ∧ H e = some (endO x) ∧ H o = some (endO y) ∧
  (x.1 = y.1 → ∀ r H', Hs B ((r, .lst []) :: seenL w a s ds d es) H' → Q (.ref r) H') ∧
  (x.1 ≠ y.1 → mkL x y ∈ keysM M → ∀ r es' H', Hs B ((r, .lst []) :: seenL w a s ds d es') H' → EntM H' es' (putM M (mkL x y) now) → Q (.ref r) H') ∧
  (x.1 ≠ y.1 → mkL x y ∉ keysM M → ∀ r us es' H', Hs B ((r, .lst us) :: seenL w a s ds d es') H' → LkL H' us (atM M x ++ atM (dropM M (atM M x)) y) → EntM H' es' (putM (dropM M (atM M x ++ atM (dropM M (atM M x)) y)) (mkL x y) now) → Q (.ref r) H')
theorem w_lose {B H : Hp} {Q : VK} {E : XK} {s ds d e : Addr} {es : List Ent} {M : Mp} {x : E2} {R : List (Addr × HO)} (hs : Hs B (seenL w a s ds d es ++ R) H) (he : EntM H es M) (im : IM M) (hl : M.length ≤ 1000) (hx : H e = some (endO x))
    (k : ∀ r us es' H', Hs B (((r, .lst us) :: seenL w a s ds d es') ++ R) H' → LkL H' us (atM M x) → EntM H' es' (dropM M (atM M x)) → Q (.ref r) H') : sp_Seen_lose w a [.ref s, .ref e] H Q E := by
  obtain ⟨_, h1, back⟩ := hs.frame (seenL w a s ds d es)
  exact ⟨_, s, ds, d, e, es, M, x, rfl, h1, he, im, hl, hx, fun r us es' H' h2 h3 h4 => k r us es' H' (back _ _ h2) h3 h4⟩
theorem ok_Seen_see (T : Txt K mg a) : FnOk P w K mg base CX0 3 a.Seen_see a.fd_Seen_see ["self", "end", "other", "now"] (sp_Seen_see w a) := by
  have G_link_of := ok_link_of (P := P) (w := w) (base := base) T
  have G_Seen_lose := ok_Seen_lose (P := P) (w := w) (base := base) T
  refine T.fn_Seen_see.ok sc_Seen_see (fun vs H Q E h => ?_) (fun cdv A outer s H vs Q E hr h => ?_)
  · obtain ⟨_, _, _, _, _, _, _, _, _, _, _, rfl, _⟩ := h
    rfl
  · obtain ⟨B, s0, ds, d, e, o, es, M, x, y, now, rfl, hs, he, im, hl, hx, hy, k1, k2, k3⟩ := h
    have c1 := T.cl_Seen
    have n1 := T.na_Seen__ticks
    obtain ⟨B1, sb, hs1, tb⟩ := hs.ground rfl
    have he1 := EntM.mono tb he
    have hx1 : B1 e = some (.tup [.int x.1, .int x.2]) := tb _ _ hx
    have hy1 : B1 o = some (.tup [.int y.1, .int y.2]) := tb _ _ hy
    clear hs he hx hy
    refine ⟨_, (pss_cons (ps_if (pt_cmpR op_eq (pe_ix (ix_tupK (K := K)) (pv 1) pe_int (fun _ _ => rfl)) (pe_ix (ix_tupK (K := K)) (pv 2) pe_int (fun _ _ => rfl)) (nomark _))
  (pss_one (ps_ret (pe_lst pa_nil)))
  pss_nil)
  (pss_cons (ps_set (i := 4) sc_Seen_see.nd rfl (Or.inl rfl) (pe_call G_link_of (hr.mono (by decide)) rfl T.mg_link_of T.kp_link_of T.bi_link_of .nil pass0 (pa_cons (pv 1) (pa_cons (pv 2) pa_nil))))
  (pss_cons (ps_set (i := 5) sc_Seen_see.nd rfl (Or.inl rfl) (pe_lst pa_nil))
  (C8.pss_cut (ps_if (pt_cmp (pc_nnot (w := w) (r64 hr) (pv 4) (pe_fldK (K := K) (pv 0))))
  (pss_one (ps_set (i := 5) sc_Seen_see.nd rfl (Or.inl rfl) (pe_op op_cat (pe_meth (pv 0) T.cl_Seen T.me_Seen_lose G_Seen_lose (hr.mono (by decide)) T.bi_Seen_lose .nil pass0 (pa_cons (pv 1) pa_nil)) (pe_meth (pv 0) T.cl_Seen T.me_Seen_lose G_Seen_lose (hr.mono (by decide)) T.bi_Seen_lose .nil pass0 (pa_cons (pv 2) pa_nil)))))
  pss_nil)
  (pss_cons (ps_nput (w := w) (r64 hr) (pe_fldK (K := K) (pv 0)) (pv 4) (pv 3) rfl)
  (pss_one (ps_ret (pv 5)))))))), ?_⟩
    walk_at "ss"
    refine ifd (fun h0 => ?_) (fun h0 => ?_)
    · walk_at "ss"
      rename_i r H2 hs2
      exact k1 h0 r H2 (hs2.base sb)
    · walk_at "ss"
      refine w_link (hs1.old hx1) (hs1.old hy1) fun t u v H2 hs2 hu hv => ?_
      have hs3 : Hs B1 [(t, .tup [.ref u, .ref v]), _, _] H2 := hs1.add hs2
      have hkt : NK H2 (lkK (mkL x y)) (.ref t) := nk_mk hs3.g0 (hs2.old hu) (hs2.old hv)
      clear hs1 hs2
      obtain ⟨B2, sb2, hs4, tb2⟩ := (show Hs B1 (seenL w a s0 ds d es) H2 from hs3.sel [1, 2]).ground rfl
      clear hs3
      have hk2 := hkt.mono tb2
      have he2 := EntM.same sb2 he1
      have hx2 := sb2 _ _ hx1
      have hy2 := sb2 _ _ hy1
      walk_at "ss"
      rename_i r0 H3 hs5
      clear hs4
      refine w_cut (fun σ' H' => ∃ r us es' M' ls B3, σ' = [some (.ref s0), some (.ref e), some (.ref o), some (.int now), some (.ref t), some (.ref r)] ∧ Same B2 B3 ∧ Hs B3 ((r, .lst us) :: seenL w a s0 ds d es') H' ∧ EntM B3 es' M' ∧ LkL B3 us ls ∧ M'.length ≤ 900 ∧
        ((mkL x y ∈ keysM M ∧ M' = M ∧ ls = []) ∨ (mkL x y ∉ keysM M ∧ M' = dropM M (atM M x ++ atM (dropM M (atM M x)) y) ∧ ls = atM M x ++ atM (dropM M (atM M x)) y))) ?_ ?_
      · walk_at "ss"
        refine wn_in hs5 hs5.g2 he2 hk2 ?_
        cases hb : (valM M (mkL x y)).isSome with
        | true =>
          refine ⟨false, rfl, iteF ?_⟩
          walk_at "ss"
          exact ⟨r0, [], es, M, [], B2, rfl, Same.refl _, hs5, he2, .nil, hl, .inl ⟨val_some.mp hb, rfl, rfl⟩⟩
        | false =>
          have hno : mkL x y ∉ keysM M := fun z => by
            have := val_some.mpr z
            rw [hb] at this
            cases this
          refine ⟨true, rfl, iteT ?_⟩
          walk_at "ss"
          have hs6 : Hs B2 (seenL w a s0 ds d es ++ [(r0, .lst [])]) H3 := hs5.sel [1, 2, 0]
          refine w_lose hs6 (EntM.same hs5.same he2) im (by omega) (hs5.old hx2) fun r1 us1 es1 H4 hs7 hL1 he4 => ?_
          clear hs5 hs6
          have hs8 : Hs B2 [_, _, _, _] H4 := hs7
          clear hs7
          obtain ⟨B3, sb3, hs9, tb3⟩ := hs8.ground rfl
          clear hs8
          have hL3 := LkL.mono tb3 hL1
          have he3 := EntM.mono tb3 he4
          walk_at "ss"
          have hs10 : Hs B3 (seenL w a s0 ds d es1 ++ [(r1, .lst us1), (r0, .lst [])]) H4 := hs9.sel [1, 2, 0, 3]
          clear hs9
          refine w_lose hs10 he4 (im.drop _) (Nat.le_trans drop_len (by omega)) (hs10.old (sb3 _ _ hy2)) fun r2 us2 es2 H5 hs11 hL2 he5 => ?_
          clear hs10
          have hs12 : Hs B3 [_, _, _, _, _] H5 := hs11
          clear hs11
          obtain ⟨B4, sb4, hs13, tb4⟩ := hs12.ground rfl
          clear hs12
          have hLa := LkL.same sb4 hL3
          have hLb := LkL.mono tb4 hL2
          have he6 := EntM.mono tb4 he5
          rw [drop_drop] at he6
          have l1 := LkL.len hLa
          have l2 := LkL.len hLb
          have l3 := at_len (M := M) (e := x)
          have l4 := Nat.le_trans (at_len (M := dropM M (atM M x)) (e := y)) drop_len
          walk_at "ss"
          rename_i r3 H6 hs14
          exact ⟨r3, us1 ++ us2, es2, _, _, B4, rfl, sb3.trans sb4, hs14.sel [0, 2, 3], he6, LkL.app hLa hLb, Nat.le_trans drop_len hl, .inr ⟨hno, rfl, rfl⟩⟩
      · rintro σ' H' ⟨r, us, es', M', ls, B3, rfl, sb3, hs6, he6, hL6, hl6, hcase⟩
        clear hs5
        walk_at "ss"
        refine wn_put hs6 (by walk_at "p") he6 (hk2.same sb3) (by omega) fun H7 hs7 he7 => ?_
        clear hs6
        walk_at "ss"
        have hs8 := ((hs7.base sb3).base sb2).base sb
        rcases hcase with ⟨hm, rfl, rfl⟩ | ⟨hm, rfl, rfl⟩
        · cases hL6
          exact k2 h0 hm r _ H7 hs8 (EntM.same hs7.same he7)
        · exact k3 h0 hm r us _ H7 hs8 (LkL.same hs7.same hL6) (EntM.same hs7.same he7)
end
local macro_rules | `(tactic| walk_at "s") => `(tactic| first
  | with_reducible refine w_nget ?_
  | with_reducible refine w_nin ?_
  | with_reducible refine w_nnot ?_
  | with_reducible refine w_nput ?_
  | with_reducible refine w_ndel ?_
  | with_reducible refine w_npop ?_
  | ((with_reducible refine' w_nnew ?hs ?_); (case hs => assumption); intro _ _ _))

/-! ### the draws of the law -/
/-- what a state may be -/
def Good (m : Int) (cells : List Int) : Prop := 0 ≤ m ∧ m < 2147483648 ∧ cells.length ≤ 1000
abbrev sto (c : Addr) (m : Int) : HO := .lst [.ref c, .int m]
abbrev clo (cells : List Int) : HO := .lst (cells.map V.int)
def sp__law_state (K : PySem.W.Frag) : Sp := fun vs H Q _ => ∃ (x : Addr) (ns : List Int), vs = [.ref x] ∧ SqL K H x (ns.map V.int) ∧ ns.length ≤ 1000 ∧ ∀ s c m cells H', Hs H [(s, sto c m), (c, clo cells)] H' → Good m cells → Q (.ref s) H'
def sp__law_draw : Sp := fun vs H Q _ => ∃ (B : Hp) (s c : Addr) (m many : Int) (cells : List Int), vs = [.ref s, .int many] ∧ Hs B [(s, sto c m), (c, clo cells)] H ∧ Good m cells ∧ many < 1000000000 ∧
  ∀ r m' cells' H', Hs B [(s, sto c m'), (c, clo cells')] H' → Good m' cells' → (many < 1 → r = 0) → (1 ≤ many → 0 ≤ r ∧ r < many) → Q (.int r) H'
theorem abs_map (ns : List Int) (i : Nat) {x : V} (h : (ns.map V.int)[i]? = some x) : ∃ n, ns[i]? = some n ∧ x = .int n := by
  rw [List.getElem?_map] at h
  cases e : ns[i]? with
  | none =>
    rw [e] at h
    cases h
  | some n =>
    rw [e] at h
    exact ⟨n, rfl, (Option.some.inj h).symm⟩
theorem ok__law_state (T : Txt K mg a) : FnOk P w K mg base CX0 1 a._law_state a.fd__law_state ["script"] (sp__law_state K) := by
  refine T.fn__law_state.ok sc__law_state (fun vs H Q E h => ?_) (fun cdv A outer s H vs Q E hr h => ?_)
  · obtain ⟨_, _, rfl, _⟩ := h
    rfl
  · obtain ⟨x, ns, rfl, hx, hl, k⟩ := h
    refine ⟨_, (pss_cons (ps_set (i := 1) sc__law_state.nd rfl (Or.inl rfl) pe_int)
  (pss_cons (ps_for PassesOwn.never rfl (pi_listK (K := K) (pv 0)) (pg_name (i := 2) sc__law_state.nd rfl (Or.inl rfl))
  (pss_one (ps_set (i := 1) sc__law_state.nd rfl (Or.inl rfl) (pe_op op_mod (pe_callTy call_intQ (by rfl) T.mg_int (by decide +kernel) (pa_cons (pe_op op_add (pe_op op_mul (pv 1) pe_int) (pv 2)) pa_nil)) pe_int))))
  (pss_one (ps_ret (pe_lst (pa_cons (pe_lc (own := [("cell", 2)]) (g := (gName 2)) (tt := tYes) rfl sc__law_state.nd (pi_listK (K := K) (pv 0)) (blkOk_by (own := [("cell", 2)]) (N := N__law_state) (sc := defScope s__law_state) (by decide +kernel)) (fun _ _ _ _ _ => by exact (pg_name (i := 2) sc__law_state.nd rfl (Or.inl rfl))) (fun _ _ _ _ _ => pts_nil) (fun _ _ _ _ _ => by exact (pe_callB call_absQ (by rfl) T.mg_abs (by decide +kernel) (pa_cons (pv 2) pa_nil)))) (pa_cons (pe_op op_add (pv 1) pe_int) pa_nil))))))), ?_⟩
    have hs : Hs H [] H := Hs.start H
    walk_at "ss"
    refine w_forL hx (fun i σ H' => ∃ (m : Int) (v : Option V), σ = [some (.ref x), some (.int m), v] ∧ 0 ≤ m ∧ m < 1000003 ∧ Hs H [] H') (fun Q q => ⟨_, rfl, q⟩) ⟨7, none, rfl, by omega, by omega, hs⟩ (fun i σ H' _ ⟨_, _, _, _, _, hs⟩ => hs.sql hx) ?_ ?_
    · rintro i y σ H' hi ⟨m, v, rfl, h0, h1, hs⟩
      obtain ⟨n, _, rfl⟩ := abs_map ns i hi
      walk_at "ss"
      refine ⟨(m * 31 + n) % 1000003, _, rfl, ?_, ?_, hs⟩
      · exact Int.emod_nonneg _ (by decide)
      · exact Int.emod_lt_of_pos _ (by decide)
    · rintro σ H' ⟨m, v, rfl, h0, h1, hs⟩
      walk_at "ss"
      have hx1 : SqL K H' x (ns.map V.int) := Hs.sql (by assumption) hx
      refine w_lc hx1 (fun D i H2 => ∃ acc : List Int, acc.length = i ∧ Hs H [(D, clo acc)] H2) (fun Q q => ⟨_, rfl, q⟩) (fun D hD => ⟨[], rfl, Hs.new (by assumption) hD⟩) (fun D i H2 _ ⟨_, _, hs⟩ => hs.sql hx) ?_ ?_
      · rintro D i y H2 hi ⟨acc, ha, hs⟩
        obtain ⟨n, _, rfl⟩ := abs_map ns i hi
        have hin : i < ns.length := by
          have := (List.getElem?_eq_some_iff.mp hi).1
          rwa [List.length_map] at this
        walk_at "ss"
        refine ⟨rfl, ?_⟩
        walk_at "ss"
        try (with_reducible refine iteT ?_)
        walk_at "ss"
        refine ⟨_, hs.g0, ?_, acc ++ [if n < 0 then -n else n], ?_, ?_⟩
        · refine szl ?_
          rw [List.length_map]
          omega
        · rw [List.length_append, ha]
          rfl
        · have := hs.p0 (.lst ((acc.map V.int) ++ [V.int (if n < 0 then -n else n)]))
          unfold clo
          rw [List.map_append]
          exact this
      · rintro D H2 ⟨acc, ha, hs⟩
        rw [List.length_map] at ha
        walk_at "ss"
        refine k _ D (m + 1) acc _ (by assumption) ⟨by omega, by omega, by omega⟩
theorem ok__law_draw (T : Txt K mg a) : FnOk P w K mg base CX0 1 a._law_draw a.fd__law_draw ["state", "many"] sp__law_draw := by
  refine T.fn__law_draw.ok sc__law_draw (fun vs H Q E h => ?_) (fun cdv A outer s H vs Q E hr h => ?_)
  · obtain ⟨_, _, _, _, _, _, rfl, _⟩ := h
    rfl
  · obtain ⟨B, s, c, m, many, cells, rfl, hs, ⟨hm0, hm1, hl⟩, hmany, k⟩ := h
    refine ⟨_, (pss_cons (ps_if (pt_cmpR op_lt (pv 1) pe_int (nomark _))
  (pss_one (ps_ret pe_int))
  pss_nil)
  (pss_cons (ps_set (i := 2) sc__law_draw.nd rfl (Or.inl rfl) (pe_ix (ix_listK (K := K)) (pv 0) pe_int (fun _ _ => rfl)))
  (pss_cons (ps_while PassesOwn.never (PW.pt (pw_and (pt_cmpR op_gt (pe_callB (call_lenK (K := K)) (by rfl) T.mg_len PySem.boot_len (pa_cons (pv 2) pa_nil)) pe_int (nomark _)) (pw_and1 (pt_cmpR op_eq (pe_ix (ix_listK (K := K)) (pv 2) pe_int (fun _ _ => rfl)) pe_int (nomark _)))))
  (pss_one (ps_expr (pe_bmK (K := K) PySem.F.plainAttrs_list PySem.F.slot_list_pop PySem.F.type_list_pop mt_popAt (pv 2) (pa_cons pe_int pa_nil)))))
  (pss_cons (ps_if (pt_cmpR op_gt (pe_callB (call_lenK (K := K)) (by rfl) T.mg_len PySem.boot_len (pa_cons (pv 2) pa_nil)) pe_int (nomark _))
  (pss_cons (ps_set (i := 3) sc__law_draw.nd rfl (Or.inl rfl) (pe_ix (ix_listK (K := K)) (pv 2) pe_int (fun _ _ => rfl)))
  (pss_cons (ps_asg (pe_op op_fdivW (pv 3) (pv 1)) (pg_sub (pv 2) pe_int set_list))
  (pss_one (ps_ret (pe_op op_mod (pe_callTy call_intQ (by rfl) T.mg_int (by decide +kernel) (pa_cons (pv 3) pa_nil)) (pv 1))))))
  pss_nil)
  (pss_cons (ps_set (i := 4) sc__law_draw.nd rfl (Or.inl rfl) (pe_op op_mod (pe_callTy call_intQ (by rfl) T.mg_int (by decide +kernel) (pa_cons (pe_op op_add (pe_op op_mul (pe_ix (ix_listK (K := K)) (pv 0) pe_int (fun _ _ => rfl)) pe_int) pe_int) pa_nil)) pe_int))
  (pss_cons (ps_asg (pv 4) (pg_sub (pv 0) pe_int set_list))
  (pss_one (ps_ret (pe_op op_mod (pe_callTy call_intQ (by rfl) T.mg_int (by decide +kernel) (pa_cons (pe_op op_fdivW (pv 4) pe_int) pa_nil)) (pv 1)))))))))), ?_⟩
    walk_at "ss"
    refine ifd (fun h => ?_) (fun h => ?_)
    · walk_at "ss"
      exact k 0 m cells _ hs ⟨hm0, hm1, hl⟩ (fun _ => rfl) (fun q => by omega)
    walk_at "ss"
    refine w_while (fun n σ H' => ∃ cells : List Int, σ = [some (.ref s), some (.int many), some (.ref c), none, none] ∧ cells.length = n ∧ cells.length ≤ 1000 ∧ Hs B [(s, sto c m), (c, clo cells)] H') cells.length ⟨cells, rfl, rfl, hl, hs⟩ ?_
    clear hs
    clear hl cells
    rintro n σ H' ⟨cells, rfl, hn, hl, hs⟩
    walk_at "ss"
    cases cells with
    | nil =>
      show if decide ((0 : Int) < ((0 : Nat) : Int)) = true then _ else _
      refine iteF ?_
      try (with_reducible refine iteF ?_)
      walk_at "ss"
      refine iteF ?_
      walk_at "ss"
      rename_i H2 hs2
      clear hs
      have e1 : 0 ≤ (m * 48271 + 12345) % 2147483647 := Int.emod_nonneg _ (by decide)
      have e2 : (m * 48271 + 12345) % 2147483647 < 2147483647 := Int.emod_lt_of_pos _ (by decide)
      generalize (m * 48271 + 12345) % 2147483647 = mm at e1 e2 hs2 ⊢
      refine w_I ⟨by decide, by decide⟩ ?_
      walk_at "ss"
      refine k _ mm [] _ hs2 ⟨e1, by omega, by decide⟩ (fun q => by omega) fun q => ⟨Int.emod_nonneg _ (by omega), Int.emod_lt_of_pos _ (by omega)⟩
    | cons z cells =>
      refine ifd (fun _ => ?_) (fun q => absurd (show (0 : Int) < _ from by simp only [List.map_cons, List.length_cons]; omega) q)
      walk_at "ss"
      refine ifd (fun hz => ?_) (fun hz => ?_)
      · walk_at "ss"
        refine w_popAt (k := 0) hs (by walk_at "p") rfl rfl (by walk_at "z") fun H2 hs2 => ?_
        rw [List.length_cons] at hl hn
        exact ⟨cells.length, by omega, cells, rfl, rfl, by omega, hs2⟩
      · walk_at "ss"
        refine ifd (fun _ => ?_) (fun q => absurd (show (0 : Int) < _ from by simp only [List.map_cons, List.length_cons]; omega) q)
        walk_at "ss"
        refine w_I ⟨by omega, ?_⟩ ?_
        · refine PySem.Flt.log2_lt_of (by decide) (Nat.lt_of_lt_of_le (show many.natAbs < 2 ^ 30 by omega) (Nat.pow_le_pow_right (by decide) (by decide)))
        walk_at "ss"
        rename_i H2 hs2
        refine k _ m ((z / many) :: cells) _ hs2 ⟨hm0, hm1, by simpa using hl⟩ (fun q => by omega) fun q => ⟨Int.emod_nonneg _ (by omega), Int.emod_lt_of_pos _ (by omega)⟩

section
variable {P : Program} {w : World} {K : PySem.W.Frag} {mg : Str → Option Value} {base : Heap} {a : Ad}
theorem w_inL {H : Hp} {Q : VK} {e t : Addr} {x : E2} {l : Lk} (he : H e = some (endO x)) (hk : NK H (lkK l) (.ref t)) (k : Q (.bl (has x l)) H) : rInDT K false (.ref e) (.ref t) H Q := by
  have h2 : Im K H (.ref t) (lkK l).data := hk.im
  rw [lk_data] at h2
  refine ⟨_, _, dp_end he, h2.dp, shp_end x, by simp [SeqAt.shaped, PyData.canLay0, PyData.canLayAll0, PyData.depth, PyData.depthAll], ?_⟩
  have e1 : (([PyData.tuple [.int l.1.1, .int l.1.2], .tuple [.int l.2.1, .int l.2.2]] : List PyData).any fun z => PyData.eqv z (.tuple [.int x.1, .int x.2])) = has x l := by
    rw [List.any_cons, List.any_cons, List.any_nil, eqv_end, eqv_end, Bool.or_false]
    rfl
  rw [e1]
  exact k
def sp__law_at (w : World) : Sp := fun vs H Q _ => ∃ (B : Hp) (d e : Addr) (es : List Ent) (M : Mp) (x : E2), vs = [.ref d, .ref e] ∧ Hs B [(d, DN w d es)] H ∧ EntM H es M ∧ M.length ≤ 1000 ∧ H e = some (endO x) ∧
  ∀ r us H', Hs B [(r, .lst us), (d, DN w d es)] H' → LkL H' us (atM M x) → Q (.ref r) H'
theorem ok__law_at (T : Txt K mg a) : FnOk P w K mg base CX0 1 a._law_at a.fd__law_at ["known", "end"] (sp__law_at w) := by
  refine T.fn__law_at.ok sc__law_at (fun vs H Q E h => ?_) (fun cdv A outer s H vs Q E hr h => ?_)
  · obtain ⟨_, _, _, _, _, _, rfl, _⟩ := h
    rfl
  · obtain ⟨B, d, e, es, M, x, rfl, hs, he, hl, hx, k⟩ := h
    obtain ⟨B1, sb, hs1, tb⟩ := hs.ground rfl
    have he1 := EntM.mono tb he
    have hx1 := tb _ _ hx
    clear hs he hx
    refine ⟨_, (pss_one (ps_ret (pe_lc (own := [("link", 2)]) (g := (gName 2)) rfl sc__law_at.nd (pi_listK (K := K) (pe_callB (cr_sortDN (w := w) (c := some 2) (sh := [some 2]) rfl (r64 hr)) (by rfl) T.mg_sorted (by decide +kernel) (pa_cons (pv 0) pa_nil))) (blkOk_by (own := [("link", 2)]) (N := N__law_at) (sc := defScope s__law_at) (by decide +kernel)) (fun _ _ _ _ _ => by exact (pg_name (i := 2) sc__law_at.nd rfl (Or.inl rfl))) (fun _ _ _ _ _ => by exact pts_one (pt_cmpR (op_inDT (K := K) (r65 hr)) (pv 1) (pv 2) (by rfl))) (fun _ _ _ _ _ => by exact (pv 2))))), ?_⟩
    walk_at "ss"
    refine w_lcS ?_
    walk_at "ss"
    refine w_sortD hs1 hs1.g0 he1 fun r ys H2 hL hs2 => ?_
    clear hs1
    have hl2 := LkL.len hL
    rw [srt_len, keys_len] at hl2
    refine w_lcF (has x) (SqL.of hs2.g0) hL (by omega) (fun Q q => q) (fun _ => rfl) (fun _ => rfl) ?_ ?_
    · intro t l H3 hm hk hS R hR
      have hx3 := hS _ _ (hs2.old hx1)
      have hk3 := hk.same (hs2.same.trans hS)
      clear hs2
      walk_at "ss"
      refine w_inL hx3 hk3 ?_
      refine ⟨_, rfl, hR H3 (Same.refl _)⟩
    · intro D acc H3 h1 hA
      have hs3 : Hs B1 [(D, .lst acc), _, _] H3 := hs2.add h1
      walk_at "ss"
      exact k D acc H3 ((hs3.sel [0, 2]).base sb) (LkL.same hs3.same hA)
end
local macro_rules | `(tactic| walk_at "s") => `(tactic| first
  | with_reducible refine w_nget ?_
  | with_reducible refine w_nin ?_
  | with_reducible refine w_nnot ?_
  | with_reducible refine w_nput ?_
  | with_reducible refine w_ndel ?_
  | with_reducible refine w_npop ?_
  | ((with_reducible refine' w_nnew ?hs ?_); (case hs => assumption); intro _ _ _))

section
variable {P : Program} {w : World} {K : PySem.W.Frag} {mg : Str → Option Value} {base : Heap} {a : Ad}
def sp_law (K : PySem.W.Frag) : Sp := fun vs H Q _ => ∃ (x : Addr) (ns : List Int), vs = [.ref x] ∧ SqL K H x (ns.map V.int) ∧ ns.length ≤ 63 ∧ ∀ H', Q (.bl true) H'
theorem w_draw {B H : Hp} {Q : VK} {E : XK} {s c : Addr} {m many : Int} {cells : List Int} {R : List (Addr × HO)} (hs : Hs B ((s, sto c m) :: (c, clo cells) :: R) H) (g : Good m cells) (hm : many < 1000000000)
    (q : ∀ r m' cells' H', Hs B ((s, sto c m') :: (c, clo cells') :: R) H' → Good m' cells' → (many < 1 → r = 0) → (1 ≤ many → 0 ≤ r ∧ r < many) → Q (.int r) H') : sp__law_draw [.ref s, .int many] H Q E := by
  obtain ⟨B', _, h1, back⟩ := hs.frame2
  exact ⟨B', s, c, m, many, cells, rfl, h1, g, hm, fun r m' cells' H' h2 => q r m' cells' H' (back _ _ h2)⟩
/-! ### what a link that is seen does -/
def lostM (M : Mp) (x y : E2) : List Lk := if x.1 = y.1 then [] else if mkL x y ∈ keysM M then [] else atM M x ++ atM (dropM M (atM M x)) y
def keepM (M : Mp) (x y : E2) : Mp := if mkL x y ∈ keysM M then M else dropM M (atM M x ++ atM (dropM M (atM M x)) y)
def seeM (M : Mp) (x y : E2) (now : Int) : Mp := if x.1 = y.1 then M else putM (keepM M x y) (mkL x y) now
def VB (M : Mp) (c : Int) : Prop := ∀ x ∈ M, x.2 ≤ c
theorem VB.drop {M : Mp} {c : Int} (h : VB M c) (ls : List Lk) : VB (dropM M ls) c := fun x hx => h x (List.mem_filter.mp hx).1
theorem VB.mono {M : Mp} {c c' : Int} (h : VB M c) (e : c ≤ c') : VB M c' := fun x hx => Int.le_trans (h x hx) e
theorem VB.put {M : Mp} {c : Int} (h : VB M c) {l : Lk} {n : Int} (hn : n ≤ c) : VB (putM M l n) c := fun x hx => by
  unfold putM at hx
  split at hx
  · obtain ⟨y, hy, rfl⟩ := List.mem_map.mp hx
    by_cases hc : y.1 = l
    · rw [if_pos hc]
      exact hn
    · rw [if_neg hc]
      exact h y hy
  · rcases List.mem_append.mp hx with m | m
    · exact h x m
    · rw [List.mem_singleton.mp m]
      exact hn
theorem VB.see {M : Mp} {c : Int} (h : VB M c) {x y : E2} : VB (seeM M x y c) c := by
  unfold seeM keepM
  split
  · exact h
  · split
    · exact h.put (Int.le_refl c)
    · exact (h.drop _).put (Int.le_refl c)
theorem see_len {M : Mp} {x y : E2} {n : Int} : (seeM M x y n).length ≤ M.length + 1 := by
  unfold seeM keepM
  split
  · omega
  · split
    · exact put_len
    · have h1 := put_len (M := dropM M (atM M x ++ atM (dropM M (atM M x)) y)) (l := mkL x y) (n := n)
      have h2 := drop_len (M := M) (ls := atM M x ++ atM (dropM M (atM M x)) y)
      omega
theorem IM.see {M : Mp} (im : IM M) {x y : E2} {n : Int} : IM (seeM M x y n) := by
  unfold seeM keepM
  split
  · exact im
  · next h0 =>
    split
    · next h1 => exact im.put_old n h1
    · refine (IM.put_new (im.drop _) n h0 (at_none fun l hl => List.mem_append_left _ hl) (at_none fun l hl => ?_)).1
      rw [← at_two]
      by_cases hc : l ∈ atM M x
      · exact List.mem_append_left _ hc
      · exact List.mem_append_right _ (List.mem_filter.mpr ⟨hl, decide_eq_true hc⟩)
theorem lost_nodup {M : Mp} (im : IM M) {x y : E2} : (atM M x ++ atM (dropM M (atM M x)) y).Nodup := by
  rw [← at_two, List.nodup_append]
  refine ⟨at_nodup im x, (at_nodup im y).filter _, fun l hl m hm e => ?_⟩
  subst e
  exact (of_decide_eq_true (List.mem_filter.mp hm).2) hl
theorem lost_mem {M : Mp} {x y : E2} {l : Lk} (h : l ∈ atM M x ++ atM (dropM M (atM M x)) y) : l ∈ keysM M := by
  rw [← at_two] at h
  rcases List.mem_append.mp h with m | m
  · exact (mem_at.mp m).1
  · exact (mem_at.mp (List.mem_filter.mp m).1).1
theorem val_mem {M : Mp} {l : Lk} {n : Int} (h : valM M l = some n) : (l, n) ∈ M := by
  unfold valM at h
  obtain ⟨x, hx, e⟩ := Option.map_eq_some_iff.mp h
  have e1 : x.1 = l := by simpa using List.find?_some hx
  have := List.mem_of_find?_eq_some hx
  rw [← e1, ← e]
  exact this
theorem old_all {M : Mp} {c : Int} (h : VB M c) : oldL M c = srt (keysM M) := by
  unfold oldL
  rw [List.filter_eq_self]
  intro l hl
  obtain ⟨n, hn⟩ := val_of (mem_srt.mp hl)
  unfold oldP
  rw [hn]
  exact decide_eq_true (h _ (val_mem hn))
theorem drop_all {M : Mp} : dropM M (srt (keysM M)) = [] := by
  unfold dropM
  rw [List.filter_eq_nil_iff]
  intro x hx h
  exact (of_decide_eq_true h) (mem_srt.mpr (List.mem_map.mpr ⟨x, hx, rfl⟩))
/-! ### calls, among other things -/
section
variable {B H : Hp} {Q : VK} {E : XK} {s ds d e o kd : Addr} {es : List Ent} {M : Mp} {x y : E2} {now age : Int} {R : List (Addr × HO)}
theorem w_see (hs : Hs B (seenL w a s ds d es ++ R) H) (he : EntM H es M) (im : IM M) (hl : M.length ≤ 900) (hx : H e = some (endO x)) (hy : H o = some (endO y))
    (k : ∀ r us es' H', Hs B (((r, .lst us) :: seenL w a s ds d es') ++ R) H' → LkL H' us (lostM M x y) → EntM H' es' (seeM M x y now) → Q (.ref r) H') : sp_Seen_see w a [.ref s, .ref e, .ref o, .int now] H Q E := by
  obtain ⟨h0, h1, back⟩ := hs.frame (seenL w a s ds d es)
  refine ⟨_, s, ds, d, e, o, es, M, x, y, now, rfl, h1, he, im, hl, hx, hy, fun c r H' h2 => ?_, fun c m r es' H' h2 h3 => ?_, fun c m r us es' H' h2 h3 h4 => ?_⟩
  · have := k r [] es H' (back _ _ h2)
    unfold lostM seeM at this
    rw [if_pos c, if_pos c] at this
    refine this .nil ?_
    obtain ⟨B1, sb, h5, tb⟩ := h1.ground rfl
    exact EntM.mono (fun p xs q => by
      have q1 := tb p xs q
      have nt : ∀ z ∈ seenL w a s ds d es, ∀ ys, H z.1 ≠ some (.tup ys) := fun z hz ys c => by
        have c2 := h1.at_ z hz
        rw [c2] at c
        rcases List.mem_cons.mp hz with rfl | hz
        · cases c
        · rw [List.mem_singleton.mp hz] at c
          cases c
      have q2 : around (seenL w a s ds d es) H p = some (.tup xs) := by
        rw [around_out fun m => ?_]
        · exact q
        · obtain ⟨z, hz, rfl⟩ := List.mem_map.mp m
          exact nt z hz xs q
      exact h2.same _ _ q2) he
  · have := k r [] es' H' (back _ _ h2)
    unfold lostM seeM keepM at this
    rw [if_neg c, if_pos m, if_neg c, if_pos m] at this
    exact this .nil h3
  · have := k r us es' H' (back _ _ h2)
    unfold lostM seeM keepM at this
    rw [if_neg c, if_neg m, if_neg c, if_neg m] at this
    exact this h3 h4
theorem w_old (hs : Hs B (seenL w a s ds d es ++ R) H) (he : EntM H es M) (im : IM M) (hl : M.length ≤ 1000) (k : ∀ r us es' H', Hs B (((r, .lst us) :: seenL w a s ds d es') ++ R) H' → LkL H' us (oldL M (now - age)) → EntM H' es' (dropM M (oldL M (now - age))) → Q (.ref r) H') : sp_Seen_old w a [.ref s, .int now, .int age] H Q E := by
  obtain ⟨_, h1, back⟩ := hs.frame (seenL w a s ds d es)
  exact ⟨_, s, ds, d, es, M, now, age, rfl, h1, he, im, hl, fun r us es' H' h2 h3 h4 => k r us es' H' (back _ _ h2) h3 h4⟩
theorem w_at (hs : Hs B ((kd, DN w kd es) :: R) H) (he : EntM H es M) (hl : M.length ≤ 1000) (hx : H e = some (endO x)) (k : ∀ r us H', Hs B ((r, .lst us) :: (kd, DN w kd es) :: R) H' → LkL H' us (atM M x) → Q (.ref r) H') : sp__law_at w [.ref kd, .ref e] H Q E := by
  obtain ⟨_, h1, back⟩ := hs.frame [(kd, DN w kd es)]
  exact ⟨_, kd, e, es, M, x, rfl, h1, he, hl, hx, fun r us H' h2 h3 => k r us H' (back _ _ h2) h3⟩
theorem same_one {H H' B' : Hp} {p : Addr} {u : HO} {L : List (Addr × HO)} (h : H p = some u) (hs : Hs (around [(p, u)] H) L H') (hm : (p, u) ∈ L) : Same H H' := fun q v ev => by
  by_cases hq : q = p
  · subst hq
    rw [h] at ev
    cases ev
    exact hs.at_ _ hm
  · refine hs.same q v ?_
    rw [around_out fun m => hq (List.mem_singleton.mp m)]
    exact ev
theorem hs_one {H : Hp} {p : Addr} {u : HO} (h : H p = some u) : Hs (around [(p, u)] H) [(p, u)] H := by
  refine ⟨fun q v ev => ?_, List.pairwise_singleton _ _, fun z hz => ?_, fun z hz => ?_⟩
  · unfold around at ev
    split at ev
    · cases ev
    · exact ev
  · rw [List.mem_singleton.mp hz]
    exact if_pos List.mem_cons_self
  · rw [List.mem_singleton.mp hz]
    exact h
theorem w_atS (h : H kd = some (DN w kd es)) (he : EntM H es M) (hl : M.length ≤ 1000) (hx : H e = some (endO x)) (k : ∀ r us H', Same H H' → H' r = some (.lst us) → LkL H' us (atM M x) → Q (.ref r) H') : sp__law_at w [.ref kd, .ref e] H Q E :=
  ⟨_, kd, e, es, M, x, rfl, hs_one h, he, hl, hx, fun r us H' h2 h3 => k r us H' (same_one (B' := H) h h2 (List.mem_cons_of_mem _ List.mem_cons_self)) h2.g0 h3⟩
theorem w_links2 (hs : Hs B (seenL w a s ds d es ++ R) H) (he : EntM B es M) (k : ∀ r ys H', LkL H' ys (srt (keysM M)) → Hs B ((r, .lst ys) :: (seenL w a s ds d es ++ R)) H' → Q (.ref r) H') : sp_Seen_links w a [.ref s] H Q E := w_links hs he k
theorem w_minT {p q : Addr} (h1 : H p = some (endO x)) (h2 : H q = some (endO y)) (k : Q (.ref (if lexI [y.1, y.2] [x.1, x.2] = true then q else p)) H) : rMinT false [.ref p, .ref q] H Q := ⟨p, q, [x.1, x.2], [y.1, y.2], rfl, h1, h2, rfl, k⟩
theorem w_maxT {p q : Addr} (h1 : H p = some (endO x)) (h2 : H q = some (endO y)) (k : Q (.ref (if lexI [x.1, x.2] [y.1, y.2] = true then q else p)) H) : rMinT true [.ref p, .ref q] H Q := ⟨p, q, [x.1, x.2], [y.1, y.2], rfl, h1, h2, rfl, k⟩
theorem nk_minmax {t p q : Addr} (ht : H t = some (.tup [.ref (if lexI [y.1, y.2] [x.1, x.2] = true then q else p), .ref (if lexI [x.1, x.2] [y.1, y.2] = true then q else p)])) (h1 : H p = some (endO x)) (h2 : H q = some (endO y)) (h0 : x.1 ≠ y.1) : NK H (lkK (mkL x y)) (.ref t) := by
  unfold mkL
  rw [lexI_ne h0, lexI_ne (fun z => h0 z.symm)] at ht
  rw [lexI_ne h0]
  by_cases hc : x.1 < y.1
  · rw [if_neg (by rw [decide_eq_true_eq]; omega), if_pos (decide_eq_true hc)] at ht
    rw [if_pos (decide_eq_true hc)]
    exact nk_mk ht h1 h2
  · rw [if_pos (by rw [decide_eq_true_eq]; omega), if_neg (by rw [decide_eq_true_eq]; exact hc)] at ht
    rw [if_neg (by rw [decide_eq_true_eq]; exact hc)]
    exact nk_mk ht h2 h1
theorem w_niL {r t : Addr} {us : List V} {ls : List Lk} {l : Lk} (hr : H r = some (.lst us)) (hL : LkL H us ls) (hk : NK H (lkK l) (.ref t)) (k : Q (.bl (decide (l ∉ ls))) H) : rInDL K true (.ref t) (.ref r) H Q := by
  have h2 : Im K H (.ref t) (lkK l).data := hk.im
  refine ⟨(lkK l).data, ls.map fun l => (lkK l).data, h2.dp, .lst (SqL.of hr) hL.ima.dp, ?_, shp_list lk_ok, ?_⟩
  · rw [lk_data]
    simp [SeqAt.shaped, PyData.canLay0, PyData.canLayAll0, PyData.depth, PyData.depthAll]
  · have e : ((ls.map fun l => (lkK l).data).any fun z => PyData.eqv z (lkK l).data) = decide (l ∈ ls) := by
      rw [List.any_map]
      have e2 : ((fun z => PyData.eqv z (lkK l).data) ∘ fun l => (lkK l).data) = fun m => decide (m = l) := funext fun m => eqv_link
      rw [e2]
      by_cases hm : l ∈ ls
      · rw [decide_eq_true hm]
        exact List.any_eq_true.mpr ⟨l, hm, decide_eq_true rfl⟩
      · rw [decide_eq_false hm]
        cases q : ls.any fun m => decide (m = l) with
        | false => rfl
        | true =>
          obtain ⟨m, h3, h4⟩ := List.any_eq_true.mp q
          rw [of_decide_eq_true h4] at h3
          exact absurd h3 hm
    rw [e]
    have e3 : (!decide (l ∈ ls)) = decide (l ∉ ls) := by rw [← decide_not]
    show Q (.bl (if true then !decide (l ∈ ls) else decide (l ∈ ls))) H
    rw [if_pos rfl, e3]
    exact k
end
end
local macro_rules | `(tactic| walk_at "s") => `(tactic| first
  | with_reducible refine w_nget ?_
  | with_reducible refine w_nin ?_
  | with_reducible refine w_nnot ?_
  | with_reducible refine w_nput ?_
  | with_reducible refine w_ndel ?_
  | with_reducible refine w_npop ?_
  | ((with_reducible refine' w_nnew ?hs ?_); (case hs => assumption); intro _ _ _))

section
variable {P : Program} {w : World} {K : PySem.W.Frag} {mg : Str → Option Value} {base : Heap} {a : Ad}
structure Ad0 where
  (st c s ds d kd : Addr)
abbrev lw (w : World) (a : Ad) (z : Ad0) (m : Int) (cells : List Int) (es es2 : List Ent) : List (Addr × HO) := (z.st, sto z.c m) :: (z.c, clo cells) :: (z.kd, DN w z.kd es2) :: seenL w a z.s z.ds z.d es
theorem ok_law (T : Txt K mg a) : FnOk P w K mg base CX0 4 a.law a.fd_law ["script"] (sp_law K) := by
  have G__law_state := ok__law_state (P := P) (w := w) (base := base) T
  have G__law_draw := ok__law_draw (P := P) (w := w) (base := base) T
  have G__law_at := ok__law_at (P := P) (w := w) (base := base) T
  have G_Seen_init := ok_Seen_init (P := P) (w := w) (base := base) T
  have G_Seen_links := ok_Seen_links (P := P) (w := w) (base := base) T
  have G_Seen_see := ok_Seen_see (P := P) (w := w) (base := base) T
  have G_Seen_lose := ok_Seen_lose (P := P) (w := w) (base := base) T
  have G_Seen_old := ok_Seen_old (P := P) (w := w) (base := base) T
  refine T.fn_law.ok sc_law (fun vs H Q E h => ?_) (fun cdv A outer s H vs Q E hr h => ?_)
  · obtain ⟨_, _, rfl, _⟩ := h
    rfl
  · obtain ⟨x, ns, rfl, hx, hl, k⟩ := h
    have hu := hu_of hr
    have c1 := T.cl_Seen
    refine ⟨_, (pss_cons (ps_set (i := 1) sc_law.nd rfl (Or.inl rfl) (pe_call G__law_state (hr.mono (by decide)) rfl T.mg__law_state T.kp__law_state T.bi__law_state .nil pass0 (pa_cons (pv 0) pa_nil)))
  (pss_cons (ps_set (i := 2) sc_law.nd rfl (Or.inl rfl) (pe_make0 T.mk_Seen G_Seen_init (hr.mono (by decide)) rfl T.mg_Seen T.bi_Seen_init .nil pass0))
  (pss_cons (ps_set (i := 3) sc_law.nd rfl (Or.inr rfl) (pe_nnew (w := w)))
  (pss_cons (ps_set (i := 4) sc_law.nd rfl (Or.inr rfl) pe_int)
  (pss_cons (ps_for PassesOwn.never rfl (pi_range1 rfl T.mg_range (pa_cons (pe_call G__law_draw (hr.mono (by decide)) rfl T.mg__law_draw T.kp__law_draw T.bi__law_draw .nil pass0 (pa_cons (pv 1) (pa_cons pe_int pa_nil))) pa_nil)) (pg_name (i := 5) sc_law.nd rfl (Or.inl rfl))
  (pss_cons (ps_set (i := 4) sc_law.nd rfl (Or.inr rfl) (pe_op op_add (pv 4) (pe_call G__law_draw (hr.mono (by decide)) rfl T.mg__law_draw T.kp__law_draw T.bi__law_draw .nil pass0 (pa_cons (pv 1) (pa_cons pe_int pa_nil)))))
  (pss_cons (ps_set (i := 6) sc_law.nd rfl (Or.inr rfl) (pe_tup (pa_cons (pe_op op_add pe_int (pe_call G__law_draw (hr.mono (by decide)) rfl T.mg__law_draw T.kp__law_draw T.bi__law_draw .nil pass0 (pa_cons (pv 1) (pa_cons pe_int pa_nil)))) (pa_cons (pe_op op_add pe_int (pe_call G__law_draw (hr.mono (by decide)) rfl T.mg__law_draw T.kp__law_draw T.bi__law_draw .nil pass0 (pa_cons (pv 1) (pa_cons pe_int pa_nil)))) pa_nil))))
  (pss_cons (ps_set (i := 7) sc_law.nd rfl (Or.inl rfl) (pe_tup (pa_cons (pe_op op_add pe_int (pe_call G__law_draw (hr.mono (by decide)) rfl T.mg__law_draw T.kp__law_draw T.bi__law_draw .nil pass0 (pa_cons (pv 1) (pa_cons pe_int pa_nil)))) (pa_cons (pe_op op_add pe_int (pe_call G__law_draw (hr.mono (by decide)) rfl T.mg__law_draw T.kp__law_draw T.bi__law_draw .nil pass0 (pa_cons (pv 1) (pa_cons pe_int pa_nil)))) pa_nil))))
  (pss_cons (ps_set (i := 8) sc_law.nd rfl (Or.inl rfl) (pe_call G__law_draw (hr.mono (by decide)) rfl T.mg__law_draw T.kp__law_draw T.bi__law_draw .nil pass0 (pa_cons (pv 1) (pa_cons pe_int pa_nil))))
  (C8.pss_cut (ps_if (pt_cmpR op_lt (pv 8) pe_int (nomark _))
  (pss_cons (ps_set (i := 9) sc_law.nd rfl (Or.inl rfl) (pe_tup (pa_cons (pe_callB (call_minT rfl (r64 hr)) (by rfl) T.mg_min (by decide +kernel) (pa_cons (pv 6) (pa_cons (pv 7) pa_nil))) (pa_cons (pe_callB (call_maxT rfl (r64 hr)) (by rfl) T.mg_max (by decide +kernel) (pa_cons (pv 6) (pa_cons (pv 7) pa_nil))) pa_nil))))
  (pss_cons (ps_set (i := 10) sc_law.nd rfl (Or.inl rfl) (pe_lst pa_nil))
  (C8.pss_cut (ps_if (pt_cmpR op_ne (pe_ix (ix_tupK (K := K)) (pv 6) pe_int (fun _ _ => rfl)) (pe_ix (ix_tupK (K := K)) (pv 7) pe_int (fun _ _ => rfl)) (nomark _))
  (C8.pss_cut (ps_if (pt_cmp (pc_nnot (w := w) (r64 hr) (pv 9) (pv 3)))
  (pss_cons (ps_set (i := 10) sc_law.nd rfl (Or.inl rfl) (pe_op op_cat (pe_call G__law_at (hr.mono (by decide)) rfl T.mg__law_at T.kp__law_at T.bi__law_at .nil pass0 (pa_cons (pv 3) (pa_cons (pv 6) pa_nil))) (pe_lc (own := [("each", 11)]) (g := (gName 11)) rfl sc_law.nd (pi_listK (K := K) (pe_call G__law_at (hr.mono (by decide)) rfl T.mg__law_at T.kp__law_at T.bi__law_at .nil pass0 (pa_cons (pv 3) (pa_cons (pv 7) pa_nil)))) (blkOk_by (own := [("each", 11)]) (N := N_law) (sc := defScope s_law) (by decide +kernel)) (fun _ _ _ _ _ => by exact (pg_name (i := 11) sc_law.nd rfl (Or.inl rfl))) (fun _ _ _ _ _ => by exact pts_one (pt_cmpR (op_niDL (K := K) (r65 hr)) (pv 11) (pe_call G__law_at (hr.mono (by decide)) rfl T.mg__law_at T.kp__law_at T.bi__law_at .nil pass0 (pa_cons (pv 3) (pa_cons (pv 6) pa_nil))) (by rfl))) (fun _ _ _ _ _ => by exact (pv 11)))))
  (pss_one (ps_for PassesOwn.never rfl (pi_listK (K := K) (pv 10)) (pg_name (i := 11) sc_law.nd rfl (Or.inl rfl))
  (pss_one (ps_expr (pe_npop (w := w) (r64 hr) (pv 3) (pv 11) ⟨rfl, rfl, rfl, rfl⟩))))))
  pss_nil)
  (pss_one (ps_nput (w := w) (r64 hr) (pv 3) (pv 9) (pv 4) rfl)))
  pss_nil)
  (pss_one (ps_set (i := 12) sc_law.nd rfl (Or.inl rfl) (pe_meth (pv 2) T.cl_Seen T.me_Seen_see G_Seen_see (hr.mono (by decide)) T.bi_Seen_see .nil pass0 (pa_cons (pv 6) (pa_cons (pv 7) (pa_cons (pv 4) pa_nil)))))))))
  (pss_one (ps_if (pt_cmpR op_eq (pv 8) pe_int (nomark _))
  (pss_cons (ps_set (i := 10) sc_law.nd rfl (Or.inl rfl) (pe_call G__law_at (hr.mono (by decide)) rfl T.mg__law_at T.kp__law_at T.bi__law_at .nil pass0 (pa_cons (pv 3) (pa_cons (pv 6) pa_nil))))
  (pss_cons (ps_for PassesOwn.never rfl (pi_listK (K := K) (pv 10)) (pg_name (i := 11) sc_law.nd rfl (Or.inl rfl))
  (pss_one (ps_expr (pe_npop (w := w) (r64 hr) (pv 3) (pv 11) ⟨rfl, rfl, rfl, rfl⟩))))
  (pss_one (ps_set (i := 12) sc_law.nd rfl (Or.inl rfl) (pe_meth (pv 2) T.cl_Seen T.me_Seen_lose G_Seen_lose (hr.mono (by decide)) T.bi_Seen_lose .nil pass0 (pa_cons (pv 6) pa_nil))))))
  (pss_cons (ps_set (i := 13) sc_law.nd rfl (Or.inr rfl) (pe_op op_add pe_int (pe_call G__law_draw (hr.mono (by decide)) rfl T.mg__law_draw T.kp__law_draw T.bi__law_draw .nil pass0 (pa_cons (pv 1) (pa_cons pe_int pa_nil)))))
  (pss_cons (ps_setLc (i := 10) (own := [("each", 11)]) (g := (gName 11)) rfl sc_law.nd rfl rfl (sw_true rfl rfl rfl (by decide +kernel)) (pi_listK (K := K) (pe_callB (cr_sortDN (w := w) (c := some 2) (sh := [some 2]) rfl (r64 hr)) (by rfl) T.mg_sorted (by decide +kernel) (pa_cons (pv 3) pa_nil))) (blkOk_by (own := [("each", 11)]) (N := N_law) (sc := defScope s_law) (by decide +kernel)) (fun _ _ _ _ _ => by exact (pg_name (i := 11) sc_law.nd rfl (Or.inl rfl))) (fun _ _ _ _ _ => by exact pts_one (pt_cmpR op_ge (pe_op op_sub (pv 4) (pe_ndget (w := w) (r64 hr) (pv 3) (pv 11) (fun _ _ => rfl))) (pv 13) (nomark _))) (fun _ _ _ _ _ => by exact (pv 11)))
  (pss_cons (ps_for PassesOwn.never rfl (pi_listK (K := K) (pv 10)) (pg_name (i := 11) sc_law.nd rfl (Or.inl rfl))
  (pss_one (ps_expr (pe_npop (w := w) (r64 hr) (pv 3) (pv 11) ⟨rfl, rfl, rfl, rfl⟩))))
  (pss_one (ps_set (i := 12) sc_law.nd rfl (Or.inl rfl) (pe_meth (pv 2) T.cl_Seen T.me_Seen_old G_Seen_old (hr.mono (by decide)) T.bi_Seen_old .nil pass0 (pa_cons (pv 4) (pa_cons (pv 13) pa_nil)))))))))))
  (pss_cons (ps_if (PW.pt (pw_or (pt_not (pt_val (pe_callB (call_isiK (K := K)) (by rfl) T.mg_isinstance (by decide +kernel) (pa_cons (pv 12) (pa_cons (pe_bltn (v := .ty "list") (by rfl) T.mg_list (by decide +kernel) rfl) pa_nil))))) (pw_or (pt_cmpR (op_neDK (K := K) hr.units) (pv 12) (pv 10) (nomark _)) (pw_or1 (pt_cmpR (op_neDK (K := K) hr.units) (pe_meth0 (pv 2) T.cl_Seen T.me_Seen_links G_Seen_links (hr.mono (by decide)) T.bi_Seen_links .nil pass0) (pe_callB (cr_sortDN (w := w) (c := some 2) (sh := [some 2]) rfl (r64 hr)) (by rfl) T.mg_sorted (by decide +kernel) (pa_cons (pv 3) pa_nil)) (nomark _))))))
  (pss_one (ps_ret pe_bl))
  pss_nil)
  (pss_one (ps_expr (pe_bmK (K := K) PySem.F.plainAttrs_list PySem.F.slot_list_append PySem.F.type_list_append mt_append (pv 12) (pa_cons pe_int pa_nil)))))))))))
  (pss_one (ps_ret (pe_and (pe_cmpR (op_eqDK (K := K) hr.units) (pe_meth (pv 2) T.cl_Seen T.me_Seen_old G_Seen_old (hr.mono (by decide)) T.bi_Seen_old .nil pass0 (pa_cons (pe_op op_add (pv 4) pe_int) (pa_cons pe_int pa_nil))) (pe_callB (cr_sortDN (w := w) (c := some 2) (sh := [some 2]) rfl (r64 hr)) (by rfl) T.mg_sorted (by decide +kernel) (pa_cons (pv 3) pa_nil)) (nomark _)) (pe_one (pe_cmpR (op_eqDK (K := K) hr.units) (pe_meth0 (pv 2) T.cl_Seen T.me_Seen_links G_Seen_links (hr.mono (by decide)) T.bi_Seen_links .nil pass0) (pe_lst pa_nil) (nomark _))))))))))), ?_⟩
    walk_at "ss"
    refine ⟨x, ns, rfl, hx, by omega, fun st c m cells H1 hs g => ?_⟩
    walk_at "ss"
    refine w_mkr hs fun s ds H2 hs2 => ?_
    obtain ⟨B', _, h1, back⟩ := hs2.frame1
    refine ⟨B', s, ds, rfl, h1, fun d H3 h3 => ⟨rfl, ?_⟩⟩
    have hs3 : Hs H [_, _, _, _] H3 := back _ _ h3
    clear hs hs2 h1 back h3
    walk_at "ss"
    rename_i kd H4 hs4
    clear hs3
    refine w_for1 ?_
    walk_at "ss"
    have hs : Hs H (lw w a ⟨st, c, s, ds, d, kd⟩ m cells [] []) H4 := hs4.sel [3, 4, 0, 1, 2]
    clear hs4
    refine w_draw hs g (by decide) fun many m cells H5 hs g _ hmany => ?_
    obtain ⟨hm0, hm1⟩ := hmany (by decide)
    walk_at "ss"
    refine w_forR (n := many) (by omega) (fun i σ H' => ∃ (now : Int) (v5 v6 v7 v8 v9 v10 v11 v12 v13 : Option V) (m : Int) (cells : List Int) (es es2 : List Ent) (M : Mp),
      σ = [some (.ref x), some (.ref st), some (.ref s), some (.ref kd), some (.int now), v5, v6, v7, v8, v9, v10, v11, v12, v13] ∧
      Hs H (lw w a ⟨st, c, s, ds, d, kd⟩ m cells es es2) H' ∧ Good m cells ∧ EntM H' es M ∧ EntM H' es2 M ∧ IM M ∧ M.length ≤ i ∧ VB M now) (fun Q q => q) (by omega)
      ⟨0, none, none, none, none, none, none, none, none, none, m, cells, [], [], [], rfl, hs, g, .nil, .nil, IM.nil, Nat.le_refl _, fun _ h => nomatch h⟩ ?_ ?_
    · clear hs g
      rintro i σ H5 hi ⟨now, v5, v6, v7, v8, v9, v10, v11, v12, v13, m, cells, es, es2, M, rfl, hs, g, he, he2, im, hlen, vb⟩
      obtain ⟨B1, sb1, hs1, tb1⟩ := hs.ground rfl
      have he := EntM.mono tb1 he
      have he2 := EntM.mono tb1 he2
      clear hs
      walk_at "ss"
      refine w_draw hs1 g (by decide) fun r1 m cells H6 hs2 g _ hr1 => ?_
      obtain ⟨hr10, _⟩ := hr1 (by decide)
      clear hs1
      walk_at "ss"
      refine w_draw hs2 g (by decide) fun x1 m cells H6 hs3 g _ _ => ?_
      clear hs2
      walk_at "ss"
      refine w_draw hs3 g (by decide) fun x2 m cells H6 hs4 g _ _ => ?_
      clear hs3
      walk_at "ss"
      rename_i p1 H7 hs5
      clear hs4
      obtain ⟨f1, hs6⟩ := hs5.freeze
      have hp1 : upd B1 p1 (.tup [.int (1 + x1), .int (1 + x2)]) p1 = some (endO (1 + x1, 1 + x2)) := upd_same
      generalize upd B1 p1 (.tup [.int (1 + x1), .int (1 + x2)]) = B2 at f1 hs6 hp1
      clear hs5
      refine w_draw hs6 g (by decide) fun y1 m cells H8 hs7 g _ _ => ?_
      clear hs6
      walk_at "ss"
      refine w_draw hs7 g (by decide) fun y2 m cells H9 hs8 g _ _ => ?_
      clear hs7
      walk_at "ss"
      rename_i p2 H10 hs9
      clear hs8
      obtain ⟨f2, hs10⟩ := hs9.freeze
      have hp2 : upd B2 p2 (.tup [.int (1 + y1), .int (1 + y2)]) p2 = some (endO (1 + y1, 1 + y2)) := upd_same
      generalize upd B2 p2 (.tup [.int (1 + y1), .int (1 + y2)]) = B3 at f2 hs10 hp2
      clear hs9
      have hp1 := f2 _ _ hp1
      have he := EntM.same f2 (EntM.same f1 he)
      have he2 := EntM.same f2 (EntM.same f1 he2)
      refine w_draw hs10 g (by decide) fun kind m cells H11 hs g _ hkind => ?_
      clear hs10
      walk_at "ss"
      generalize ((1 + x1, 1 + x2) : E2) = X at hp1
      generalize ((1 + y1, 1 + y2) : E2) = Y at hp2
      refine w_cut (fun σ' H' => ∃ (v9 v11 v13 : Option V) (r r2 : Addr) (us us2 : List V) (ls : List Lk) (m : Int) (cells : List Int) (es es2 : List Ent) (M' : Mp),
        σ' = [some (.ref x), some (.ref st), some (.ref s), some (.ref kd), some (.int (now + r1)), some (.int i), some (.ref p1), some (.ref p2), some (.int kind), v9, some (.ref r2), v11, some (.ref r), v13] ∧
        Hs B3 ((r, .lst us) :: (r2, .lst us2) :: lw w a ⟨st, c, s, ds, d, kd⟩ m cells es es2) H' ∧ Good m cells ∧ LkL H' us ls ∧ LkL H' us2 ls ∧ ls.length ≤ 900 ∧ EntM H' es M' ∧ EntM H' es2 M' ∧ IM M' ∧ M'.length ≤ i + 1 ∧ VB M' (now + r1)) ?_ ?_
      · walk_at "ss"
        refine ifd (fun k1 => ?_) (fun k1 => ?_)
        · walk_at "ss"
          refine w_minT (hs.old hp1) (hs.old hp2) ?_
          walk_at "ss"
          refine w_maxT (hs.old hp1) (hs.old hp2) ?_
          walk_at "ss"
          rename_i t H12 hs1 r2 H13 hs2
          clear hs hs1
          have hkt : X.1 ≠ Y.1 → NK H13 (lkK (mkL X Y)) (.ref t) := nk_minmax hs2.g1 (hs2.old hp1) (hs2.old hp2)
          obtain ⟨B4, f4, hs, tb4⟩ := (show Hs B3 ((r2, .lst []) :: lw w a ⟨st, c, s, ds, d, kd⟩ m cells es es2) H13 from hs2.sel [0, 2, 3, 4, 5, 6]).ground rfl
          clear hs2
          have hk4 : X.1 ≠ Y.1 → NK B4 (lkK (mkL X Y)) (.ref t) := fun h => (hkt h).mono tb4
          have hp1 := f4 _ _ hp1
          have hp2 := f4 _ _ hp2
          have he := EntM.same f4 he
          have he2 := EntM.same f4 he2
          refine w_cut (fun σ' H' => ∃ (v11 : Option V) (r2 : Addr) (us2 : List V) (es3 : List Ent), σ' = [some (.ref x), some (.ref st), some (.ref s), some (.ref kd), some (.int (now + r1)), some (.int i), some (.ref p1), some (.ref p2), some (.int kind), some (.ref t), some (.ref r2), v11, v12, v13] ∧
            Hs B4 ((r2, .lst us2) :: lw w a ⟨st, c, s, ds, d, kd⟩ m cells es es3) H' ∧ LkL H' us2 (lostM M X Y) ∧ EntM H' es3 (seeM M X Y (now + r1))) ?_ ?_
          · walk_at "ss"
            refine ifn (fun h0 => ?_) (fun h0 => ?_)
            · walk_at "ss"
              refine w_cut (fun σ' H' => ∃ (v11 : Option V) (r2 : Addr) (us2 : List V) (es3 : List Ent), σ' = [some (.ref x), some (.ref st), some (.ref s), some (.ref kd), some (.int (now + r1)), some (.int i), some (.ref p1), some (.ref p2), some (.int kind), some (.ref t), some (.ref r2), v11, v12, v13] ∧
                Hs B4 ((r2, .lst us2) :: lw w a ⟨st, c, s, ds, d, kd⟩ m cells es es3) H' ∧ LkL H' us2 (lostM M X Y) ∧ EntM H' es3 (keepM M X Y)) ?_ ?_
              · walk_at "ss"
                refine wn_in hs (hs.get (i := 3) rfl) he2 (hk4 h0) ?_
                cases hb : (valM M (mkL X Y)).isSome with
                | true =>
                  have hm := val_some.mp hb
                  refine ⟨false, rfl, iteF ?_⟩
                  walk_at "ss"
                  refine ⟨v11, r2, [], es2, rfl, hs, ?_, ?_⟩
                  · unfold lostM
                    rw [if_neg h0, if_pos hm]
                    exact .nil
                  · unfold keepM
                    rw [if_pos hm]
                    exact EntM.same hs.same he2
                | false =>
                  have hm : mkL X Y ∉ keysM M := fun z => by
                    have := val_some.mpr z
                    rw [hb] at this
                    cases this
                  refine ⟨true, rfl, iteT ?_⟩
                  walk_at "ss"
                  have hs1 : Hs B4 ((kd, DN w kd es2) :: ((r2, .lst []) :: (st, sto c m) :: (c, clo cells) :: seenL w a s ds d es)) H13 := hs.sel [3, 0, 1, 2, 4, 5]
                  refine w_at hs1 (EntM.same hs.same he2) (by omega) (hs.old hp1) fun ra ua H14 hs2 hLa => ?_
                  clear hs1 hs
                  obtain ⟨B5, f5, hs3, tb5⟩ := (show Hs B4 [_, _, _, _, _, _, _] H14 from hs2).ground rfl
                  have hLa := LkL.mono tb5 hLa
                  clear hs2
                  walk_at "ss"
                  refine w_lcS ?_
                  walk_at "ss"
                  have hs4 : Hs B5 ((kd, DN w kd es2) :: ((ra, .lst ua) :: (r2, .lst []) :: (st, sto c m) :: (c, clo cells) :: seenL w a s ds d es)) H14 := hs3.sel [1, 0, 2, 3, 4, 5, 6]
                  refine w_at hs4 (EntM.same hs3.same (EntM.same f5 he2)) (by omega) (hs3.old (f5 _ _ hp2)) fun rb ub H15 hs5 hLb => ?_
                  clear hs3 hs4
                  obtain ⟨B6, f6, hs6, tb6⟩ := (show Hs B5 [_, _, _, _, _, _, _, _] H15 from hs5).ground rfl
                  have hLb := LkL.mono tb6 hLb
                  clear hs5
                  have hlb := LkL.len hLb
                  have h9 := at_len (M := M) (e := Y)
                  have h8 := at_len (M := M) (e := X)
                  refine w_lcF (fun l => decide (l ∉ atM M X)) (SqL.of hs6.g0) hLb (by omega) (fun Q q => q) (fun _ => rfl) (fun _ => rfl) ?_ ?_
                  · intro u l H16 hm' hk hS R hR
                    have hkd := hS _ _ (hs6.get (i := 1) rfl)
                    have hp1' := hS _ _ (hs6.old (f6 _ _ (f5 _ _ hp1)))
                    have he' := EntM.same (hs6.same.trans hS) (EntM.same f6 (EntM.same f5 he2))
                    have hk' := hk.same (hs6.same.trans hS)
                    clear hs6
                    walk_at "ss"
                    refine w_atS hkd he' (by omega) hp1' fun rc uc H17 hS2 hrc hLc => ?_
                    walk_at "ss"
                    refine w_niL hrc hLc (hk'.same hS2) ?_
                    exact ⟨_, rfl, hR H17 hS2⟩
                  · intro D acc H16 h1 hA
                    have hs7 : Hs B6 [_, _, _, _, _, _, _, _, _] H16 := hs6.add h1
                    clear hs6
                    have hla := LkL.len hLa
                    have hlA := LkL.len hA
                    have h7 := List.length_filter_le (fun l => decide (l ∉ atM M X)) (atM M Y)
                    walk_at "ss"
                    rename_i r3 H17 hs8
                    clear hs7
                    have hL3 : LkL B6 (ua ++ acc) (atM M X ++ atM (dropM M (atM M X)) Y) := by
                      rw [← at_two]
                      exact LkL.app (LkL.same f6 hLa) hA
                    have hs9 : Hs B6 ((r3, .lst (ua ++ acc)) :: lw w a ⟨st, c, s, ds, d, kd⟩ m cells es es2) H17 := hs8.sel [0, 6, 7, 3, 8, 9]
                    clear hs8
                    show tFor (iList K (tVar 10)) (gName 11) _ _ _ _
                    refine w_forL (SqL.of hs9.g0) (fun j σ H' => ∃ (v11 : Option V) (es3 : List Ent), σ = [some (.ref x), some (.ref st), some (.ref s), some (.ref kd), some (.int (now + r1)), some (.int i), some (.ref p1), some (.ref p2), some (.int kind), some (.ref t), some (.ref r3), v11, v12, v13] ∧
                      Hs B6 ((r3, .lst (ua ++ acc)) :: lw w a ⟨st, c, s, ds, d, kd⟩ m cells es es3) H' ∧ EntM B6 es3 (dropM M (List.take j (atM M X ++ atM (dropM M (atM M X)) Y)))) (fun Q q => ⟨_, rfl, q⟩) ⟨_, es2, rfl, hs9, ?_⟩ (fun j σ H' _ ⟨_, _, _, h, _⟩ => SqL.of h.g0) ?_ ?_
                    · rw [List.take_zero, drop_nil]
                      exact (EntM.same f6 (EntM.same f5 he2))
                    · clear hs9
                      rintro j yy σ H30 hj ⟨v11, es3, rfl, hsP, heP⟩
                      obtain ⟨u, l, rfl, hlj, hk⟩ := LkL.get hL3 hj
                      obtain ⟨n, hn⟩ := val_of (lost_mem (List.mem_of_getElem? hlj))
                      walk_at "ss"
                      refine ⟨⟨kd, es3, rfl, hsP.get (i := 3) rfl⟩, ?_⟩
                      walk_at "ss"
                      refine wn_del hsP (by walk_at "p") heP hk (n := n) (by rw [val_drop (nodup_at (lost_nodup im) hlj)]; exact hn) fun H31 hsR heR => ?_
                      walk_at "ss"
                      refine ⟨_, _, rfl, hsR, ?_⟩
                      rw [take_next hlj, ← drop_snoc]
                      exact heR
                    · clear hs9
                      rintro σ H30 ⟨v11, es3, rfl, hsP, heP⟩
                      rw [LkL.len hL3, List.take_length] at heP
                      walk_at "ss"
                      refine ⟨_, r3, _, es3, rfl, (hsP.base f6).base f5, ?_, ?_⟩
                      · unfold lostM
                        rw [if_neg h0, if_neg hm]
                        exact LkL.same hsP.same hL3
                      · unfold keepM
                        rw [if_neg hm]
                        exact EntM.same hsP.same heP
              · rintro σ' H' ⟨v11, r2, us2, es3, rfl, hs1, hL, he'⟩
                clear hs
                obtain ⟨B5, f5, hs2, tb5⟩ := hs1.ground rfl
                clear hs1
                have hkl : (keepM M X Y).length ≤ 1000 := by
                  unfold keepM
                  split
                  · omega
                  · have := drop_len (M := M) (ls := atM M X ++ atM (dropM M (atM M X)) Y)
                    omega
                walk_at "ss"
                refine wn_put hs2 (by walk_at "p") (EntM.mono tb5 he') ((hk4 h0).same f5) hkl fun H14 hs3 he3 => ?_
                walk_at "ss"
                refine ⟨v11, r2, us2, _, rfl, hs3.base f5, LkL.same hs3.same (LkL.mono tb5 hL), ?_⟩
                unfold seeM
                rw [if_neg h0]
                exact EntM.same hs3.same he3
            · walk_at "ss"
              refine ⟨v11, r2, [], es2, rfl, hs, ?_, ?_⟩
              · unfold lostM
                rw [if_pos h0]
                exact .nil
              · unfold seeM
                rw [if_pos h0]
                exact EntM.same hs.same he2
          · rintro σ' H' ⟨v11, r2, us2, es3, rfl, hs1, hL, he'⟩
            clear hs
            obtain ⟨B5, f5, hs2, tb5⟩ := hs1.ground rfl
            clear hs1
            walk_at "ss"
            have hs3 : Hs B5 (seenL w a s ds d es ++ [(r2, .lst us2), (st, sto c m), (c, clo cells), (kd, DN w kd es3)]) H' := hs2.sel [4, 5, 0, 1, 2, 3]
            refine w_see hs3 (EntM.same hs2.same (EntM.same f5 he)) im (by omega) (hs2.old (f5 _ _ hp1)) (hs2.old (f5 _ _ hp2)) fun r us es' H14 hs4 hLs hes => ?_
            clear hs2 hs3
            have hs5 : Hs B5 [_, _, _, _, _, _, _] H14 := hs4
            clear hs4
            walk_at "ss"
            have hll : (lostM M X Y).length ≤ 900 := by
              unfold lostM
              split
              · exact Nat.zero_le _
              · split
                · exact Nat.zero_le _
                · have h8 := at_len (M := M) (e := X)
                  have h9 := Nat.le_trans (at_len (M := dropM M (atM M X)) (e := Y)) drop_len
                  rw [List.length_append]
                  omega
            have hsl := see_len (M := M) (x := X) (y := Y) (n := now + r1)
            exact ⟨_, v11, v13, r, r2, us, us2, lostM M X Y, m, cells, es', es3, seeM M X Y (now + r1), rfl, (((hs5.sel [0, 3, 4, 5, 6, 1, 2]).base f5).base f4), g, hLs, LkL.same hs5.same (LkL.mono tb5 hL), hll, hes, EntM.same hs5.same (EntM.mono tb5 he'), IM.see im, by omega, (vb.mono (by omega)).see⟩
        · walk_at "ss"
          refine ifd (fun k2 => ?_) (fun k2 => ?_)
          · walk_at "ss"
            have hs1 : Hs B3 ((kd, DN w kd es2) :: ((st, sto c m) :: (c, clo cells) :: seenL w a s ds d es)) H11 := hs.sel [2, 0, 1, 3, 4]
            refine w_at hs1 (EntM.same hs.same he2) (by omega) (hs.old hp1) fun r2 us2 H12 hs2 hL => ?_
            clear hs hs1
            obtain ⟨B4, f4, hs3, tb4⟩ := (show Hs B3 ((r2, .lst us2) :: lw w a ⟨st, c, s, ds, d, kd⟩ m cells es es2) H12 from (show Hs B3 [_, _, _, _, _, _] H12 from hs2).sel [0, 2, 3, 1, 4, 5]).ground rfl
            clear hs2
            have hL4 := LkL.mono tb4 hL
            have h8 := at_len (M := M) (e := X)
            walk_at "ss"
            show tFor (iList K (tVar 10)) (gName 11) _ _ _ _
            refine w_forL (SqL.of hs3.g0) (fun j σ H' => ∃ (v11 : Option V) (es3 : List Ent), σ = [some (.ref x), some (.ref st), some (.ref s), some (.ref kd), some (.int (now + r1)), some (.int i), some (.ref p1), some (.ref p2), some (.int kind), v9, some (.ref r2), v11, v12, v13] ∧
              Hs B4 ((r2, .lst us2) :: lw w a ⟨st, c, s, ds, d, kd⟩ m cells es es3) H' ∧ EntM B4 es3 (dropM M (List.take j (atM M X)))) (fun Q q => ⟨_, rfl, q⟩) ⟨_, es2, rfl, hs3, ?_⟩ (fun j σ H' _ ⟨_, _, _, h, _⟩ => SqL.of h.g0) ?_ ?_
            · rw [List.take_zero, drop_nil]
              exact (EntM.same f4 he2)
            · clear hs3
              rintro j yy σ H30 hj ⟨v11, es3, rfl, hsP, heP⟩
              obtain ⟨u, l, rfl, hlj, hk⟩ := LkL.get hL4 hj
              obtain ⟨n, hn⟩ := val_of ((fun h => (mem_at.mp h).1) (List.mem_of_getElem? hlj))
              walk_at "ss"
              refine ⟨⟨kd, es3, rfl, hsP.get (i := 3) rfl⟩, ?_⟩
              walk_at "ss"
              refine wn_del hsP (by walk_at "p") heP hk (n := n) (by rw [val_drop (nodup_at (at_nodup im X) hlj)]; exact hn) fun H31 hsR heR => ?_
              walk_at "ss"
              refine ⟨_, _, rfl, hsR, ?_⟩
              rw [take_next hlj, ← drop_snoc]
              exact heR
            · clear hs3
              rintro σ H30 ⟨v11, es3, rfl, hsP, heP⟩
              rw [LkL.len hL4, List.take_length] at heP
              walk_at "ss"
              have hs5 : Hs B4 (seenL w a s ds d es ++ [(r2, .lst us2), (st, sto c m), (c, clo cells), (kd, DN w kd es3)]) H30 := hsP.sel [4, 5, 0, 1, 2, 3]
              refine w_lose hs5 (EntM.same hsP.same (EntM.same f4 he)) im (by omega) (hsP.old (f4 _ _ hp1)) fun r us es' H14 hs6 hLs hes => ?_
              clear hsP hs5
              have hs7 : Hs B4 [_, _, _, _, _, _, _] H14 := hs6
              clear hs6
              walk_at "ss"
              have hdl := drop_len (M := M) (ls := atM M X)
              exact ⟨_, v11, v13, r, r2, us, us2, atM M X, m, cells, es', es3, dropM M (atM M X), rfl, ((hs7.sel [0, 3, 4, 5, 6, 1, 2]).base f4), g, hLs, LkL.same hs7.same hL4, by omega, hes, EntM.same hs7.same heP, im.drop _, by omega, (vb.mono (by omega)).drop _⟩
          · walk_at "ss"
            refine w_draw hs g (by decide) fun r5 m cells H12 hs1 g _ hr5 => ?_
            clear hs
            walk_at "ss"
            refine w_lcS ?_
            walk_at "ss"
            refine w_sortD hs1 (hs1.get (i := 2) rfl) he2 fun ra ya H13 hLy hs2 => ?_
            clear hs1
            have hly := LkL.len hLy
            rw [srt_len, keys_len] at hly
            refine w_lcF (oldP M (now + r1 - (1 + r5))) (SqL.of hs2.g0) hLy (by omega) (fun Q q => q) (fun _ => rfl) (fun _ => rfl) ?_ ?_
            · intro u l H14 hm hk hS R hR
              have g1 := hS _ _ (hs2.get (i := 3) rfl)
              obtain ⟨n, hn⟩ := val_of (mem_srt.mp hm)
              have eo : oldP M (now + r1 - (1 + r5)) l = decide (now + r1 - n ≥ 1 + r5) := by
                unfold oldP
                rw [hn]
                exact decide_eq_decide.mpr (by omega)
              have he' := EntM.same (hs2.same.trans hS) he2
              have hk' := hk.same (hs2.same.trans hS)
              have hs3 := Hs.start H14
              clear hs2
              walk_at "ss"
              refine wn_get hs3 g1 he' hk' hn ?_
              walk_at "ss"
              rw [← eo]
              exact hR H14 (Same.refl _)
            · intro r2 us2 H14 h1 hA'
              have hA : LkL B3 us2 (oldL M (now + r1 - (1 + r5))) := hA'
              clear hA'
              have hs3 : Hs B3 [_, _, _, _, _, _, _] H14 := hs2.add h1
              clear hs2
              have hs4 : Hs B3 ((r2, .lst us2) :: lw w a ⟨st, c, s, ds, d, kd⟩ m cells es es2) H14 := hs3.sel [0, 2, 3, 4, 5, 6]
              clear hs3
              walk_at "ss"
              show tFor (iList K (tVar 10)) (gName 11) _ _ _ _
              refine w_forL (SqL.of hs4.g0) (fun j σ H' => ∃ (v11 : Option V) (es3 : List Ent), σ = [some (.ref x), some (.ref st), some (.ref s), some (.ref kd), some (.int (now + r1)), some (.int i), some (.ref p1), some (.ref p2), some (.int kind), v9, some (.ref r2), v11, v12, some (.int (1 + r5))] ∧
                Hs B3 ((r2, .lst us2) :: lw w a ⟨st, c, s, ds, d, kd⟩ m cells es es3) H' ∧ EntM B3 es3 (dropM M (List.take j (oldL M (now + r1 - (1 + r5)))))) (fun Q q => ⟨_, rfl, q⟩) ⟨_, es2, rfl, hs4, ?_⟩ (fun j σ H' _ ⟨_, _, _, h, _⟩ => SqL.of h.g0) ?_ ?_
              · rw [List.take_zero, drop_nil]
                exact he2
              · clear hs4
                rintro j yy σ H30 hj ⟨v11, es3, rfl, hsP, heP⟩
                obtain ⟨u, l, rfl, hlj, hk⟩ := LkL.get hA hj
                obtain ⟨n, hn⟩ := val_of (old_mem (List.mem_of_getElem? hlj))
                walk_at "ss"
                refine ⟨⟨kd, es3, rfl, hsP.get (i := 3) rfl⟩, ?_⟩
                walk_at "ss"
                refine wn_del hsP (by walk_at "p") heP hk (n := n) (by rw [val_drop (nodup_at (old_nodup im _) hlj)]; exact hn) fun H31 hsR heR => ?_
                walk_at "ss"
                refine ⟨_, _, rfl, hsR, ?_⟩
                rw [take_next hlj, ← drop_snoc]
                exact heR
              · clear hs4
                rintro σ H30 ⟨v11, es3, rfl, hsP, heP⟩
                rw [LkL.len hA, List.take_length] at heP
                walk_at "ss"
                have hs5 : Hs B3 (seenL w a s ds d es ++ [(r2, .lst us2), (st, sto c m), (c, clo cells), (kd, DN w kd es3)]) H30 := hsP.sel [4, 5, 0, 1, 2, 3]
                refine w_old hs5 (EntM.same hsP.same he) im (by omega) fun r us es' H15 hs6 hLs hes => ?_
                clear hsP hs5
                have hs7 : Hs B3 [_, _, _, _, _, _, _] H15 := hs6
                clear hs6
                walk_at "ss"
                have hdl := drop_len (M := M) (ls := oldL M (now + r1 - (1 + r5)))
                have hol : (oldL M (now + r1 - (1 + r5))).length ≤ M.length := by
                  unfold oldL
                  refine Nat.le_trans (List.length_filter_le _ _) ?_
                  rw [srt_len, keys_len]
                  exact Nat.le_refl _
                exact ⟨_, v11, _, r, r2, us, us2, oldL M (now + r1 - (1 + r5)), m, cells, es', es3, dropM M (oldL M (now + r1 - (1 + r5))), rfl, hs7.sel [0, 3, 4, 5, 6, 1, 2], g, hLs, LkL.same hs7.same hA, by omega, hes, EntM.same hs7.same heP, im.drop _, by omega, (vb.mono (by omega)).drop _⟩
      · rintro σ' H' ⟨v9, v11, v13, r, r2, us, us2, ls, m, cells, es, es2, M', rfl, hs1, g, hL, hL2, hll, he, he2, im, hlen, vb⟩
        clear hs
        obtain ⟨B4, f4, hs, tb4⟩ := (show Hs B3 ((r, .lst us) :: (r2, .lst us2) :: lw w a ⟨st, c, s, ds, d, kd⟩ m cells es es2) H' from hs1).ground rfl
        clear hs1
        have hL := LkL.mono tb4 hL
        have hL2 := LkL.mono tb4 hL2
        have he := EntM.mono tb4 he
        have he2 := EntM.mono tb4 he2
        walk_at "ss"
        refine w_isL (hs.get (i := 0) rfl) ?_
        walk_at "ss"
        refine iteF ?_
        walk_at "ss"
        refine w_neL hs.g0 hs.g1 (LkL.same hs.same hL).ima (LkL.same hs.same hL2).ima lk_ok ?_
        refine ⟨false, rfl, iteF ?_⟩
        walk_at "ss"
        have hs2 : Hs B4 (seenL w a s ds d es ++ [(r, .lst us), (r2, .lst us2), (st, sto c m), (c, clo cells), (kd, DN w kd es2)]) H' := hs.sel [5, 6, 0, 1, 2, 3, 4]
        refine w_links2 hs2 he fun ra ya H14 hLa hs3 => ?_
        clear hs hs2
        have hs4 : Hs B4 [_, _, _, _, _, _, _, _] H14 := hs3
        clear hs3
        obtain ⟨B5, f5, hs5, tb5⟩ := hs4.ground rfl
        clear hs4
        have hLa := LkL.mono tb5 hLa
        walk_at "ss"
        refine w_sortD hs5 (hs5.get (i := 7) rfl) (EntM.same f5 he2) fun rb yb H15 hLb hs6 => ?_
        clear hs5
        refine w_neL (hs6.get (i := 1) rfl) hs6.g0 (LkL.same hs6.same hLa).ima (LkL.same hs6.same hLb).ima lk_ok ?_
        refine ⟨false, rfl, iteF ?_⟩
        have hlu := LkL.len hL
        walk_at "ss"
        rename_i H16 hs7
        exact ⟨now + r1, _, _, _, _, _, _, _, _, _, m, cells, es, es2, M', rfl, ((((((hs7.sel [6, 7, 8, 2, 3]).base f5).base f4).base f2).base f1).base sb1), g, EntM.same hs7.same (EntM.same f5 he), EntM.same hs7.same (EntM.same f5 he2), im, hlen, vb⟩
    · clear hs g
      rintro σ H5 ⟨now, v5, v6, v7, v8, v9, v10, v11, v12, v13, m, cells, es, es2, M, rfl, hs, g, he, he2, im, hlen, vb⟩
      obtain ⟨B1, f1, hs1, tb1⟩ := hs.ground rfl
      have he := EntM.mono tb1 he
      have he2 := EntM.mono tb1 he2
      clear hs
      walk_at "ss"
      have hs2 : Hs B1 (seenL w a s ds d es ++ [(st, sto c m), (c, clo cells), (kd, DN w kd es2)]) H5 := hs1.sel [3, 4, 0, 1, 2]
      refine w_old hs2 (EntM.same hs1.same he) im (by omega) fun r us es' H6 hs3 hL hes => ?_
      clear hs1 hs2
      have hs4 : Hs B1 [_, _, _, _, _, _] H6 := hs3
      clear hs3
      obtain ⟨B2, f2, hs5, tb2⟩ := hs4.ground rfl
      clear hs4
      have hL := LkL.mono tb2 hL
      have hes := EntM.mono tb2 hes
      have e1 : now + 1 - 1 = now := by omega
      rw [e1, old_all vb] at hL hes
      rw [drop_all] at hes
      walk_at "ss"
      refine w_sortD hs5 (hs5.get (i := 5) rfl) (EntM.same f2 he2) fun rb yb H7 hLb hs6 => ?_
      clear hs5
      refine w_eqL (hs6.get (i := 1) rfl) hs6.g0 (LkL.same hs6.same hL).ima (LkL.same hs6.same hLb).ima lk_ok ?_
      refine ⟨true, rfl, iteT ?_⟩
      walk_at "ss"
      have hs7 : Hs B2 (seenL w a s ds d es' ++ [(rb, .lst yb), (r, .lst us), (st, sto c m), (c, clo cells), (kd, DN w kd es2)]) H7 := hs6.sel [2, 3, 0, 1, 4, 5, 6]
      refine w_links2 hs7 hes fun ra ya H8 hLa hs8 => ?_
      clear hs6 hs7
      have hs9 : Hs B2 [_, _, _, _, _, _, _, _] H8 := hs8
      clear hs8
      walk_at "ss"
      rename_i re H9 hs10
      have hLa2 : LkL H8 ya [] := hLa
      cases hLa2
      refine w_eqL (ds := []) (hs10.get (i := 1) rfl) hs10.g0 .nil .nil (fun _ h => nomatch h) ?_
      exact k _
end
theorem all_mk {l : PySem.W.OpenLaw} {w : World} {K : PySem.W.Frag} {h : Heap} {mg : Str → Option Value} {fa : Addr} (X : K.In h) (G : h.Ns mainGlobals mg) (hfa : mg "law" = some (.ref fa))
    {A_Seen A_link_of A_peer A_Seen_init A_Seen_links A_Seen_lose A_Seen_see A_Seen_old A__law_state A__law_draw A__law_at A_law : Addr} {od_link_of an_link_of od_peer an_peer od_Seen_init an_Seen_init od_Seen_links an_Seen_links od_Seen_lose an_Seen_lose od_Seen_see an_Seen_see od_Seen_old an_Seen_old od__law_state an__law_state od__law_draw an__law_draw od__law_at an__law_at od_law an_law : Option Addr} {sl_link_of sl_peer sl_Seen_init sl_Seen_links sl_Seen_lose sl_Seen_see sl_Seen_old sl__law_state sl__law_draw sl__law_at sl_law : Array (Option Value)} {oc_link_of kV_link_of dc_link_of pm_link_of cd_link_of ct_link_of oc_peer kV_peer dc_peer pm_peer cd_peer ct_peer oc_Seen_init kV_Seen_init dc_Seen_init pm_Seen_init cd_Seen_init ct_Seen_init oc_Seen_links kV_Seen_links dc_Seen_links pm_Seen_links cd_Seen_links ct_Seen_links oc_Seen_lose kV_Seen_lose dc_Seen_lose pm_Seen_lose cd_Seen_lose ct_Seen_lose oc_Seen_see kV_Seen_see dc_Seen_see pm_Seen_see cd_Seen_see ct_Seen_see oc_Seen_old kV_Seen_old dc_Seen_old pm_Seen_old cd_Seen_old ct_Seen_old oc__law_state kV__law_state dc__law_state pm__law_state cd__law_state ct__law_state oc__law_draw kV__law_draw dc__law_draw pm__law_draw cd__law_draw ct__law_draw oc__law_at kV__law_at dc__law_at pm__law_at cd__law_at ct__law_at oc_law kV_law dc_law pm_law cd_law ct_law : Value} 
        (h_cSeen : PySem.W.nsIn K mainGlobals "Seen" = some (some (.ref A_Seen)))
    (h_pgSeen : PySem.W.plainGet K A_Seen Str.empty = true)
    (h_hdSeen : PySem.W.hasDictIn K A_Seen = true)
    (h_poSeen : PySem.W.plainOver K A_Seen = true)
    (h_saSeen : PySem.W.findIn K (.ref A_Seen) "__setattr__" = some (some (.builtin "object.__setattr__")))
    (h_mkSeen : PySem.W.makesIn K A_Seen = true)
    (h_kcSeen : PySem.W.keepIn K (.ref A_Seen) = true)
    (h_naSeen__ticks : PySem.W.findIn K (.ref A_Seen) "_ticks" = some none)
    (h_alink_of : PySem.W.nsIn K mainGlobals "link_of" = some (some (.ref A_link_of)))
    (h_llink_of : K.lookup A_link_of = some ⟨oc_link_of, od_link_of, .func (PySem.W.fnOf "link_of" "link_of" (defArgs s_link_of) (defBody s_link_of) (defScope s_link_of) .none kV_link_of dc_link_of pm_link_of an_link_of cd_link_of ct_link_of), sl_link_of⟩)
    (h_cdlink_of : PySem.W.codeIn K cd_link_of "link_of" = true)
    (h_klink_of : PySem.W.keepIn K (.ref A_link_of) = true)
    (h_apeer : PySem.W.nsIn K mainGlobals "peer" = some (some (.ref A_peer)))
    (h_lpeer : K.lookup A_peer = some ⟨oc_peer, od_peer, .func (PySem.W.fnOf "peer" "peer" (defArgs s_peer) (defBody s_peer) (defScope s_peer) .none kV_peer dc_peer pm_peer an_peer cd_peer ct_peer), sl_peer⟩)
    (h_cdpeer : PySem.W.codeIn K cd_peer "peer" = true)
    (h_kpeer : PySem.W.keepIn K (.ref A_peer) = true)
    (h_aSeen_init : PySem.W.findIn K (.ref A_Seen) "__init__" = some (some (.ref A_Seen_init)))
    (h_iSeen_init : PySem.W.isFn K (.ref A_Seen_init) = true)
    (h_lSeen_init : K.lookup A_Seen_init = some ⟨oc_Seen_init, od_Seen_init, .func (PySem.W.fnOf "__init__" "Seen.__init__" (defArgs s_Seen_init) (defBody s_Seen_init) (defScope s_Seen_init) .none kV_Seen_init dc_Seen_init pm_Seen_init an_Seen_init cd_Seen_init ct_Seen_init), sl_Seen_init⟩)
    (h_cdSeen_init : PySem.W.codeIn K cd_Seen_init "Seen.__init__" = true)
    (h_kSeen_init : PySem.W.keepIn K (.ref A_Seen_init) = true)
    (h_aSeen_links : PySem.W.findIn K (.ref A_Seen) "links" = some (some (.ref A_Seen_links)))
    (h_iSeen_links : PySem.W.isFn K (.ref A_Seen_links) = true)
    (h_lSeen_links : K.lookup A_Seen_links = some ⟨oc_Seen_links, od_Seen_links, .func (PySem.W.fnOf "links" "Seen.links" (defArgs s_Seen_links) (defBody s_Seen_links) (defScope s_Seen_links) .none kV_Seen_links dc_Seen_links pm_Seen_links an_Seen_links cd_Seen_links ct_Seen_links), sl_Seen_links⟩)
    (h_cdSeen_links : PySem.W.codeIn K cd_Seen_links "Seen.links" = true)
    (h_kSeen_links : PySem.W.keepIn K (.ref A_Seen_links) = true)
    (h_aSeen_lose : PySem.W.findIn K (.ref A_Seen) "lose" = some (some (.ref A_Seen_lose)))
    (h_iSeen_lose : PySem.W.isFn K (.ref A_Seen_lose) = true)
    (h_lSeen_lose : K.lookup A_Seen_lose = some ⟨oc_Seen_lose, od_Seen_lose, .func (PySem.W.fnOf "lose" "Seen.lose" (defArgs s_Seen_lose) (defBody s_Seen_lose) (defScope s_Seen_lose) .none kV_Seen_lose dc_Seen_lose pm_Seen_lose an_Seen_lose cd_Seen_lose ct_Seen_lose), sl_Seen_lose⟩)
    (h_cdSeen_lose : PySem.W.codeIn K cd_Seen_lose "Seen.lose" = true)
    (h_kSeen_lose : PySem.W.keepIn K (.ref A_Seen_lose) = true)
    (h_aSeen_see : PySem.W.findIn K (.ref A_Seen) "see" = some (some (.ref A_Seen_see)))
    (h_iSeen_see : PySem.W.isFn K (.ref A_Seen_see) = true)
    (h_lSeen_see : K.lookup A_Seen_see = some ⟨oc_Seen_see, od_Seen_see, .func (PySem.W.fnOf "see" "Seen.see" (defArgs s_Seen_see) (defBody s_Seen_see) (defScope s_Seen_see) .none kV_Seen_see dc_Seen_see pm_Seen_see an_Seen_see cd_Seen_see ct_Seen_see), sl_Seen_see⟩)
    (h_cdSeen_see : PySem.W.codeIn K cd_Seen_see "Seen.see" = true)
    (h_kSeen_see : PySem.W.keepIn K (.ref A_Seen_see) = true)
    (h_aSeen_old : PySem.W.findIn K (.ref A_Seen) "old" = some (some (.ref A_Seen_old)))
    (h_iSeen_old : PySem.W.isFn K (.ref A_Seen_old) = true)
    (h_lSeen_old : K.lookup A_Seen_old = some ⟨oc_Seen_old, od_Seen_old, .func (PySem.W.fnOf "old" "Seen.old" (defArgs s_Seen_old) (defBody s_Seen_old) (defScope s_Seen_old) .none kV_Seen_old dc_Seen_old pm_Seen_old an_Seen_old cd_Seen_old ct_Seen_old), sl_Seen_old⟩)
    (h_cdSeen_old : PySem.W.codeIn K cd_Seen_old "Seen.old" = true)
    (h_kSeen_old : PySem.W.keepIn K (.ref A_Seen_old) = true)
    (h_a_law_state : PySem.W.nsIn K mainGlobals "_law_state" = some (some (.ref A__law_state)))
    (h_l_law_state : K.lookup A__law_state = some ⟨oc__law_state, od__law_state, .func (PySem.W.fnOf "_law_state" "_law_state" (defArgs s__law_state) (defBody s__law_state) (defScope s__law_state) .none kV__law_state dc__law_state pm__law_state an__law_state cd__law_state ct__law_state), sl__law_state⟩)
    (h_cd_law_state : PySem.W.codeIn K cd__law_state "_law_state" = true)
    (h_k_law_state : PySem.W.keepIn K (.ref A__law_state) = true)
    (h_a_law_draw : PySem.W.nsIn K mainGlobals "_law_draw" = some (some (.ref A__law_draw)))
    (h_l_law_draw : K.lookup A__law_draw = some ⟨oc__law_draw, od__law_draw, .func (PySem.W.fnOf "_law_draw" "_law_draw" (defArgs s__law_draw) (defBody s__law_draw) (defScope s__law_draw) .none kV__law_draw dc__law_draw pm__law_draw an__law_draw cd__law_draw ct__law_draw), sl__law_draw⟩)
    (h_cd_law_draw : PySem.W.codeIn K cd__law_draw "_law_draw" = true)
    (h_k_law_draw : PySem.W.keepIn K (.ref A__law_draw) = true)
    (h_a_law_at : PySem.W.nsIn K mainGlobals "_law_at" = some (some (.ref A__law_at)))
    (h_l_law_at : K.lookup A__law_at = some ⟨oc__law_at, od__law_at, .func (PySem.W.fnOf "_law_at" "_law_at" (defArgs s__law_at) (defBody s__law_at) (defScope s__law_at) .none kV__law_at dc__law_at pm__law_at an__law_at cd__law_at ct__law_at), sl__law_at⟩)
    (h_cd_law_at : PySem.W.codeIn K cd__law_at "_law_at" = true)
    (h_k_law_at : PySem.W.keepIn K (.ref A__law_at) = true)
    (h_alaw : PySem.W.nsIn K mainGlobals "law" = some (some (.ref A_law)))
    (h_llaw : K.lookup A_law = some ⟨oc_law, od_law, .func (PySem.W.fnOf "law" "law" (defArgs s_law) (defBody s_law) (defScope s_law) .none kV_law dc_law pm_law an_law cd_law ct_law), sl_law⟩)
    (h_cdlaw : PySem.W.codeIn K cd_law "law" = true)
    (h_klaw : PySem.W.keepIn K (.ref A_law) = true)
    (h_bsorted : PySem.W.nsIn K mainGlobals "sorted" = some none)
    (h_babs : PySem.W.nsIn K mainGlobals "abs" = some none)
    (h_bint : PySem.W.nsIn K mainGlobals "int" = some none)
    (h_blen : PySem.W.nsIn K mainGlobals "len" = some none)
    (h_brange : PySem.W.nsIn K mainGlobals "range" = some none)
    (h_bisinstance : PySem.W.nsIn K mainGlobals "isinstance" = some none)
    (h_blist : PySem.W.nsIn K mainGlobals "list" = some none)
    (h_bmax : PySem.W.nsIn K mainGlobals "max" = some none)
    (h_bmin : PySem.W.nsIn K mainGlobals "min" = some none) :
    ∃ fd : FuncData, (∀ (s : Shared) (v : Value), BindsTo s fd ⟨[v], []⟩ [("script", v)]) ∧ ∀ base : Heap, K.In base → base.Ns mainGlobals mg → FnOk l.prog w K mg base CX0 4 fa fd ["script"] (sp_law K) := by
  have e := hfa.symm.trans (PySem.W.mg_of X G h_alaw)
  have e2 : fa = A_law := Value.ref.inj (Option.some.inj e)
  rw [e2]
  have T : Txt K mg ⟨A_Seen, A_link_of, (PySem.W.fnOf "link_of" "link_of" (defArgs s_link_of) (defBody s_link_of) (defScope s_link_of) .none kV_link_of dc_link_of pm_link_of an_link_of cd_link_of ct_link_of), A_peer, (PySem.W.fnOf "peer" "peer" (defArgs s_peer) (defBody s_peer) (defScope s_peer) .none kV_peer dc_peer pm_peer an_peer cd_peer ct_peer), A_Seen_init, (PySem.W.fnOf "__init__" "Seen.__init__" (defArgs s_Seen_init) (defBody s_Seen_init) (defScope s_Seen_init) .none kV_Seen_init dc_Seen_init pm_Seen_init an_Seen_init cd_Seen_init ct_Seen_init), A_Seen_links, (PySem.W.fnOf "links" "Seen.links" (defArgs s_Seen_links) (defBody s_Seen_links) (defScope s_Seen_links) .none kV_Seen_links dc_Seen_links pm_Seen_links an_Seen_links cd_Seen_links ct_Seen_links), A_Seen_lose, (PySem.W.fnOf "lose" "Seen.lose" (defArgs s_Seen_lose) (defBody s_Seen_lose) (defScope s_Seen_lose) .none kV_Seen_lose dc_Seen_lose pm_Seen_lose an_Seen_lose cd_Seen_lose ct_Seen_lose), A_Seen_see, (PySem.W.fnOf "see" "Seen.see" (defArgs s_Seen_see) (defBody s_Seen_see) (defScope s_Seen_see) .none kV_Seen_see dc_Seen_see pm_Seen_see an_Seen_see cd_Seen_see ct_Seen_see), A_Seen_old, (PySem.W.fnOf "old" "Seen.old" (defArgs s_Seen_old) (defBody s_Seen_old) (defScope s_Seen_old) .none kV_Seen_old dc_Seen_old pm_Seen_old an_Seen_old cd_Seen_old ct_Seen_old), A__law_state, (PySem.W.fnOf "_law_state" "_law_state" (defArgs s__law_state) (defBody s__law_state) (defScope s__law_state) .none kV__law_state dc__law_state pm__law_state an__law_state cd__law_state ct__law_state), A__law_draw, (PySem.W.fnOf "_law_draw" "_law_draw" (defArgs s__law_draw) (defBody s__law_draw) (defScope s__law_draw) .none kV__law_draw dc__law_draw pm__law_draw an__law_draw cd__law_draw ct__law_draw), A__law_at, (PySem.W.fnOf "_law_at" "_law_at" (defArgs s__law_at) (defBody s__law_at) (defScope s__law_at) .none kV__law_at dc__law_at pm__law_at an__law_at cd__law_at ct__law_at), A_law, (PySem.W.fnOf "law" "law" (defArgs s_law) (defBody s_law) (defScope s_law) .none kV_law dc_law pm_law an_law cd_law ct_law)⟩ := {
    cl_Seen := ⟨h_pgSeen, h_hdSeen, h_poSeen, h_saSeen⟩
    mg_Seen := PySem.W.mg_of X G h_cSeen
    na_Seen__ticks := h_naSeen__ticks
    fn_link_of := fun_mk (st := s_link_of) h_llink_of h_cdlink_of h_klink_of
    bi_link_of := (fun_mk (st := s_link_of) h_llink_of h_cdlink_of h_klink_of).binds (ps := ["one", "other"]) fun _ _ _ _ _ _ us hl => match us, hl with | [_, _], _ => rfl
    mg_link_of := PySem.W.mg_of X G h_alink_of
    kp_link_of := h_klink_of
    fn_peer := fun_mk (st := s_peer) h_lpeer h_cdpeer h_kpeer
    bi_peer := (fun_mk (st := s_peer) h_lpeer h_cdpeer h_kpeer).binds (ps := ["links", "end"]) fun _ _ _ _ _ _ us hl => match us, hl with | [_, _], _ => rfl
    mg_peer := PySem.W.mg_of X G h_apeer
    kp_peer := h_kpeer
    fn_Seen_init := fun_mk (st := s_Seen_init) h_lSeen_init h_cdSeen_init h_kSeen_init
    bi_Seen_init := (fun_mk (st := s_Seen_init) h_lSeen_init h_cdSeen_init h_kSeen_init).binds (ps := ["self"]) fun _ _ _ _ _ _ us hl => match us, hl with | [_], _ => rfl
    mk_Seen := ⟨h_mkSeen, h_aSeen_init, h_iSeen_init, h_kcSeen⟩
    fn_Seen_links := fun_mk (st := s_Seen_links) h_lSeen_links h_cdSeen_links h_kSeen_links
    bi_Seen_links := (fun_mk (st := s_Seen_links) h_lSeen_links h_cdSeen_links h_kSeen_links).binds (ps := ["self"]) fun _ _ _ _ _ _ us hl => match us, hl with | [_], _ => rfl
    me_Seen_links := ⟨h_aSeen_links, h_iSeen_links, h_kSeen_links⟩
    fn_Seen_lose := fun_mk (st := s_Seen_lose) h_lSeen_lose h_cdSeen_lose h_kSeen_lose
    bi_Seen_lose := (fun_mk (st := s_Seen_lose) h_lSeen_lose h_cdSeen_lose h_kSeen_lose).binds (ps := ["self", "end"]) fun _ _ _ _ _ _ us hl => match us, hl with | [_, _], _ => rfl
    me_Seen_lose := ⟨h_aSeen_lose, h_iSeen_lose, h_kSeen_lose⟩
    fn_Seen_see := fun_mk (st := s_Seen_see) h_lSeen_see h_cdSeen_see h_kSeen_see
    bi_Seen_see := (fun_mk (st := s_Seen_see) h_lSeen_see h_cdSeen_see h_kSeen_see).binds (ps := ["self", "end", "other", "now"]) fun _ _ _ _ _ _ us hl => match us, hl with | [_, _, _, _], _ => rfl
    me_Seen_see := ⟨h_aSeen_see, h_iSeen_see, h_kSeen_see⟩
    fn_Seen_old := fun_mk (st := s_Seen_old) h_lSeen_old h_cdSeen_old h_kSeen_old
    bi_Seen_old := (fun_mk (st := s_Seen_old) h_lSeen_old h_cdSeen_old h_kSeen_old).binds (ps := ["self", "now", "age"]) fun _ _ _ _ _ _ us hl => match us, hl with | [_, _, _], _ => rfl
    me_Seen_old := ⟨h_aSeen_old, h_iSeen_old, h_kSeen_old⟩
    fn__law_state := fun_mk (st := s__law_state) h_l_law_state h_cd_law_state h_k_law_state
    bi__law_state := (fun_mk (st := s__law_state) h_l_law_state h_cd_law_state h_k_law_state).binds (ps := ["script"]) fun _ _ _ _ _ _ us hl => match us, hl with | [_], _ => rfl
    mg__law_state := PySem.W.mg_of X G h_a_law_state
    kp__law_state := h_k_law_state
    fn__law_draw := fun_mk (st := s__law_draw) h_l_law_draw h_cd_law_draw h_k_law_draw
    bi__law_draw := (fun_mk (st := s__law_draw) h_l_law_draw h_cd_law_draw h_k_law_draw).binds (ps := ["state", "many"]) fun _ _ _ _ _ _ us hl => match us, hl with | [_, _], _ => rfl
    mg__law_draw := PySem.W.mg_of X G h_a_law_draw
    kp__law_draw := h_k_law_draw
    fn__law_at := fun_mk (st := s__law_at) h_l_law_at h_cd_law_at h_k_law_at
    bi__law_at := (fun_mk (st := s__law_at) h_l_law_at h_cd_law_at h_k_law_at).binds (ps := ["known", "end"]) fun _ _ _ _ _ _ us hl => match us, hl with | [_, _], _ => rfl
    mg__law_at := PySem.W.mg_of X G h_a_law_at
    kp__law_at := h_k_law_at
    fn_law := fun_mk (st := s_law) h_llaw h_cdlaw h_klaw
    bi_law := (fun_mk (st := s_law) h_llaw h_cdlaw h_klaw).binds (ps := ["script"]) fun _ _ _ _ _ _ us hl => match us, hl with | [_], _ => rfl
    mg_law := PySem.W.mg_of X G h_alaw
    kp_law := h_klaw
    mg_sorted := PySem.W.mg_none_of X G h_bsorted
    mg_abs := PySem.W.mg_none_of X G h_babs
    mg_int := PySem.W.mg_none_of X G h_bint
    mg_len := PySem.W.mg_none_of X G h_blen
    mg_range := PySem.W.mg_none_of X G h_brange
    mg_isinstance := PySem.W.mg_none_of X G h_bisinstance
    mg_list := PySem.W.mg_none_of X G h_blist
    mg_max := PySem.W.mg_none_of X G h_bmax
    mg_min := PySem.W.mg_none_of X G h_bmin }
  exact ⟨_, fun s v => .of_eq rfl, fun base _ _ => ok_law T⟩
theorem walk {l : PySem.W.OpenLaw} {q : Program} {loose : List Str} {XP : (Str → Option Value) → Heap → Prop} {YP : World → Heap → Prop} {d : DefRec} {K : Params → PySem.W.Frag} (hn : l.most = some 63) (hdf : d.params.defaults = [])
    (hY : ∀ (w : World) (h : Heap), YP w h → (K w.params).In h)
    (F : ∀ (w : World) (mg : Str → Option Value) (fa : Addr) (h : Heap), (K w.params).In h → h.Ns mainGlobals mg → mg d.name = some (.ref fa) →
      ∃ fd : FuncData, (∀ (s : Shared) (u : Value), BindsTo s fd ⟨[u], []⟩ [("script", u)]) ∧ ∀ base : Heap, (K w.params).In base → base.Ns mainGlobals mg → FnOk l.prog w (K w.params) mg base CX0 4 fa fd ["script"] (sp_law (K w.params))) :
    PySem.W.WalkO q loose XP YP l.row.toRowW d [] (fun f vs => PySem.call f vs) :=
  L2.walk_of (n := 63) (k := 4) (x := "script") (CX := fun _ => CX0) (sp := fun w => sp_law (K w.params)) hn (by decide) hdf ⟨rfl, by decide, by decide⟩ hY F (fun _ _ a ns hl _ hS => ⟨a, ns, rfl, hS, hl, fun _ => rfl⟩) fun _ _ _ _ _ z => z
end K10

open PySem PySem.W PyProof.Rows in
set_option maxRecDepth 100000 in
set_option maxHeartbeats 0 in
theorem PySem.Challenge.cw_hangbridge_k10_links_that_were_seen_holds : PySem.Challenge.rw_hangbridge_k10_links_that_were_seen.Holds := by
  w_on; o_law; k_head; (case hw => w_witness2)
  k_fill
  refine K10.walk (l := PySem.Challenge.rw_hangbridge_k10_links_that_were_seen) rfl rfl (fun w h Y => PySem.W.kIn_of Y) ?F
  case F =>
    intro w mg fa h KX G hmg
    refine' K10.all_mk KX G hmg ?h_cSeen ?h_pgSeen ?h_hdSeen ?h_poSeen ?h_saSeen ?h_mkSeen ?h_kcSeen ?h_naSeen__ticks ?h_alink_of ?h_llink_of ?h_cdlink_of ?h_klink_of ?h_apeer ?h_lpeer ?h_cdpeer ?h_kpeer ?h_aSeen_init ?h_iSeen_init ?h_lSeen_init ?h_cdSeen_init ?h_kSeen_init ?h_aSeen_links ?h_iSeen_links ?h_lSeen_links ?h_cdSeen_links ?h_kSeen_links ?h_aSeen_lose ?h_iSeen_lose ?h_lSeen_lose ?h_cdSeen_lose ?h_kSeen_lose ?h_aSeen_see ?h_iSeen_see ?h_lSeen_see ?h_cdSeen_see ?h_kSeen_see ?h_aSeen_old ?h_iSeen_old ?h_lSeen_old ?h_cdSeen_old ?h_kSeen_old ?h_a_law_state ?h_l_law_state ?h_cd_law_state ?h_k_law_state ?h_a_law_draw ?h_l_law_draw ?h_cd_law_draw ?h_k_law_draw ?h_a_law_at ?h_l_law_at ?h_cd_law_at ?h_k_law_at ?h_alaw ?h_llaw ?h_cdlaw ?h_klaw ?h_bsorted ?h_babs ?h_bint ?h_blen ?h_brange ?h_bisinstance ?h_blist ?h_bmax ?h_bmin
    (case h_cSeen => k_is)
    (case h_pgSeen => k_is)
    (case h_hdSeen => k_is)
    (case h_poSeen => k_is)
    (case h_saSeen => k_is)
    (case h_mkSeen => k_is)
    (case h_kcSeen => k_is)
    (case h_naSeen__ticks => k_is)
    (case h_alink_of => k_is)
    (case h_llink_of => k_is)
    (case h_cdlink_of => k_is)
    (case h_klink_of => k_is)
    (case h_apeer => k_is)
    (case h_lpeer => k_is)
    (case h_cdpeer => k_is)
    (case h_kpeer => k_is)
    (case h_aSeen_init => k_is)
    (case h_iSeen_init => k_is)
    (case h_lSeen_init => k_is)
    (case h_cdSeen_init => k_is)
    (case h_kSeen_init => k_is)
    (case h_aSeen_links => k_is)
    (case h_iSeen_links => k_is)
    (case h_lSeen_links => k_is)
    (case h_cdSeen_links => k_is)
    (case h_kSeen_links => k_is)
    (case h_aSeen_lose => k_is)
    (case h_iSeen_lose => k_is)
    (case h_lSeen_lose => k_is)
    (case h_cdSeen_lose => k_is)
    (case h_kSeen_lose => k_is)
    (case h_aSeen_see => k_is)
    (case h_iSeen_see => k_is)
    (case h_lSeen_see => k_is)
    (case h_cdSeen_see => k_is)
    (case h_kSeen_see => k_is)
    (case h_aSeen_old => k_is)
    (case h_iSeen_old => k_is)
    (case h_lSeen_old => k_is)
    (case h_cdSeen_old => k_is)
    (case h_kSeen_old => k_is)
    (case h_a_law_state => k_is)
    (case h_l_law_state => k_is)
    (case h_cd_law_state => k_is)
    (case h_k_law_state => k_is)
    (case h_a_law_draw => k_is)
    (case h_l_law_draw => k_is)
    (case h_cd_law_draw => k_is)
    (case h_k_law_draw => k_is)
    (case h_a_law_at => k_is)
    (case h_l_law_at => k_is)
    (case h_cd_law_at => k_is)
    (case h_k_law_at => k_is)
    (case h_alaw => k_is)
    (case h_llaw => k_is)
    (case h_cdlaw => k_is)
    (case h_klaw => k_is)
    (case h_bsorted => k_is)
    (case h_babs => k_is)
    (case h_bint => k_is)
    (case h_blen => k_is)
    (case h_brange => k_is)
    (case h_bisinstance => k_is)
    (case h_blist => k_is)
    (case h_bmax => k_is)
    (case h_bmin => k_is)
