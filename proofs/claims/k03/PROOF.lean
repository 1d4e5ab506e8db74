import PyProof.Rows.All
import Wide.All
import OpenK.AllK
import Wide.FinOn
import HandS.ForMost
import HandS.Flow
import HandS.More
import HandS.IsInst
import HandS.Wide
import PySem.Challenge.RW_hangbridge_k03_lanes_of_frames
set_option Elab.async false
set_option maxRecDepth 100000
set_option maxHeartbeats 4000000
/-! A heap as what stood and what is our own; steps of readings over it. -/
namespace Hb
open PySem L2

/-- B stood and is kept; L are our own objects, each once -/
structure Hs (B : Hp) (L : List (Addr × HO)) (H : Hp) : Prop where
  same : Same B H
  nd : (L.map (·.1)).Nodup
  out : ∀ e ∈ L, B e.1 = none
  at_ : ∀ e ∈ L, H e.1 = some e.2

section
variable {B H H' : Hp} {L R A : List (Addr × HO)} {p l : Addr} {o o' : HO} {i : Nat}
theorem Hs.start (H : Hp) : Hs H [] H := ⟨Same.refl H, List.nodup_nil, (fun _ h => nomatch h), (fun _ h => nomatch h)⟩
theorem Hs.of_same (h : Same B H) : Hs B [] H := ⟨h, List.nodup_nil, (fun _ h => nomatch h), (fun _ h => nomatch h)⟩
theorem Hs.get (hs : Hs B L H) (h : L[i]? = some (p, o)) : H p = some o := hs.at_ (p, o) (List.mem_of_getElem? h)
theorem Hs.mem (hs : Hs B L H) (h : (p, o) ∈ L) : H p = some o := hs.at_ (p, o) h
theorem Hs.g0 (hs : Hs B ((p, o) :: L) H) : H p = some o := hs.get (i := 0) rfl
theorem Hs.g1 {x} (hs : Hs B (x :: (p, o) :: L) H) : H p = some o := hs.get (i := 1) rfl
theorem Hs.g2 {x y} (hs : Hs B (x :: y :: (p, o) :: L) H) : H p = some o := hs.get (i := 2) rfl
theorem Hs.g3 {x y z} (hs : Hs B (x :: y :: z :: (p, o) :: L) H) : H p = some o := hs.get (i := 3) rfl
theorem Hs.g4 {x y z w} (hs : Hs B (x :: y :: z :: w :: (p, o) :: L) H) : H p = some o := hs.get (i := 4) rfl
theorem Hs.g5 {x y z w v} (hs : Hs B (x :: y :: z :: w :: v :: (p, o) :: L) H) : H p = some o := hs.get (i := 5) rfl
theorem Hs.g6 {x y z w v u} (hs : Hs B (x :: y :: z :: w :: v :: u :: (p, o) :: L) H) : H p = some o := hs.get (i := 6) rfl
theorem Hs.g7 {x y z w v u t} (hs : Hs B (x :: y :: z :: w :: v :: u :: t :: (p, o) :: L) H) : H p = some o := hs.get (i := 7) rfl
theorem Hs.g8 {x y z w v u t s} (hs : Hs B (x :: y :: z :: w :: v :: u :: t :: s :: (p, o) :: L) H) : H p = some o := hs.get (i := 8) rfl
theorem Hs.g9 {x y z w v u t s r} (hs : Hs B (x :: y :: z :: w :: v :: u :: t :: s :: r :: (p, o) :: L) H) : H p = some o := hs.get (i := 9) rfl
theorem Hs.g10 {x y z w v u t s r q} (hs : Hs B (x :: y :: z :: w :: v :: u :: t :: s :: r :: q :: (p, o) :: L) H) : H p = some o := hs.get (i := 10) rfl
theorem Hs.g11 {x y z w v u t s r q n} (hs : Hs B (x :: y :: z :: w :: v :: u :: t :: s :: r :: q :: n :: (p, o) :: L) H) : H p = some o := hs.get (i := 11) rfl
theorem Hs.g12 {x y z w v u t s r q n m} (hs : Hs B (x :: y :: z :: w :: v :: u :: t :: s :: r :: q :: n :: m :: (p, o) :: L) H) : H p = some o := hs.get (i := 12) rfl
theorem Hs.g13 {x y z w v u t s r q n m k} (hs : Hs B (x :: y :: z :: w :: v :: u :: t :: s :: r :: q :: n :: m :: k :: (p, o) :: L) H) : H p = some o := hs.get (i := 13) rfl
theorem Hs.g14 {x y z w v u t s r q n m k j} (hs : Hs B (x :: y :: z :: w :: v :: u :: t :: s :: r :: q :: n :: m :: k :: j :: (p, o) :: L) H) : H p = some o := hs.get (i := 14) rfl
theorem Hs.g15 {x y z w v u t s r q n m k j h} (hs : Hs B (x :: y :: z :: w :: v :: u :: t :: s :: r :: q :: n :: m :: k :: j :: h :: (p, o) :: L) H) : H p = some o := hs.get (i := 15) rfl
theorem Hs.sql {K : PySem.W.Frag} {xs : List V} (hs : Hs B L H) (h : SqL K B p xs) : SqL K H p xs := hs.same.seq h
theorem Hs.old (hs : Hs B L H) (h : B p = some o) : H p = some o := hs.same _ _ h
theorem Hs.fresh (hs : Hs B L H) (h : H p = none) : p ∉ L.map (·.1) := fun m => by
  obtain ⟨e, he, rfl⟩ := List.mem_map.mp m
  rw [hs.at_ e he] at h
  cases h
/-- a new object -/
theorem Hs.new (hs : Hs B L H) (h : H p = none) : Hs B ((p, o) :: L) (upd H p o) := by
  have hf := hs.fresh h
  refine ⟨fun b u e => ?_, ?_, fun e he => ?_, fun e he => ?_⟩
  · rw [upd_ne (ne_of_none (hs.same b u e) h)]
    exact hs.same b u e
  · rw [List.map_cons, List.nodup_cons]
    exact ⟨hf, hs.nd⟩
  · rcases List.mem_cons.mp he with rfl | he
    · exact hs.same.free h
    · exact hs.out e he
  · rcases List.mem_cons.mp he with rfl | he
    · exact upd_same
    · rw [upd_ne (ne_of_none (hs.at_ e he) h)]
      exact hs.at_ e he
theorem set_fst : ∀ {L : List (Addr × HO)} {i : Nat} {p : Addr} {o o' : HO}, L[i]? = some (p, o) → (L.set i (p, o')).map (·.1) = L.map (·.1)
  | [], _, _, _, _, h => by simp at h
  | x :: L, 0, p, o, o', h => by
    have e : x = (p, o) := by simpa using h
    subst e
    rfl
  | x :: L, i + 1, p, o, o', h => by
    have := set_fst (L := L) (i := i) (o' := o') (by simpa using h)
    show _ :: ((L.set i (p, o')).map (·.1)) = _ :: L.map (·.1)
    rw [this]
theorem nd_only : ∀ {L : List (Addr × HO)} {e : Addr × HO} {i : Nat} {p : Addr} {o o' : HO}, (L.map (·.1)).Nodup → L[i]? = some (p, o) → e ∈ L.set i (p, o') → e = (p, o') ∨ (e ∈ L ∧ e.1 ≠ p)
  | [], _, _, _, _, _, _, h, _ => by simp at h
  | x :: L, e, 0, p, o, o', nd, h, m => by
    have ex : x = (p, o) := by simpa using h
    subst ex
    rcases List.mem_cons.mp m with rfl | m
    · exact .inl rfl
    · refine .inr ⟨List.mem_cons_of_mem _ m, fun q => ?_⟩
      rw [List.map_cons, List.nodup_cons] at nd
      exact nd.1 (List.mem_map.mpr ⟨e, m, q⟩)
  | x :: L, e, i + 1, p, o, o', nd, h, m => by
    rw [List.map_cons, List.nodup_cons] at nd
    have h' : L[i]? = some (p, o) := by simpa using h
    rcases List.mem_cons.mp m with rfl | m
    · refine .inr ⟨List.mem_cons_self, fun q => ?_⟩
      exact nd.1 (List.mem_map.mpr ⟨(p, o), List.mem_of_getElem? h', q.symm⟩)
    · rcases nd_only nd.2 h' m with r | ⟨r, q⟩
      · exact .inl r
      · exact .inr ⟨List.mem_cons_of_mem _ r, q⟩
/-- a store to one's own object -/
theorem Hs.put (hs : Hs B L H) (h : L[i]? = some (p, o)) : Hs B (L.set i (p, o')) (upd H p o') := by
  have hp : B p = none := hs.out (p, o) (List.mem_of_getElem? h)
  refine ⟨fun b u e => ?_, ?_, fun e he => ?_, fun e he => ?_⟩
  · have n : b ≠ p := fun q => by
      rw [q, hp] at e
      cases e
    rw [upd_ne n]
    exact hs.same b u e
  · rw [set_fst h]
    exact hs.nd
  · rcases nd_only hs.nd h he with rfl | ⟨m, _⟩
    · exact hp
    · exact hs.out e m
  · rcases nd_only hs.nd h he with rfl | ⟨m, q⟩
    · exact upd_same
    · rw [upd_ne q]
      exact hs.at_ e m
theorem Hs.p0 (o' : HO) (hs : Hs B ((p, o) :: L) H) : Hs B ((p, o') :: L) (upd H p o') := hs.put (i := 0) rfl
theorem Hs.p1 (o' : HO) {x} (hs : Hs B (x :: (p, o) :: L) H) : Hs B (x :: (p, o') :: L) (upd H p o') := hs.put (i := 1) rfl
theorem Hs.p2 (o' : HO) {x y} (hs : Hs B (x :: y :: (p, o) :: L) H) : Hs B (x :: y :: (p, o') :: L) (upd H p o') := hs.put (i := 2) rfl
theorem Hs.p3 (o' : HO) {x y z} (hs : Hs B (x :: y :: z :: (p, o) :: L) H) : Hs B (x :: y :: z :: (p, o') :: L) (upd H p o') := hs.put (i := 3) rfl
theorem Hs.p4 (o' : HO) {x y z w} (hs : Hs B (x :: y :: z :: w :: (p, o) :: L) H) : Hs B (x :: y :: z :: w :: (p, o') :: L) (upd H p o') := hs.put (i := 4) rfl
theorem Hs.p5 (o' : HO) {x y z w v} (hs : Hs B (x :: y :: z :: w :: v :: (p, o) :: L) H) : Hs B (x :: y :: z :: w :: v :: (p, o') :: L) (upd H p o') := hs.put (i := 5) rfl
theorem Hs.p6 (o' : HO) {x y z w v u} (hs : Hs B (x :: y :: z :: w :: v :: u :: (p, o) :: L) H) : Hs B (x :: y :: z :: w :: v :: u :: (p, o') :: L) (upd H p o') := hs.put (i := 6) rfl
theorem Hs.p7 (o' : HO) {x y z w v u t} (hs : Hs B (x :: y :: z :: w :: v :: u :: t :: (p, o) :: L) H) : Hs B (x :: y :: z :: w :: v :: u :: t :: (p, o') :: L) (upd H p o') := hs.put (i := 7) rfl
/-- L with o' in the place of o at p -/
inductive Put : List (Addr × HO) → Addr → HO → HO → List (Addr × HO) → Prop
  | here {p : Addr} {o o' : HO} {L : List (Addr × HO)} : Put ((p, o) :: L) p o o' ((p, o') :: L)
  | there {p : Addr} {o o' : HO} {x : Addr × HO} {L L' : List (Addr × HO)} : Put L p o o' L' → Put (x :: L) p o o' (x :: L')
theorem Put.ix {L' : List (Addr × HO)} (h : Put L p o o' L') : ∃ i : Nat, L[i]? = some (p, o) ∧ L' = L.set i (p, o') := by
  induction h with
  | here => exact ⟨0, rfl, rfl⟩
  | there _ ih =>
    obtain ⟨i, h1, h2⟩ := ih
    exact ⟨i + 1, by simpa using h1, by rw [h2]; rfl⟩
theorem Hs.puts {L' : List (Addr × HO)} (hs : Hs B L H) (h : Put L p o o' L') : Hs B L' (upd H p o') := by
  obtain ⟨i, h1, rfl⟩ := h.ix
  exact hs.put h1
theorem Hs.gets {L' : List (Addr × HO)} (hs : Hs B L H) (h : Put L p o o' L') : H p = some o := by
  obtain ⟨i, h1, _⟩ := h.ix
  exact hs.get h1
/-- any part of our own, in any order -/
theorem Hs.sub (hs : Hs B L H) (h : R.Sublist L) : Hs B R H :=
  ⟨hs.same, hs.nd.sublist (h.map _), fun e he => hs.out e (h.subset he), fun e he => hs.at_ e (h.subset he)⟩
theorem Hs.perm (hs : Hs B L H) (h : R.Perm L) : Hs B R H :=
  ⟨hs.same, (h.map (·.1)).nodup_iff.mpr hs.nd, fun e he => hs.out e (h.subset he), fun e he => hs.at_ e (h.subset he)⟩
theorem Hs.tl {x} (hs : Hs B (x :: L) H) : Hs B L H := hs.sub (List.sublist_cons_self _ _)
/-- the i-th ahead -/
theorem up_perm : ∀ {L : List (Addr × HO)} {i : Nat} {x : Addr × HO}, L[i]? = some x → (x :: L.eraseIdx i).Perm L
  | [], _, _, h => by simp at h
  | y :: L, 0, x, h => by
    have e : y = x := by simpa using h
    subst e
    exact .refl _
  | y :: L, i + 1, x, h => (List.Perm.swap y x _).trans ((up_perm (L := L) (i := i) (by simpa using h)).cons y)
theorem Hs.up (i : Nat) (hs : Hs B L H) {x} (h : L[i]? = some x := by rfl) : Hs B (x :: L.eraseIdx i) H := by
  exact hs.perm (up_perm h)
theorem Hs.del (i : Nat) (hs : Hs B L H) : Hs B (L.eraseIdx i) H := hs.sub (List.eraseIdx_sublist _ _)
theorem Hs.m1 {a b} (hs : Hs B (a :: b :: L) H) : Hs B (b :: a :: L) H := hs.up 1
theorem Hs.m2 {a b c} (hs : Hs B (a :: b :: c :: L) H) : Hs B (c :: a :: b :: L) H := hs.up 2
theorem Hs.m3 {a b c d} (hs : Hs B (a :: b :: c :: d :: L) H) : Hs B (d :: a :: b :: c :: L) H := hs.up 3
theorem Hs.m4 {a b c d e} (hs : Hs B (a :: b :: c :: d :: e :: L) H) : Hs B (e :: a :: b :: c :: d :: L) H := hs.up 4
theorem Hs.m5 {a b c d e f} (hs : Hs B (a :: b :: c :: d :: e :: f :: L) H) : Hs B (f :: a :: b :: c :: d :: e :: L) H := hs.up 5
theorem Hs.m6 {a b c d e f g} (hs : Hs B (a :: b :: c :: d :: e :: f :: g :: L) H) : Hs B (g :: a :: b :: c :: d :: e :: f :: L) H := hs.up 6
theorem Hs.m7 {a b c d e f g h} (hs : Hs B (a :: b :: c :: d :: e :: f :: g :: h :: L) H) : Hs B (h :: a :: b :: c :: d :: e :: f :: g :: L) H := hs.up 7
theorem Hs.d1 {a b} (hs : Hs B (a :: b :: L) H) : Hs B (a :: L) H := hs.del 1
theorem Hs.d2 {a b c} (hs : Hs B (a :: b :: c :: L) H) : Hs B (a :: b :: L) H := hs.del 2
theorem Hs.d3 {a b c d} (hs : Hs B (a :: b :: c :: d :: L) H) : Hs B (a :: b :: c :: L) H := hs.del 3
theorem Hs.d4 {a b c d e} (hs : Hs B (a :: b :: c :: d :: e :: L) H) : Hs B (a :: b :: c :: d :: L) H := hs.del 4
theorem Hs.d5 {a b c d e f} (hs : Hs B (a :: b :: c :: d :: e :: f :: L) H) : Hs B (a :: b :: c :: d :: e :: L) H := hs.del 5
theorem Hs.d6 {a b c d e f g} (hs : Hs B (a :: b :: c :: d :: e :: f :: g :: L) H) : Hs B (a :: b :: c :: d :: e :: f :: L) H := hs.del 6
theorem sel_mem {idx : List Nat} {e : Addr × HO} (h : e ∈ idx.filterMap (fun i => L[i]?)) : ∃ i ∈ idx, L[i]? = some e := by
  obtain ⟨i, hi, e⟩ := List.mem_filterMap.mp h
  exact ⟨i, hi, e⟩
theorem sel_nd (nd : (L.map (·.1)).Nodup) : ∀ {idx : List Nat}, idx.Nodup → ((idx.filterMap (fun i => L[i]?)).map (·.1)).Nodup
  | [], _ => List.nodup_nil
  | i :: idx, h => by
    rw [List.nodup_cons] at h
    rw [List.filterMap_cons]
    cases e : L[i]? with
    | none => exact sel_nd nd h.2
    | some x =>
      rw [List.map_cons, List.nodup_cons]
      refine ⟨fun m => ?_, sel_nd nd h.2⟩
      obtain ⟨y, hy, q⟩ := List.mem_map.mp m
      obtain ⟨j, hj, ej⟩ := sel_mem hy
      have a : (L.map (·.1))[i]? = some x.1 := by rw [List.getElem?_map, e]; rfl
      have b : (L.map (·.1))[j]? = some x.1 := by rw [List.getElem?_map, ej]; exact congrArg some q
      rw [nd_ix nd a b] at h
      exact h.1 hj
/-- some of our own, by places -/
theorem Hs.sel (hs : Hs B L H) (idx : List Nat) (h : idx.Nodup := by decide) : Hs B (idx.filterMap (fun i => L[i]?)) H :=
  ⟨hs.same, sel_nd hs.nd h, fun e he => by
    obtain ⟨i, _, q⟩ := sel_mem he
    exact hs.out e (List.mem_of_getElem? q), fun e he => by
    obtain ⟨i, _, q⟩ := sel_mem he
    exact hs.at_ e (List.mem_of_getElem? q)⟩
/-- a callee that owns A; what else is ours stands for it -/
def around (A : List (Addr × HO)) (H : Hp) : Hp := fun a => if a ∈ A.map (·.1) then none else H a
theorem around_out {a : Addr} (h : a ∉ A.map (·.1)) : around A H a = H a := if_neg h
theorem Hs.frame (A : List (Addr × HO)) (hs : Hs B (A ++ R) H) : Same B (around A H) ∧ Hs (around A H) A H ∧ ∀ A' H', Hs (around A H) A' H' → Hs B (A' ++ R) H' := by
  have nd := hs.nd
  rw [List.map_append, List.nodup_append] at nd
  obtain ⟨n1, n2, n3⟩ := nd
  have sb : Same B (around A H) := fun b u e => by
    rw [around_out fun m => ?_]
    · exact hs.same b u e
    · obtain ⟨z, hz, rfl⟩ := List.mem_map.mp m
      rw [hs.out z (List.mem_append_left _ hz)] at e
      cases e
  refine ⟨sb, ⟨fun b u e => ?_, n1, fun e he => if_pos (List.mem_map.mpr ⟨e, he, rfl⟩), fun e he => hs.at_ e (List.mem_append_left _ he)⟩, fun A' H' h => ?_⟩
  · unfold around at e
    split at e
    · cases e
    · exact e
  · have fr : ∀ e ∈ R, around A H e.1 = some e.2 := fun e he => by
      rw [around_out fun m => n3 _ m _ (List.mem_map.mpr ⟨e, he, rfl⟩) rfl]
      exact hs.at_ e (List.mem_append_right _ he)
    refine ⟨fun b u e => h.same b u (sb b u e), ?_, fun e he => ?_, fun e he => ?_⟩
    · rw [List.map_append, List.nodup_append]
      refine ⟨h.nd, n2, fun a ha b hb q => ?_⟩
      subst q
      obtain ⟨x, hx, rfl⟩ := List.mem_map.mp ha
      obtain ⟨y, hy, q⟩ := List.mem_map.mp hb
      have h1 := h.out x hx
      have h2 := fr y hy
      rw [q, h1] at h2
      cases h2
    · rcases List.mem_append.mp he with he | he
      · exact sb.free (h.out e he)
      · exact hs.out e (List.mem_append_right _ he)
    · rcases List.mem_append.mp he with he | he
      · exact h.at_ e he
      · exact h.same _ _ (fr e he)
theorem Hs.frame1 {x} (hs : Hs B (x :: R) H) : ∃ B', Same B B' ∧ Hs B' [x] H ∧ ∀ A' H', Hs B' A' H' → Hs B (A' ++ R) H' := ⟨_, hs.frame [x]⟩
theorem Hs.frame2 {x y} (hs : Hs B (x :: y :: R) H) : ∃ B', Same B B' ∧ Hs B' [x, y] H ∧ ∀ A' H', Hs B' A' H' → Hs B (A' ++ R) H' := ⟨_, hs.frame [x, y]⟩
theorem Hs.frame3 {x y z} (hs : Hs B (x :: y :: z :: R) H) : ∃ B', Same B B' ∧ Hs B' [x, y, z] H ∧ ∀ A' H', Hs B' A' H' → Hs B (A' ++ R) H' := ⟨_, hs.frame [x, y, z]⟩
theorem Hs.frame4 {x y z w} (hs : Hs B (x :: y :: z :: w :: R) H) : ∃ B', Same B B' ∧ Hs B' [x, y, z, w] H ∧ ∀ A' H', Hs B' A' H' → Hs B (A' ++ R) H' := ⟨_, hs.frame [x, y, z, w]⟩
theorem Hs.frame5 {x y z w v} (hs : Hs B (x :: y :: z :: w :: v :: R) H) : ∃ B', Same B B' ∧ Hs B' [x, y, z, w, v] H ∧ ∀ A' H', Hs B' A' H' → Hs B (A' ++ R) H' := ⟨_, hs.frame [x, y, z, w, v]⟩
theorem Hs.frame6 {x y z w v u} (hs : Hs B (x :: y :: z :: w :: v :: u :: R) H) : ∃ B', Same B B' ∧ Hs B' [x, y, z, w, v, u] H ∧ ∀ A' H', Hs B' A' H' → Hs B (A' ++ R) H' := ⟨_, hs.frame [x, y, z, w, v, u]⟩
/-- a callee that only makes objects -/
theorem Hs.add {N : List (Addr × HO)} (hs : Hs B L H) (h : Hs H N H') : Hs B (N ++ L) H' := by
  refine ⟨fun b u e => h.same b u (hs.same b u e), ?_, fun e he => ?_, fun e he => ?_⟩
  · rw [List.map_append, List.nodup_append]
    refine ⟨h.nd, hs.nd, fun a ha b hb q => ?_⟩
    subst q
    obtain ⟨x, hx, rfl⟩ := List.mem_map.mp ha
    obtain ⟨y, hy, q⟩ := List.mem_map.mp hb
    have h1 := h.out x hx
    have h2 := hs.at_ y hy
    rw [q, h1] at h2
    cases h2
  · rcases List.mem_append.mp he with he | he
    · exact hs.same.free (h.out e he)
    · exact hs.out e he
  · rcases List.mem_append.mp he with he | he
    · exact h.at_ e he
    · exact h.same _ _ (hs.at_ e he)
/-- a new object that nobody changes any more: it stands -/
theorem Hs.freeze (hs : Hs B ((p, o) :: L) H) : Same B (upd B p o) ∧ Hs (upd B p o) L H := by
  have hp := hs.out (p, o) List.mem_cons_self
  have nd := hs.nd
  rw [List.map_cons, List.nodup_cons] at nd
  refine ⟨fun b u e => ?_, ⟨fun b u e => ?_, nd.2, fun e he => ?_, fun e he => hs.at_ e (List.mem_cons_of_mem _ he)⟩⟩
  · rw [upd_ne (ne_of_none e hp)]
    exact e
  · unfold upd at e
    split at e
    · next q =>
      subst q
      cases e
      exact hs.g0
    · exact hs.same b u e
  · have n : e.1 ≠ p := fun q => nd.1 (by rw [← q]; exact List.mem_map.mpr ⟨e, he, rfl⟩)
    rw [upd_ne n]
    exact hs.out e (List.mem_cons_of_mem _ he)
end

/-! ### steps: a reading's head, what is left -/
section
variable {K : PySem.W.Frag} {σ : St} {H : Hp} {Q : VK} {D : Ends} {ta tb tc te tv to ti : TE} {t u tr : TS} {c d : TT} {r r' : R2} {g : TG} {i : Nat} {v x y : V} {E : XK} {ts : TA} {f m : Str} {p : Addr}
theorem w_var (h : σ[i]? = some (some v)) (q : Q v H) : tVar i σ H Q := ⟨v, h, q⟩
theorem w_c (q : Q v H) : tC v σ H Q := q
theorem w_seq (q : t { D with nx := u D } σ H) : tSeq t u D σ H := q
theorem w_next (q : D.nx σ H) : tNext D σ H := q
theorem w_brk (q : D.bk σ H) : tBreak D σ H := q
theorem w_cont (q : D.ct σ H) : tCont D σ H := q
theorem w_drop (q : te σ H fun _ H1 => D.nx σ H1) : tDrop te D σ H := q
theorem w_ret (q : te σ H D.rt) : tRet te D σ H := q
theorem w_retN (q : D.rt .non H) : tRetN D σ H := q
theorem w_asg (q : te σ H fun x H1 => g x σ H1 D.nx) : tAsg te g D σ H := q
theorem w_name {Q : St → Hp → Prop} (q : Q (σ.set i (some v)) H) : gName i v σ H Q := q
theorem w_if (q : c σ H fun b H1 => if b = true then t D σ H1 else u D σ H1) : tIfS c t u D σ H := q
theorem w_test {Q : Bool → Hp → Prop} (q : te σ H fun x H1 => ∃ k, x = .bl k ∧ Q k H1) : tTest te σ H Q := q
theorem w_B {Q : Bool → Hp → Prop} (q : te σ H fun x H1 => ∃ k, x = .bl k ∧ Q k H1) : tB te σ H Q := q
theorem w_exb {b : Bool} {P : Bool → Prop} (q : P b) : ∃ k, V.bl b = .bl k ∧ P k := ⟨b, rfl, q⟩
theorem w_not {Q : Bool → Hp → Prop} (q : c σ H fun b H1 => Q (!b) H1) : tNot c σ H Q := q
theorem w_and {Q : Bool → Hp → Prop} (q : c σ H fun b H1 => if b = true then d σ H1 Q else Q false H1) : tAnd c d σ H Q := q
theorem w_or {Q : Bool → Hp → Prop} (q : c σ H fun b H1 => if b = true then Q true H1 else d σ H1 Q) : tOr c d σ H Q := q
theorem w_andV (q : ta σ H fun x H1 => ∃ k, x = .bl k ∧ if k = true then tb σ H1 Q else Q (.bl false) H1) : tAndV ta tb σ H Q := q
theorem w_orV (q : ta σ H fun x H1 => ∃ k, x = .bl k ∧ if k = true then Q (.bl true) H1 else tb σ H1 Q) : tOrV ta tb σ H Q := q
theorem w_notV (q : ta σ H fun x H1 => ∃ k, x = .bl k ∧ Q (.bl (!k)) H1) : tNotV ta σ H Q := q
theorem w_ifE (q : c σ H fun b H1 => if b = true then ta σ H1 Q else tb σ H1 Q) : tIf c ta tb σ H Q := q
theorem w_op (q : ta σ H fun x H1 => tb σ H1 fun y H2 => r x y H2 Q) : tOp r ta tb σ H Q := q
theorem w_un {r : V → Hp → VK → Prop} (q : ta σ H fun x H1 => r x H1 Q) : tUn r ta σ H Q := q
theorem w_chain (q : ta σ H fun x H1 => tb σ H1 fun y H2 => r x y H2 fun z H3 => ∃ k, z = .bl k ∧ if k = true then tc σ H3 fun w H4 => r' y w H4 Q else Q (.bl false) H3) : tChain r r' ta tb tc σ H Q := q
theorem w_I0 {g : Int → Int → V} {a b : Int} (q : Q (g a b) H) : rI0 g (.int a) (.int b) H Q := ⟨a, b, rfl, rfl, q⟩
theorem w_I {C : Int → Int → Prop} {g : Int → Int → V} {a b : Int} (h : C a b) (q : Q (g a b) H) : rI C g (.int a) (.int b) H Q := ⟨a, b, rfl, rfl, h, q⟩
theorem w_U {g : Int → V} {a : Int} (q : Q (g a) H) : rU g (.int a) H Q := ⟨a, rfl, q⟩
theorem w_eqI {a b : Int} (q : Q (.bl (decide (a = b))) H) : rEq (.int a) (.int b) H Q := ⟨rfl, by
  have e : decide (V.int a = V.int b) = decide (a = b) := by
    rw [dec_int]
    by_cases h : a = b
    · rw [decide_eq_true h]
      exact beq_iff_eq.mpr h
    · rw [decide_eq_false h]
      exact beq_eq_false_iff_ne.mpr h
  rw [e]
  exact q⟩
theorem w_neI {a b : Int} (q : Q (.bl (!decide (a = b))) H) : rNe (.int a) (.int b) H Q := ⟨rfl, by
  have e : decide (V.int a = V.int b) = decide (a = b) := by
    rw [dec_int]
    by_cases h : a = b
    · rw [decide_eq_true h]
      exact beq_iff_eq.mpr h
    · rw [decide_eq_false h]
      exact beq_eq_false_iff_ne.mpr h
  rw [e]
  exact q⟩
theorem w_eq (h : scal x y = true) (q : Q (.bl (decide (x = y))) H) : rEq x y H Q := ⟨h, q⟩
theorem w_ne (h : scal x y = true) (q : Q (.bl (!decide (x = y))) H) : rNe x y H Q := ⟨h, q⟩
theorem w_ixL {xs : List V} {j : Int} (h : SqL K H p xs) (a : atI xs j = some v) (q : Q v H) : rIxL K (.ref p) (.int j) H Q := ⟨p, xs, j, v, rfl, rfl, h, a, q⟩
theorem w_ixT {xs : List V} {j : Int} (h : SqT K H p xs) (a : atI xs j = some v) (q : Q v H) : rIxT K (.ref p) (.int j) H Q := ⟨p, xs, j, v, rfl, rfl, h, a, q⟩
theorem at0 {x : V} {xs : List V} : atI (x :: xs) 0 = some x := at_of (j := 0) rfl rfl
theorem at1 {x y : V} {xs : List V} : atI (x :: y :: xs) 1 = some y := at_of (j := 1) rfl rfl
theorem at2 {x y z : V} {xs : List V} : atI (x :: y :: z :: xs) 2 = some z := at_of (j := 2) rfl rfl
theorem at3 {x y z u : V} {xs : List V} : atI (x :: y :: z :: u :: xs) 3 = some u := at_of (j := 3) rfl rfl
/-- a field's value -/
def Fl (K : PySem.W.Frag) (f : Str) (x : V) (H : Hp) (Q : VK) : Prop := ∃ a C dx fs v, x = .ref a ∧ H a = some (.ins C dx fs) ∧ Cls K C ∧ NoAttr K C f ∧ fs.lookup f = some v ∧ Q v H
theorem w_fld (q : ta σ H fun x H1 => Fl K f x H1 Q) : tFld K ta f σ H Q := q
theorem w_fl {C dx : Addr} {fs : List (Str × V)} (h : H p = some (.ins C dx fs)) (hc : Cls K C) (hn : NoAttr K C f) (hl : fs.lookup f = some v) (q : Q v H) : Fl K f (.ref p) H Q := ⟨p, C, dx, fs, v, rfl, h, hc, hn, hl, q⟩
/-- a field's store -/
def Fs (K : PySem.W.Frag) (f : Str) (y x : V) (H : Hp) (R : Hp → Prop) : Prop := ∃ a C dx fs, x = .ref a ∧ H a = some (.ins C dx fs) ∧ Cls K C ∧ NoAttr K C f ∧ fs.length < 1000 ∧ R (upd H a (.ins C dx (putF f y fs)))
theorem w_sfld (q : tv σ H fun y H1 => ta σ H1 fun x H2 => Fs K f y x H2 (D.nx σ)) : sFld K ta tv f D σ H := q
theorem w_fs {R : Hp → Prop} {C dx : Addr} {fs : List (Str × V)} (h : H p = some (.ins C dx fs)) (hc : Cls K C) (hn : NoAttr K C f) (hl : fs.length < 1000) (q : R (upd H p (.ins C dx (putF f y fs)))) : Fs K f y (.ref p) H R := ⟨p, C, dx, fs, rfl, h, hc, hn, hl, q⟩
theorem lk0 {k : Str} {v : V} {r : List (Str × V)} : ((k, v) :: r).lookup k = some v := by simp [List.lookup]
theorem lk1 {k k' : Str} {v w : V} {r : List (Str × V)} (h : ¬ k = k') (q : r.lookup k = some w) : ((k', v) :: r).lookup k = some w := by
  have e : (k == k') = false := beq_eq_false_iff_ne.mpr h
  show (match k == k' with | true => some v | false => List.lookup k r) = some w
  rw [e]
  exact q
theorem lkn {k k' : Str} {v : V} {r : List (Str × V)} (h : ¬ k = k') (q : r.lookup k = none) : ((k', v) :: r).lookup k = none := by
  have e : (k == k') = false := beq_eq_false_iff_ne.mpr h
  show (match k == k' with | true => some v | false => List.lookup k r) = none
  rw [e]
  exact q
theorem lke {k : Str} : ([] : List (Str × V)).lookup k = none := rfl
theorem pu0 {k : Str} {v w : V} {r : List (Str × V)} : putF k w ((k, v) :: r) = (k, w) :: r := by
  show (if k = k then _ else _) = _
  rw [if_pos rfl]
theorem pu1 {k k' : Str} {v w : V} {r : List (Str × V)} (h : ¬ k' = k) : putF k w ((k', v) :: r) = (k', v) :: putF k w r := by
  show (if k' = k then _ else _) = _
  rw [if_neg h]
theorem pue {k : Str} {w : V} : putF k w [] = [(k, w)] := rfl
theorem w_yes {Q : Bool → Hp → Prop} (q : Q true H) : tYes σ H Q := q
theorem w_nil {Q : List V → Hp → Prop} (q : Q [] H) : tNil σ H Q := q
theorem w_cons {Q : List V → Hp → Prop} (q : ta σ H fun x H1 => ts σ H1 fun xs H2 => Q (x :: xs) H2) : tCons ta ts σ H Q := q
theorem w_cb {r : List V → Hp → VK → Prop} (q : ts σ H fun vs H1 => r vs H1 Q) : tCB r ts σ H Q := q
theorem w_call {sp : Sp} {dvs : List V} (q : ts σ H fun vs H1 => sp (vs ++ dvs) H1 Q E) : tCall sp dvs E ts σ H Q := q
/-- a new instance -/
def Mkr (C : Addr) (sp : Sp) (vs : List V) (E : XK) (Q : VK) (H : Hp) : Prop := ∀ x dx, H x = none → H dx = none → dx ≠ x → sp (.ref x :: vs) (upd (upd H dx (.own x)) x (.ins C dx [])) (fun v H2 => v = .non ∧ Q (.ref x) H2) E
theorem w_make {C : Addr} {sp : Sp} {dvs : List V} (q : ts σ H fun vs H1 => Mkr C sp (vs ++ dvs) E Q H1) : tMake C sp dvs E ts σ H Q := q
theorem w_mkr {C : Addr} {sp : Sp} {vs : List V} {B : Hp} {L : List (Addr × HO)} (hs : Hs B L H) (q : ∀ x dx H', Hs B ((x, .ins C dx []) :: L) H' → sp (.ref x :: vs) H' (fun v H2 => v = .non ∧ Q (.ref x) H2) E) : Mkr C sp vs E Q H := fun x dx hx hd ne =>
  q x dx _ ((hs.new hd).new (p := x) (by rw [upd_ne ne.symm]; exact hx)).d1
/-- an own method's receiver -/
def Rc (m : Str) (C : Addr) (x : V) (H : Hp) (R : Prop) : Prop := ∃ a dx fs, x = .ref a ∧ H a = some (.ins C dx fs) ∧ fs.lookup m = none ∧ R
theorem w_meth {C : Addr} {sp : Sp} {dvs : List V} (q : ta σ H fun x H1 => Rc m C x H1 (ts σ H1 fun vs H2 => sp (x :: (vs ++ dvs)) H2 Q E)) : tMeth C m sp dvs E ta ts σ H Q := by
  revert q
  unfold tMeth Rc
  exact id
theorem w_rc {C dx : Addr} {fs : List (Str × V)} {R : Prop} (h : H p = some (.ins C dx fs)) (hl : fs.lookup m = none) (q : R) : Rc m C (.ref p) H R := ⟨p, dx, fs, rfl, h, hl, q⟩
theorem w_bm {T : String} {r : V → List V → Hp → VK → Prop} (q : to σ H fun x H1 => tyV K T x H1 ∧ ts σ H1 fun xs H2 => r x xs H2 Q) : tBM K T r to ts σ H Q := q
theorem w_bm0 {T : String} {r : V → List V → Hp → VK → Prop} (q : to σ H fun x H1 => tyV K T x H1 ∧ r x [] H1 Q) : tBM0 K T r to σ H Q := q
theorem w_tyL {xs : List V} {R : Prop} (h : SqL K H p xs) (q : R) : tyV K "list" (.ref p) H ∧ R := ⟨.inl ⟨rfl, _, h⟩, q⟩
theorem w_tyS {s : Str} {R : Prop} (q : R) : tyV K "str" (.str s) H ∧ R := ⟨rfl, q⟩
/-- a new list, a new tuple -/
def NewL (Q : VK) (xs : List V) (H : Hp) : Prop := xs.length ≤ sizeLine ∧ ∀ p, H p = none → Q (.ref p) (upd H p (.lst xs))
def NewT (Q : VK) (xs : List V) (H : Hp) : Prop := xs.length ≤ sizeLine ∧ ∀ p, H p = none → Q (.ref p) (upd H p (.tup xs))
theorem w_tup (q : ts σ H fun xs H1 => NewT Q xs H1) : tTup ts σ H Q := q
theorem w_lst (q : ts σ H fun xs H1 => NewL Q xs H1) : tLst ts σ H Q := q
theorem w_new {B : Hp} {L : List (Addr × HO)} {o : HO} (hs : Hs B L H) (q : ∀ p H', Hs B ((p, o) :: L) H' → Q (.ref p) H') : ∀ p, H p = none → Q (.ref p) (upd H p o) := fun p hp => q p _ (hs.new hp)
theorem w_newL {B : Hp} {L : List (Addr × HO)} {xs : List V} (hs : Hs B L H) (hl : xs.length ≤ sizeLine) (q : ∀ p H', Hs B ((p, .lst xs) :: L) H' → Q (.ref p) H') : NewL Q xs H := ⟨hl, w_new hs q⟩
theorem w_newT {B : Hp} {L : List (Addr × HO)} {xs : List V} (hs : Hs B L H) (hl : xs.length ≤ sizeLine) (q : ∀ p H', Hs B ((p, .tup xs) :: L) H' → Q (.ref p) H') : NewT Q xs H := ⟨hl, w_new hs q⟩
theorem w_sl {r : V → Option Int → Option Int → Hp → VK → Prop} {tl th : TO} (q : te σ H fun x H1 => tl σ H1 fun l H2 => th σ H2 fun u H3 => r x l u H3 Q) : tSl r te tl th σ H Q := q
theorem w_noPart {Q : Option Int → Hp → Prop} (q : Q none H) : tNoPart σ H Q := q
theorem w_part {Q : Option Int → Hp → Prop} (q : te σ H fun x H1 => ∃ i, x = .int i ∧ Q (some i) H1) : tPart te σ H Q := q
theorem w_exi {b : Int} {P : Int → Prop} (q : P b) : ∃ k, V.int b = .int k ∧ P k := ⟨b, rfl, q⟩
theorem w_slL {B : Hp} {L : List (Addr × HO)} {xs : List V} {lo hi : Option Int} (hs : Hs B L H) (h : SqL K H p xs) (q : ∀ l H', Hs B ((l, .lst (cutV xs lo hi)) :: L) H' → Q (.ref l) H') : rSlL K (.ref p) lo hi H Q := ⟨p, xs, rfl, h, w_new hs q⟩
theorem w_cat {B : Hp} {L : List (Addr × HO)} {a b : Addr} {xs ys : List V} (hs : Hs B L H) (ha : H a = some (.lst xs)) (hb : H b = some (.lst ys)) (hl : xs.length + ys.length ≤ sizeLine) (q : ∀ l H', Hs B ((l, .lst (xs ++ ys)) :: L) H' → Q (.ref l) H') : rCat (.ref a) (.ref b) H Q :=
  ⟨a, b, xs, ys, rfl, rfl, ha, hb, hl, w_new hs q⟩
/-! #### calls of built-ins -/
def rLen (K : PySem.W.Frag) : List V → Hp → VK → Prop := fun xs H Q => ∃ p ys, xs = [.ref p] ∧ (SqL K H p ys ∨ SqT K H p ys) ∧ Q (.int ys.length) H
theorem call_lenQ {X : Cx} : CallR X (.builtin "len") (rLen X.K) := call_len_seq
theorem w_len {xs : List V} (h : SqL K H p xs) (q : Q (.int xs.length) H) : rLen K [.ref p] H Q := ⟨p, xs, rfl, .inl h, q⟩
theorem w_lenT {xs : List V} (h : SqT K H p xs) (q : Q (.int xs.length) H) : rLen K [.ref p] H Q := ⟨p, xs, rfl, .inr h, q⟩
def rAbs : List V → Hp → VK → Prop := fun xs H Q => ∃ i, xs = [.int i] ∧ Q (.int (if i < 0 then -i else i)) H
theorem call_absQ {X : Cx} : CallR X (.builtin "abs") rAbs := call_abs
theorem w_abs {a : Int} (q : Q (.int (if a < 0 then -a else a)) H) : rAbs [.int a] H Q := ⟨a, rfl, q⟩
def rInt : List V → Hp → VK → Prop := fun xs H Q => (∃ i, xs = [.int i] ∧ Q (.int i) H) ∨ ∃ k, xs = [.bl k] ∧ Q (.int (if k then 1 else 0)) H
theorem call_intQ {X : Cx} : CallR X (.type "int") rInt := call_int1
theorem w_int {a : Int} (q : Q (.int a) H) : rInt [.int a] H Q := .inl ⟨a, rfl, q⟩
theorem w_intB {b : Bool} (q : Q (.int (if b then 1 else 0)) H) : rInt [.bl b] H Q := .inr ⟨b, rfl, q⟩
def rStr : List V → Hp → VK → Prop := fun xs H Q => ∃ i, xs = [.int i] ∧ i.natAbs.log2 < 1920 ∧ Q (.str (toString i)) H
theorem call_strQ {X : Cx} : CallR X (.type "str") rStr := call_str_int
theorem w_str {a : Int} (h : a.natAbs < 2 ^ 64) (q : Q (.str (toString a)) H) : rStr [.int a] H Q := ⟨a, rfl, Nat.lt_of_lt_of_le (PySem.Flt.log2_lt_of (by decide) h) (by decide), q⟩
def rAddS : R2 := fun x y H Q => ∃ i j, x = .str i ∧ y = .str j ∧ i.length + j.length ≤ sizeLine ∧ Q (.str (i ++ j)) H
theorem op_addS {X : Cx} : OpR X (binaryOp .Add) rAddS := op_add_str
theorem w_addS {a b : Str} (h : a.length + b.length ≤ sizeLine) (q : Q (.str (a ++ b)) H) : rAddS (.str a) (.str b) H Q := ⟨a, b, rfl, rfl, h, q⟩
/-! #### methods of lists -/
section
variable {B : Hp} {L L' : List (Addr × HO)} {l : Addr} {xs : List V}
theorem w_app (hs : Hs B L H) (h : Put L l (.lst xs) (.lst (xs ++ [y])) L') (hl : xs.length < sizeLine) (q : ∀ H', Hs B L' H' → Q .non H') : rAppend (.ref l) [y] H Q := ⟨l, xs, y, rfl, rfl, hs.gets h, hl, q _ (hs.puts h)⟩
theorem w_clear (hs : Hs B L H) (h : Put L l (.lst xs) (.lst []) L') (q : ∀ H', Hs B L' H' → Q .non H') : rClear (.ref l) [] H Q := ⟨l, xs, rfl, rfl, hs.gets h, q _ (hs.puts h)⟩
theorem six_nat {n k : Nat} {j : Int} (e : j = (k : Int)) (h : k < n) : seqIndex? j n = some k := by
  subst e
  unfold seqIndex?
  have h1 : ¬ (k : Int) < 0 := by omega
  have h2 : (k : Int) < (n : Int) := by omega
  simp only [if_neg h1]
  simp [h2]
theorem w_popAt {k : Nat} {j : Int} (hs : Hs B L H) (h : Put L l (.lst xs) (.lst (xs.eraseIdx k)) L') (e : j = (k : Int)) (hk : xs[k]? = some y) (hz : xs.length ≤ sizeLine) (q : ∀ H', Hs B L' H' → Q y H') : rPopAt (.ref l) [.int j] H Q := by
  have hk' := (List.getElem?_eq_some_iff.mp hk).1
  have h63 := line63
  refine ⟨l, xs, j, k, y, rfl, rfl, hs.gets h, by omega, ?_, six_nat e hk', hk, q _ (hs.puts h)⟩
  have : xs.length < 2 ^ 63 := Nat.lt_of_le_of_lt hz h63
  omega
def rInsert : V → List V → Hp → VK → Prop := fun x vs H Q => ∃ (l : Addr) (xs : List V) (i : Int) (y : V), x = .ref l ∧ vs = [.int i, y] ∧ H l = some (.lst xs) ∧ xs.length < sizeLine ∧ 0 ≤ i ∧ i < 2 ^ 63 ∧ Q .non (upd H l (.lst (xs.take i.toNat ++ [y] ++ xs.drop i.toNat)))
theorem mt_insertQ {X : Cx} : MtR X "list.insert" rInsert := mt_insert
theorem w_insert0 (hs : Hs B L H) (h : Put L l (.lst xs) (.lst (y :: xs)) L') (hl : xs.length < sizeLine) (q : ∀ H', Hs B L' H' → Q .non H') : rInsert (.ref l) [.int 0, y] H Q :=
  ⟨l, xs, 0, y, rfl, rfl, hs.gets h, hl, by decide, by decide, q _ (hs.puts h)⟩
def rDelL (x y : V) (H : Hp) (R : Hp → Prop) : Prop := ∃ (l : Addr) (xs : List V) (i : Int) (k : Nat), x = .ref l ∧ y = .int i ∧ H l = some (.lst xs) ∧ -(2 ^ 63) ≤ i ∧ i < 2 ^ 63 ∧ seqIndex? i xs.length = some k ∧ R (upd H l (.lst (xs.eraseIdx k)))
theorem w_delL0 (q : to σ H fun x H1 => ti σ H1 fun y H2 => rDelL x y H2 (D.nx σ)) : tDelL to ti D σ H := q
theorem w_delL {k : Nat} {j : Int} {R : Hp → Prop} (hs : Hs B L H) (h : Put L l (.lst xs) (.lst (xs.eraseIdx k)) L') (e : j = (k : Int)) (hk : k < xs.length) (hz : xs.length ≤ sizeLine) (q : ∀ H', Hs B L' H' → R H') : rDelL (.ref l) (.int j) H R := by
  have h63 := line63
  refine ⟨l, xs, j, k, rfl, rfl, hs.gets h, by omega, ?_, six_nat e hk, q _ (hs.puts h)⟩
  have : xs.length < 2 ^ 63 := Nat.lt_of_le_of_lt hz h63
  omega
theorem w_setL {k : Nat} {j : Int} {R : Hp → Prop} (hs : Hs B L H) (h : Put L l (.lst xs) (.lst (xs.set k y)) L') (e : j = (k : Int)) (hk : k < xs.length) (q : ∀ H', Hs B L' H' → R H') : rSetL (.ref l) (.int j) y H R := by
  refine ⟨l, xs, j, k, rfl, rfl, hs.gets h, ?_, q _ (hs.puts h)⟩
  subst e
  unfold ixN
  rw [if_pos (by omega), if_pos (by omega)]
  simp
/-- a field's store -/
theorem w_fsP {R : Hp → Prop} {C dx : Addr} {fs gs : List (Str × V)} (hs : Hs B L H) (h : Put L p (.ins C dx fs) (.ins C dx gs) L') (hc : Cls K C) (hn : NoAttr K C f) (hl : fs.length < 1000) (hg : putF f y fs = gs) (q : ∀ H', Hs B L' H' → R H') : Fs K f y (.ref p) H R := by
  subst hg
  exact w_fs (hs.gets h) hc hn hl (q _ (hs.puts h))
/-! #### loops -/
theorem w_forL {tl : TE} {a : Addr} {tb : TS} (hx : SqL K H a xs) (Pv : Nat → St → Hp → Prop) (htl : ∀ Q : VK, Q (.ref a) H → tl σ H Q) (h0 : Pv 0 σ H) (hl : ∀ i σ H, i ≤ xs.length → Pv i σ H → SqL K H a xs)
    (hs : ∀ i x σ H, xs[i]? = some x → Pv i σ H → g x σ H fun σ2 H2 => tb { D with nx := Pv (i + 1), ct := Pv (i + 1), bk := D.nx } σ2 H2) (hd : ∀ σ H, Pv xs.length σ H → D.nx σ H) : tFor (iList K tl) g tb D σ H :=
  htl _ ⟨a, rfl, ⟨xs, hx⟩, for_list Pv h0 hl hs hd⟩
theorem w_forR {ta : TA} {tb : TS} {n : Int} (hn : n < 2 ^ 62) (Pv : Nat → St → Hp → Prop) (hta : ∀ Q : List V → Hp → Prop, Q [.int n] H → ta σ H Q) (hm : -(2 ^ 62) ≤ n) (h0 : Pv 0 σ H)
    (hs : ∀ (i : Nat) σ H, (i : Int) < n → Pv i σ H → g (.int (i : Int)) σ H fun σ2 H2 => tb { D with nx := Pv (i + 1), ct := Pv (i + 1), bk := D.nx } σ2 H2) (hd : ∀ σ H, Pv n.toNat σ H → D.nx σ H) : tFor (iRng1 ta) g tb D σ H :=
  hta _ ⟨n, rfl, hm, hn, for_range (lo := 0) (n := n.toNat) Pv h0 (fun i σ' H' hi p => by
    have e0 : (0 : Int) + (i : Int) = (i : Int) := Int.zero_add _
    rw [e0]
    exact hs i σ' H' (by omega) p) hd⟩
/-- [e for x in xs] over a list -/
theorem w_lc {tl : TE} {a : Addr} {vs : List Nat} {tt : TT} (hx : SqL K H a xs) (Pv : Addr → Nat → Hp → Prop) (htl : ∀ Q : VK, Q (.ref a) H → tl σ H Q) (h0 : ∀ D, H D = none → Pv D 0 (upd H D (.lst []))) (hl : ∀ D i H, i ≤ xs.length → Pv D i H → SqL K H a xs)
    (hs : ∀ D i x H, xs[i]? = some x → Pv D i H → g x (wipe σ vs) H fun σ2 H2 => wipe σ2 vs = wipe σ vs ∧ tt σ2 H2 fun b H3 =>
      if b = true then te σ2 H3 fun y H4 => ∃ acc, H4 D = some (.lst acc) ∧ acc.length < sizeLine ∧ Pv D (i + 1) (upd H4 D (.lst (acc ++ [y]))) else Pv D (i + 1) H3) (hd : ∀ D H, Pv D xs.length H → Q (.ref D) H) : tLc (iList K tl) g tt te vs σ H Q :=
  htl _ ⟨a, rfl, ⟨xs, hx⟩, fun D hD => lc_list (Pv D) (h0 D hD) (hl D) (hs D) (hd D)⟩
end
theorem w_sub {R : St → Hp → Prop} {tset : TSet} (q : to σ H fun o H1 => ti σ H1 fun i H2 => tset o i v H2 fun H3 => R σ H3) : gSub to ti tset v σ H R := q
/-- a while's body, at the measure m -/
def LpB (W : Nat → St → Hp → Prop) (m : Nat) (D : Ends) (tb : TS) (σ : St) (H1 : Hp) : Prop := ∃ N : St → Hp → Prop, (∀ σ' H', N σ' H' → ∃ m', m' < m ∧ W m' σ' H') ∧ tb { D with nx := N, ct := N, bk := D.nx } σ H1
theorem w_while {c : TT} {tb : TS} {D : Ends} {σ : St} {H : Hp} (W : Nat → St → Hp → Prop) (m : Nat) (h0 : W m σ H)
    (hs : ∀ m σ H, W m σ H → c σ H fun b H1 => if b = true then LpB W m D tb σ H1 else D.nx σ H1) : tWhile c tb D σ H := ⟨W, ⟨m, h0⟩, hs⟩
theorem w_lpb {W : Nat → St → Hp → Prop} {m : Nat} {D : Ends} {tb : TS} {σ : St} {H : Hp} (q : tb { D with nx := fun σ' H' => ∃ m', m' < m ∧ W m' σ' H', ct := fun σ' H' => ∃ m', m' < m ∧ W m' σ' H', bk := D.nx } σ H) : LpB W m D tb σ H := ⟨_, fun _ _ h => h, q⟩
end
theorem ifd {p A B : Prop} [Decidable p] (h1 : p → A) (h2 : ¬ p → B) : if decide p = true then A else B := by
  by_cases h : p
  · rw [decide_eq_true h]
    exact iteT (h1 h)
  · rw [decide_eq_false h]
    exact iteF (h2 h)
theorem ifn {p A B : Prop} [Decidable p] (h1 : ¬ p → A) (h2 : p → B) : if (!decide p) = true then A else B := by
  by_cases h : p
  · rw [decide_eq_true h]
    exact iteF (h2 h)
  · rw [decide_eq_false h]
    exact iteT (h1 h)
theorem ifb {b : Bool} {A B : Prop} (h1 : b = true → A) (h2 : b = false → B) : if b = true then A else B := by
  cases b with
  | true => exact iteT (h1 rfl)
  | false => exact iteF (h2 rfl)
theorem eraseIdx_map {α β : Type} (f : α → β) : ∀ (l : List α) (k : Nat), (l.map f).eraseIdx k = (l.eraseIdx k).map f
  | [], _ => rfl
  | _ :: _, 0 => rfl
  | x :: l, k + 1 => congrArg (f x :: ·) (eraseIdx_map f l k)
theorem sz {n : Nat} (h : n ≤ 1000000) : n ≤ sizeLine := Nat.le_trans h (by decide)
theorem szl {n : Nat} (h : n ≤ 1000000) : n < sizeLine := Nat.lt_of_le_of_lt h (by decide)
theorem take_min {α : Type} (xs : List α) (n : Nat) : xs.take (min n xs.length) = xs.take n := by
  by_cases h : n ≤ xs.length
  · rw [Nat.min_eq_left h]
  · rw [Nat.min_eq_right (by omega), List.take_length, List.take_of_length_le (by omega)]
theorem drop_min {α : Type} (xs : List α) (n : Nat) : xs.drop (min n xs.length) = xs.drop n := by
  by_cases h : n ≤ xs.length
  · rw [Nat.min_eq_left h]
  · rw [Nat.min_eq_right (by omega), List.drop_length, List.drop_of_length_le (by omega)]
theorem cut_to {xs : List V} {j : Int} (n : Nat) (e : j = (n : Int)) : cutV xs none (some j) = xs.take n := by
  subst e
  unfold cutV
  rw [HT.sIx_none, HT.sIx_nat, List.drop_zero, Nat.sub_zero, take_min]
theorem cut_from {xs : List V} {j : Int} (n : Nat) (e : j = (n : Int)) : cutV xs (some j) none = xs.drop n := by
  subst e
  unfold cutV
  rw [HT.sIx_none, HT.sIx_nat, drop_min, List.take_of_length_le]
  rw [List.length_drop]
  omega
theorem cut_len {xs : List V} {lo hi : Option Int} : (cutV xs lo hi).length ≤ xs.length := by
  unfold cutV
  rw [List.length_take, List.length_drop]
  omega
theorem cut_all {xs : List V} : cutV xs none none = xs := by
  unfold cutV HT.sIx
  simp
/-! ### lists of texts, of ints, as data -/
theorem dpa_str {K : PySem.W.Frag} {H : Hp} : ∀ xs : List Str, DpAll K H (xs.map V.str) (xs.map PyData.str)
  | [] => .nil
  | x :: xs => .cons (.str x) (dpa_str xs)
theorem dpa_int {K : PySem.W.Frag} {H : Hp} : ∀ xs : List Int, DpAll K H (xs.map V.int) (xs.map PyData.int)
  | [] => .nil
  | x :: xs => .cons (.int x) (dpa_int xs)
theorem depth_str : ∀ xs : List Str, PyData.depthAll (xs.map PyData.str) ≤ 1
  | [] => by simp [PyData.depthAll]
  | x :: xs => by
    have := depth_str xs
    simp [PyData.depthAll, PyData.depth] at this ⊢
    omega
theorem lay_str : ∀ xs : List Str, (∀ x ∈ xs, PyData.strOk x = true) → PyData.canLayAll0 (xs.map PyData.str) = true
  | [], _ => by simp [PyData.canLayAll0]
  | x :: xs, h => by
    have h1 := h x List.mem_cons_self
    have h2 := lay_str xs fun y hy => h y (List.mem_cons_of_mem _ hy)
    simp only [List.map_cons, PyData.canLayAll0, PyData.canLay0, h1, h2, Bool.and_self]
theorem shp_str {xs : List Str} (h : ∀ x ∈ xs, PyData.strOk x = true) : SeqAt.shaped (.list (xs.map PyData.str)) = true := by
  have e := depth_str xs
  have l := lay_str xs h
  unfold SeqAt.shaped PyData.canLay0 PyData.depth
  rw [l]
  simp only [Bool.true_and, decide_eq_true_eq]
  omega
theorem w_neS {K : PySem.W.Frag} {H : Hp} {Q : VK} {p q : Addr} {xs : List Str} (h1 : SqL K H p (xs.map V.str)) (h2 : SqL K H q (xs.map V.str)) (hk : ∀ x ∈ xs, PyData.strOk x = true) (k : Q (.bl false) H) : rNeD K (.ref p) (.ref q) H Q :=
  ⟨_, _, .lst h1 (dpa_str xs), .lst h2 (dpa_str xs), shp_str hk, shp_str hk, by
    rw [SeqAt.eqv_refl _ (by have := shp_str hk; unfold SeqAt.shaped at this; exact (Bool.and_eq_true_iff.mp this).1)]
    exact k⟩
theorem w_isi {K : PySem.W.Frag} {H : Hp} {Q : VK} {b : Bool} (k : Q (.bl true) H) : rIsi K [.bl b, .ty "bool"] H Q :=
  ⟨_, _, _, _, true, rfl, .ty "bool", .base (.bl b), kit_ty (by decide +kernel), k⟩
theorem w_neB {a b : Bool} {H : Hp} {Q : VK} (q : Q (.bl (!decide (a = b))) H) : rNe (.bl a) (.bl b) H Q := ⟨rfl, by
  have e : decide (V.bl a = V.bl b) = decide (a = b) := by cases a <;> cases b <;> decide
  rw [e]
  exact q⟩
end Hb

set_option Elab.async false
set_option maxRecDepth 100000
set_option maxHeartbeats 4000000
namespace K3
open PySem L2 Hb
def top (i : Nat) : Stmt := PySem.Challenge.pw_hangbridge_k03_lanes_of_frames.main.body.getD i (.Pass ⟨0, 0, 0, 0⟩)
abbrev s_Lane_init : Stmt := (inClass (top 2) 0)
abbrev s_Lane_put : Stmt := (inClass (top 2) 1)
abbrev s_Lane_deliver : Stmt := (inClass (top 2) 2)
abbrev s_Lane_has : Stmt := (inClass (top 2) 3)
abbrev s_Lane_lose : Stmt := (inClass (top 2) 4)
abbrev s_Lane_double : Stmt := (inClass (top 2) 5)
abbrev s_Lane_hasten : Stmt := (inClass (top 2) 6)
abbrev s_Lane_clear : Stmt := (inClass (top 2) 7)
abbrev s__law_state : Stmt := (top 4)
abbrev s__law_draw : Stmt := (top 5)
abbrev s_law : Stmt := (top 7)
abbrev N_Lane_init : List Str := ["self"]
theorem sc_Lane_init : FnScope N_Lane_init ["self"] (defScope s_Lane_init) := ⟨rfl, rfl, rfl, by decide +kernel, rfl, by decide +kernel, by decide +kernel⟩
abbrev N_Lane_put : List Str := ["self", "text"]
theorem sc_Lane_put : FnScope N_Lane_put ["self", "text"] (defScope s_Lane_put) := ⟨rfl, rfl, rfl, by decide +kernel, rfl, by decide +kernel, by decide +kernel⟩
abbrev N_Lane_deliver : List Str := ["self"]
theorem sc_Lane_deliver : FnScope N_Lane_deliver ["self"] (defScope s_Lane_deliver) := ⟨rfl, rfl, rfl, by decide +kernel, rfl, by decide +kernel, by decide +kernel⟩
abbrev N_Lane_has : List Str := ["self", "at"]
theorem sc_Lane_has : FnScope N_Lane_has ["self", "at"] (defScope s_Lane_has) := ⟨rfl, rfl, rfl, by decide +kernel, rfl, by decide +kernel, by decide +kernel⟩
abbrev N_Lane_lose : List Str := ["self", "at", "there"]
theorem sc_Lane_lose : FnScope N_Lane_lose ["self", "at"] (defScope s_Lane_lose) := ⟨rfl, rfl, rfl, by decide +kernel, rfl, by decide +kernel, by decide +kernel⟩
abbrev N_Lane_double : List Str := ["self", "at", "there"]
theorem sc_Lane_double : FnScope N_Lane_double ["self", "at"] (defScope s_Lane_double) := ⟨rfl, rfl, rfl, by decide +kernel, rfl, by decide +kernel, by decide +kernel⟩
abbrev N_Lane_hasten : List Str := ["self", "at", "there"]
theorem sc_Lane_hasten : FnScope N_Lane_hasten ["self", "at"] (defScope s_Lane_hasten) := ⟨rfl, rfl, rfl, by decide +kernel, rfl, by decide +kernel, by decide +kernel⟩
abbrev N_Lane_clear : List Str := ["self"]
theorem sc_Lane_clear : FnScope N_Lane_clear ["self"] (defScope s_Lane_clear) := ⟨rfl, rfl, rfl, by decide +kernel, rfl, by decide +kernel, by decide +kernel⟩
abbrev N__law_state : List Str := ["script", "seed", "cell"]
theorem sc__law_state : FnScope N__law_state ["script"] (defScope s__law_state) := ⟨rfl, rfl, rfl, by decide +kernel, rfl, by decide +kernel, by decide +kernel⟩
abbrev N__law_draw : List Str := ["state", "many", "cells", "value", "mixed"]
theorem sc__law_draw : FnScope N__law_draw ["state", "many"] (defScope s__law_draw) := ⟨rfl, rfl, rfl, by decide +kernel, rfl, by decide +kernel, by decide +kernel⟩
abbrev N_law : List Str := ["script", "state", "lane", "due", "many", "k", "kind", "at", "first", "there", "told"]
theorem sc_law : FnScope N_law ["script"] (defScope s_law) := ⟨rfl, rfl, rfl, by decide +kernel, rfl, by decide +kernel, by decide +kernel⟩
structure Ad where
  Lane : Addr
  Lane_init : Addr
  fd_Lane_init : FuncData
  Lane_put : Addr
  fd_Lane_put : FuncData
  Lane_deliver : Addr
  fd_Lane_deliver : FuncData
  Lane_has : Addr
  fd_Lane_has : FuncData
  Lane_lose : Addr
  fd_Lane_lose : FuncData
  Lane_double : Addr
  fd_Lane_double : FuncData
  Lane_hasten : Addr
  fd_Lane_hasten : FuncData
  Lane_clear : Addr
  fd_Lane_clear : FuncData
  _law_state : Addr
  fd__law_state : FuncData
  _law_draw : Addr
  fd__law_draw : FuncData
  law : Addr
  fd_law : FuncData
structure Txt (K : PySem.W.Frag) (mg : Str → Option Value) (a : Ad) : Prop where
  cl_Lane : Cls K a.Lane
  mg_Lane : mg "Lane" = some (.ref a.Lane)
  na_Lane_frames : NoAttr K a.Lane "frames"
  fn_Lane_init : Fun K "__init__" "Lane.__init__" s_Lane_init a.Lane_init a.fd_Lane_init
  bi_Lane_init : Binds K a.fd_Lane_init ["self"] []
  mk_Lane : Mk K a.Lane a.Lane_init
  fn_Lane_put : Fun K "put" "Lane.put" s_Lane_put a.Lane_put a.fd_Lane_put
  bi_Lane_put : Binds K a.fd_Lane_put ["self", "text"] []
  me_Lane_put : Meth K a.Lane "put" a.Lane_put
  fn_Lane_deliver : Fun K "deliver" "Lane.deliver" s_Lane_deliver a.Lane_deliver a.fd_Lane_deliver
  bi_Lane_deliver : Binds K a.fd_Lane_deliver ["self"] []
  me_Lane_deliver : Meth K a.Lane "deliver" a.Lane_deliver
  fn_Lane_has : Fun K "_has" "Lane._has" s_Lane_has a.Lane_has a.fd_Lane_has
  bi_Lane_has : Binds K a.fd_Lane_has ["self", "at"] []
  me_Lane_has : Meth K a.Lane "_has" a.Lane_has
  fn_Lane_lose : Fun K "lose" "Lane.lose" s_Lane_lose a.Lane_lose a.fd_Lane_lose
  bi_Lane_lose : Binds K a.fd_Lane_lose ["self", "at"] []
  me_Lane_lose : Meth K a.Lane "lose" a.Lane_lose
  fn_Lane_double : Fun K "double" "Lane.double" s_Lane_double a.Lane_double a.fd_Lane_double
  bi_Lane_double : Binds K a.fd_Lane_double ["self", "at"] []
  me_Lane_double : Meth K a.Lane "double" a.Lane_double
  fn_Lane_hasten : Fun K "hasten" "Lane.hasten" s_Lane_hasten a.Lane_hasten a.fd_Lane_hasten
  bi_Lane_hasten : Binds K a.fd_Lane_hasten ["self", "at"] []
  me_Lane_hasten : Meth K a.Lane "hasten" a.Lane_hasten
  fn_Lane_clear : Fun K "clear" "Lane.clear" s_Lane_clear a.Lane_clear a.fd_Lane_clear
  bi_Lane_clear : Binds K a.fd_Lane_clear ["self"] []
  me_Lane_clear : Meth K a.Lane "clear" a.Lane_clear
  fn__law_state : Fun K "_law_state" "_law_state" s__law_state a._law_state a.fd__law_state
  bi__law_state : Binds K a.fd__law_state ["script"] []
  mg__law_state : mg "_law_state" = some (.ref a._law_state)
  kp__law_state : PySem.W.keepIn K (.ref a._law_state) = true
  fn__law_draw : Fun K "_law_draw" "_law_draw" s__law_draw a._law_draw a.fd__law_draw
  bi__law_draw : Binds K a.fd__law_draw ["state", "many"] []
  mg__law_draw : mg "_law_draw" = some (.ref a._law_draw)
  kp__law_draw : PySem.W.keepIn K (.ref a._law_draw) = true
  fn_law : Fun K "law" "law" s_law a.law a.fd_law
  bi_law : Binds K a.fd_law ["script"] []
  mg_law : mg "law" = some (.ref a.law)
  kp_law : PySem.W.keepIn K (.ref a.law) = true
  mg_MOST_FRAMES : ∃ tk, mg "MOST_FRAMES" = some (.int 32 tk)
  mg_len : mg "len" = none
  mg_abs : mg "abs" = none
  mg_int : mg "int" = none
  mg_range : mg "range" = none
  mg_str : mg "str" = none
  mg_isinstance : mg "isinstance" = none
  mg_bool : mg "bool" = none
local macro_rules | `(tactic| walk_at "g") => `(tactic| first | assumption | exact Hs.g0 (by assumption) | exact Hs.g1 (by assumption) | exact Hs.g2 (by assumption) | exact Hs.g3 (by assumption) | exact Hs.g4 (by assumption) | exact Hs.g5 (by assumption) | exact Hs.g6 (by assumption) | exact Hs.g7 (by assumption) | exact Hs.g8 (by assumption) | exact Hs.g9 (by assumption) | exact Hs.g10 (by assumption) | exact Hs.g11 (by assumption) | exact Hs.g12 (by assumption) | exact Hs.g13 (by assumption) | exact Hs.g14 (by assumption) | exact Hs.g15 (by assumption) | exact Hs.old (by assumption) (by assumption))
local macro_rules | `(tactic| walk_at "l") => `(tactic| first | assumption | exact SqL.of (by walk_at "g") | exact Hs.sql (by assumption) (by assumption))
local macro_rules | `(tactic| walk_at "p") => `(tactic| first | exact .here | exact .there .here | exact .there (.there .here) | exact .there (.there (.there .here)) | exact .there (.there (.there (.there .here))) | exact .there (.there (.there (.there (.there .here)))) | exact .there (.there (.there (.there (.there (.there .here))))) | exact .there (.there (.there (.there (.there (.there (.there .here)))))) | exact .there (.there (.there (.there (.there (.there (.there (.there .here))))))) | exact .there (.there (.there (.there (.there (.there (.there (.there (.there .here)))))))) | exact .there (.there (.there (.there (.there (.there (.there (.there (.there (.there .here))))))))) | exact .there (.there (.there (.there (.there (.there (.there (.there (.there (.there (.there .here)))))))))) | exact .there (.there (.there (.there (.there (.there (.there (.there (.there (.there (.there (.there .here))))))))))) | exact .there (.there (.there (.there (.there (.there (.there (.there (.there (.there (.there (.there (.there .here)))))))))))))
local macro_rules | `(tactic| walk_at "f") => `(tactic| first | exact lk0 | exact lk1 (by decide +kernel) lk0 | exact lk1 (by decide +kernel) (lk1 (by decide +kernel) lk0) | exact lk1 (by decide +kernel) (lk1 (by decide +kernel) (lk1 (by decide +kernel) lk0)) | exact lk1 (by decide +kernel) (lk1 (by decide +kernel) (lk1 (by decide +kernel) (lk1 (by decide +kernel) lk0))))
local macro_rules | `(tactic| walk_at "fn") => `(tactic| first | exact lke | exact lkn (by decide +kernel) lke | exact lkn (by decide +kernel) (lkn (by decide +kernel) lke) | exact lkn (by decide +kernel) (lkn (by decide +kernel) (lkn (by decide +kernel) lke)) | exact lkn (by decide +kernel) (lkn (by decide +kernel) (lkn (by decide +kernel) (lkn (by decide +kernel) lke))))
local macro_rules | `(tactic| walk_at "fp") => `(tactic| first | exact pue | exact pu0 | (rw [pu1 (by decide +kernel)]; first | rw [pue] | rw [pu0] | (rw [pu1 (by decide +kernel)]; first | rw [pue] | rw [pu0] | (rw [pu1 (by decide +kernel)]; first | rw [pue] | rw [pu0]))))
local macro_rules | `(tactic| walk_at "c") => `(tactic| first | assumption | omega | (dsimp only; omega) | (unfold CMul; omega))
local macro_rules | `(tactic| walk_at "z") => `(tactic| first | assumption | (refine sz ?_; first | decide | omega | (simp only [List.length_map, List.length_append] <;> omega) | (simp only [List.length_cons, List.length_nil, List.length_map, List.length_append] <;> omega)) | (refine szl ?_; first | decide | omega | (simp only [List.length_map, List.length_append] <;> omega) | (simp only [List.length_cons, List.length_nil, List.length_map, List.length_append] <;> omega)))
local macro_rules | `(tactic| walk_at "s") => `(tactic| first
  | with_reducible refine w_seq ?_
  | ((with_reducible refine' w_var ?h ?_); case h => exact rfl)
  | with_reducible refine w_c ?_
  | with_reducible refine w_name ?_
  | with_reducible refine w_asg ?_
  | with_reducible refine w_op ?_
  | with_reducible refine w_I0 ?_
  | with_reducible refine w_exb ?_
  | with_reducible refine w_if ?_
  | with_reducible refine w_test ?_
  | with_reducible refine w_fld ?_
  | ((with_reducible refine' w_fl ?h ?hc ?hn ?hl ?_); (case h => walk_at "g"); (case hc => assumption); (case hn => assumption); (case hl => walk_at "f"))
  | with_reducible refine w_nil ?_
  | with_reducible refine w_cons ?_
  | with_reducible refine w_cb ?_
  | with_reducible refine w_call ?_
  | with_reducible refine w_meth ?_
  | with_reducible refine w_make ?_
  | ((with_reducible refine' w_rc ?h ?hl ?_); (case h => walk_at "g"); (case hl => walk_at "fn"))
  | with_reducible refine w_drop ?_
  | with_reducible refine w_ret ?_
  | with_reducible refine w_retN ?_
  | with_reducible refine w_next ?_
  | with_reducible refine w_brk ?_
  | with_reducible refine w_cont ?_
  | with_reducible refine w_eqI ?_
  | with_reducible refine w_neI ?_
  | with_reducible refine w_neB ?_
  | with_reducible refine w_isi ?_
  | ((with_reducible refine' w_len ?h ?_); case h => walk_at "l")
  | ((with_reducible refine' w_ixL ?h ?a ?_); (case h => walk_at "l"); (case a => first | exact at0 | exact at1 | exact at2 | exact at3 | assumption))
  | with_reducible refine w_bm ?_
  | with_reducible refine w_bm0 ?_
  | ((with_reducible refine' w_tyL ?h ?_); case h => walk_at "l")
  | with_reducible refine w_B ?_
  | with_reducible refine w_not ?_
  | with_reducible refine w_and ?_
  | with_reducible refine w_or ?_
  | with_reducible refine w_andV ?_
  | with_reducible refine w_orV ?_
  | with_reducible refine w_notV ?_
  | with_reducible refine w_ifE ?_
  | with_reducible refine w_chain ?_
  | with_reducible refine w_un ?_
  | with_reducible refine w_U ?_
  | with_reducible refine w_int ?_
  | with_reducible refine w_abs ?_
  | with_reducible refine w_tup ?_
  | with_reducible refine w_lst ?_
  | with_reducible refine w_sl ?_
  | with_reducible refine w_noPart ?_
  | with_reducible refine w_part ?_
  | with_reducible refine w_exi ?_
  | ((with_reducible refine' w_newL ?hs ?hl ?_); (case hs => assumption); (case hl => walk_at "z"); intro _ _ _)
  | ((with_reducible refine' w_newT ?hs ?hl ?_); (case hs => assumption); (case hl => walk_at "z"); intro _ _ _)
  | ((with_reducible refine' w_slL ?hs ?h ?_); (case hs => assumption); (case h => walk_at "l"); intro _ _ _)
  | ((with_reducible refine' w_cat ?hs ?ha ?hb ?hl ?_); (case hs => assumption); (case ha => walk_at "g"); (case hb => walk_at "g"); (case hl => walk_at "z"); intro _ _ _)
  | ((with_reducible refine' w_app ?hs ?h ?hl ?_); (case hs => assumption); (case h => walk_at "p"); (case hl => walk_at "z"); intro _ _)
  | ((with_reducible refine' w_clear ?hs ?h ?_); (case hs => assumption); (case h => walk_at "p"); intro _ _)
  | with_reducible refine w_sfld ?_
  | ((with_reducible refine' w_fsP ?hs ?h ?hc ?hn ?hl ?hg ?_); (case hs => assumption); (case h => walk_at "p"); (case hc => assumption); (case hn => assumption); (case hl => exact Nat.lt_of_lt_of_le (by simp only [List.length_cons, List.length_nil]; omega) (Nat.le_refl 1000)); (case hg => walk_at "fp"); intro _ _)
  | with_reducible refine w_lpb ?_
  | with_reducible refine w_yes ?_
  | with_reducible refine w_sub ?_
  | with_reducible refine w_delL0 ?_
  | ((with_reducible refine' w_I ?h ?_); case h => walk_at "c"))
local macro_rules | `(tactic| walk_at "ss") => `(tactic| repeat walk_at "s")


/-! ### the lane -/
abbrev ln (a : Ad) (dx l : Addr) : HO := .ins a.Lane dx [("frames", .ref l)]
abbrev ls (fr : List Str) : HO := .lst (fr.map V.str)
def hd1 : List Str → V
  | [] => .non
  | t :: _ => .str t
def sp_Lane_init (a : Ad) : Sp := fun vs H Q _ => ∃ (B : Hp) (x dx : Addr), vs = [.ref x] ∧ Hs B [(x, .ins a.Lane dx [])] H ∧ ∀ l H', Hs B [(l, .lst []), (x, ln a dx l)] H' → Q .non H'
def sp_Lane_put (a : Ad) : Sp := fun vs H Q _ => ∃ (B : Hp) (x dx l : Addr) (fr : List Str) (t : Str), vs = [.ref x, .str t] ∧ Hs B [(x, ln a dx l), (l, ls fr)] H ∧ fr.length ≤ 32 ∧ ∀ H', Hs B [(x, ln a dx l), (l, ls ((fr ++ [t]).take 32))] H' → Q .non H'
def sp_Lane_deliver (a : Ad) : Sp := fun vs H Q _ => ∃ (B : Hp) (x dx l : Addr) (fr : List Str), vs = [.ref x] ∧ Hs B [(x, ln a dx l), (l, ls fr)] H ∧ fr.length ≤ 32 ∧ ∀ H', Hs B [(x, ln a dx l), (l, ls (fr.drop 1))] H' → Q (hd1 fr) H'
def sp_Lane_has (a : Ad) : Sp := fun vs H Q _ => ∃ (B : Hp) (x dx l : Addr) (fr : List Str) (n : Int), vs = [.ref x, .int n] ∧ Hs B [(x, ln a dx l), (l, ls fr)] H ∧ ∀ H', Hs B [(x, ln a dx l), (l, ls fr)] H' → Q (.bl (decide (0 ≤ n ∧ n < fr.length))) H'
def sp_Lane_lose (a : Ad) : Sp := fun vs H Q _ => ∃ (B : Hp) (x dx l : Addr) (fr : List Str) (n : Int), vs = [.ref x, .int n] ∧ Hs B [(x, ln a dx l), (l, ls fr)] H ∧ 0 ≤ n ∧ fr.length ≤ 32 ∧ ∀ H', Hs B [(x, ln a dx l), (l, ls (fr.eraseIdx n.toNat))] H' → Q (.bl (decide (n < fr.length))) H'
def sp_Lane_double (a : Ad) : Sp := fun vs H Q _ => ∃ (B : Hp) (x dx l : Addr) (fr : List Str) (n : Int), vs = [.ref x, .int n] ∧ Hs B [(x, ln a dx l), (l, ls fr)] H ∧ 0 ≤ n ∧ fr.length ≤ 32 ∧ ∀ H', Hs B [(x, ln a dx l), (l, ls (match fr[n.toNat]? with | none => fr | some t => (fr ++ [t]).take 32))] H' → Q (.bl (decide (n < fr.length))) H'
def sp_Lane_hasten (a : Ad) : Sp := fun vs H Q _ => ∃ (B : Hp) (x dx l : Addr) (fr : List Str) (n : Int), vs = [.ref x, .int n] ∧ Hs B [(x, ln a dx l), (l, ls fr)] H ∧ 0 ≤ n ∧ fr.length ≤ 32 ∧ ∀ H', Hs B [(x, ln a dx l), (l, ls (match fr[n.toNat]? with | none => fr | some t => t :: fr.eraseIdx n.toNat))] H' → Q (.bl (decide (n < fr.length))) H'
def sp_Lane_clear (a : Ad) : Sp := fun vs H Q _ => ∃ (B : Hp) (x dx l : Addr) (fr : List Str), vs = [.ref x] ∧ Hs B [(x, ln a dx l), (l, ls fr)] H ∧ ∀ H', Hs B [(x, ln a dx l), (l, ls [])] H' → Q .non H'

section
variable {P : Program} {w : World} {K : PySem.W.Frag} {mg : Str → Option Value} {base : Heap} {a : Ad}
theorem ok_Lane_init (T : Txt K mg a) : FnOk P w K mg base CX0 1 a.Lane_init a.fd_Lane_init ["self"] (sp_Lane_init a) := by
  refine T.fn_Lane_init.ok sc_Lane_init (fun vs H Q E h => ?_) (fun cdv A outer s H vs Q E hr h => ?_)
  · obtain ⟨_, _, _, rfl, _⟩ := h
    rfl
  · obtain ⟨B, x, dx, rfl, hs, k⟩ := h
    have c1 := T.cl_Lane
    have n1 := T.na_Lane_frames
    refine ⟨_, (pss_one (ps_fld (pv 0) (pe_lst pa_nil) rfl)), ?_⟩
    walk_at "ss"
    exact k _ _ (by assumption)
theorem ok_Lane_put (T : Txt K mg a) : FnOk P w K mg base CX0 1 a.Lane_put a.fd_Lane_put ["self", "text"] (sp_Lane_put a) := by
  refine T.fn_Lane_put.ok sc_Lane_put (fun vs H Q E h => ?_) (fun cdv A outer s H vs Q E hr h => ?_)
  · obtain ⟨_, _, _, _, _, _, rfl, _⟩ := h
    rfl
  · obtain ⟨B, x, dx, l, fr, t, rfl, hs, hl, k⟩ := h
    have c1 := T.cl_Lane
    have n1 := T.na_Lane_frames
    refine ⟨_, (pss_one (ps_if (pt_cmpR op_lt (pe_callB call_lenQ (by rfl) T.mg_len PySem.boot_len (pa_cons (pe_fld (pv 0) rfl) pa_nil)) (pe_glob (v := .int 32) rfl (Exists.choose_spec T.mg_MOST_FRAMES) ⟨_, rfl⟩) (nomark _))
  (pss_one (ps_expr (pe_bm PySem.F.plainAttrs_list PySem.F.slot_list_append PySem.F.type_list_append mt_append (pe_fld (pv 0) rfl) (pa_cons (pv 1) pa_nil))))
  pss_nil)), ?_⟩
    walk_at "ss"
    rw [List.length_map]
    refine ifd (fun h => ?_) (fun h => ?_)
    · walk_at "ss"
      refine k _ ?_
      rw [List.take_of_length_le (by rw [List.length_append, List.length_singleton]; omega)]
      show Hs _ [_, (l, .lst ((fr ++ [t]).map V.str))] _
      rw [List.map_append]
      assumption
    · walk_at "ss"
      refine k _ ?_
      rw [List.take_append_of_le_length (by omega), List.take_of_length_le (by omega)]
      assumption
theorem ok_Lane_deliver (T : Txt K mg a) : FnOk P w K mg base CX0 1 a.Lane_deliver a.fd_Lane_deliver ["self"] (sp_Lane_deliver a) := by
  refine T.fn_Lane_deliver.ok sc_Lane_deliver (fun vs H Q E h => ?_) (fun cdv A outer s H vs Q E hr h => ?_)
  · obtain ⟨_, _, _, _, _, rfl, _⟩ := h
    rfl
  · obtain ⟨B, x, dx, l, fr, rfl, hs, hl, k⟩ := h
    have c1 := T.cl_Lane
    have n1 := T.na_Lane_frames
    refine ⟨_, (pss_one (ps_ret (pe_ifExp (pt_truth (pe_fld (pv 0) rfl) (by intro _; rfl)) (pe_bm PySem.F.plainAttrs_list PySem.F.slot_list_pop PySem.F.type_list_pop mt_popAt (pe_fld (pv 0) rfl) (pa_cons pe_int pa_nil)) pe_non))), ?_⟩
    walk_at "ss"
    cases fr with
    | nil =>
      refine ⟨false, .inl ⟨_, SqL.of hs.g1, rfl⟩, ?_⟩
      refine iteF ?_
      walk_at "ss"
      exact k _ hs
    | cons t fr =>
      refine ⟨true, .inl ⟨_, SqL.of hs.g1, rfl⟩, ?_⟩
      refine iteT ?_
      walk_at "ss"
      refine w_popAt (k := 0) hs (by walk_at "p") rfl rfl ?_ fun H' hs' => ?_
      · refine sz ?_
        rw [List.length_map]
        omega
      · exact k _ hs'
theorem ok_Lane_has (T : Txt K mg a) : FnOk P w K mg base CX0 1 a.Lane_has a.fd_Lane_has ["self", "at"] (sp_Lane_has a) := by
  refine T.fn_Lane_has.ok sc_Lane_has (fun vs H Q E h => ?_) (fun cdv A outer s H vs Q E hr h => ?_)
  · obtain ⟨_, _, _, _, _, _, rfl, _⟩ := h
    rfl
  · obtain ⟨B, x, dx, l, fr, n, rfl, hs, k⟩ := h
    have c1 := T.cl_Lane
    have n1 := T.na_Lane_frames
    refine ⟨_, (pss_one (ps_ret (pe_chain op_le op_lt pe_int (pv 1) (pe_callB call_lenQ (by rfl) T.mg_len PySem.boot_len (pa_cons (pe_fld (pv 0) rfl) pa_nil))))), ?_⟩
    walk_at "ss"
    refine ifd (fun h => ?_) (fun h => ?_)
    · walk_at "ss"
      rw [List.length_map]
      have e := k _ hs
      simp only [h, true_and] at e
      exact e
    · have e := k _ hs
      simp only [h, false_and, decide_false] at e
      exact e
theorem ok_Lane_lose (T : Txt K mg a) : FnOk P w K mg base CX0 2 a.Lane_lose a.fd_Lane_lose ["self", "at"] (sp_Lane_lose a) := by
  have G_Lane_has := ok_Lane_has (P := P) (w := w) (base := base) T
  refine T.fn_Lane_lose.ok sc_Lane_lose (fun vs H Q E h => ?_) (fun cdv A outer s H vs Q E hr h => ?_)
  · obtain ⟨_, _, _, _, _, _, rfl, _⟩ := h
    rfl
  · obtain ⟨B, x, dx, l, fr, n, rfl, hs, hn, hl, k⟩ := h
    have c1 := T.cl_Lane
    have n1 := T.na_Lane_frames
    refine ⟨_, (pss_cons (ps_set (i := 2) sc_Lane_lose.nd rfl (Or.inl rfl) (pe_meth (pv 0) T.cl_Lane T.me_Lane_has G_Lane_has (hr.mono (by decide)) T.bi_Lane_has .nil pass0 (pa_cons (pv 1) pa_nil)))
  (pss_cons (ps_if (pt_val (pv 2))
  (pss_one (ps_delL (pe_fld (pv 0) rfl) (pv 1)))
  pss_nil)
  (pss_one (ps_ret (pv 2))))), ?_⟩
    walk_at "ss"
    refine ⟨B, x, dx, l, fr, n, rfl, hs, fun H' hs' => ?_⟩
    clear hs
    walk_at "ss"
    by_cases h : n < (fr.length : Int)
    · rw [decide_eq_true (show 0 ≤ n ∧ n < (fr.length : Int) from ⟨hn, h⟩)]
      refine iteT ?_
      walk_at "ss"
      refine w_delL (k := n.toNat) hs' (by walk_at "p") (by omega) (by rw [List.length_map]; omega) (by walk_at "z") fun H2 hs2 => ?_
      clear hs'
      walk_at "ss"
      rw [decide_eq_true h] at k
      refine k _ ?_
      have e : (fr.map V.str).eraseIdx n.toNat = (fr.eraseIdx n.toNat).map V.str := eraseIdx_map ..
      rw [e] at hs2
      exact hs2
    · rw [decide_eq_false (show ¬ (0 ≤ n ∧ n < (fr.length : Int)) from fun q => h q.2)]
      refine iteF ?_
      walk_at "ss"
      rw [decide_eq_false h, List.eraseIdx_of_length_le (by omega)] at k
      exact k _ hs'
theorem ok_Lane_double (T : Txt K mg a) : FnOk P w K mg base CX0 2 a.Lane_double a.fd_Lane_double ["self", "at"] (sp_Lane_double a) := by
  have G_Lane_has := ok_Lane_has (P := P) (w := w) (base := base) T
  have G_Lane_put := ok_Lane_put (P := P) (w := w) (base := base) T
  refine T.fn_Lane_double.ok sc_Lane_double (fun vs H Q E h => ?_) (fun cdv A outer s H vs Q E hr h => ?_)
  · obtain ⟨_, _, _, _, _, _, rfl, _⟩ := h
    rfl
  · obtain ⟨B, x, dx, l, fr, n, rfl, hs, hn, hl, k⟩ := h
    have c1 := T.cl_Lane
    have n1 := T.na_Lane_frames
    refine ⟨_, (pss_cons (ps_set (i := 2) sc_Lane_double.nd rfl (Or.inl rfl) (pe_meth (pv 0) T.cl_Lane T.me_Lane_has G_Lane_has (hr.mono (by decide)) T.bi_Lane_has .nil pass0 (pa_cons (pv 1) pa_nil)))
  (pss_cons (ps_if (pt_val (pv 2))
  (pss_one (ps_expr (pe_meth (pv 0) T.cl_Lane T.me_Lane_put G_Lane_put (hr.mono (by decide)) T.bi_Lane_put .nil pass0 (pa_cons (pe_ix ix_list (pe_fld (pv 0) rfl) (pv 1) (fun _ _ => rfl)) pa_nil))))
  pss_nil)
  (pss_one (ps_ret (pv 2))))), ?_⟩
    walk_at "ss"
    refine ⟨B, x, dx, l, fr, n, rfl, hs, fun H' hs' => ?_⟩
    clear hs
    walk_at "ss"
    by_cases h : n < (fr.length : Int)
    · have hj : n.toNat < fr.length := by omega
      rw [decide_eq_true (show 0 ≤ n ∧ n < (fr.length : Int) from ⟨hn, h⟩)]
      refine iteT ?_
      have e : fr[n.toNat]? = some fr[n.toNat] := List.getElem?_eq_getElem hj
      walk_at "ss"
      refine w_ixL (v := .str fr[n.toNat]) (by walk_at "l") (at_of (j := n.toNat) (by omega) (by rw [List.getElem?_map, e]; rfl)) ?_
      walk_at "ss"
      refine ⟨B, x, dx, l, fr, _, rfl, hs', hl, fun H2 hs2 => ?_⟩
      clear hs'
      walk_at "ss"
      rw [decide_eq_true h, e] at k
      exact k _ hs2
    · have e : fr[n.toNat]? = none := List.getElem?_eq_none (by omega)
      rw [decide_eq_false (show ¬ (0 ≤ n ∧ n < (fr.length : Int)) from fun q => h q.2)]
      refine iteF ?_
      walk_at "ss"
      rw [decide_eq_false h, e] at k
      exact k _ hs'
theorem ok_Lane_hasten (T : Txt K mg a) : FnOk P w K mg base CX0 2 a.Lane_hasten a.fd_Lane_hasten ["self", "at"] (sp_Lane_hasten a) := by
  have G_Lane_has := ok_Lane_has (P := P) (w := w) (base := base) T
  refine T.fn_Lane_hasten.ok sc_Lane_hasten (fun vs H Q E h => ?_) (fun cdv A outer s H vs Q E hr h => ?_)
  · obtain ⟨_, _, _, _, _, _, rfl, _⟩ := h
    rfl
  · obtain ⟨B, x, dx, l, fr, n, rfl, hs, hn, hl, k⟩ := h
    have c1 := T.cl_Lane
    have n1 := T.na_Lane_frames
    refine ⟨_, (pss_cons (ps_set (i := 2) sc_Lane_hasten.nd rfl (Or.inl rfl) (pe_meth (pv 0) T.cl_Lane T.me_Lane_has G_Lane_has (hr.mono (by decide)) T.bi_Lane_has .nil pass0 (pa_cons (pv 1) pa_nil)))
  (pss_cons (ps_if (pt_val (pv 2))
  (pss_one (ps_expr (pe_bm PySem.F.plainAttrs_list PySem.F.slot_list_insert PySem.F.type_list_insert mt_insertQ (pe_fld (pv 0) rfl) (pa_cons pe_int (pa_cons (pe_bm PySem.F.plainAttrs_list PySem.F.slot_list_pop PySem.F.type_list_pop mt_popAt (pe_fld (pv 0) rfl) (pa_cons (pv 1) pa_nil)) pa_nil)))))
  pss_nil)
  (pss_one (ps_ret (pv 2))))), ?_⟩
    walk_at "ss"
    refine ⟨B, x, dx, l, fr, n, rfl, hs, fun H' hs' => ?_⟩
    clear hs
    walk_at "ss"
    by_cases h : n < (fr.length : Int)
    · have hj : n.toNat < fr.length := by omega
      rw [decide_eq_true (show 0 ≤ n ∧ n < (fr.length : Int) from ⟨hn, h⟩)]
      refine iteT ?_
      have e : fr[n.toNat]? = some fr[n.toNat] := List.getElem?_eq_getElem hj
      walk_at "ss"
      refine w_popAt (k := n.toNat) (y := .str fr[n.toNat]) hs' (by walk_at "p") (by omega) (by rw [List.getElem?_map, e]; rfl) (by walk_at "z") fun H2 hs2 => ?_
      clear hs'
      walk_at "ss"
      have e2 : (fr.map V.str).eraseIdx n.toNat = (fr.eraseIdx n.toNat).map V.str := eraseIdx_map ..
      rw [e2] at hs2
      refine w_insert0 hs2 (by walk_at "p") ?_ fun H3 hs3 => ?_
      · refine szl ?_
        rw [List.length_map]
        have := List.length_eraseIdx_le fr n.toNat
        omega
      clear hs2
      walk_at "ss"
      rw [decide_eq_true h, e] at k
      exact k _ hs3
    · have e : fr[n.toNat]? = none := List.getElem?_eq_none (by omega)
      rw [decide_eq_false (show ¬ (0 ≤ n ∧ n < (fr.length : Int)) from fun q => h q.2)]
      refine iteF ?_
      walk_at "ss"
      rw [decide_eq_false h, e] at k
      exact k _ hs'
theorem ok_Lane_clear (T : Txt K mg a) : FnOk P w K mg base CX0 1 a.Lane_clear a.fd_Lane_clear ["self"] (sp_Lane_clear a) := by
  refine T.fn_Lane_clear.ok sc_Lane_clear (fun vs H Q E h => ?_) (fun cdv A outer s H vs Q E hr h => ?_)
  · obtain ⟨_, _, _, _, _, rfl, _⟩ := h
    rfl
  · obtain ⟨B, x, dx, l, fr, rfl, hs, k⟩ := h
    have c1 := T.cl_Lane
    have n1 := T.na_Lane_frames
    refine ⟨_, (pss_one (ps_expr (pe_bm0 PySem.F.plainAttrs_list PySem.F.slot_list_clear PySem.F.type_list_clear mt_clear (pe_fld (pv 0) rfl)))), ?_⟩
    walk_at "ss"
    exact k _ (by assumption)
/-! ### the draws of the law -/
/-- what a state may be -/
def Good (m : Int) (cells : List Int) : Prop := 0 ≤ m ∧ m < 2147483648 ∧ cells.length ≤ 1000
abbrev sto (c : Addr) (m : Int) : HO := .lst [.ref c, .int m]
abbrev clo (cells : List Int) : HO := .lst (cells.map V.int)
def sp__law_state (K : PySem.W.Frag) : Sp := fun vs H Q _ => ∃ (x : Addr) (ns : List Int), vs = [.ref x] ∧ SqL K H x (ns.map V.int) ∧ ns.length ≤ 1000 ∧ ∀ s c m cells H', Hs H [(s, sto c m), (c, clo cells)] H' → Good m cells → Q (.ref s) H'
def sp__law_draw : Sp := fun vs H Q _ => ∃ (B : Hp) (s c : Addr) (m many : Int) (cells : List Int), vs = [.ref s, .int many] ∧ Hs B [(s, sto c m), (c, clo cells)] H ∧ Good m cells ∧ many < 1000000000 ∧
  ∀ r m' cells' H', Hs B [(s, sto c m'), (c, clo cells')] H' → Good m' cells' → (many < 1 → r = 0) → (1 ≤ many → 0 ≤ r ∧ r < many) → Q (.int r) H'
theorem abs_map (ns : List Int) (i : Nat) {x : V} (h : (ns.map V.int)[i]? = some x) : ∃ n, ns[i]? = some n ∧ x = .int n := by
  rw [List.getElem?_map] at h
  cases e : ns[i]? with
  | none =>
    rw [e] at h
    cases h
  | some n =>
    rw [e] at h
    exact ⟨n, rfl, (Option.some.inj h).symm⟩
theorem ok__law_state (T : Txt K mg a) : FnOk P w K mg base CX0 1 a._law_state a.fd__law_state ["script"] (sp__law_state K) := by
  refine T.fn__law_state.ok sc__law_state (fun vs H Q E h => ?_) (fun cdv A outer s H vs Q E hr h => ?_)
  · obtain ⟨_, _, rfl, _⟩ := h
    rfl
  · obtain ⟨x, ns, rfl, hx, hl, k⟩ := h
    refine ⟨_, (pss_cons (ps_set (i := 1) sc__law_state.nd rfl (Or.inl rfl) pe_int)
  (pss_cons (ps_for PassesOwn.never rfl (pi_list (pv 0)) (pg_name (i := 2) sc__law_state.nd rfl (Or.inl rfl))
  (pss_one (ps_set (i := 1) sc__law_state.nd rfl (Or.inl rfl) (pe_op op_mod (pe_callTy call_intQ (by rfl) T.mg_int (by decide +kernel) (pa_cons (pe_op op_add (pe_op op_mul (pv 1) pe_int) (pv 2)) pa_nil)) pe_int))))
  (pss_one (ps_ret (pe_lst (pa_cons (pe_lc (own := [("cell", 2)]) (g := gName 2) (tt := tYes) rfl sc__law_state.nd (pi_list (pv 0)) (blkOk_by (own := [("cell", 2)]) (N := N__law_state) (sc := defScope s__law_state) (by decide +kernel)) (fun _ _ _ _ _ => pg_name (i := 2) sc__law_state.nd rfl (Or.inl rfl)) (fun _ _ _ _ _ => pts_nil) (fun _ _ _ _ _ => (pe_callB call_absQ (by rfl) T.mg_abs (by decide +kernel) (pa_cons (pv 2) pa_nil)))) (pa_cons (pe_op op_add (pv 1) pe_int) pa_nil))))))), ?_⟩
    have hs : Hs H [] H := Hs.start H
    walk_at "ss"
    refine w_forL hx (fun i σ H' => ∃ (m : Int) (v : Option V), σ = [some (.ref x), some (.int m), v] ∧ 0 ≤ m ∧ m < 1000003 ∧ Hs H [] H') (fun Q q => ⟨_, rfl, q⟩) ⟨7, none, rfl, by omega, by omega, hs⟩ (fun i σ H' _ ⟨_, _, _, _, _, hs⟩ => hs.sql hx) ?_ ?_
    · rintro i y σ H' hi ⟨m, v, rfl, h0, h1, hs⟩
      obtain ⟨n, _, rfl⟩ := abs_map ns i hi
      walk_at "ss"
      refine ⟨(m * 31 + n) % 1000003, _, rfl, ?_, ?_, hs⟩
      · exact Int.emod_nonneg _ (by decide)
      · exact Int.emod_lt_of_pos _ (by decide)
    · rintro σ H' ⟨m, v, rfl, h0, h1, hs⟩
      walk_at "ss"
      have hx1 : SqL K H' x (ns.map V.int) := Hs.sql (by assumption) hx
      refine w_lc hx1 (fun D i H2 => ∃ acc : List Int, acc.length = i ∧ Hs H [(D, clo acc)] H2) (fun Q q => ⟨_, rfl, q⟩) (fun D hD => ⟨[], rfl, Hs.new (by assumption) hD⟩) (fun D i H2 _ ⟨_, _, hs⟩ => hs.sql hx) ?_ ?_
      · rintro D i y H2 hi ⟨acc, ha, hs⟩
        obtain ⟨n, _, rfl⟩ := abs_map ns i hi
        have hin : i < ns.length := by
          have := (List.getElem?_eq_some_iff.mp hi).1
          rwa [List.length_map] at this
        walk_at "ss"
        refine ⟨rfl, ?_⟩
        walk_at "ss"
        refine iteT ?_
        walk_at "ss"
        refine ⟨_, hs.g0, ?_, acc ++ [if n < 0 then -n else n], ?_, ?_⟩
        · refine szl ?_
          rw [List.length_map]
          omega
        · rw [List.length_append, ha]
          rfl
        · have := hs.p0 (.lst ((acc.map V.int) ++ [V.int (if n < 0 then -n else n)]))
          unfold clo
          rw [List.map_append]
          exact this
      · rintro D H2 ⟨acc, ha, hs⟩
        rw [List.length_map] at ha
        walk_at "ss"
        refine k _ D (m + 1) acc _ (by assumption) ⟨by omega, by omega, by omega⟩
theorem ok__law_draw (T : Txt K mg a) : FnOk P w K mg base CX0 1 a._law_draw a.fd__law_draw ["state", "many"] sp__law_draw := by
  refine T.fn__law_draw.ok sc__law_draw (fun vs H Q E h => ?_) (fun cdv A outer s H vs Q E hr h => ?_)
  · obtain ⟨_, _, _, _, _, _, rfl, _⟩ := h
    rfl
  · obtain ⟨B, s, c, m, many, cells, rfl, hs, ⟨hm0, hm1, hl⟩, hmany, k⟩ := h
    refine ⟨_, (pss_cons (ps_if (pt_cmpR op_lt (pv 1) pe_int (nomark _))
  (pss_one (ps_ret pe_int))
  pss_nil)
  (pss_cons (ps_set (i := 2) sc__law_draw.nd rfl (Or.inl rfl) (pe_ix ix_list (pv 0) pe_int (fun _ _ => rfl)))
  (pss_cons (ps_while PassesOwn.never (PW.pt (pw_and (pt_cmpR op_gt (pe_callB call_lenQ (by rfl) T.mg_len PySem.boot_len (pa_cons (pv 2) pa_nil)) pe_int (nomark _)) (pw_and1 (pt_cmpR op_eq (pe_ix ix_list (pv 2) pe_int (fun _ _ => rfl)) pe_int (nomark _)))))
  (pss_one (ps_expr (pe_bm PySem.F.plainAttrs_list PySem.F.slot_list_pop PySem.F.type_list_pop mt_popAt (pv 2) (pa_cons pe_int pa_nil)))))
  (pss_cons (ps_if (pt_cmpR op_gt (pe_callB call_lenQ (by rfl) T.mg_len PySem.boot_len (pa_cons (pv 2) pa_nil)) pe_int (nomark _))
  (pss_cons (ps_set (i := 3) sc__law_draw.nd rfl (Or.inl rfl) (pe_ix ix_list (pv 2) pe_int (fun _ _ => rfl)))
  (pss_cons (ps_asg (pe_op op_fdivW (pv 3) (pv 1)) (pg_sub (pv 2) pe_int set_list))
  (pss_one (ps_ret (pe_op op_mod (pe_callTy call_intQ (by rfl) T.mg_int (by decide +kernel) (pa_cons (pv 3) pa_nil)) (pv 1))))))
  pss_nil)
  (pss_cons (ps_set (i := 4) sc__law_draw.nd rfl (Or.inl rfl) (pe_op op_mod (pe_callTy call_intQ (by rfl) T.mg_int (by decide +kernel) (pa_cons (pe_op op_add (pe_op op_mul (pe_ix ix_list (pv 0) pe_int (fun _ _ => rfl)) pe_int) pe_int) pa_nil)) pe_int))
  (pss_cons (ps_asg (pv 4) (pg_sub (pv 0) pe_int set_list))
  (pss_one (ps_ret (pe_op op_mod (pe_callTy call_intQ (by rfl) T.mg_int (by decide +kernel) (pa_cons (pe_op op_fdivW (pv 4) pe_int) pa_nil)) (pv 1)))))))))), ?_⟩
    walk_at "ss"
    refine ifd (fun h => ?_) (fun h => ?_)
    · walk_at "ss"
      exact k 0 m cells _ hs ⟨hm0, hm1, hl⟩ (fun _ => rfl) (fun q => by omega)
    walk_at "ss"
    refine w_while (fun n σ H' => ∃ cells : List Int, σ = [some (.ref s), some (.int many), some (.ref c), none, none] ∧ cells.length = n ∧ cells.length ≤ 1000 ∧ Hs B [(s, sto c m), (c, clo cells)] H') cells.length ⟨cells, rfl, rfl, hl, hs⟩ ?_
    clear hs
    clear hl cells
    rintro n σ H' ⟨cells, rfl, hn, hl, hs⟩
    walk_at "ss"
    cases cells with
    | nil =>
      show if decide ((0 : Int) < ((0 : Nat) : Int)) = true then _ else _
      refine iteF ?_
      refine iteF ?_
      walk_at "ss"
      refine iteF ?_
      walk_at "ss"
      have e1 : 0 ≤ (m * 48271 + 12345) % 2147483647 := Int.emod_nonneg _ (by decide)
      have e2 : (m * 48271 + 12345) % 2147483647 < 2147483647 := Int.emod_lt_of_pos _ (by decide)
      generalize (m * 48271 + 12345) % 2147483647 = mm at e1 e2
      refine w_setL (k := 1) hs (by walk_at "p") rfl (by simp) fun H2 hs2 => ?_
      clear hs
      walk_at "ss"
      refine w_I ⟨by decide, by decide⟩ ?_
      walk_at "ss"
      refine k _ mm [] _ hs2 ⟨e1, by omega, by decide⟩ (fun q => by omega) fun q => ⟨Int.emod_nonneg _ (by omega), Int.emod_lt_of_pos _ (by omega)⟩
    | cons z cells =>
      refine ifd (fun _ => ?_) (fun q => absurd (show (0 : Int) < _ from by simp only [List.map_cons, List.length_cons]; omega) q)
      walk_at "ss"
      refine ifd (fun hz => ?_) (fun hz => ?_)
      · walk_at "ss"
        refine w_popAt (k := 0) hs (by walk_at "p") rfl rfl (by walk_at "z") fun H2 hs2 => ?_
        rw [List.length_cons] at hl hn
        exact ⟨cells.length, by omega, cells, rfl, rfl, by omega, hs2⟩
      · walk_at "ss"
        refine ifd (fun _ => ?_) (fun q => absurd (show (0 : Int) < _ from by simp only [List.map_cons, List.length_cons]; omega) q)
        walk_at "ss"
        refine w_I ⟨by omega, ?_⟩ ?_
        · refine PySem.Flt.log2_lt_of (by decide) (Nat.lt_of_lt_of_le (show many.natAbs < 2 ^ 30 by omega) (Nat.pow_le_pow_right (by decide) (by decide)))
        walk_at "ss"
        refine w_setL (k := 0) hs (by walk_at "p") rfl (by simp) fun H2 hs2 => ?_
        clear hs
        walk_at "ss"
        refine k _ m ((z / many) :: cells) _ hs2 ⟨hm0, hm1, by simpa using hl⟩ (fun q => by omega) fun q => ⟨Int.emod_nonneg _ (by omega), Int.emod_lt_of_pos _ (by omega)⟩

theorem w_draw {B H : Hp} {Q : VK} {E : XK} {s c : Addr} {m many : Int} {cells : List Int} {R : List (Addr × HO)} (hs : Hs B ((s, sto c m) :: (c, clo cells) :: R) H) (g : Good m cells) (hm : many < 1000000000)
    (q : ∀ r m' cells' H', Hs B ((s, sto c m') :: (c, clo cells') :: R) H' → Good m' cells' → (many < 1 → r = 0) → (1 ≤ many → 0 ≤ r ∧ r < many) → Q (.int r) H') : sp__law_draw [.ref s, .int many] H Q E := by
  obtain ⟨B', _, h1, back⟩ := hs.frame2
  exact ⟨B', s, c, m, many, cells, rfl, h1, g, hm, fun r m' cells' H' h2 => q r m' cells' H' (back _ _ h2)⟩
theorem w_put {a : Ad} {B H : Hp} {Q : VK} {E : XK} {x dx l : Addr} {fr : List Str} {t : Str} {R : List (Addr × HO)} (hs : Hs B ((x, ln a dx l) :: (l, ls fr) :: R) H) (hl : fr.length ≤ 32) (q : ∀ H', Hs B ((x, ln a dx l) :: (l, ls ((fr ++ [t]).take 32)) :: R) H' → Q .non H') : sp_Lane_put a [.ref x, .str t] H Q E := by
  obtain ⟨B', _, h1, back⟩ := hs.frame2
  exact ⟨B', x, dx, l, fr, t, rfl, h1, hl, fun H' h2 => q H' (back _ _ h2)⟩
theorem w_deliver {a : Ad} {B H : Hp} {Q : VK} {E : XK} {x dx l : Addr} {fr : List Str} {R : List (Addr × HO)} (hs : Hs B ((x, ln a dx l) :: (l, ls fr) :: R) H) (hl : fr.length ≤ 32) (q : ∀ H', Hs B ((x, ln a dx l) :: (l, ls (fr.drop 1)) :: R) H' → Q (hd1 fr) H') : sp_Lane_deliver a [.ref x] H Q E := by
  obtain ⟨B', _, h1, back⟩ := hs.frame2
  refine ⟨B', x, dx, l, fr, rfl, h1, hl, fun H' h2 => ?_⟩
  have := q H' (back _ _ h2)
  cases fr <;> exact this
theorem w_lose {a : Ad} {B H : Hp} {Q : VK} {E : XK} {x dx l : Addr} {fr : List Str} {n : Int} {R : List (Addr × HO)} (hs : Hs B ((x, ln a dx l) :: (l, ls fr) :: R) H) (hn : 0 ≤ n) (hl : fr.length ≤ 32) (q : ∀ H', Hs B ((x, ln a dx l) :: (l, ls (fr.eraseIdx n.toNat)) :: R) H' → Q (.bl (decide (n < fr.length))) H') : sp_Lane_lose a [.ref x, .int n] H Q E := by
  obtain ⟨B', _, h1, back⟩ := hs.frame2
  exact ⟨B', x, dx, l, fr, n, rfl, h1, hn, hl, fun H' h2 => q H' (back _ _ h2)⟩
theorem w_double {a : Ad} {B H : Hp} {Q : VK} {E : XK} {x dx l : Addr} {fr : List Str} {n : Int} {R : List (Addr × HO)} (hs : Hs B ((x, ln a dx l) :: (l, ls fr) :: R) H) (hn : 0 ≤ n) (hl : fr.length ≤ 32) (q : ∀ H', Hs B ((x, ln a dx l) :: (l, ls (match fr[n.toNat]? with | none => fr | some t => (fr ++ [t]).take 32)) :: R) H' → Q (.bl (decide (n < fr.length))) H') : sp_Lane_double a [.ref x, .int n] H Q E := by
  obtain ⟨B', _, h1, back⟩ := hs.frame2
  exact ⟨B', x, dx, l, fr, n, rfl, h1, hn, hl, fun H' h2 => q H' (back _ _ h2)⟩
theorem w_hasten {a : Ad} {B H : Hp} {Q : VK} {E : XK} {x dx l : Addr} {fr : List Str} {n : Int} {R : List (Addr × HO)} (hs : Hs B ((x, ln a dx l) :: (l, ls fr) :: R) H) (hn : 0 ≤ n) (hl : fr.length ≤ 32) (q : ∀ H', Hs B ((x, ln a dx l) :: (l, ls (match fr[n.toNat]? with | none => fr | some t => t :: fr.eraseIdx n.toNat)) :: R) H' → Q (.bl (decide (n < fr.length))) H') : sp_Lane_hasten a [.ref x, .int n] H Q E := by
  obtain ⟨B', _, h1, back⟩ := hs.frame2
  exact ⟨B', x, dx, l, fr, n, rfl, h1, hn, hl, fun H' h2 => q H' (back _ _ h2)⟩
theorem w_clear {a : Ad} {B H : Hp} {Q : VK} {E : XK} {x dx l : Addr} {fr : List Str} {R : List (Addr × HO)} (hs : Hs B ((x, ln a dx l) :: (l, ls fr) :: R) H) (q : ∀ H', Hs B ((x, ln a dx l) :: (l, ls []) :: R) H' → Q .non H') : sp_Lane_clear a [.ref x] H Q E := by
  obtain ⟨B', _, h1, back⟩ := hs.frame2
  exact ⟨B', x, dx, l, fr, rfl, h1, fun H' h2 => q H' (back _ _ h2)⟩
/-! ### the law -/
def sp_law (K : PySem.W.Frag) : Sp := fun vs H Q _ => ∃ (x : Addr) (ns : List Int), vs = [.ref x] ∧ SqL K H x (ns.map V.int) ∧ ns.length ≤ 63 ∧ ∀ H', Q (.bl true) H'
/-- the k-th text -/
def tx (k : Nat) : Str := ("f" : Str) ++ (toString (k : Int) : String)
theorem tx_all : ∀ k, k < 61 → PyData.strOk (tx k) = true ∧ Str.length (toString (k : Int) : String) ≤ 10 := by decide +kernel
/-- what holds between two turns -/
def Inv3 (a : Ad) (B : Hp) (x s c ln_ dx l : Addr) (many : Int) (i : Nat) (σ : St) (H : Hp) : Prop := ∃ (fr : List Str) (u : Addr) (m : Int) (cells : List Int) (v5 v6 v7 v8 v9 v10 : Option V),
  σ = [some (.ref x), some (.ref s), some (.ref ln_), some (.ref u), some (.int many), v5, v6, v7, v8, v9, v10] ∧ Hs B [(s, sto c m), (c, clo cells), (u, ls fr), (l, ls fr), (ln_, ln a dx l)] H ∧ Good m cells ∧ fr.length ≤ 32 ∧ (∀ t ∈ fr, PyData.strOk t = true)
theorem ok_law (T : Txt K mg a) : FnOk P w K mg base CX0 3 a.law a.fd_law ["script"] (sp_law K) := by
  have G__law_state := ok__law_state (P := P) (w := w) (base := base) T
  have G__law_draw := ok__law_draw (P := P) (w := w) (base := base) T
  have G_Lane_init := ok_Lane_init (P := P) (w := w) (base := base) T
  have G_Lane_put := ok_Lane_put (P := P) (w := w) (base := base) T
  have G_Lane_deliver := ok_Lane_deliver (P := P) (w := w) (base := base) T
  have G_Lane_lose := ok_Lane_lose (P := P) (w := w) (base := base) T
  have G_Lane_double := ok_Lane_double (P := P) (w := w) (base := base) T
  have G_Lane_hasten := ok_Lane_hasten (P := P) (w := w) (base := base) T
  have G_Lane_clear := ok_Lane_clear (P := P) (w := w) (base := base) T
  refine T.fn_law.ok sc_law (fun vs H Q E h => ?_) (fun cdv A outer s H vs Q E hr h => ?_)
  · obtain ⟨_, _, rfl, _⟩ := h
    rfl
  · obtain ⟨x, ns, rfl, hx, hl, k⟩ := h
    have c1 := T.cl_Lane
    have n1 := T.na_Lane_frames
    refine ⟨_, (pss_cons (ps_set (i := 1) sc_law.nd rfl (Or.inl rfl) (pe_call G__law_state (hr.mono (by decide)) rfl T.mg__law_state T.kp__law_state T.bi__law_state .nil pass0 (pa_cons (pv 0) pa_nil)))
  (pss_cons (ps_set (i := 2) sc_law.nd rfl (Or.inl rfl) (pe_make0 T.mk_Lane G_Lane_init (hr.mono (by decide)) rfl T.mg_Lane T.bi_Lane_init .nil pass0))
  (pss_cons (ps_set (i := 3) sc_law.nd rfl (Or.inl rfl) (pe_lst pa_nil))
  (pss_cons (ps_set (i := 4) sc_law.nd rfl (Or.inl rfl) (pe_call G__law_draw (hr.mono (by decide)) rfl T.mg__law_draw T.kp__law_draw T.bi__law_draw .nil pass0 (pa_cons (pv 1) (pa_cons pe_int pa_nil))))
  (pss_cons (ps_for PassesOwn.never rfl (pi_range1 rfl T.mg_range (pa_cons (pv 4) pa_nil)) (pg_name (i := 5) sc_law.nd rfl (Or.inl rfl))
  (pss_cons (ps_set (i := 6) sc_law.nd rfl (Or.inl rfl) (pe_call G__law_draw (hr.mono (by decide)) rfl T.mg__law_draw T.kp__law_draw T.bi__law_draw .nil pass0 (pa_cons (pv 1) (pa_cons pe_int pa_nil))))
  (pss_cons (ps_set (i := 7) sc_law.nd rfl (Or.inl rfl) (pe_call G__law_draw (hr.mono (by decide)) rfl T.mg__law_draw T.kp__law_draw T.bi__law_draw .nil pass0 (pa_cons (pv 1) (pa_cons (pe_op op_add (pe_callB call_lenQ (by rfl) T.mg_len PySem.boot_len (pa_cons (pv 3) pa_nil)) pe_int) pa_nil))))
  (pss_cons (ps_if (pt_cmpR op_lt (pv 6) pe_int (nomark _))
  (pss_cons (ps_expr (pe_meth (pv 2) T.cl_Lane T.me_Lane_put G_Lane_put (hr.mono (by decide)) T.bi_Lane_put .nil pass0 (pa_cons (pe_op op_addS pe_str (pe_callTy call_strQ (by rfl) T.mg_str (by decide +kernel) (pa_cons (pv 5) pa_nil))) pa_nil)))
  (pss_one (ps_set (i := 3) sc_law.nd rfl (Or.inl rfl) (pe_slice sl_list (pe_op op_cat (pv 3) (pe_lst (pa_cons (pe_op op_addS pe_str (pe_callTy call_strQ (by rfl) T.mg_str (by decide +kernel) (pa_cons (pv 5) pa_nil))) pa_nil))) po_none (po_some pe_int)))))
  (pss_one (ps_if (pt_cmpR op_eq (pv 6) pe_int (nomark _))
  (pss_cons (ps_set (i := 8) sc_law.nd rfl (Or.inl rfl) (pe_ifExp (pt_cmpR op_gt (pe_callB call_lenQ (by rfl) T.mg_len PySem.boot_len (pa_cons (pv 3) pa_nil)) pe_int (nomark _)) (pe_ix ix_list (pv 3) pe_int (fun _ _ => rfl)) pe_non))
  (pss_cons (ps_if (pt_cmpR op_ne (pe_meth0 (pv 2) T.cl_Lane T.me_Lane_deliver G_Lane_deliver (hr.mono (by decide)) T.bi_Lane_deliver .nil pass0) (pv 8) (nomark _))
  (pss_one (ps_ret pe_bl))
  pss_nil)
  (pss_one (ps_set (i := 3) sc_law.nd rfl (Or.inl rfl) (pe_slice sl_list (pv 3) (po_some pe_int) po_none)))))
  (pss_one (ps_if (pt_cmpR op_eq (pv 6) pe_int (nomark _))
  (pss_one (ps_if (pt_cmpR op_eq (pe_call G__law_draw (hr.mono (by decide)) rfl T.mg__law_draw T.kp__law_draw T.bi__law_draw .nil pass0 (pa_cons (pv 1) (pa_cons pe_int pa_nil))) pe_int (nomark _))
  (pss_cons (ps_expr (pe_meth0 (pv 2) T.cl_Lane T.me_Lane_clear G_Lane_clear (hr.mono (by decide)) T.bi_Lane_clear .nil pass0))
  (pss_one (ps_set (i := 3) sc_law.nd rfl (Or.inl rfl) (pe_lst pa_nil))))
  pss_nil))
  (pss_cons (ps_set (i := 9) sc_law.nd rfl (Or.inl rfl) (pe_cmpR op_lt (pv 7) (pe_callB call_lenQ (by rfl) T.mg_len PySem.boot_len (pa_cons (pv 3) pa_nil)) (nomark _)))
  (pss_cons (ps_set (i := 10) sc_law.nd rfl (Or.inl rfl) (pe_ifExp (pt_cmpR op_eq (pv 6) pe_int (nomark _)) (pe_meth (pv 2) T.cl_Lane T.me_Lane_lose G_Lane_lose (hr.mono (by decide)) T.bi_Lane_lose .nil pass0 (pa_cons (pv 7) pa_nil)) (pe_ifExp (pt_cmpR op_eq (pv 6) pe_int (nomark _)) (pe_meth (pv 2) T.cl_Lane T.me_Lane_double G_Lane_double (hr.mono (by decide)) T.bi_Lane_double .nil pass0 (pa_cons (pv 7) pa_nil)) (pe_meth (pv 2) T.cl_Lane T.me_Lane_hasten G_Lane_hasten (hr.mono (by decide)) T.bi_Lane_hasten .nil pass0 (pa_cons (pv 7) pa_nil)))))
  (pss_cons (ps_if (PW.pt (pw_or (pt_not (pt_val (pe_callB call_isi (by rfl) T.mg_isinstance (by decide +kernel) (pa_cons (pv 10) (pa_cons (pe_bltn (v := .ty "bool") (by rfl) T.mg_bool (by decide +kernel) rfl) pa_nil))))) (pw_or1 (pt_cmpR op_ne (pv 10) (pv 9) (nomark _)))))
  (pss_one (ps_ret pe_bl))
  pss_nil)
  (pss_one (ps_if (pt_val (pv 9))
  (pss_one (ps_set (i := 3) sc_law.nd rfl (Or.inl rfl) (pe_ix ix_list (pe_lst (pa_cons (pe_op op_cat (pe_slice sl_list (pv 3) po_none (po_some (pv 7))) (pe_slice sl_list (pv 3) (po_some (pe_op op_add (pv 7) pe_int)) po_none)) (pa_cons (pe_slice sl_list (pe_op op_cat (pv 3) (pe_lst (pa_cons (pe_ix ix_list (pv 3) (pv 7) (fun _ _ => rfl)) pa_nil))) po_none (po_some pe_int)) (pa_cons (pe_op op_cat (pe_op op_cat (pe_lst (pa_cons (pe_ix ix_list (pv 3) (pv 7) (fun _ _ => rfl)) pa_nil)) (pe_slice sl_list (pv 3) po_none (po_some (pv 7)))) (pe_slice sl_list (pv 3) (po_some (pe_op op_add (pv 7) pe_int)) po_none)) pa_nil)))) (pe_op op_sub (pv 6) pe_int) (fun _ _ => rfl))))
  pss_nil))))))))))
  (pss_one (ps_if (pt_cmpR (op_neD hr.units) (pe_fld (pv 2) rfl) (pv 3) (nomark _))
  (pss_one (ps_ret pe_bl))
  pss_nil))))))
  (pss_one (ps_ret pe_bl))))))), ?_⟩
    walk_at "ss"
    refine ⟨x, ns, rfl, hx, by omega, fun s c m cells H1 hs g => ?_⟩
    walk_at "ss"
    refine w_mkr hs fun ln_ dx H2 hs2 => ?_
    clear hs
    obtain ⟨B', _, h1, back⟩ := hs2.frame1
    refine ⟨B', ln_, dx, rfl, h1, fun l H3 h3 => ⟨rfl, ?_⟩⟩
    have hs3 := back _ _ h3
    clear hs2 h1 back h3
    walk_at "ss"
    rename_i u H4 hs4
    refine w_draw hs4.m4.m4 g (by omega) fun many m cells H5 hs5 g _ hmany => ?_
    clear hs3 hs4
    obtain ⟨hm0, hm1⟩ := hmany (by decide)
    walk_at "ss"
    refine w_forR (by omega) (Inv3 a H x s c ln_ dx l many) (fun Q q => ⟨_, rfl, q⟩) (by omega) ⟨[], u, m, cells, _, _, _, _, _, _, rfl, hs5, g, by decide, fun _ h => nomatch h⟩ ?_ ?_
    · rintro i σ H' hi ⟨fr, u, m, cells, v5, v6, v7, v8, v9, v10, rfl, hs, g, hf, hst⟩
      walk_at "ss"
      refine w_draw hs g (by omega) fun kind m1 cells1 H6 hs6 g1 _ hk => ?_
      clear hs g m cells
      obtain ⟨hk0, hk1⟩ := hk (by decide)
      walk_at "ss"
      refine w_draw hs6 g1 (by rw [List.length_map]; omega) fun at_ m cells H7 hs g _ hat => ?_
      clear hs6 g1 m1 cells1
      rw [List.length_map] at hat
      obtain ⟨ha0, ha1⟩ := hat (by omega)
      clear hat hk
      walk_at "ss"
      have hs := hs.m3.m4
      obtain ⟨htx, hlen⟩ := tx_all i (by omega)
      have hf1 : Str.length ("f" : Str) ≤ 10 := by decide +kernel
      refine ifd (fun hk5 => ?_) (fun hk5 => ?_)
      · walk_at "ss"
        refine w_str (by omega) ?_
        walk_at "ss"
        refine w_addS (sz (by omega)) ?_
        walk_at "ss"
        refine w_put hs hf fun H8 hs8 => ?_
        clear hs
        walk_at "ss"
        refine w_str (by omega) ?_
        walk_at "ss"
        refine w_addS (sz (by omega)) ?_
        walk_at "ss"
        rename_i p1 H9 _ p2 H10 _ p3 H11 hs11
        have e : cutV (fr.map V.str ++ [V.str (tx i)]) none (some 32) = (((fr ++ [tx i]).take 32).map V.str) := by
          rw [cut_to (j := 32) 32 rfl, List.map_take, List.map_append]
          rfl
        have hs : Hs _ [_, _, _, _, _] _ := hs11.sel [5, 6, 0, 4, 3]
        clear hs11 hs8
        replace hs : Hs H [(s, sto c m), (c, clo cells), (p3, ls ((fr ++ [tx i]).take 32)), (l, ls ((fr ++ [tx i]).take 32)), (ln_, ln a dx l)] H11 := by
          unfold ls
          rw [← e]
          unfold ls at hs
          rw [show (Str.ofString "f" ++ Str.ofString (toString (i : Int))) = tx i from rfl, ← e] at hs
          exact hs
        have hok : ∀ t ∈ (fr ++ [tx i]).take 32, PyData.strOk t = true := fun t ht => by
          rcases List.mem_append.mp (List.mem_of_mem_take ht) with h | h
          · exact hst t h
          · rw [List.mem_singleton.mp h]
            exact htx
        have hlen2 : ((fr ++ [tx i]).take 32).length ≤ 32 := by
          rw [List.length_take]
          omega
        walk_at "ss"
        refine w_neS (xs := ((fr ++ [tx i]).take 32)) (by walk_at "l") (by walk_at "l") hok ?_
        walk_at "ss"
        refine iteF ?_
        walk_at "ss"
        exact ⟨((fr ++ [tx i]).take 32), p3, m, cells, _, _, _, _, _, _, rfl, hs, g, hlen2, hok⟩
      walk_at "ss"
      refine ifd (fun hk5' => ?_) (fun hk5' => ?_)
      · walk_at "ss"
        cases fr with
        | nil =>
          refine ifd (fun q => absurd q (by decide)) (fun _ => ?_)
          walk_at "ss"
          refine w_deliver hs hf fun H8 hs8 => ?_
          clear hs
          walk_at "ss"
          refine w_ne rfl ?_
          walk_at "ss"
          refine ifn (fun q => absurd rfl q) (fun _ => ?_)
          walk_at "ss"
          rename_i p1 H9 hs9
          rw [cut_from (j := 1) 1 rfl] at hs9
          have hs : Hs H [(s, sto c m), (c, clo cells), (p1, ls []), (l, ls []), (ln_, ln a dx l)] H9 := hs9.sel [3, 4, 0, 2, 1]
          clear hs9 hs8
          walk_at "ss"
          refine w_neS (xs := ([] : List Str)) (by walk_at "l") (by walk_at "l") (fun _ h => nomatch h) ?_
          walk_at "ss"
          refine iteF ?_
          walk_at "ss"
          exact ⟨([] : List Str), p1, m, cells, _, _, _, _, _, _, rfl, hs, g, (by decide), (fun _ h => nomatch h)⟩
        | cons t fr =>
          refine ifd (fun _ => ?_) (fun q => absurd (show (0 : Int) < _ from by simp only [List.map_cons, List.length_cons]; omega) q)
          walk_at "ss"
          refine w_deliver hs hf fun H8 hs8 => ?_
          clear hs
          walk_at "ss"
          refine w_ne rfl ?_
          walk_at "ss"
          refine ifn (fun q => absurd rfl q) (fun _ => ?_)
          walk_at "ss"
          rename_i p1 H9 hs9
          rw [cut_from (j := 1) 1 rfl] at hs9
          have hs : Hs H [(s, sto c m), (c, clo cells), (p1, ls fr), (l, ls fr), (ln_, ln a dx l)] H9 := hs9.sel [3, 4, 0, 2, 1]
          clear hs9 hs8
          rw [List.length_cons] at hf
          replace hst : ∀ t ∈ fr, PyData.strOk t = true := fun t h => hst t (List.mem_cons_of_mem _ h)
          walk_at "ss"
          refine w_neS (xs := fr) (by walk_at "l") (by walk_at "l") hst ?_
          walk_at "ss"
          refine iteF ?_
          walk_at "ss"
          exact ⟨fr, p1, m, cells, _, _, _, _, _, _, rfl, hs, g, (by omega), hst⟩
      walk_at "ss"
      refine ifd (fun hk9 => ?_) (fun hk9 => ?_)
      · walk_at "ss"
        replace hs : Hs _ [_, _, _, _, _] _ := hs.sel [2, 3, 4, 1, 0]
        refine w_draw hs g (by decide) fun r m cells H8 hs8 g _ _ => ?_
        clear hs
        walk_at "ss"
        refine ifd (fun _ => ?_) (fun _ => ?_)
        · walk_at "ss"
          refine w_clear hs8.m3.m4 fun H9 hs9 => ?_
          clear hs8
          walk_at "ss"
          rename_i p1 H10 hs10
          have hs : Hs H [(s, sto c m), (c, clo cells), (p1, ls []), (l, ls []), (ln_, ln a dx l)] H10 := hs10.sel [3, 4, 0, 2, 1]
          clear hs9 hs10
          walk_at "ss"
          refine w_neS (xs := ([] : List Str)) (by walk_at "l") (by walk_at "l") (fun _ h => nomatch h) ?_
          walk_at "ss"
          refine iteF ?_
          walk_at "ss"
          exact ⟨([] : List Str), p1, m, cells, _, _, _, _, _, _, rfl, hs, g, (by decide), (fun _ h => nomatch h)⟩
        · have hs := hs8
          clear hs8
          walk_at "ss"
          refine w_neS (xs := fr) (by walk_at "l") (by walk_at "l") hst ?_
          walk_at "ss"
          refine iteF ?_
          walk_at "ss"
          exact ⟨fr, u, m, cells, _, _, _, _, _, _, rfl, hs, g, hf, hst⟩
      · walk_at "ss"
        obtain rfl | rfl | rfl : kind = 6 ∨ kind = 7 ∨ kind = 8 := by omega
        · refine ifd (fun _ => ?_) (fun q => absurd rfl q)
          walk_at "ss"
          refine w_lose hs ha0 hf fun H8 hs8 => ?_
          clear hs
          walk_at "ss"
          refine iteF ?_
          walk_at "ss"
          refine ifn (fun q => absurd (by rw [List.length_map]) q) (fun _ => ?_)
          walk_at "ss"
          by_cases hin : at_ < (fr.length : Int)
          · have hj : at_.toNat < fr.length := by omega
            have et : fr[at_.toNat]? = some fr[at_.toNat] := List.getElem?_eq_getElem hj
            generalize ht : fr[at_.toNat] = t at et
            have htok : PyData.strOk t = true := hst t (List.mem_of_getElem? et)
            have ea : atI (fr.map V.str) at_ = some (.str t) := at_of (j := at_.toNat) (by omega) (by rw [List.getElem?_map, et]; rfl)
            have E1 : cutV (fr.map V.str) none (some at_) ++ cutV (fr.map V.str) (some (at_ + 1)) none = (fr.eraseIdx at_.toNat).map V.str := by
              rw [cut_to at_.toNat (by omega), cut_from (at_.toNat + 1) (by omega), List.eraseIdx_eq_take_drop_succ, List.map_append, List.map_take, List.map_drop]
            have E2 : cutV (fr.map V.str ++ [V.str t]) none (some 32) = ((fr ++ [t]).take 32).map V.str := by
              rw [cut_to (j := 32) 32 rfl, List.map_take, List.map_append]
              rfl
            have z1 := cut_len (xs := fr.map V.str) (lo := none) (hi := some at_)
            have z2 := cut_len (xs := fr.map V.str) (lo := some (at_ + 1)) (hi := none)
            rw [List.length_map] at z1 z2
            refine ifd (fun _ => ?_) (fun q => absurd (by rw [List.length_map]; exact hin) q)
            walk_at "ss"
            rename_i q1 _ _ q2 _ _ e1 _ _ q3 _ _ q4 _ _ e2 _ _ q5 _ _ q6 _ _ q7 _ _ q8 _ _ e3 _ _ lst H9 hs9
            have hs : Hs _ [_, _, _, _, _] _ := hs9.sel [14, 15, 9, 13, 12]
            rw [E1] at hs
            have hok : ∀ x ∈ fr.eraseIdx at_.toNat, PyData.strOk x = true := fun x h => hst x (List.mem_of_mem_eraseIdx h)
            have hlen2 : (fr.eraseIdx at_.toNat).length ≤ 32 := by have := List.length_eraseIdx_le fr at_.toNat; omega
            refine w_neS (xs := (fr.eraseIdx at_.toNat)) (by walk_at "l") (by walk_at "l") hok ?_
            walk_at "ss"
            refine iteF ?_
            walk_at "ss"
            exact ⟨(fr.eraseIdx at_.toNat), _, m, cells, _, _, _, _, _, _, rfl, hs, g, hlen2, hok⟩
          · refine ifd (fun q => absurd (by rw [List.length_map] at q; exact q) hin) (fun _ => ?_)
            have hs : Hs _ [_, _, _, _, _] _ := hs8.sel [2, 3, 4, 1, 0]
            clear hs8
            rw [List.eraseIdx_of_length_le (by omega)] at hs
            walk_at "ss"
            refine w_neS (xs := fr) (by walk_at "l") (by walk_at "l") hst ?_
            walk_at "ss"
            refine iteF ?_
            walk_at "ss"
            exact ⟨fr, u, m, cells, _, _, _, _, _, _, rfl, hs, g, hf, hst⟩
        · refine ifd (fun q => absurd q (by decide)) (fun _ => ?_)
          walk_at "ss"
          refine ifd (fun _ => ?_) (fun q => absurd rfl q)
          walk_at "ss"
          refine w_double hs ha0 hf fun H8 hs8 => ?_
          clear hs
          walk_at "ss"
          refine iteF ?_
          walk_at "ss"
          refine ifn (fun q => absurd (by rw [List.length_map]) q) (fun _ => ?_)
          walk_at "ss"
          by_cases hin : at_ < (fr.length : Int)
          · have hj : at_.toNat < fr.length := by omega
            have et : fr[at_.toNat]? = some fr[at_.toNat] := List.getElem?_eq_getElem hj
            generalize ht : fr[at_.toNat] = t at et
            have htok : PyData.strOk t = true := hst t (List.mem_of_getElem? et)
            have ea : atI (fr.map V.str) at_ = some (.str t) := at_of (j := at_.toNat) (by omega) (by rw [List.getElem?_map, et]; rfl)
            have E1 : cutV (fr.map V.str) none (some at_) ++ cutV (fr.map V.str) (some (at_ + 1)) none = (fr.eraseIdx at_.toNat).map V.str := by
              rw [cut_to at_.toNat (by omega), cut_from (at_.toNat + 1) (by omega), List.eraseIdx_eq_take_drop_succ, List.map_append, List.map_take, List.map_drop]
            have E2 : cutV (fr.map V.str ++ [V.str t]) none (some 32) = ((fr ++ [t]).take 32).map V.str := by
              rw [cut_to (j := 32) 32 rfl, List.map_take, List.map_append]
              rfl
            have z1 := cut_len (xs := fr.map V.str) (lo := none) (hi := some at_)
            have z2 := cut_len (xs := fr.map V.str) (lo := some (at_ + 1)) (hi := none)
            rw [List.length_map] at z1 z2
            refine ifd (fun _ => ?_) (fun q => absurd (by rw [List.length_map]; exact hin) q)
            rw [et] at hs8
            simp only at hs8
            walk_at "ss"
            rename_i q1 _ _ q2 _ _ e1 _ _ q3 _ _ q4 _ _ e2 _ _ q5 _ _ q6 _ _ q7 _ _ q8 _ _ e3 _ _ lst H9 hs9
            have hs : Hs _ [_, _, _, _, _] _ := hs9.sel [14, 15, 6, 13, 12]
            rw [E2] at hs
            have hok : ∀ x ∈ (fr ++ [t]).take 32, PyData.strOk x = true := fun x h => by
              rcases List.mem_append.mp (List.mem_of_mem_take h) with h | h
              · exact hst x h
              · rw [List.mem_singleton.mp h]
                exact htok
            have hlen2 : ((fr ++ [t]).take 32).length ≤ 32 := by rw [List.length_take]; omega
            refine w_neS (xs := ((fr ++ [t]).take 32)) (by walk_at "l") (by walk_at "l") hok ?_
            walk_at "ss"
            refine iteF ?_
            walk_at "ss"
            exact ⟨((fr ++ [t]).take 32), _, m, cells, _, _, _, _, _, _, rfl, hs, g, hlen2, hok⟩
          · refine ifd (fun q => absurd (by rw [List.length_map] at q; exact q) hin) (fun _ => ?_)
            have hs : Hs _ [_, _, _, _, _] _ := hs8.sel [2, 3, 4, 1, 0]
            clear hs8
            rw [List.getElem?_eq_none (by omega)] at hs
            simp only at hs
            walk_at "ss"
            refine w_neS (xs := fr) (by walk_at "l") (by walk_at "l") hst ?_
            walk_at "ss"
            refine iteF ?_
            walk_at "ss"
            exact ⟨fr, u, m, cells, _, _, _, _, _, _, rfl, hs, g, hf, hst⟩
        · refine ifd (fun q => absurd q (by decide)) (fun _ => ?_)
          walk_at "ss"
          refine ifd (fun q => absurd q (by decide)) (fun _ => ?_)
          walk_at "ss"
          refine w_hasten hs ha0 hf fun H8 hs8 => ?_
          clear hs
          walk_at "ss"
          refine iteF ?_
          walk_at "ss"
          refine ifn (fun q => absurd (by rw [List.length_map]) q) (fun _ => ?_)
          walk_at "ss"
          by_cases hin : at_ < (fr.length : Int)
          · have hj : at_.toNat < fr.length := by omega
            have et : fr[at_.toNat]? = some fr[at_.toNat] := List.getElem?_eq_getElem hj
            generalize ht : fr[at_.toNat] = t at et
            have htok : PyData.strOk t = true := hst t (List.mem_of_getElem? et)
            have ea : atI (fr.map V.str) at_ = some (.str t) := at_of (j := at_.toNat) (by omega) (by rw [List.getElem?_map, et]; rfl)
            have E1 : cutV (fr.map V.str) none (some at_) ++ cutV (fr.map V.str) (some (at_ + 1)) none = (fr.eraseIdx at_.toNat).map V.str := by
              rw [cut_to at_.toNat (by omega), cut_from (at_.toNat + 1) (by omega), List.eraseIdx_eq_take_drop_succ, List.map_append, List.map_take, List.map_drop]
            have E2 : cutV (fr.map V.str ++ [V.str t]) none (some 32) = ((fr ++ [t]).take 32).map V.str := by
              rw [cut_to (j := 32) 32 rfl, List.map_take, List.map_append]
              rfl
            have z1 := cut_len (xs := fr.map V.str) (lo := none) (hi := some at_)
            have z2 := cut_len (xs := fr.map V.str) (lo := some (at_ + 1)) (hi := none)
            rw [List.length_map] at z1 z2
            refine ifd (fun _ => ?_) (fun q => absurd (by rw [List.length_map]; exact hin) q)
            rw [et] at hs8
            simp only at hs8
            walk_at "ss"
            rename_i q1 _ _ q2 _ _ e1 _ _ q3 _ _ q4 _ _ e2 _ _ q5 _ _ q6 _ _ q7 _ _ q8 _ _ e3 _ _ lst H9 hs9
            have hs : Hs _ [_, _, _, _, _] _ := hs9.sel [14, 15, 1, 13, 12]
            rw [List.append_assoc, E1] at hs
            have hok : ∀ x ∈ t :: fr.eraseIdx at_.toNat, PyData.strOk x = true := fun x h => by
              rcases List.mem_cons.mp h with rfl | h
              · exact htok
              · exact hst x (List.mem_of_mem_eraseIdx h)
            have hlen2 : (t :: fr.eraseIdx at_.toNat).length ≤ 32 := by rw [List.length_cons, List.length_eraseIdx_of_lt hj]; omega
            refine w_neS (xs := (t :: fr.eraseIdx at_.toNat)) (by walk_at "l") (by walk_at "l") hok ?_
            walk_at "ss"
            refine iteF ?_
            walk_at "ss"
            exact ⟨(t :: fr.eraseIdx at_.toNat), _, m, cells, _, _, _, _, _, _, rfl, hs, g, hlen2, hok⟩
          · refine ifd (fun q => absurd (by rw [List.length_map] at q; exact q) hin) (fun _ => ?_)
            have hs : Hs _ [_, _, _, _, _] _ := hs8.sel [2, 3, 4, 1, 0]
            clear hs8
            rw [List.getElem?_eq_none (by omega)] at hs
            simp only at hs
            walk_at "ss"
            refine w_neS (xs := fr) (by walk_at "l") (by walk_at "l") hst ?_
            walk_at "ss"
            refine iteF ?_
            walk_at "ss"
            exact ⟨fr, u, m, cells, _, _, _, _, _, _, rfl, hs, g, hf, hst⟩
    · rintro σ H' ⟨fr, u, m, cells, v5, v6, v7, v8, v9, v10, rfl, hs, g, hf, hst⟩
      walk_at "ss"
      exact k _
end
theorem all_mk {l : PySem.W.OpenLaw} {w : World} {K : PySem.W.Frag} {h : Heap} {mg : Str → Option Value} {fa : Addr} (X : K.In h) (G : h.Ns mainGlobals mg) (hfa : mg "law" = some (.ref fa))
    {A_Lane A_Lane_init A_Lane_put A_Lane_deliver A_Lane_has A_Lane_lose A_Lane_double A_Lane_hasten A_Lane_clear A__law_state A__law_draw A_law : Addr} {od_Lane_init an_Lane_init od_Lane_put an_Lane_put od_Lane_deliver an_Lane_deliver od_Lane_has an_Lane_has od_Lane_lose an_Lane_lose od_Lane_double an_Lane_double od_Lane_hasten an_Lane_hasten od_Lane_clear an_Lane_clear od__law_state an__law_state od__law_draw an__law_draw od_law an_law : Option Addr} {sl_Lane_init sl_Lane_put sl_Lane_deliver sl_Lane_has sl_Lane_lose sl_Lane_double sl_Lane_hasten sl_Lane_clear sl__law_state sl__law_draw sl_law : Array (Option Value)} {oc_Lane_init kV_Lane_init dc_Lane_init pm_Lane_init cd_Lane_init ct_Lane_init oc_Lane_put kV_Lane_put dc_Lane_put pm_Lane_put cd_Lane_put ct_Lane_put oc_Lane_deliver kV_Lane_deliver dc_Lane_deliver pm_Lane_deliver cd_Lane_deliver ct_Lane_deliver oc_Lane_has kV_Lane_has dc_Lane_has pm_Lane_has cd_Lane_has ct_Lane_has oc_Lane_lose kV_Lane_lose dc_Lane_lose pm_Lane_lose cd_Lane_lose ct_Lane_lose oc_Lane_double kV_Lane_double dc_Lane_double pm_Lane_double cd_Lane_double ct_Lane_double oc_Lane_hasten kV_Lane_hasten dc_Lane_hasten pm_Lane_hasten cd_Lane_hasten ct_Lane_hasten oc_Lane_clear kV_Lane_clear dc_Lane_clear pm_Lane_clear cd_Lane_clear ct_Lane_clear oc__law_state kV__law_state dc__law_state pm__law_state cd__law_state ct__law_state oc__law_draw kV__law_draw dc__law_draw pm__law_draw cd__law_draw ct__law_draw oc_law kV_law dc_law pm_law cd_law ct_law : Value} {tk_MOST_FRAMES : Tok}
        (h_cLane : PySem.W.nsIn K mainGlobals "Lane" = some (some (.ref A_Lane)))
    (h_pgLane : PySem.W.plainGet K A_Lane Str.empty = true)
    (h_hdLane : PySem.W.hasDictIn K A_Lane = true)
    (h_poLane : PySem.W.plainOver K A_Lane = true)
    (h_saLane : PySem.W.findIn K (.ref A_Lane) "__setattr__" = some (some (.builtin "object.__setattr__")))
    (h_mkLane : PySem.W.makesIn K A_Lane = true)
    (h_kcLane : PySem.W.keepIn K (.ref A_Lane) = true)
    (h_naLane_frames : PySem.W.findIn K (.ref A_Lane) "frames" = some none)
    (h_aLane_init : PySem.W.findIn K (.ref A_Lane) "__init__" = some (some (.ref A_Lane_init)))
    (h_iLane_init : PySem.W.isFn K (.ref A_Lane_init) = true)
    (h_lLane_init : K.lookup A_Lane_init = some ⟨oc_Lane_init, od_Lane_init, .func (PySem.W.fnOf "__init__" "Lane.__init__" (defArgs s_Lane_init) (defBody s_Lane_init) (defScope s_Lane_init) .none kV_Lane_init dc_Lane_init pm_Lane_init an_Lane_init cd_Lane_init ct_Lane_init), sl_Lane_init⟩)
    (h_cdLane_init : PySem.W.codeIn K cd_Lane_init "Lane.__init__" = true)
    (h_kLane_init : PySem.W.keepIn K (.ref A_Lane_init) = true)
    (h_aLane_put : PySem.W.findIn K (.ref A_Lane) "put" = some (some (.ref A_Lane_put)))
    (h_iLane_put : PySem.W.isFn K (.ref A_Lane_put) = true)
    (h_lLane_put : K.lookup A_Lane_put = some ⟨oc_Lane_put, od_Lane_put, .func (PySem.W.fnOf "put" "Lane.put" (defArgs s_Lane_put) (defBody s_Lane_put) (defScope s_Lane_put) .none kV_Lane_put dc_Lane_put pm_Lane_put an_Lane_put cd_Lane_put ct_Lane_put), sl_Lane_put⟩)
    (h_cdLane_put : PySem.W.codeIn K cd_Lane_put "Lane.put" = true)
    (h_kLane_put : PySem.W.keepIn K (.ref A_Lane_put) = true)
    (h_aLane_deliver : PySem.W.findIn K (.ref A_Lane) "deliver" = some (some (.ref A_Lane_deliver)))
    (h_iLane_deliver : PySem.W.isFn K (.ref A_Lane_deliver) = true)
    (h_lLane_deliver : K.lookup A_Lane_deliver = some ⟨oc_Lane_deliver, od_Lane_deliver, .func (PySem.W.fnOf "deliver" "Lane.deliver" (defArgs s_Lane_deliver) (defBody s_Lane_deliver) (defScope s_Lane_deliver) .none kV_Lane_deliver dc_Lane_deliver pm_Lane_deliver an_Lane_deliver cd_Lane_deliver ct_Lane_deliver), sl_Lane_deliver⟩)
    (h_cdLane_deliver : PySem.W.codeIn K cd_Lane_deliver "Lane.deliver" = true)
    (h_kLane_deliver : PySem.W.keepIn K (.ref A_Lane_deliver) = true)
    (h_aLane_has : PySem.W.findIn K (.ref A_Lane) "_has" = some (some (.ref A_Lane_has)))
    (h_iLane_has : PySem.W.isFn K (.ref A_Lane_has) = true)
    (h_lLane_has : K.lookup A_Lane_has = some ⟨oc_Lane_has, od_Lane_has, .func (PySem.W.fnOf "_has" "Lane._has" (defArgs s_Lane_has) (defBody s_Lane_has) (defScope s_Lane_has) .none kV_Lane_has dc_Lane_has pm_Lane_has an_Lane_has cd_Lane_has ct_Lane_has), sl_Lane_has⟩)
    (h_cdLane_has : PySem.W.codeIn K cd_Lane_has "Lane._has" = true)
    (h_kLane_has : PySem.W.keepIn K (.ref A_Lane_has) = true)
    (h_aLane_lose : PySem.W.findIn K (.ref A_Lane) "lose" = some (some (.ref A_Lane_lose)))
    (h_iLane_lose : PySem.W.isFn K (.ref A_Lane_lose) = true)
    (h_lLane_lose : K.lookup A_Lane_lose = some ⟨oc_Lane_lose, od_Lane_lose, .func (PySem.W.fnOf "lose" "Lane.lose" (defArgs s_Lane_lose) (defBody s_Lane_lose) (defScope s_Lane_lose) .none kV_Lane_lose dc_Lane_lose pm_Lane_lose an_Lane_lose cd_Lane_lose ct_Lane_lose), sl_Lane_lose⟩)
    (h_cdLane_lose : PySem.W.codeIn K cd_Lane_lose "Lane.lose" = true)
    (h_kLane_lose : PySem.W.keepIn K (.ref A_Lane_lose) = true)
    (h_aLane_double : PySem.W.findIn K (.ref A_Lane) "double" = some (some (.ref A_Lane_double)))
    (h_iLane_double : PySem.W.isFn K (.ref A_Lane_double) = true)
    (h_lLane_double : K.lookup A_Lane_double = some ⟨oc_Lane_double, od_Lane_double, .func (PySem.W.fnOf "double" "Lane.double" (defArgs s_Lane_double) (defBody s_Lane_double) (defScope s_Lane_double) .none kV_Lane_double dc_Lane_double pm_Lane_double an_Lane_double cd_Lane_double ct_Lane_double), sl_Lane_double⟩)
    (h_cdLane_double : PySem.W.codeIn K cd_Lane_double "Lane.double" = true)
    (h_kLane_double : PySem.W.keepIn K (.ref A_Lane_double) = true)
    (h_aLane_hasten : PySem.W.findIn K (.ref A_Lane) "hasten" = some (some (.ref A_Lane_hasten)))
    (h_iLane_hasten : PySem.W.isFn K (.ref A_Lane_hasten) = true)
    (h_lLane_hasten : K.lookup A_Lane_hasten = some ⟨oc_Lane_hasten, od_Lane_hasten, .func (PySem.W.fnOf "hasten" "Lane.hasten" (defArgs s_Lane_hasten) (defBody s_Lane_hasten) (defScope s_Lane_hasten) .none kV_Lane_hasten dc_Lane_hasten pm_Lane_hasten an_Lane_hasten cd_Lane_hasten ct_Lane_hasten), sl_Lane_hasten⟩)
    (h_cdLane_hasten : PySem.W.codeIn K cd_Lane_hasten "Lane.hasten" = true)
    (h_kLane_hasten : PySem.W.keepIn K (.ref A_Lane_hasten) = true)
    (h_aLane_clear : PySem.W.findIn K (.ref A_Lane) "clear" = some (some (.ref A_Lane_clear)))
    (h_iLane_clear : PySem.W.isFn K (.ref A_Lane_clear) = true)
    (h_lLane_clear : K.lookup A_Lane_clear = some ⟨oc_Lane_clear, od_Lane_clear, .func (PySem.W.fnOf "clear" "Lane.clear" (defArgs s_Lane_clear) (defBody s_Lane_clear) (defScope s_Lane_clear) .none kV_Lane_clear dc_Lane_clear pm_Lane_clear an_Lane_clear cd_Lane_clear ct_Lane_clear), sl_Lane_clear⟩)
    (h_cdLane_clear : PySem.W.codeIn K cd_Lane_clear "Lane.clear" = true)
    (h_kLane_clear : PySem.W.keepIn K (.ref A_Lane_clear) = true)
    (h_a_law_state : PySem.W.nsIn K mainGlobals "_law_state" = some (some (.ref A__law_state)))
    (h_l_law_state : K.lookup A__law_state = some ⟨oc__law_state, od__law_state, .func (PySem.W.fnOf "_law_state" "_law_state" (defArgs s__law_state) (defBody s__law_state) (defScope s__law_state) .none kV__law_state dc__law_state pm__law_state an__law_state cd__law_state ct__law_state), sl__law_state⟩)
    (h_cd_law_state : PySem.W.codeIn K cd__law_state "_law_state" = true)
    (h_k_law_state : PySem.W.keepIn K (.ref A__law_state) = true)
    (h_a_law_draw : PySem.W.nsIn K mainGlobals "_law_draw" = some (some (.ref A__law_draw)))
    (h_l_law_draw : K.lookup A__law_draw = some ⟨oc__law_draw, od__law_draw, .func (PySem.W.fnOf "_law_draw" "_law_draw" (defArgs s__law_draw) (defBody s__law_draw) (defScope s__law_draw) .none kV__law_draw dc__law_draw pm__law_draw an__law_draw cd__law_draw ct__law_draw), sl__law_draw⟩)
    (h_cd_law_draw : PySem.W.codeIn K cd__law_draw "_law_draw" = true)
    (h_k_law_draw : PySem.W.keepIn K (.ref A__law_draw) = true)
    (h_alaw : PySem.W.nsIn K mainGlobals "law" = some (some (.ref A_law)))
    (h_llaw : K.lookup A_law = some ⟨oc_law, od_law, .func (PySem.W.fnOf "law" "law" (defArgs s_law) (defBody s_law) (defScope s_law) .none kV_law dc_law pm_law an_law cd_law ct_law), sl_law⟩)
    (h_cdlaw : PySem.W.codeIn K cd_law "law" = true)
    (h_klaw : PySem.W.keepIn K (.ref A_law) = true)
    (h_gMOST_FRAMES : PySem.W.nsIn K mainGlobals "MOST_FRAMES" = some (some (.int 32 tk_MOST_FRAMES)))
    (h_blen : PySem.W.nsIn K mainGlobals "len" = some none)
    (h_babs : PySem.W.nsIn K mainGlobals "abs" = some none)
    (h_bint : PySem.W.nsIn K mainGlobals "int" = some none)
    (h_brange : PySem.W.nsIn K mainGlobals "range" = some none)
    (h_bstr : PySem.W.nsIn K mainGlobals "str" = some none)
    (h_bisinstance : PySem.W.nsIn K mainGlobals "isinstance" = some none)
    (h_bbool : PySem.W.nsIn K mainGlobals "bool" = some none) :
    ∃ fd : FuncData, (∀ (s : Shared) (v : Value), BindsTo s fd ⟨[v], []⟩ [("script", v)]) ∧ ∀ base : Heap, K.In base → base.Ns mainGlobals mg → FnOk l.prog w K mg base CX0 3 fa fd ["script"] (sp_law K) := by
  have e := hfa.symm.trans (PySem.W.mg_of X G h_alaw)
  have e2 : fa = A_law := Value.ref.inj (Option.some.inj e)
  rw [e2]
  have T : Txt K mg ⟨A_Lane, A_Lane_init, (PySem.W.fnOf "__init__" "Lane.__init__" (defArgs s_Lane_init) (defBody s_Lane_init) (defScope s_Lane_init) .none kV_Lane_init dc_Lane_init pm_Lane_init an_Lane_init cd_Lane_init ct_Lane_init), A_Lane_put, (PySem.W.fnOf "put" "Lane.put" (defArgs s_Lane_put) (defBody s_Lane_put) (defScope s_Lane_put) .none kV_Lane_put dc_Lane_put pm_Lane_put an_Lane_put cd_Lane_put ct_Lane_put), A_Lane_deliver, (PySem.W.fnOf "deliver" "Lane.deliver" (defArgs s_Lane_deliver) (defBody s_Lane_deliver) (defScope s_Lane_deliver) .none kV_Lane_deliver dc_Lane_deliver pm_Lane_deliver an_Lane_deliver cd_Lane_deliver ct_Lane_deliver), A_Lane_has, (PySem.W.fnOf "_has" "Lane._has" (defArgs s_Lane_has) (defBody s_Lane_has) (defScope s_Lane_has) .none kV_Lane_has dc_Lane_has pm_Lane_has an_Lane_has cd_Lane_has ct_Lane_has), A_Lane_lose, (PySem.W.fnOf "lose" "Lane.lose" (defArgs s_Lane_lose) (defBody s_Lane_lose) (defScope s_Lane_lose) .none kV_Lane_lose dc_Lane_lose pm_Lane_lose an_Lane_lose cd_Lane_lose ct_Lane_lose), A_Lane_double, (PySem.W.fnOf "double" "Lane.double" (defArgs s_Lane_double) (defBody s_Lane_double) (defScope s_Lane_double) .none kV_Lane_double dc_Lane_double pm_Lane_double an_Lane_double cd_Lane_double ct_Lane_double), A_Lane_hasten, (PySem.W.fnOf "hasten" "Lane.hasten" (defArgs s_Lane_hasten) (defBody s_Lane_hasten) (defScope s_Lane_hasten) .none kV_Lane_hasten dc_Lane_hasten pm_Lane_hasten an_Lane_hasten cd_Lane_hasten ct_Lane_hasten), A_Lane_clear, (PySem.W.fnOf "clear" "Lane.clear" (defArgs s_Lane_clear) (defBody s_Lane_clear) (defScope s_Lane_clear) .none kV_Lane_clear dc_Lane_clear pm_Lane_clear an_Lane_clear cd_Lane_clear ct_Lane_clear), A__law_state, (PySem.W.fnOf "_law_state" "_law_state" (defArgs s__law_state) (defBody s__law_state) (defScope s__law_state) .none kV__law_state dc__law_state pm__law_state an__law_state cd__law_state ct__law_state), A__law_draw, (PySem.W.fnOf "_law_draw" "_law_draw" (defArgs s__law_draw) (defBody s__law_draw) (defScope s__law_draw) .none kV__law_draw dc__law_draw pm__law_draw an__law_draw cd__law_draw ct__law_draw), A_law, (PySem.W.fnOf "law" "law" (defArgs s_law) (defBody s_law) (defScope s_law) .none kV_law dc_law pm_law an_law cd_law ct_law)⟩ := {
    cl_Lane := ⟨h_pgLane, h_hdLane, h_poLane, h_saLane⟩
    mg_Lane := PySem.W.mg_of X G h_cLane
    na_Lane_frames := h_naLane_frames
    fn_Lane_init := fun_mk (st := s_Lane_init) h_lLane_init h_cdLane_init h_kLane_init
    bi_Lane_init := (fun_mk (st := s_Lane_init) h_lLane_init h_cdLane_init h_kLane_init).binds (ps := ["self"]) fun _ _ _ _ _ _ us hl => match us, hl with | [_], _ => rfl
    mk_Lane := ⟨h_mkLane, h_aLane_init, h_iLane_init, h_kcLane⟩
    fn_Lane_put := fun_mk (st := s_Lane_put) h_lLane_put h_cdLane_put h_kLane_put
    bi_Lane_put := (fun_mk (st := s_Lane_put) h_lLane_put h_cdLane_put h_kLane_put).binds (ps := ["self", "text"]) fun _ _ _ _ _ _ us hl => match us, hl with | [_, _], _ => rfl
    me_Lane_put := ⟨h_aLane_put, h_iLane_put, h_kLane_put⟩
    fn_Lane_deliver := fun_mk (st := s_Lane_deliver) h_lLane_deliver h_cdLane_deliver h_kLane_deliver
    bi_Lane_deliver := (fun_mk (st := s_Lane_deliver) h_lLane_deliver h_cdLane_deliver h_kLane_deliver).binds (ps := ["self"]) fun _ _ _ _ _ _ us hl => match us, hl with | [_], _ => rfl
    me_Lane_deliver := ⟨h_aLane_deliver, h_iLane_deliver, h_kLane_deliver⟩
    fn_Lane_has := fun_mk (st := s_Lane_has) h_lLane_has h_cdLane_has h_kLane_has
    bi_Lane_has := (fun_mk (st := s_Lane_has) h_lLane_has h_cdLane_has h_kLane_has).binds (ps := ["self", "at"]) fun _ _ _ _ _ _ us hl => match us, hl with | [_, _], _ => rfl
    me_Lane_has := ⟨h_aLane_has, h_iLane_has, h_kLane_has⟩
    fn_Lane_lose := fun_mk (st := s_Lane_lose) h_lLane_lose h_cdLane_lose h_kLane_lose
    bi_Lane_lose := (fun_mk (st := s_Lane_lose) h_lLane_lose h_cdLane_lose h_kLane_lose).binds (ps := ["self", "at"]) fun _ _ _ _ _ _ us hl => match us, hl with | [_, _], _ => rfl
    me_Lane_lose := ⟨h_aLane_lose, h_iLane_lose, h_kLane_lose⟩
    fn_Lane_double := fun_mk (st := s_Lane_double) h_lLane_double h_cdLane_double h_kLane_double
    bi_Lane_double := (fun_mk (st := s_Lane_double) h_lLane_double h_cdLane_double h_kLane_double).binds (ps := ["self", "at"]) fun _ _ _ _ _ _ us hl => match us, hl with | [_, _], _ => rfl
    me_Lane_double := ⟨h_aLane_double, h_iLane_double, h_kLane_double⟩
    fn_Lane_hasten := fun_mk (st := s_Lane_hasten) h_lLane_hasten h_cdLane_hasten h_kLane_hasten
    bi_Lane_hasten := (fun_mk (st := s_Lane_hasten) h_lLane_hasten h_cdLane_hasten h_kLane_hasten).binds (ps := ["self", "at"]) fun _ _ _ _ _ _ us hl => match us, hl with | [_, _], _ => rfl
    me_Lane_hasten := ⟨h_aLane_hasten, h_iLane_hasten, h_kLane_hasten⟩
    fn_Lane_clear := fun_mk (st := s_Lane_clear) h_lLane_clear h_cdLane_clear h_kLane_clear
    bi_Lane_clear := (fun_mk (st := s_Lane_clear) h_lLane_clear h_cdLane_clear h_kLane_clear).binds (ps := ["self"]) fun _ _ _ _ _ _ us hl => match us, hl with | [_], _ => rfl
    me_Lane_clear := ⟨h_aLane_clear, h_iLane_clear, h_kLane_clear⟩
    fn__law_state := fun_mk (st := s__law_state) h_l_law_state h_cd_law_state h_k_law_state
    bi__law_state := (fun_mk (st := s__law_state) h_l_law_state h_cd_law_state h_k_law_state).binds (ps := ["script"]) fun _ _ _ _ _ _ us hl => match us, hl with | [_], _ => rfl
    mg__law_state := PySem.W.mg_of X G h_a_law_state
    kp__law_state := h_k_law_state
    fn__law_draw := fun_mk (st := s__law_draw) h_l_law_draw h_cd_law_draw h_k_law_draw
    bi__law_draw := (fun_mk (st := s__law_draw) h_l_law_draw h_cd_law_draw h_k_law_draw).binds (ps := ["state", "many"]) fun _ _ _ _ _ _ us hl => match us, hl with | [_, _], _ => rfl
    mg__law_draw := PySem.W.mg_of X G h_a_law_draw
    kp__law_draw := h_k_law_draw
    fn_law := fun_mk (st := s_law) h_llaw h_cdlaw h_klaw
    bi_law := (fun_mk (st := s_law) h_llaw h_cdlaw h_klaw).binds (ps := ["script"]) fun _ _ _ _ _ _ us hl => match us, hl with | [_], _ => rfl
    mg_law := PySem.W.mg_of X G h_alaw
    kp_law := h_klaw
    mg_MOST_FRAMES := ⟨_, PySem.W.mg_of X G h_gMOST_FRAMES⟩
    mg_len := PySem.W.mg_none_of X G h_blen
    mg_abs := PySem.W.mg_none_of X G h_babs
    mg_int := PySem.W.mg_none_of X G h_bint
    mg_range := PySem.W.mg_none_of X G h_brange
    mg_str := PySem.W.mg_none_of X G h_bstr
    mg_isinstance := PySem.W.mg_none_of X G h_bisinstance
    mg_bool := PySem.W.mg_none_of X G h_bbool }
  exact ⟨_, fun s v => .of_eq rfl, fun base _ _ => ok_law T⟩
theorem walk {l : PySem.W.OpenLaw} {q : Program} {loose : List Str} {XP : (Str → Option Value) → Heap → Prop} {YP : World → Heap → Prop} {d : DefRec} {K : Params → PySem.W.Frag} (hn : l.most = some 63) (hdf : d.params.defaults = [])
    (hY : ∀ (w : World) (h : Heap), YP w h → (K w.params).In h)
    (F : ∀ (w : World) (mg : Str → Option Value) (fa : Addr) (h : Heap), (K w.params).In h → h.Ns mainGlobals mg → mg d.name = some (.ref fa) →
      ∃ fd : FuncData, (∀ (s : Shared) (u : Value), BindsTo s fd ⟨[u], []⟩ [("script", u)]) ∧ ∀ base : Heap, (K w.params).In base → base.Ns mainGlobals mg → FnOk l.prog w (K w.params) mg base CX0 3 fa fd ["script"] (sp_law (K w.params))) :
    PySem.W.WalkO q loose XP YP l.row.toRowW d [] (fun f vs => PySem.call f vs) :=
  L2.walk_of (n := 63) (k := 3) (x := "script") (CX := fun _ => CX0) (sp := fun w => sp_law (K w.params)) hn (by decide) hdf ⟨rfl, by decide, by decide⟩ hY F (fun _ _ a ns hl _ hS => ⟨a, ns, rfl, hS, hl, fun _ => rfl⟩) fun _ _ _ _ _ z => z
end K3

open PySem PySem.W PyProof.Rows in
set_option maxRecDepth 100000 in
set_option maxHeartbeats 0 in
theorem PySem.Challenge.cw_hangbridge_k03_lanes_of_frames_holds : PySem.Challenge.rw_hangbridge_k03_lanes_of_frames.Holds := by
  w_on; o_law; k_head; (case hw => w_witness2)
  k_fill
  refine K3.walk (l := PySem.Challenge.rw_hangbridge_k03_lanes_of_frames) rfl rfl (fun w h Y => PySem.W.kIn_of Y) ?F
  case F =>
    intro w mg fa h KX G hmg
    refine' K3.all_mk KX G hmg ?h_cLane ?h_pgLane ?h_hdLane ?h_poLane ?h_saLane ?h_mkLane ?h_kcLane ?h_naLane_frames ?h_aLane_init ?h_iLane_init ?h_lLane_init ?h_cdLane_init ?h_kLane_init ?h_aLane_put ?h_iLane_put ?h_lLane_put ?h_cdLane_put ?h_kLane_put ?h_aLane_deliver ?h_iLane_deliver ?h_lLane_deliver ?h_cdLane_deliver ?h_kLane_deliver ?h_aLane_has ?h_iLane_has ?h_lLane_has ?h_cdLane_has ?h_kLane_has ?h_aLane_lose ?h_iLane_lose ?h_lLane_lose ?h_cdLane_lose ?h_kLane_lose ?h_aLane_double ?h_iLane_double ?h_lLane_double ?h_cdLane_double ?h_kLane_double ?h_aLane_hasten ?h_iLane_hasten ?h_lLane_hasten ?h_cdLane_hasten ?h_kLane_hasten ?h_aLane_clear ?h_iLane_clear ?h_lLane_clear ?h_cdLane_clear ?h_kLane_clear ?h_a_law_state ?h_l_law_state ?h_cd_law_state ?h_k_law_state ?h_a_law_draw ?h_l_law_draw ?h_cd_law_draw ?h_k_law_draw ?h_alaw ?h_llaw ?h_cdlaw ?h_klaw ?h_gMOST_FRAMES ?h_blen ?h_babs ?h_bint ?h_brange ?h_bstr ?h_bisinstance ?h_bbool
    (case h_cLane => k_is)
    (case h_pgLane => k_is)
    (case h_hdLane => k_is)
    (case h_poLane => k_is)
    (case h_saLane => k_is)
    (case h_mkLane => k_is)
    (case h_kcLane => k_is)
    (case h_naLane_frames => k_is)
    (case h_aLane_init => k_is)
    (case h_iLane_init => k_is)
    (case h_lLane_init => k_is)
    (case h_cdLane_init => k_is)
    (case h_kLane_init => k_is)
    (case h_aLane_put => k_is)
    (case h_iLane_put => k_is)
    (case h_lLane_put => k_is)
    (case h_cdLane_put => k_is)
    (case h_kLane_put => k_is)
    (case h_aLane_deliver => k_is)
    (case h_iLane_deliver => k_is)
    (case h_lLane_deliver => k_is)
    (case h_cdLane_deliver => k_is)
    (case h_kLane_deliver => k_is)
    (case h_aLane_has => k_is)
    (case h_iLane_has => k_is)
    (case h_lLane_has => k_is)
    (case h_cdLane_has => k_is)
    (case h_kLane_has => k_is)
    (case h_aLane_lose => k_is)
    (case h_iLane_lose => k_is)
    (case h_lLane_lose => k_is)
    (case h_cdLane_lose => k_is)
    (case h_kLane_lose => k_is)
    (case h_aLane_double => k_is)
    (case h_iLane_double => k_is)
    (case h_lLane_double => k_is)
    (case h_cdLane_double => k_is)
    (case h_kLane_double => k_is)
    (case h_aLane_hasten => k_is)
    (case h_iLane_hasten => k_is)
    (case h_lLane_hasten => k_is)
    (case h_cdLane_hasten => k_is)
    (case h_kLane_hasten => k_is)
    (case h_aLane_clear => k_is)
    (case h_iLane_clear => k_is)
    (case h_lLane_clear => k_is)
    (case h_cdLane_clear => k_is)
    (case h_kLane_clear => k_is)
    (case h_a_law_state => k_is)
    (case h_l_law_state => k_is)
    (case h_cd_law_state => k_is)
    (case h_k_law_state => k_is)
    (case h_a_law_draw => k_is)
    (case h_l_law_draw => k_is)
    (case h_cd_law_draw => k_is)
    (case h_k_law_draw => k_is)
    (case h_alaw => k_is)
    (case h_llaw => k_is)
    (case h_cdlaw => k_is)
    (case h_klaw => k_is)
    (case h_gMOST_FRAMES => k_is)
    (case h_blen => k_is)
    (case h_babs => k_is)
    (case h_bint => k_is)
    (case h_brange => k_is)
    (case h_bstr => k_is)
    (case h_bisinstance => k_is)
    (case h_bbool => k_is)
