import PyProof.Rows.All
import Wide.All
import OpenK.AllK
import Wide.FinOn
import HandS.ForMost
import HandS.Flow
import HandS.More
import HandS.IsInst
import HandS.Wide
import HandS.Style
import HandS.FStr
import HandS.Exc
import HandS.ExcInit
import HandS.ExcOwn
import HandS.ExcField
import HandS.ExcIs
import HandS.ClsMeth
import HandS.Codes
import HandS.TryOnly
import HandS.WordsExc
import KE.KExcIs
import KE.KIsAll
import HandS.Small
import KE.KeyNested
import KE.KDictKeyed
import HandS.SortOrd
import HandS.SortRule
import HandS.Dict
import HandS.Iter
import HandS.Conv
import HandS.Deep
import KE.DataMinMax
import KE.SortData
import HandS.TupSets
import HandS.SetBool
import HandS.Zip
import HandS.Star
import HandS.SetKeys
import HandS.DictComp
import HandS.SortInts
import PyProof.ReprRoads
import PyProof.ReprLen
import PyProof.ReprBulk
import HandS.TupAny
import HandS.List
import KE.DataCmp
import PySem.Challenge.RW_hangbridge_k46_whole_ways_around_dead_li
set_option Elab.async false
set_option maxRecDepth 100000
set_option maxHeartbeats 4000000
/-! A heap as what stood and what is our own; steps of readings over it. -/
namespace Hb
open PySem L2

/-- B stood and is kept; L are our own objects, each once -/
structure Hs (B : Hp) (L : List (Addr × HO)) (H : Hp) : Prop where
  same : Same B H
  nd : (L.map (·.1)).Nodup
  out : ∀ e ∈ L, B e.1 = none
  at_ : ∀ e ∈ L, H e.1 = some e.2

section
variable {B H H' : Hp} {L R A : List (Addr × HO)} {p l : Addr} {o o' : HO} {i : Nat}
theorem Hs.start (H : Hp) : Hs H [] H := ⟨Same.refl H, List.nodup_nil, (fun _ h => nomatch h), (fun _ h => nomatch h)⟩
theorem Hs.of_same (h : Same B H) : Hs B [] H := ⟨h, List.nodup_nil, (fun _ h => nomatch h), (fun _ h => nomatch h)⟩
theorem Hs.get (hs : Hs B L H) (h : L[i]? = some (p, o)) : H p = some o := hs.at_ (p, o) (List.mem_of_getElem? h)
theorem Hs.mem (hs : Hs B L H) (h : (p, o) ∈ L) : H p = some o := hs.at_ (p, o) h
theorem Hs.g0 (hs : Hs B ((p, o) :: L) H) : H p = some o := hs.get (i := 0) rfl
theorem Hs.g1 {x} (hs : Hs B (x :: (p, o) :: L) H) : H p = some o := hs.get (i := 1) rfl
theorem Hs.g2 {x y} (hs : Hs B (x :: y :: (p, o) :: L) H) : H p = some o := hs.get (i := 2) rfl
theorem Hs.g3 {x y z} (hs : Hs B (x :: y :: z :: (p, o) :: L) H) : H p = some o := hs.get (i := 3) rfl
theorem Hs.g4 {x y z w} (hs : Hs B (x :: y :: z :: w :: (p, o) :: L) H) : H p = some o := hs.get (i := 4) rfl
theorem Hs.g5 {x y z w v} (hs : Hs B (x :: y :: z :: w :: v :: (p, o) :: L) H) : H p = some o := hs.get (i := 5) rfl
theorem Hs.g6 {x y z w v u} (hs : Hs B (x :: y :: z :: w :: v :: u :: (p, o) :: L) H) : H p = some o := hs.get (i := 6) rfl
theorem Hs.g7 {x y z w v u t} (hs : Hs B (x :: y :: z :: w :: v :: u :: t :: (p, o) :: L) H) : H p = some o := hs.get (i := 7) rfl
theorem Hs.g8 {x y z w v u t s} (hs : Hs B (x :: y :: z :: w :: v :: u :: t :: s :: (p, o) :: L) H) : H p = some o := hs.get (i := 8) rfl
theorem Hs.g9 {x y z w v u t s r} (hs : Hs B (x :: y :: z :: w :: v :: u :: t :: s :: r :: (p, o) :: L) H) : H p = some o := hs.get (i := 9) rfl
theorem Hs.g10 {x y z w v u t s r q} (hs : Hs B (x :: y :: z :: w :: v :: u :: t :: s :: r :: q :: (p, o) :: L) H) : H p = some o := hs.get (i := 10) rfl
theorem Hs.g11 {x y z w v u t s r q n} (hs : Hs B (x :: y :: z :: w :: v :: u :: t :: s :: r :: q :: n :: (p, o) :: L) H) : H p = some o := hs.get (i := 11) rfl
theorem Hs.g12 {x y z w v u t s r q n m} (hs : Hs B (x :: y :: z :: w :: v :: u :: t :: s :: r :: q :: n :: m :: (p, o) :: L) H) : H p = some o := hs.get (i := 12) rfl
theorem Hs.g13 {x y z w v u t s r q n m k} (hs : Hs B (x :: y :: z :: w :: v :: u :: t :: s :: r :: q :: n :: m :: k :: (p, o) :: L) H) : H p = some o := hs.get (i := 13) rfl
theorem Hs.g14 {x y z w v u t s r q n m k j} (hs : Hs B (x :: y :: z :: w :: v :: u :: t :: s :: r :: q :: n :: m :: k :: j :: (p, o) :: L) H) : H p = some o := hs.get (i := 14) rfl
theorem Hs.g15 {x y z w v u t s r q n m k j h} (hs : Hs B (x :: y :: z :: w :: v :: u :: t :: s :: r :: q :: n :: m :: k :: j :: h :: (p, o) :: L) H) : H p = some o := hs.get (i := 15) rfl
theorem Hs.sql {K : PySem.W.Frag} {xs : List V} (hs : Hs B L H) (h : SqL K B p xs) : SqL K H p xs := hs.same.seq h
theorem Hs.old (hs : Hs B L H) (h : B p = some o) : H p = some o := hs.same _ _ h
theorem Hs.fresh (hs : Hs B L H) (h : H p = none) : p ∉ L.map (·.1) := fun m => by
  obtain ⟨e, he, rfl⟩ := List.mem_map.mp m
  rw [hs.at_ e he] at h
  cases h
/-- a new object -/
theorem Hs.new (hs : Hs B L H) (h : H p = none) : Hs B ((p, o) :: L) (upd H p o) := by
  have hf := hs.fresh h
  refine ⟨fun b u e => ?_, ?_, fun e he => ?_, fun e he => ?_⟩
  · rw [upd_ne (ne_of_none (hs.same b u e) h)]
    exact hs.same b u e
  · rw [List.map_cons, List.nodup_cons]
    exact ⟨hf, hs.nd⟩
  · rcases List.mem_cons.mp he with rfl | he
    · exact hs.same.free h
    · exact hs.out e he
  · rcases List.mem_cons.mp he with rfl | he
    · exact upd_same
    · rw [upd_ne (ne_of_none (hs.at_ e he) h)]
      exact hs.at_ e he
theorem set_fst : ∀ {L : List (Addr × HO)} {i : Nat} {p : Addr} {o o' : HO}, L[i]? = some (p, o) → (L.set i (p, o')).map (·.1) = L.map (·.1)
  | [], _, _, _, _, h => by simp at h
  | x :: L, 0, p, o, o', h => by
    have e : x = (p, o) := by simpa using h
    subst e
    rfl
  | x :: L, i + 1, p, o, o', h => by
    have := set_fst (L := L) (i := i) (o' := o') (by simpa using h)
    show _ :: ((L.set i (p, o')).map (·.1)) = _ :: L.map (·.1)
    rw [this]
theorem nd_only : ∀ {L : List (Addr × HO)} {e : Addr × HO} {i : Nat} {p : Addr} {o o' : HO}, (L.map (·.1)).Nodup → L[i]? = some (p, o) → e ∈ L.set i (p, o') → e = (p, o') ∨ (e ∈ L ∧ e.1 ≠ p)
  | [], _, _, _, _, _, _, h, _ => by simp at h
  | x :: L, e, 0, p, o, o', nd, h, m => by
    have ex : x = (p, o) := by simpa using h
    subst ex
    rcases List.mem_cons.mp m with rfl | m
    · exact .inl rfl
    · refine .inr ⟨List.mem_cons_of_mem _ m, fun q => ?_⟩
      rw [List.map_cons, List.nodup_cons] at nd
      exact nd.1 (List.mem_map.mpr ⟨e, m, q⟩)
  | x :: L, e, i + 1, p, o, o', nd, h, m => by
    rw [List.map_cons, List.nodup_cons] at nd
    have h' : L[i]? = some (p, o) := by simpa using h
    rcases List.mem_cons.mp m with rfl | m
    · refine .inr ⟨List.mem_cons_self, fun q => ?_⟩
      exact nd.1 (List.mem_map.mpr ⟨(p, o), List.mem_of_getElem? h', q.symm⟩)
    · rcases nd_only nd.2 h' m with r | ⟨r, q⟩
      · exact .inl r
      · exact .inr ⟨List.mem_cons_of_mem _ r, q⟩
/-- a store to one's own object -/
theorem Hs.put (hs : Hs B L H) (h : L[i]? = some (p, o)) : Hs B (L.set i (p, o')) (upd H p o') := by
  have hp : B p = none := hs.out (p, o) (List.mem_of_getElem? h)
  refine ⟨fun b u e => ?_, ?_, fun e he => ?_, fun e he => ?_⟩
  · have n : b ≠ p := fun q => by
      rw [q, hp] at e
      cases e
    rw [upd_ne n]
    exact hs.same b u e
  · rw [set_fst h]
    exact hs.nd
  · rcases nd_only hs.nd h he with rfl | ⟨m, _⟩
    · exact hp
    · exact hs.out e m
  · rcases nd_only hs.nd h he with rfl | ⟨m, q⟩
    · exact upd_same
    · rw [upd_ne q]
      exact hs.at_ e m
theorem Hs.p0 (o' : HO) (hs : Hs B ((p, o) :: L) H) : Hs B ((p, o') :: L) (upd H p o') := hs.put (i := 0) rfl
theorem Hs.p1 (o' : HO) {x} (hs : Hs B (x :: (p, o) :: L) H) : Hs B (x :: (p, o') :: L) (upd H p o') := hs.put (i := 1) rfl
theorem Hs.p2 (o' : HO) {x y} (hs : Hs B (x :: y :: (p, o) :: L) H) : Hs B (x :: y :: (p, o') :: L) (upd H p o') := hs.put (i := 2) rfl
theorem Hs.p3 (o' : HO) {x y z} (hs : Hs B (x :: y :: z :: (p, o) :: L) H) : Hs B (x :: y :: z :: (p, o') :: L) (upd H p o') := hs.put (i := 3) rfl
theorem Hs.p4 (o' : HO) {x y z w} (hs : Hs B (x :: y :: z :: w :: (p, o) :: L) H) : Hs B (x :: y :: z :: w :: (p, o') :: L) (upd H p o') := hs.put (i := 4) rfl
theorem Hs.p5 (o' : HO) {x y z w v} (hs : Hs B (x :: y :: z :: w :: v :: (p, o) :: L) H) : Hs B (x :: y :: z :: w :: v :: (p, o') :: L) (upd H p o') := hs.put (i := 5) rfl
theorem Hs.p6 (o' : HO) {x y z w v u} (hs : Hs B (x :: y :: z :: w :: v :: u :: (p, o) :: L) H) : Hs B (x :: y :: z :: w :: v :: u :: (p, o') :: L) (upd H p o') := hs.put (i := 6) rfl
theorem Hs.p7 (o' : HO) {x y z w v u t} (hs : Hs B (x :: y :: z :: w :: v :: u :: t :: (p, o) :: L) H) : Hs B (x :: y :: z :: w :: v :: u :: t :: (p, o') :: L) (upd H p o') := hs.put (i := 7) rfl
/-- L with o' in the place of o at p -/
inductive Put : List (Addr × HO) → Addr → HO → HO → List (Addr × HO) → Prop
  | here {p : Addr} {o o' : HO} {L : List (Addr × HO)} : Put ((p, o) :: L) p o o' ((p, o') :: L)
  | there {p : Addr} {o o' : HO} {x : Addr × HO} {L L' : List (Addr × HO)} : Put L p o o' L' → Put (x :: L) p o o' (x :: L')
theorem Put.ix {L' : List (Addr × HO)} (h : Put L p o o' L') : ∃ i : Nat, L[i]? = some (p, o) ∧ L' = L.set i (p, o') := by
  induction h with
  | here => exact ⟨0, rfl, rfl⟩
  | there _ ih =>
    obtain ⟨i, h1, h2⟩ := ih
    exact ⟨i + 1, by simpa using h1, by rw [h2]; rfl⟩
theorem Hs.puts {L' : List (Addr × HO)} (hs : Hs B L H) (h : Put L p o o' L') : Hs B L' (upd H p o') := by
  obtain ⟨i, h1, rfl⟩ := h.ix
  exact hs.put h1
theorem Hs.gets {L' : List (Addr × HO)} (hs : Hs B L H) (h : Put L p o o' L') : H p = some o := by
  obtain ⟨i, h1, _⟩ := h.ix
  exact hs.get h1
/-- any part of our own, in any order -/
theorem Hs.sub (hs : Hs B L H) (h : R.Sublist L) : Hs B R H :=
  ⟨hs.same, hs.nd.sublist (h.map _), fun e he => hs.out e (h.subset he), fun e he => hs.at_ e (h.subset he)⟩
theorem Hs.perm (hs : Hs B L H) (h : R.Perm L) : Hs B R H :=
  ⟨hs.same, (h.map (·.1)).nodup_iff.mpr hs.nd, fun e he => hs.out e (h.subset he), fun e he => hs.at_ e (h.subset he)⟩
theorem Hs.tl {x} (hs : Hs B (x :: L) H) : Hs B L H := hs.sub (List.sublist_cons_self _ _)
/-- the i-th ahead -/
theorem up_perm : ∀ {L : List (Addr × HO)} {i : Nat} {x : Addr × HO}, L[i]? = some x → (x :: L.eraseIdx i).Perm L
  | [], _, _, h => by simp at h
  | y :: L, 0, x, h => by
    have e : y = x := by simpa using h
    subst e
    exact .refl _
  | y :: L, i + 1, x, h => (List.Perm.swap y x _).trans ((up_perm (L := L) (i := i) (by simpa using h)).cons y)
theorem Hs.up (i : Nat) (hs : Hs B L H) {x} (h : L[i]? = some x := by rfl) : Hs B (x :: L.eraseIdx i) H := by
  exact hs.perm (up_perm h)
theorem Hs.del (i : Nat) (hs : Hs B L H) : Hs B (L.eraseIdx i) H := hs.sub (List.eraseIdx_sublist _ _)
theorem Hs.m1 {a b} (hs : Hs B (a :: b :: L) H) : Hs B (b :: a :: L) H := hs.up 1
theorem Hs.m2 {a b c} (hs : Hs B (a :: b :: c :: L) H) : Hs B (c :: a :: b :: L) H := hs.up 2
theorem Hs.m3 {a b c d} (hs : Hs B (a :: b :: c :: d :: L) H) : Hs B (d :: a :: b :: c :: L) H := hs.up 3
theorem Hs.m4 {a b c d e} (hs : Hs B (a :: b :: c :: d :: e :: L) H) : Hs B (e :: a :: b :: c :: d :: L) H := hs.up 4
theorem Hs.m5 {a b c d e f} (hs : Hs B (a :: b :: c :: d :: e :: f :: L) H) : Hs B (f :: a :: b :: c :: d :: e :: L) H := hs.up 5
theorem Hs.m6 {a b c d e f g} (hs : Hs B (a :: b :: c :: d :: e :: f :: g :: L) H) : Hs B (g :: a :: b :: c :: d :: e :: f :: L) H := hs.up 6
theorem Hs.m7 {a b c d e f g h} (hs : Hs B (a :: b :: c :: d :: e :: f :: g :: h :: L) H) : Hs B (h :: a :: b :: c :: d :: e :: f :: g :: L) H := hs.up 7
theorem Hs.d1 {a b} (hs : Hs B (a :: b :: L) H) : Hs B (a :: L) H := hs.del 1
theorem Hs.d2 {a b c} (hs : Hs B (a :: b :: c :: L) H) : Hs B (a :: b :: L) H := hs.del 2
theorem Hs.d3 {a b c d} (hs : Hs B (a :: b :: c :: d :: L) H) : Hs B (a :: b :: c :: L) H := hs.del 3
theorem Hs.d4 {a b c d e} (hs : Hs B (a :: b :: c :: d :: e :: L) H) : Hs B (a :: b :: c :: d :: L) H := hs.del 4
theorem Hs.d5 {a b c d e f} (hs : Hs B (a :: b :: c :: d :: e :: f :: L) H) : Hs B (a :: b :: c :: d :: e :: L) H := hs.del 5
theorem Hs.d6 {a b c d e f g} (hs : Hs B (a :: b :: c :: d :: e :: f :: g :: L) H) : Hs B (a :: b :: c :: d :: e :: f :: L) H := hs.del 6
theorem sel_mem {idx : List Nat} {e : Addr × HO} (h : e ∈ idx.filterMap (fun i => L[i]?)) : ∃ i ∈ idx, L[i]? = some e := by
  obtain ⟨i, hi, e⟩ := List.mem_filterMap.mp h
  exact ⟨i, hi, e⟩
theorem sel_nd (nd : (L.map (·.1)).Nodup) : ∀ {idx : List Nat}, idx.Nodup → ((idx.filterMap (fun i => L[i]?)).map (·.1)).Nodup
  | [], _ => List.nodup_nil
  | i :: idx, h => by
    rw [List.nodup_cons] at h
    rw [List.filterMap_cons]
    cases e : L[i]? with
    | none => exact sel_nd nd h.2
    | some x =>
      rw [List.map_cons, List.nodup_cons]
      refine ⟨fun m => ?_, sel_nd nd h.2⟩
      obtain ⟨y, hy, q⟩ := List.mem_map.mp m
      obtain ⟨j, hj, ej⟩ := sel_mem hy
      have a : (L.map (·.1))[i]? = some x.1 := by rw [List.getElem?_map, e]; rfl
      have b : (L.map (·.1))[j]? = some x.1 := by rw [List.getElem?_map, ej]; exact congrArg some q
      rw [nd_ix nd a b] at h
      exact h.1 hj
/-- some of our own, by places -/
theorem Hs.sel (hs : Hs B L H) (idx : List Nat) (h : idx.Nodup := by decide) : Hs B (idx.filterMap (fun i => L[i]?)) H :=
  ⟨hs.same, sel_nd hs.nd h, fun e he => by
    obtain ⟨i, _, q⟩ := sel_mem he
    exact hs.out e (List.mem_of_getElem? q), fun e he => by
    obtain ⟨i, _, q⟩ := sel_mem he
    exact hs.at_ e (List.mem_of_getElem? q)⟩
/-- a callee that owns A; what else is ours stands for it -/
def around (A : List (Addr × HO)) (H : Hp) : Hp := fun a => if a ∈ A.map (·.1) then none else H a
theorem around_out {a : Addr} (h : a ∉ A.map (·.1)) : around A H a = H a := if_neg h
theorem Hs.frame (A : List (Addr × HO)) (hs : Hs B (A ++ R) H) : Same B (around A H) ∧ Hs (around A H) A H ∧ ∀ A' H', Hs (around A H) A' H' → Hs B (A' ++ R) H' := by
  have nd := hs.nd
  rw [List.map_append, List.nodup_append] at nd
  obtain ⟨n1, n2, n3⟩ := nd
  have sb : Same B (around A H) := fun b u e => by
    rw [around_out fun m => ?_]
    · exact hs.same b u e
    · obtain ⟨z, hz, rfl⟩ := List.mem_map.mp m
      rw [hs.out z (List.mem_append_left _ hz)] at e
      cases e
  refine ⟨sb, ⟨fun b u e => ?_, n1, fun e he => if_pos (List.mem_map.mpr ⟨e, he, rfl⟩), fun e he => hs.at_ e (List.mem_append_left _ he)⟩, fun A' H' h => ?_⟩
  · unfold around at e
    split at e
    · cases e
    · exact e
  · have fr : ∀ e ∈ R, around A H e.1 = some e.2 := fun e he => by
      rw [around_out fun m => n3 _ m _ (List.mem_map.mpr ⟨e, he, rfl⟩) rfl]
      exact hs.at_ e (List.mem_append_right _ he)
    refine ⟨fun b u e => h.same b u (sb b u e), ?_, fun e he => ?_, fun e he => ?_⟩
    · rw [List.map_append, List.nodup_append]
      refine ⟨h.nd, n2, fun a ha b hb q => ?_⟩
      subst q
      obtain ⟨x, hx, rfl⟩ := List.mem_map.mp ha
      obtain ⟨y, hy, q⟩ := List.mem_map.mp hb
      have h1 := h.out x hx
      have h2 := fr y hy
      rw [q, h1] at h2
      cases h2
    · rcases List.mem_append.mp he with he | he
      · exact sb.free (h.out e he)
      · exact hs.out e (List.mem_append_right _ he)
    · rcases List.mem_append.mp he with he | he
      · exact h.at_ e he
      · exact h.same _ _ (fr e he)
theorem Hs.frame1 {x} (hs : Hs B (x :: R) H) : ∃ B', Same B B' ∧ Hs B' [x] H ∧ ∀ A' H', Hs B' A' H' → Hs B (A' ++ R) H' := ⟨_, hs.frame [x]⟩
theorem Hs.frame2 {x y} (hs : Hs B (x :: y :: R) H) : ∃ B', Same B B' ∧ Hs B' [x, y] H ∧ ∀ A' H', Hs B' A' H' → Hs B (A' ++ R) H' := ⟨_, hs.frame [x, y]⟩
theorem Hs.frame3 {x y z} (hs : Hs B (x :: y :: z :: R) H) : ∃ B', Same B B' ∧ Hs B' [x, y, z] H ∧ ∀ A' H', Hs B' A' H' → Hs B (A' ++ R) H' := ⟨_, hs.frame [x, y, z]⟩
theorem Hs.frame4 {x y z w} (hs : Hs B (x :: y :: z :: w :: R) H) : ∃ B', Same B B' ∧ Hs B' [x, y, z, w] H ∧ ∀ A' H', Hs B' A' H' → Hs B (A' ++ R) H' := ⟨_, hs.frame [x, y, z, w]⟩
theorem Hs.frame5 {x y z w v} (hs : Hs B (x :: y :: z :: w :: v :: R) H) : ∃ B', Same B B' ∧ Hs B' [x, y, z, w, v] H ∧ ∀ A' H', Hs B' A' H' → Hs B (A' ++ R) H' := ⟨_, hs.frame [x, y, z, w, v]⟩
theorem Hs.frame6 {x y z w v u} (hs : Hs B (x :: y :: z :: w :: v :: u :: R) H) : ∃ B', Same B B' ∧ Hs B' [x, y, z, w, v, u] H ∧ ∀ A' H', Hs B' A' H' → Hs B (A' ++ R) H' := ⟨_, hs.frame [x, y, z, w, v, u]⟩
/-- a callee that only makes objects -/
theorem Hs.add {N : List (Addr × HO)} (hs : Hs B L H) (h : Hs H N H') : Hs B (N ++ L) H' := by
  refine ⟨fun b u e => h.same b u (hs.same b u e), ?_, fun e he => ?_, fun e he => ?_⟩
  · rw [List.map_append, List.nodup_append]
    refine ⟨h.nd, hs.nd, fun a ha b hb q => ?_⟩
    subst q
    obtain ⟨x, hx, rfl⟩ := List.mem_map.mp ha
    obtain ⟨y, hy, q⟩ := List.mem_map.mp hb
    have h1 := h.out x hx
    have h2 := hs.at_ y hy
    rw [q, h1] at h2
    cases h2
  · rcases List.mem_append.mp he with he | he
    · exact hs.same.free (h.out e he)
    · exact hs.out e he
  · rcases List.mem_append.mp he with he | he
    · exact h.at_ e he
    · exact h.same _ _ (hs.at_ e he)
/-- a new object that nobody changes any more: it stands -/
theorem Hs.freeze (hs : Hs B ((p, o) :: L) H) : Same B (upd B p o) ∧ Hs (upd B p o) L H := by
  have hp := hs.out (p, o) List.mem_cons_self
  have nd := hs.nd
  rw [List.map_cons, List.nodup_cons] at nd
  refine ⟨fun b u e => ?_, ⟨fun b u e => ?_, nd.2, fun e he => ?_, fun e he => hs.at_ e (List.mem_cons_of_mem _ he)⟩⟩
  · rw [upd_ne (ne_of_none e hp)]
    exact e
  · unfold upd at e
    split at e
    · next q =>
      subst q
      cases e
      exact hs.g0
    · exact hs.same b u e
  · have n : e.1 ≠ p := fun q => nd.1 (by rw [← q]; exact List.mem_map.mpr ⟨e, he, rfl⟩)
    rw [upd_ne n]
    exact hs.out e (List.mem_cons_of_mem _ he)
end

/-! ### steps: a reading's head, what is left -/
section
variable {K : PySem.W.Frag} {σ : St} {H : Hp} {Q : VK} {D : Ends} {ta tb tc te tv to ti : TE} {t u tr : TS} {c d : TT} {r r' : R2} {g : TG} {i : Nat} {v x y : V} {E : XK} {ts : TA} {f m : Str} {p : Addr}
theorem w_var (h : σ[i]? = some (some v)) (q : Q v H) : tVar i σ H Q := ⟨v, h, q⟩
theorem w_c (q : Q v H) : tC v σ H Q := q
theorem w_seq (q : t { D with nx := u D } σ H) : tSeq t u D σ H := q
theorem w_next (q : D.nx σ H) : tNext D σ H := q
theorem w_brk (q : D.bk σ H) : tBreak D σ H := q
theorem w_cont (q : D.ct σ H) : tCont D σ H := q
theorem w_drop (q : te σ H fun _ H1 => D.nx σ H1) : tDrop te D σ H := q
theorem w_ret (q : te σ H D.rt) : tRet te D σ H := q
theorem w_retN (q : D.rt .non H) : tRetN D σ H := q
theorem w_asg (q : te σ H fun x H1 => g x σ H1 D.nx) : tAsg te g D σ H := q
theorem w_name {Q : St → Hp → Prop} (q : Q (σ.set i (some v)) H) : gName i v σ H Q := q
theorem w_if (q : c σ H fun b H1 => if b = true then t D σ H1 else u D σ H1) : tIfS c t u D σ H := q
theorem w_test {Q : Bool → Hp → Prop} (q : te σ H fun x H1 => ∃ k, x = .bl k ∧ Q k H1) : tTest te σ H Q := q
theorem w_B {Q : Bool → Hp → Prop} (q : te σ H fun x H1 => ∃ k, x = .bl k ∧ Q k H1) : tB te σ H Q := q
theorem w_exb {b : Bool} {P : Bool → Prop} (q : P b) : ∃ k, V.bl b = .bl k ∧ P k := ⟨b, rfl, q⟩
theorem w_not {Q : Bool → Hp → Prop} (q : c σ H fun b H1 => Q (!b) H1) : tNot c σ H Q := q
theorem w_and {Q : Bool → Hp → Prop} (q : c σ H fun b H1 => if b = true then d σ H1 Q else Q false H1) : tAnd c d σ H Q := q
theorem w_or {Q : Bool → Hp → Prop} (q : c σ H fun b H1 => if b = true then Q true H1 else d σ H1 Q) : tOr c d σ H Q := q
theorem w_andV (q : ta σ H fun x H1 => ∃ k, x = .bl k ∧ if k = true then tb σ H1 Q else Q (.bl false) H1) : tAndV ta tb σ H Q := q
theorem w_orV (q : ta σ H fun x H1 => ∃ k, x = .bl k ∧ if k = true then Q (.bl true) H1 else tb σ H1 Q) : tOrV ta tb σ H Q := q
theorem w_notV (q : ta σ H fun x H1 => ∃ k, x = .bl k ∧ Q (.bl (!k)) H1) : tNotV ta σ H Q := q
theorem w_ifE (q : c σ H fun b H1 => if b = true then ta σ H1 Q else tb σ H1 Q) : tIf c ta tb σ H Q := q
theorem w_op (q : ta σ H fun x H1 => tb σ H1 fun y H2 => r x y H2 Q) : tOp r ta tb σ H Q := q
theorem w_un {r : V → Hp → VK → Prop} (q : ta σ H fun x H1 => r x H1 Q) : tUn r ta σ H Q := q
theorem w_chain (q : ta σ H fun x H1 => tb σ H1 fun y H2 => r x y H2 fun z H3 => ∃ k, z = .bl k ∧ if k = true then tc σ H3 fun w H4 => r' y w H4 Q else Q (.bl false) H3) : tChain r r' ta tb tc σ H Q := q
theorem w_I0 {g : Int → Int → V} {a b : Int} (q : Q (g a b) H) : rI0 g (.int a) (.int b) H Q := ⟨a, b, rfl, rfl, q⟩
theorem w_I {C : Int → Int → Prop} {g : Int → Int → V} {a b : Int} (h : C a b) (q : Q (g a b) H) : rI C g (.int a) (.int b) H Q := ⟨a, b, rfl, rfl, h, q⟩
theorem w_U {g : Int → V} {a : Int} (q : Q (g a) H) : rU g (.int a) H Q := ⟨a, rfl, q⟩
theorem w_eqI {a b : Int} (q : Q (.bl (decide (a = b))) H) : rEq (.int a) (.int b) H Q := ⟨rfl, by
  have e : decide (V.int a = V.int b) = decide (a = b) := by
    rw [dec_int]
    by_cases h : a = b
    · rw [decide_eq_true h]
      exact beq_iff_eq.mpr h
    · rw [decide_eq_false h]
      exact beq_eq_false_iff_ne.mpr h
  rw [e]
  exact q⟩
theorem w_neI {a b : Int} (q : Q (.bl (!decide (a = b))) H) : rNe (.int a) (.int b) H Q := ⟨rfl, by
  have e : decide (V.int a = V.int b) = decide (a = b) := by
    rw [dec_int]
    by_cases h : a = b
    · rw [decide_eq_true h]
      exact beq_iff_eq.mpr h
    · rw [decide_eq_false h]
      exact beq_eq_false_iff_ne.mpr h
  rw [e]
  exact q⟩
theorem w_eq (h : scal x y = true) (q : Q (.bl (decide (x = y))) H) : rEq x y H Q := ⟨h, q⟩
theorem w_ne (h : scal x y = true) (q : Q (.bl (!decide (x = y))) H) : rNe x y H Q := ⟨h, q⟩
theorem w_ixL {xs : List V} {j : Int} (h : SqL K H p xs) (a : atI xs j = some v) (q : Q v H) : rIxL K (.ref p) (.int j) H Q := ⟨p, xs, j, v, rfl, rfl, h, a, q⟩
theorem w_ixT {xs : List V} {j : Int} (h : SqT K H p xs) (a : atI xs j = some v) (q : Q v H) : rIxT K (.ref p) (.int j) H Q := ⟨p, xs, j, v, rfl, rfl, h, a, q⟩
theorem at0 {x : V} {xs : List V} : atI (x :: xs) 0 = some x := at_of (j := 0) rfl rfl
theorem at1 {x y : V} {xs : List V} : atI (x :: y :: xs) 1 = some y := at_of (j := 1) rfl rfl
theorem at2 {x y z : V} {xs : List V} : atI (x :: y :: z :: xs) 2 = some z := at_of (j := 2) rfl rfl
theorem at3 {x y z u : V} {xs : List V} : atI (x :: y :: z :: u :: xs) 3 = some u := at_of (j := 3) rfl rfl
/-- a field's value -/
def Fl (K : PySem.W.Frag) (f : Str) (x : V) (H : Hp) (Q : VK) : Prop := ∃ a C dx fs v, x = .ref a ∧ H a = some (.ins C dx fs) ∧ Cls K C ∧ NoAttr K C f ∧ fs.lookup f = some v ∧ Q v H
theorem w_fld (q : ta σ H fun x H1 => Fl K f x H1 Q) : tFld K ta f σ H Q := q
theorem w_fl {C dx : Addr} {fs : List (Str × V)} (h : H p = some (.ins C dx fs)) (hc : Cls K C) (hn : NoAttr K C f) (hl : fs.lookup f = some v) (q : Q v H) : Fl K f (.ref p) H Q := ⟨p, C, dx, fs, v, rfl, h, hc, hn, hl, q⟩
/-- a field's store -/
def Fs (K : PySem.W.Frag) (f : Str) (y x : V) (H : Hp) (R : Hp → Prop) : Prop := ∃ a C dx fs, x = .ref a ∧ H a = some (.ins C dx fs) ∧ Cls K C ∧ NoAttr K C f ∧ fs.length < 1000 ∧ R (upd H a (.ins C dx (putF f y fs)))
theorem w_sfld (q : tv σ H fun y H1 => ta σ H1 fun x H2 => Fs K f y x H2 (D.nx σ)) : sFld K ta tv f D σ H := q
theorem w_fs {R : Hp → Prop} {C dx : Addr} {fs : List (Str × V)} (h : H p = some (.ins C dx fs)) (hc : Cls K C) (hn : NoAttr K C f) (hl : fs.length < 1000) (q : R (upd H p (.ins C dx (putF f y fs)))) : Fs K f y (.ref p) H R := ⟨p, C, dx, fs, rfl, h, hc, hn, hl, q⟩
theorem lk0 {k : Str} {v : V} {r : List (Str × V)} : ((k, v) :: r).lookup k = some v := by simp [List.lookup]
theorem lk1 {k k' : Str} {v w : V} {r : List (Str × V)} (h : ¬ k = k') (q : r.lookup k = some w) : ((k', v) :: r).lookup k = some w := by
  have e : (k == k') = false := beq_eq_false_iff_ne.mpr h
  show (match k == k' with | true => some v | false => List.lookup k r) = some w
  rw [e]
  exact q
theorem lkn {k k' : Str} {v : V} {r : List (Str × V)} (h : ¬ k = k') (q : r.lookup k = none) : ((k', v) :: r).lookup k = none := by
  have e : (k == k') = false := beq_eq_false_iff_ne.mpr h
  show (match k == k' with | true => some v | false => List.lookup k r) = none
  rw [e]
  exact q
theorem lke {k : Str} : ([] : List (Str × V)).lookup k = none := rfl
theorem pu0 {k : Str} {v w : V} {r : List (Str × V)} : putF k w ((k, v) :: r) = (k, w) :: r := by
  show (if k = k then _ else _) = _
  rw [if_pos rfl]
theorem pu1 {k k' : Str} {v w : V} {r : List (Str × V)} (h : ¬ k' = k) : putF k w ((k', v) :: r) = (k', v) :: putF k w r := by
  show (if k' = k then _ else _) = _
  rw [if_neg h]
theorem pu2 {k k' : Str} {v w : V} {r r' : List (Str × V)} (h : ¬ k' = k) (q : putF k w r = r') : putF k w ((k', v) :: r) = (k', v) :: r' := by
  rw [pu1 h, q]
theorem pue {k : Str} {w : V} : putF k w [] = [(k, w)] := rfl
theorem w_yes {Q : Bool → Hp → Prop} (q : Q true H) : tYes σ H Q := q
theorem w_nil {Q : List V → Hp → Prop} (q : Q [] H) : tNil σ H Q := q
theorem w_cons {Q : List V → Hp → Prop} (q : ta σ H fun x H1 => ts σ H1 fun xs H2 => Q (x :: xs) H2) : tCons ta ts σ H Q := q
theorem w_cb {r : List V → Hp → VK → Prop} (q : ts σ H fun vs H1 => r vs H1 Q) : tCB r ts σ H Q := q
theorem w_call {sp : Sp} {dvs : List V} (q : ts σ H fun vs H1 => sp (vs ++ dvs) H1 Q E) : tCall sp dvs E ts σ H Q := q
/-- a new instance -/
def Mkr (C : Addr) (sp : Sp) (vs : List V) (E : XK) (Q : VK) (H : Hp) : Prop := ∀ x dx, H x = none → H dx = none → dx ≠ x → sp (.ref x :: vs) (upd (upd H dx (.own x)) x (.ins C dx [])) (fun v H2 => v = .non ∧ Q (.ref x) H2) E
theorem w_make {C : Addr} {sp : Sp} {dvs : List V} (q : ts σ H fun vs H1 => Mkr C sp (vs ++ dvs) E Q H1) : tMake C sp dvs E ts σ H Q := q
theorem w_mkr {C : Addr} {sp : Sp} {vs : List V} {B : Hp} {L : List (Addr × HO)} (hs : Hs B L H) (q : ∀ x dx H', Hs B ((x, .ins C dx []) :: L) H' → sp (.ref x :: vs) H' (fun v H2 => v = .non ∧ Q (.ref x) H2) E) : Mkr C sp vs E Q H := fun x dx hx hd ne =>
  q x dx _ ((hs.new hd).new (p := x) (by rw [upd_ne ne.symm]; exact hx)).d1
/-- an own method's receiver -/
def Rc (m : Str) (C : Addr) (x : V) (H : Hp) (R : Prop) : Prop := ∃ a dx fs, x = .ref a ∧ H a = some (.ins C dx fs) ∧ fs.lookup m = none ∧ R
theorem w_meth {C : Addr} {sp : Sp} {dvs : List V} (q : ta σ H fun x H1 => Rc m C x H1 (ts σ H1 fun vs H2 => sp (x :: (vs ++ dvs)) H2 Q E)) : tMeth C m sp dvs E ta ts σ H Q := by
  revert q
  unfold tMeth Rc
  exact id
theorem w_rc {C dx : Addr} {fs : List (Str × V)} {R : Prop} (h : H p = some (.ins C dx fs)) (hl : fs.lookup m = none) (q : R) : Rc m C (.ref p) H R := ⟨p, dx, fs, rfl, h, hl, q⟩
theorem w_bm {T : String} {r : V → List V → Hp → VK → Prop} (q : to σ H fun x H1 => tyV K T x H1 ∧ ts σ H1 fun xs H2 => r x xs H2 Q) : tBM K T r to ts σ H Q := q
theorem w_bm0 {T : String} {r : V → List V → Hp → VK → Prop} (q : to σ H fun x H1 => tyV K T x H1 ∧ r x [] H1 Q) : tBM0 K T r to σ H Q := q
theorem w_tyL {xs : List V} {R : Prop} (h : SqL K H p xs) (q : R) : tyV K "list" (.ref p) H ∧ R := ⟨.inl ⟨rfl, _, h⟩, q⟩
theorem w_tyS {s : Str} {R : Prop} (q : R) : tyV K "str" (.str s) H ∧ R := ⟨rfl, q⟩
/-- a new list, a new tuple -/
def NewL (Q : VK) (xs : List V) (H : Hp) : Prop := xs.length ≤ sizeLine ∧ ∀ p, H p = none → Q (.ref p) (upd H p (.lst xs))
def NewT (Q : VK) (xs : List V) (H : Hp) : Prop := xs.length ≤ sizeLine ∧ ∀ p, H p = none → Q (.ref p) (upd H p (.tup xs))
theorem w_tup (q : ts σ H fun xs H1 => NewT Q xs H1) : tTup ts σ H Q := q
theorem w_lst (q : ts σ H fun xs H1 => NewL Q xs H1) : tLst ts σ H Q := q
theorem w_new {B : Hp} {L : List (Addr × HO)} {o : HO} (hs : Hs B L H) (q : ∀ p H', Hs B ((p, o) :: L) H' → Q (.ref p) H') : ∀ p, H p = none → Q (.ref p) (upd H p o) := fun p hp => q p _ (hs.new hp)
theorem w_newL {B : Hp} {L : List (Addr × HO)} {xs : List V} (hs : Hs B L H) (hl : xs.length ≤ sizeLine) (q : ∀ p H', Hs B ((p, .lst xs) :: L) H' → Q (.ref p) H') : NewL Q xs H := ⟨hl, w_new hs q⟩
theorem w_newT {B : Hp} {L : List (Addr × HO)} {xs : List V} (hs : Hs B L H) (hl : xs.length ≤ sizeLine) (q : ∀ p H', Hs B ((p, .tup xs) :: L) H' → Q (.ref p) H') : NewT Q xs H := ⟨hl, w_new hs q⟩
theorem w_sl {r : V → Option Int → Option Int → Hp → VK → Prop} {tl th : TO} (q : te σ H fun x H1 => tl σ H1 fun l H2 => th σ H2 fun u H3 => r x l u H3 Q) : tSl r te tl th σ H Q := q
theorem w_noPart {Q : Option Int → Hp → Prop} (q : Q none H) : tNoPart σ H Q := q
theorem w_part {Q : Option Int → Hp → Prop} (q : te σ H fun x H1 => ∃ i, x = .int i ∧ Q (some i) H1) : tPart te σ H Q := q
theorem w_exi {b : Int} {P : Int → Prop} (q : P b) : ∃ k, V.int b = .int k ∧ P k := ⟨b, rfl, q⟩
theorem w_slL {B : Hp} {L : List (Addr × HO)} {xs : List V} {lo hi : Option Int} (hs : Hs B L H) (h : SqL K H p xs) (q : ∀ l H', Hs B ((l, .lst (cutV xs lo hi)) :: L) H' → Q (.ref l) H') : rSlL K (.ref p) lo hi H Q := ⟨p, xs, rfl, h, w_new hs q⟩
theorem w_cat {B : Hp} {L : List (Addr × HO)} {a b : Addr} {xs ys : List V} (hs : Hs B L H) (ha : H a = some (.lst xs)) (hb : H b = some (.lst ys)) (hl : xs.length + ys.length ≤ sizeLine) (q : ∀ l H', Hs B ((l, .lst (xs ++ ys)) :: L) H' → Q (.ref l) H') : rCat (.ref a) (.ref b) H Q :=
  ⟨a, b, xs, ys, rfl, rfl, ha, hb, hl, w_new hs q⟩
/-! #### calls of built-ins -/
def rLen (K : PySem.W.Frag) : List V → Hp → VK → Prop := fun xs H Q => ∃ p ys, xs = [.ref p] ∧ (SqL K H p ys ∨ SqT K H p ys) ∧ Q (.int ys.length) H
theorem call_lenQ {X : Cx} : CallR X (.builtin "len") (rLen X.K) := call_len_seq
theorem w_len {xs : List V} (h : SqL K H p xs) (q : Q (.int xs.length) H) : rLen K [.ref p] H Q := ⟨p, xs, rfl, .inl h, q⟩
theorem w_lenT {xs : List V} (h : SqT K H p xs) (q : Q (.int xs.length) H) : rLen K [.ref p] H Q := ⟨p, xs, rfl, .inr h, q⟩
def rAbs : List V → Hp → VK → Prop := fun xs H Q => ∃ i, xs = [.int i] ∧ Q (.int (if i < 0 then -i else i)) H
theorem call_absQ {X : Cx} : CallR X (.builtin "abs") rAbs := call_abs
theorem w_abs {a : Int} (q : Q (.int (if a < 0 then -a else a)) H) : rAbs [.int a] H Q := ⟨a, rfl, q⟩
def rInt : List V → Hp → VK → Prop := fun xs H Q => (∃ i, xs = [.int i] ∧ Q (.int i) H) ∨ ∃ k, xs = [.bl k] ∧ Q (.int (if k then 1 else 0)) H
theorem call_intQ {X : Cx} : CallR X (.type "int") rInt := call_int1
theorem w_int {a : Int} (q : Q (.int a) H) : rInt [.int a] H Q := .inl ⟨a, rfl, q⟩
theorem w_intB {b : Bool} (q : Q (.int (if b then 1 else 0)) H) : rInt [.bl b] H Q := .inr ⟨b, rfl, q⟩
def rStr : List V → Hp → VK → Prop := fun xs H Q => ∃ i, xs = [.int i] ∧ i.natAbs.log2 < 1920 ∧ Q (.str (toString i)) H
theorem call_strQ {X : Cx} : CallR X (.type "str") rStr := call_str_int
theorem w_str {a : Int} (h : a.natAbs < 2 ^ 64) (q : Q (.str (toString a)) H) : rStr [.int a] H Q := ⟨a, rfl, Nat.lt_of_lt_of_le (PySem.Flt.log2_lt_of (by decide) h) (by decide), q⟩
def rAddS : R2 := fun x y H Q => ∃ i j, x = .str i ∧ y = .str j ∧ i.length + j.length ≤ sizeLine ∧ Q (.str (i ++ j)) H
theorem op_addS {X : Cx} : OpR X (binaryOp .Add) rAddS := op_add_str
theorem w_addS {a b : Str} (h : a.length + b.length ≤ sizeLine) (q : Q (.str (a ++ b)) H) : rAddS (.str a) (.str b) H Q := ⟨a, b, rfl, rfl, h, q⟩
/-! #### methods of lists -/
section
variable {B : Hp} {L L' : List (Addr × HO)} {l : Addr} {xs : List V}
theorem w_app (hs : Hs B L H) (h : Put L l (.lst xs) (.lst (xs ++ [y])) L') (hl : xs.length < sizeLine) (q : ∀ H', Hs B L' H' → Q .non H') : rAppend (.ref l) [y] H Q := ⟨l, xs, y, rfl, rfl, hs.gets h, hl, q _ (hs.puts h)⟩
theorem w_clear (hs : Hs B L H) (h : Put L l (.lst xs) (.lst []) L') (q : ∀ H', Hs B L' H' → Q .non H') : rClear (.ref l) [] H Q := ⟨l, xs, rfl, rfl, hs.gets h, q _ (hs.puts h)⟩
theorem six_nat {n k : Nat} {j : Int} (e : j = (k : Int)) (h : k < n) : seqIndex? j n = some k := by
  subst e
  unfold seqIndex?
  have h1 : ¬ (k : Int) < 0 := by omega
  have h2 : (k : Int) < (n : Int) := by omega
  simp only [if_neg h1]
  simp [h2]
theorem w_popAt {k : Nat} {j : Int} (hs : Hs B L H) (h : Put L l (.lst xs) (.lst (xs.eraseIdx k)) L') (e : j = (k : Int)) (hk : xs[k]? = some y) (hz : xs.length ≤ sizeLine) (q : ∀ H', Hs B L' H' → Q y H') : rPopAt (.ref l) [.int j] H Q := by
  have hk' := (List.getElem?_eq_some_iff.mp hk).1
  have h63 := line63
  refine ⟨l, xs, j, k, y, rfl, rfl, hs.gets h, by omega, ?_, six_nat e hk', hk, q _ (hs.puts h)⟩
  have : xs.length < 2 ^ 63 := Nat.lt_of_le_of_lt hz h63
  omega
def rInsert : V → List V → Hp → VK → Prop := fun x vs H Q => ∃ (l : Addr) (xs : List V) (i : Int) (y : V), x = .ref l ∧ vs = [.int i, y] ∧ H l = some (.lst xs) ∧ xs.length < sizeLine ∧ 0 ≤ i ∧ i < 2 ^ 63 ∧ Q .non (upd H l (.lst (xs.take i.toNat ++ [y] ++ xs.drop i.toNat)))
theorem mt_insertQ {X : Cx} : MtR X "list.insert" rInsert := mt_insert
theorem w_insert0 (hs : Hs B L H) (h : Put L l (.lst xs) (.lst (y :: xs)) L') (hl : xs.length < sizeLine) (q : ∀ H', Hs B L' H' → Q .non H') : rInsert (.ref l) [.int 0, y] H Q :=
  ⟨l, xs, 0, y, rfl, rfl, hs.gets h, hl, by decide, by decide, q _ (hs.puts h)⟩
def rDelL (x y : V) (H : Hp) (R : Hp → Prop) : Prop := ∃ (l : Addr) (xs : List V) (i : Int) (k : Nat), x = .ref l ∧ y = .int i ∧ H l = some (.lst xs) ∧ -(2 ^ 63) ≤ i ∧ i < 2 ^ 63 ∧ seqIndex? i xs.length = some k ∧ R (upd H l (.lst (xs.eraseIdx k)))
theorem w_delL0 (q : to σ H fun x H1 => ti σ H1 fun y H2 => rDelL x y H2 (D.nx σ)) : tDelL to ti D σ H := q
theorem w_delL {k : Nat} {j : Int} {R : Hp → Prop} (hs : Hs B L H) (h : Put L l (.lst xs) (.lst (xs.eraseIdx k)) L') (e : j = (k : Int)) (hk : k < xs.length) (hz : xs.length ≤ sizeLine) (q : ∀ H', Hs B L' H' → R H') : rDelL (.ref l) (.int j) H R := by
  have h63 := line63
  refine ⟨l, xs, j, k, rfl, rfl, hs.gets h, by omega, ?_, six_nat e hk, q _ (hs.puts h)⟩
  have : xs.length < 2 ^ 63 := Nat.lt_of_le_of_lt hz h63
  omega
theorem w_setL {k : Nat} {j : Int} {R : Hp → Prop} (hs : Hs B L H) (h : Put L l (.lst xs) (.lst (xs.set k y)) L') (e : j = (k : Int)) (hk : k < xs.length) (q : ∀ H', Hs B L' H' → R H') : rSetL (.ref l) (.int j) y H R := by
  refine ⟨l, xs, j, k, rfl, rfl, hs.gets h, ?_, q _ (hs.puts h)⟩
  subst e
  unfold ixN
  rw [if_pos (by omega), if_pos (by omega)]
  simp
/-- a field's store -/
theorem w_fsP {R : Hp → Prop} {C dx : Addr} {fs gs : List (Str × V)} (hs : Hs B L H) (h : Put L p (.ins C dx fs) (.ins C dx gs) L') (hc : Cls K C) (hn : NoAttr K C f) (hl : fs.length < 1000) (hg : putF f y fs = gs) (q : ∀ H', Hs B L' H' → R H') : Fs K f y (.ref p) H R := by
  subst hg
  exact w_fs (hs.gets h) hc hn hl (q _ (hs.puts h))
/-! #### loops -/
theorem w_forL {tl : TE} {a : Addr} {tb : TS} (hx : SqL K H a xs) (Pv : Nat → St → Hp → Prop) (htl : ∀ Q : VK, Q (.ref a) H → tl σ H Q) (h0 : Pv 0 σ H) (hl : ∀ i σ H, i ≤ xs.length → Pv i σ H → SqL K H a xs)
    (hs : ∀ i x σ H, xs[i]? = some x → Pv i σ H → g x σ H fun σ2 H2 => tb { D with nx := Pv (i + 1), ct := Pv (i + 1), bk := D.nx } σ2 H2) (hd : ∀ σ H, Pv xs.length σ H → D.nx σ H) : tFor (iList K tl) g tb D σ H :=
  htl _ ⟨a, rfl, ⟨xs, hx⟩, for_list Pv h0 hl hs hd⟩
theorem w_forR {ta : TA} {tb : TS} {n : Int} (hn : n < 2 ^ 62) (Pv : Nat → St → Hp → Prop) (hta : ∀ Q : List V → Hp → Prop, Q [.int n] H → ta σ H Q) (hm : -(2 ^ 62) ≤ n) (h0 : Pv 0 σ H)
    (hs : ∀ (i : Nat) σ H, (i : Int) < n → Pv i σ H → g (.int (i : Int)) σ H fun σ2 H2 => tb { D with nx := Pv (i + 1), ct := Pv (i + 1), bk := D.nx } σ2 H2) (hd : ∀ σ H, Pv n.toNat σ H → D.nx σ H) : tFor (iRng1 ta) g tb D σ H :=
  hta _ ⟨n, rfl, hm, hn, for_range (lo := 0) (n := n.toNat) Pv h0 (fun i σ' H' hi p => by
    have e0 : (0 : Int) + (i : Int) = (i : Int) := Int.zero_add _
    rw [e0]
    exact hs i σ' H' (by omega) p) hd⟩
/-- [e for x in xs] over a list -/
theorem w_lc {tl : TE} {a : Addr} {vs : List Nat} {tt : TT} (hx : SqL K H a xs) (Pv : Addr → Nat → Hp → Prop) (htl : ∀ Q : VK, Q (.ref a) H → tl σ H Q) (h0 : ∀ D, H D = none → Pv D 0 (upd H D (.lst []))) (hl : ∀ D i H, i ≤ xs.length → Pv D i H → SqL K H a xs)
    (hs : ∀ D i x H, xs[i]? = some x → Pv D i H → g x (wipe σ vs) H fun σ2 H2 => wipe σ2 vs = wipe σ vs ∧ tt σ2 H2 fun b H3 =>
      if b = true then te σ2 H3 fun y H4 => ∃ acc, H4 D = some (.lst acc) ∧ acc.length < sizeLine ∧ Pv D (i + 1) (upd H4 D (.lst (acc ++ [y]))) else Pv D (i + 1) H3) (hd : ∀ D H, Pv D xs.length H → Q (.ref D) H) : tLc (iList K tl) g tt te vs σ H Q :=
  htl _ ⟨a, rfl, ⟨xs, hx⟩, fun D hD => lc_list (Pv D) (h0 D hD) (hl D) (hs D) (hd D)⟩
end
theorem w_sub {R : St → Hp → Prop} {tset : TSet} (q : to σ H fun o H1 => ti σ H1 fun i H2 => tset o i v H2 fun H3 => R σ H3) : gSub to ti tset v σ H R := q
/-- a while's body, at the measure m -/
def LpB (W : Nat → St → Hp → Prop) (m : Nat) (D : Ends) (tb : TS) (σ : St) (H1 : Hp) : Prop := ∃ N : St → Hp → Prop, (∀ σ' H', N σ' H' → ∃ m', m' < m ∧ W m' σ' H') ∧ tb { D with nx := N, ct := N, bk := D.nx } σ H1
theorem w_while {c : TT} {tb : TS} {D : Ends} {σ : St} {H : Hp} (W : Nat → St → Hp → Prop) (m : Nat) (h0 : W m σ H)
    (hs : ∀ m σ H, W m σ H → c σ H fun b H1 => if b = true then LpB W m D tb σ H1 else D.nx σ H1) : tWhile c tb D σ H := ⟨W, ⟨m, h0⟩, hs⟩
theorem w_lpb {W : Nat → St → Hp → Prop} {m : Nat} {D : Ends} {tb : TS} {σ : St} {H : Hp} (q : tb { D with nx := fun σ' H' => ∃ m', m' < m ∧ W m' σ' H', ct := fun σ' H' => ∃ m', m' < m ∧ W m' σ' H', bk := D.nx } σ H) : LpB W m D tb σ H := ⟨_, fun _ _ h => h, q⟩
end
theorem ifd {p A B : Prop} [Decidable p] (h1 : p → A) (h2 : ¬ p → B) : if decide p = true then A else B := by
  by_cases h : p
  · rw [decide_eq_true h]
    exact iteT (h1 h)
  · rw [decide_eq_false h]
    exact iteF (h2 h)
theorem ifn {p A B : Prop} [Decidable p] (h1 : ¬ p → A) (h2 : p → B) : if (!decide p) = true then A else B := by
  by_cases h : p
  · rw [decide_eq_true h]
    exact iteF (h2 h)
  · rw [decide_eq_false h]
    exact iteT (h1 h)
theorem ifb {b : Bool} {A B : Prop} (h1 : b = true → A) (h2 : b = false → B) : if b = true then A else B := by
  cases b with
  | true => exact iteT (h1 rfl)
  | false => exact iteF (h2 rfl)
theorem eraseIdx_map {α β : Type} (f : α → β) : ∀ (l : List α) (k : Nat), (l.map f).eraseIdx k = (l.eraseIdx k).map f
  | [], _ => rfl
  | _ :: _, 0 => rfl
  | x :: l, k + 1 => congrArg (f x :: ·) (eraseIdx_map f l k)
theorem sz {n : Nat} (h : n ≤ 1000000) : n ≤ sizeLine := Nat.le_trans h (by decide)
theorem szl {n : Nat} (h : n ≤ 1000000) : n < sizeLine := Nat.lt_of_le_of_lt h (by decide)
theorem take_min {α : Type} (xs : List α) (n : Nat) : xs.take (min n xs.length) = xs.take n := by
  by_cases h : n ≤ xs.length
  · rw [Nat.min_eq_left h]
  · rw [Nat.min_eq_right (by omega), List.take_length, List.take_of_length_le (by omega)]
theorem drop_min {α : Type} (xs : List α) (n : Nat) : xs.drop (min n xs.length) = xs.drop n := by
  by_cases h : n ≤ xs.length
  · rw [Nat.min_eq_left h]
  · rw [Nat.min_eq_right (by omega), List.drop_length, List.drop_of_length_le (by omega)]
theorem cut_to {xs : List V} {j : Int} (n : Nat) (e : j = (n : Int)) : cutV xs none (some j) = xs.take n := by
  subst e
  unfold cutV
  rw [HT.sIx_none, HT.sIx_nat, List.drop_zero, Nat.sub_zero, take_min]
theorem cut_from {xs : List V} {j : Int} (n : Nat) (e : j = (n : Int)) : cutV xs (some j) none = xs.drop n := by
  subst e
  unfold cutV
  rw [HT.sIx_none, HT.sIx_nat, drop_min, List.take_of_length_le]
  rw [List.length_drop]
  omega
theorem cut_len {xs : List V} {lo hi : Option Int} : (cutV xs lo hi).length ≤ xs.length := by
  unfold cutV
  rw [List.length_take, List.length_drop]
  omega
theorem cut_all {xs : List V} : cutV xs none none = xs := by
  unfold cutV HT.sIx
  simp
/-! ### lists of texts, of ints, as data -/
theorem dpa_str {K : PySem.W.Frag} {H : Hp} : ∀ xs : List Str, DpAll K H (xs.map V.str) (xs.map PyData.str)
  | [] => .nil
  | x :: xs => .cons (.str x) (dpa_str xs)
theorem dpa_int {K : PySem.W.Frag} {H : Hp} : ∀ xs : List Int, DpAll K H (xs.map V.int) (xs.map PyData.int)
  | [] => .nil
  | x :: xs => .cons (.int x) (dpa_int xs)
theorem depth_str : ∀ xs : List Str, PyData.depthAll (xs.map PyData.str) ≤ 1
  | [] => by simp [PyData.depthAll]
  | x :: xs => by
    have := depth_str xs
    simp [PyData.depthAll, PyData.depth] at this ⊢
    omega
theorem lay_str : ∀ xs : List Str, (∀ x ∈ xs, PyData.strOk x = true) → PyData.canLayAll0 (xs.map PyData.str) = true
  | [], _ => by simp [PyData.canLayAll0]
  | x :: xs, h => by
    have h1 := h x List.mem_cons_self
    have h2 := lay_str xs fun y hy => h y (List.mem_cons_of_mem _ hy)
    simp only [List.map_cons, PyData.canLayAll0, PyData.canLay0, h1, h2, Bool.and_self]
theorem shp_str {xs : List Str} (h : ∀ x ∈ xs, PyData.strOk x = true) : SeqAt.shaped (.list (xs.map PyData.str)) = true := by
  have e := depth_str xs
  have l := lay_str xs h
  unfold SeqAt.shaped PyData.canLay0 PyData.depth
  rw [l]
  simp only [Bool.true_and, decide_eq_true_eq]
  omega
theorem w_neS {K : PySem.W.Frag} {H : Hp} {Q : VK} {p q : Addr} {xs : List Str} (h1 : SqL K H p (xs.map V.str)) (h2 : SqL K H q (xs.map V.str)) (hk : ∀ x ∈ xs, PyData.strOk x = true) (k : Q (.bl false) H) : rNeD K (.ref p) (.ref q) H Q :=
  ⟨_, _, .lst h1 (dpa_str xs), .lst h2 (dpa_str xs), shp_str hk, shp_str hk, by
    rw [SeqAt.eqv_refl _ (by have := shp_str hk; unfold SeqAt.shaped at this; exact (Bool.and_eq_true_iff.mp this).1)]
    exact k⟩
theorem w_isi {K : PySem.W.Frag} {H : Hp} {Q : VK} {b : Bool} (k : Q (.bl true) H) : rIsi K [.bl b, .ty "bool"] H Q :=
  ⟨_, _, _, _, true, rfl, .ty "bool", .base (.bl b), kit_ty (by decide +kernel), k⟩
theorem w_neB {a b : Bool} {H : Hp} {Q : VK} (q : Q (.bl (!decide (a = b))) H) : rNe (.bl a) (.bl b) H Q := ⟨rfl, by
  have e : decide (V.bl a = V.bl b) = decide (a = b) := by cases a <;> cases b <;> decide
  rw [e]
  exact q⟩
end Hb

set_option Elab.async false
set_option maxRecDepth 100000
set_option maxHeartbeats 4000000
/-! More steps: dicts, fields changed by an operator, ranges, and an own exception with a field. -/
namespace Hb
open PySem L2 ClX

section
variable {K : PySem.W.Frag} {σ : St} {H : Hp} {Q : VK} {D : Ends} {ta tb td tc te tv ty to ti : TE} {t u tr : TS} {g : TG} {i : Nat} {v x y : V} {E : XK} {ts : TA} {f m : Str} {p : Addr} {B : Hp} {L L' : List (Addr × HO)}
/-! ### dicts with keys that are ints -/
def RDin (x y : V) (H : Hp) (Q : VK) : Prop := ∃ a o, x = .ref a ∧ DGet H a y o ∧ Q (.bl o.isSome) H
def RDni (x y : V) (H : Hp) (Q : VK) : Prop := ∃ a o, x = .ref a ∧ DGet H a y o ∧ Q (.bl (!o.isSome)) H
theorem w_din (q : ty σ H fun y H1 => td σ H1 fun x H2 => RDin x y H2 Q) : tDIn ty td σ H Q := q
theorem w_dni (q : ty σ H fun y H1 => td σ H1 fun x H2 => RDni x y H2 Q) : tDNotIn ty td σ H Q := q
theorem w_dinI {kvs : List (Key × V)} {n : Int} (h : H p = some (.dK kvs)) (q : Q (.bl (valV kvs (Sum.inl n)).isSome) H) : RDin (.ref p) (.int n) H Q := ⟨p, _, rfl, DGet.k (k := Sum.inl n) h, q⟩
theorem w_dniI {kvs : List (Key × V)} {n : Int} (h : H p = some (.dK kvs)) (q : Q (.bl (!(valV kvs (Sum.inl n)).isSome)) H) : RDni (.ref p) (.int n) H Q := ⟨p, _, rfl, DGet.k (k := Sum.inl n) h, q⟩
def RDput (x y v : V) (H : Hp) (R : Hp → Prop) : Prop := ∃ a H4, x = .ref a ∧ DPut H a y v H4 ∧ R H4
theorem w_dput (q : tv σ H fun v H1 => td σ H1 fun x H2 => ty σ H2 fun y H3 => RDput x y v H3 (D.nx σ)) : sDPut td ty tv D σ H := q
theorem w_dputI {kvs : List (Key × V)} {n : Int} {R : Hp → Prop} (hs : Hs B L H) (h : Put L p (.dK kvs) (.dK (putK kvs (Sum.inl n) v)) L') (hl : kvs.length < sizeLine) (q : ∀ H', Hs B L' H' → R H') : RDput (.ref p) (.int n) v H R :=
  ⟨p, _, rfl, DPut.k (k := Sum.inl n) (hs.gets h) hl, q _ (hs.puts h)⟩
def RPopA (x : V) (H : Hp) (R : Addr → Prop) : Prop := ∃ a, x = .ref a ∧ IsD H a ∧ R a
def RPopB (a : Addr) (y : V) (H : Hp) (Q : VK) : Prop := ∃ kvs k v, H a = some (.dK kvs) ∧ y = kV k ∧ valV kvs k = some v ∧ Q v (upd H a (.dK (dropK kvs k)))
theorem w_dpop (q : td σ H fun x H1 => RPopA x H1 fun a => ty σ H1 fun y H2 => RPopB a y H2 Q) : tDPop1 td ty σ H Q := q
theorem w_dpopA {kvs : List (Key × V)} {R : Addr → Prop} (h : H p = some (.dK kvs)) (q : R p) : RPopA (.ref p) H R := ⟨p, rfl, .inl ⟨kvs, .inl h⟩, q⟩
theorem w_dpopB {kvs : List (Key × V)} {n : Int} (hs : Hs B L H) (h : Put L p (.dK kvs) (.dK (dropK kvs (Sum.inl n))) L') (hv : valV kvs (Sum.inl n) = some v) (q : ∀ H', Hs B L' H' → Q v H') : RPopB p (.int n) H Q :=
  ⟨kvs, Sum.inl n, v, hs.gets h, rfl, hv, q _ (hs.puts h)⟩
def NewD (Q : VK) (H : Hp) : Prop := ∀ p, H p = none → Q (.ref p) (upd H p (.dK []))
theorem w_dnew (q : NewD Q H) : tDNewK σ H Q := q
theorem w_newD (hs : Hs B L H) (q : ∀ p H', Hs B ((p, .dK []) :: L) H' → Q (.ref p) H') : NewD Q H := w_new hs q
/-! ### o.f op= e -/
def FA1 (K : PySem.W.Frag) (f : Str) (x : V) (H : Hp) (R : Addr → Addr → V → Prop) : Prop := ∃ a C dx fs v, x = .ref a ∧ H a = some (.ins C dx fs) ∧ Cls K C ∧ NoAttr K C f ∧ fs.lookup f = some v ∧ R a C v
def FA2 (f : Str) (a C : Addr) (z : V) (H : Hp) (R : Hp → Prop) : Prop := ∃ dx' fs', H a = some (.ins C dx' fs') ∧ fs'.length < 1000 ∧ R (upd H a (.ins C dx' (putF f z fs')))
theorem w_faug {rd : V → V → Hp → VK → Prop} (q : ta σ H fun x H1 => FA1 K f x H1 fun a C v => tv σ H1 fun y H2 => rd v y H2 fun z H3 => FA2 f a C z H3 (D.nx σ)) : sFldAug K ta tv rd f D σ H := by
  revert q
  unfold sFldAug FA1 FA2
  exact id
theorem w_fa1 {C dx : Addr} {fs : List (Str × V)} {R : Addr → Addr → V → Prop} (h : H p = some (.ins C dx fs)) (hc : Cls K C) (hn : NoAttr K C f) (hl : fs.lookup f = some v) (q : R p C v) : FA1 K f (.ref p) H R := ⟨p, C, dx, fs, v, rfl, h, hc, hn, hl, q⟩
theorem w_fa2 {R : Hp → Prop} {C dx : Addr} {fs gs : List (Str × V)} (hs : Hs B L H) (h : Put L p (.ins C dx fs) (.ins C dx gs) L') (hl : fs.length < 1000) (hg : putF f v fs = gs) (q : ∀ H', Hs B L' H' → R H') : FA2 f p C v H R := by
  subst hg
  exact ⟨dx, fs, hs.gets h, hl, q _ (hs.puts h)⟩
theorem w_rAdd {a b : Int} (q : Q (.int (a + b)) H) : rAdd (.int a) (.int b) H Q := ⟨a, b, rfl, rfl, q⟩
theorem w_rSub {a b : Int} (q : Q (.int (a - b)) H) : rSub (.int a) (.int b) H Q := ⟨a, b, rfl, rfl, q⟩
/-! ### built-ins -/
def rMax2 : List V → Hp → VK → Prop := fun xs H Q => ∃ i j, xs = [.int i, .int j] ∧ Q (.int (if j > i then j else i)) H
def rMin2 : List V → Hp → VK → Prop := fun xs H Q => ∃ i j, xs = [.int i, .int j] ∧ Q (.int (if j < i then j else i)) H
theorem call_maxQ {X : Cx} (hc : X.calm = true) : CallR X (.builtin "max") rMax2 := call_max2 hc
theorem call_minQ {X : Cx} (hc : X.calm = true) : CallR X (.builtin "min") rMin2 := call_min2 hc
theorem w_max {a b : Int} (q : Q (.int (if b > a then b else a)) H) : rMax2 [.int a, .int b] H Q := ⟨a, b, rfl, q⟩
theorem w_min {a b : Int} (q : Q (.int (if b < a then b else a)) H) : rMin2 [.int a, .int b] H Q := ⟨a, b, rfl, q⟩
def rIsN : R2 := fun x y H Q => y = .non ∧ Q (.bl (decide (x = .non))) H
def rNotN : R2 := fun x y H Q => y = .non ∧ Q (.bl (!decide (x = .non))) H
theorem op_isNQ {X : Cx} : OpR X (compareOp .Is) rIsN := op_isN
theorem op_notNQ {X : Cx} : OpR X (compareOp .IsNot) rNotN := op_notN
theorem w_isN (q : Q (.bl (decide (x = .non))) H) : rIsN x .non H Q := ⟨rfl, q⟩
theorem w_notN (q : Q (.bl (!decide (x = .non))) H) : rNotN x .non H Q := ⟨rfl, q⟩
theorem w_eqD {a b : Addr} {d e : PyData} (h1 : Dp K H (.ref a) d) (h2 : Dp K H (.ref b) e) (s1 : SeqAt.shaped d = true) (s2 : SeqAt.shaped e = true) (q : Q (.bl (PyData.eqv d e)) H) : rEqD K (.ref a) (.ref b) H Q := ⟨d, e, h1, h2, s1, s2, q⟩
/-! ### targets -/
theorem w_gtup {n : Nat} {t : TGs} {xs : List V} {R : St → Hp → Prop} (h : SqT K H p xs) (hl : xs.length = n) (q : t xs σ H R) : gTup K n t (.ref p) σ H R := ⟨p, xs, rfl, h, hl, q⟩
theorem w_gnil {R : St → Hp → Prop} (q : R σ H) : gNil [] σ H R := ⟨rfl, q⟩
theorem w_gcons {t : TG} {u : TGs} {r : List V} {R : St → Hp → Prop} (q : t v σ H fun σ' H' => u r σ' H' R) : gCons t u (v :: r) σ H R := ⟨v, r, rfl, q⟩
theorem w_par3 {j l : Nat} (q : ts σ H fun vs H1 => ∃ u v w, vs = [u, v, w] ∧ D.nx (((σ.set i (some u)).set j (some v)).set l (some w)) H1) : tPar3 i j l ts D σ H := q
theorem w_ex3 {a b c : V} {P : V → V → V → Prop} (q : P a b c) : ∃ u v w, [a, b, c] = [u, v, w] ∧ P u v w := ⟨a, b, c, rfl, q⟩
theorem w_par2 {j : Nat} (q : ts σ H fun vs H1 => ∃ u v, vs = [u, v] ∧ D.nx ((σ.set i (some u)).set j (some v)) H1) : tPar i j ts D σ H := q
theorem w_ex2 {a b : V} {P : V → V → Prop} (q : P a b) : ∃ u v, [a, b] = [u, v] ∧ P u v := ⟨a, b, rfl, q⟩
/-! ### [e for i in range(a, b)] -/
theorem w_lcR {vs : List Nat} {tt : TT} {lo hi : Int} (b1 : -(2 ^ 62) ≤ lo ∧ lo < 2 ^ 62 ∧ -(2 ^ 62) ≤ hi ∧ hi < 2 ^ 62) (Pv : Addr → Nat → Hp → Prop) (hta : ∀ Q : List V → Hp → Prop, Q [.int lo, .int hi] H → ts σ H Q) (h0 : ∀ D, H D = none → Pv D 0 (upd H D (.lst [])))
    (hs : ∀ D (i : Nat) H, lo + (i : Int) < hi → Pv D i H → g (.int (lo + (i : Int))) (wipe σ vs) H fun σ2 H2 => wipe σ2 vs = wipe σ vs ∧ tt σ2 H2 fun b H3 =>
      if b = true then te σ2 H3 fun y H4 => ∃ acc, H4 D = some (.lst acc) ∧ acc.length < sizeLine ∧ Pv D (i + 1) (upd H4 D (.lst (acc ++ [y]))) else Pv D (i + 1) H3) (hd : ∀ D H, Pv D (hi - lo).toNat H → Q (.ref D) H) : tLc (iRng2 ts) g tt te vs σ H Q :=
  hta _ ⟨lo, hi, rfl, b1, fun D hD => lc_range (Pv D) (h0 D hD) (fun i H' hi' p => hs D i H' (by omega) p) (hd D)⟩
theorem w_lcR1 {vs : List Nat} {tt : TT} {hi : Int} (b1 : -(2 ^ 62) ≤ hi ∧ hi < 2 ^ 62) (Pv : Addr → Nat → Hp → Prop) (hta : ∀ Q : List V → Hp → Prop, Q [.int hi] H → ts σ H Q) (h0 : ∀ D, H D = none → Pv D 0 (upd H D (.lst [])))
    (hs : ∀ D (i : Nat) H, (i : Int) < hi → Pv D i H → g (.int (i : Int)) (wipe σ vs) H fun σ2 H2 => wipe σ2 vs = wipe σ vs ∧ tt σ2 H2 fun b H3 =>
      if b = true then te σ2 H3 fun y H4 => ∃ acc, H4 D = some (.lst acc) ∧ acc.length < sizeLine ∧ Pv D (i + 1) (upd H4 D (.lst (acc ++ [y]))) else Pv D (i + 1) H3) (hd : ∀ D H, Pv D hi.toNat H → Q (.ref D) H) : tLc (iRng1 ts) g tt te vs σ H Q :=
  hta _ ⟨hi, rfl, b1.1, b1.2, fun D hD => lc_range (Pv D) (h0 D hD) (fun i H' hi' p => by
    have e0 : (0 : Int) + (i : Int) = (i : Int) := Int.zero_add _
    rw [e0]
    exact hs D i H' (by omega) p) (hd D)⟩
end

/-- a statement, then the rest: what stands between is said once -/
theorem w_cut {σ : St} {H : Hp} {D : Ends} {t u : TS} (Mid : St → Hp → Prop) (h1 : t { D with nx := Mid } σ H) (h2 : ∀ σ' H', Mid σ' H' → u D σ' H') : C8.tCut t u D σ H := ⟨Mid, h1, h2⟩
/-! ### rules whose reading names the written part itself -/
section
variable {X : Cx} {K : PySem.W.Frag}
theorem pe_fldK {e : Expr} {f : Str} {ta : TE} {pos : Pos} (he : PE X e ta) (hb : attributeBase e f X.env (eval e X.env) = eval e X.env := by rfl) (hK : X.K = K := by rfl) : PE X (.Attribute e f pos) (tFld K ta f) := by
  subst hK
  exact pe_fld he hb
theorem ps_fldK {o value : Expr} {f : Str} {ta tv : TE} {pos pos' : Pos} (ha : PE X o ta) (hv : PE X value tv) (hs : swapsWith value (some (.Attribute o f pos')) pos.line X.env = pure false := by rfl) (hK : X.K = K := by rfl) : PS X (.Assign [.Attribute o f pos'] value pos) (sFld K ta tv f) := by
  subst hK
  exact ps_fld ha hv hs
theorem ps_fldaugK {o value : Expr} {f : Str} {ta tv : TE} {pos tpos : Pos} {op : Operator} {rd : V → V → Hp → VK → Prop} (ha : PE X o ta) (hv : PE X value tv) (hop : InOp X op rd) (hK : X.K = K := by rfl) : PS X (.AugAssign (.Attribute o f tpos) op value pos) (sFldAug K ta tv rd f) := by
  subst hK
  exact ps_fldaug ha hv hop
theorem ix_listK (hK : X.K = K := by rfl) : IxR X (rIxL K) := by
  subst hK
  exact ix_list
theorem ix_tupK (hK : X.K = K := by rfl) : IxR X (rIxT K) := by
  subst hK
  exact ix_tup
theorem sl_listK (hK : X.K = K := by rfl) : SlR X (rSlL K) := by
  subst hK
  exact sl_list
theorem sl_tupK (hK : X.K = K := by rfl) : SlR X (rSlT K) := by
  subst hK
  exact sl_tup
theorem call_lenK (hK : X.K = K := by rfl) : CallR X (.builtin "len") (rLen K) := by
  subst hK
  exact call_lenQ
theorem op_eqDK (hu : X.A.units + 64 < cLine) (hK : X.K = K := by rfl) : OpR X (compareOp .Eq) (rEqD K) := by
  subst hK
  exact op_eqD hu
theorem op_neDK (hu : X.A.units + 64 < cLine) (hK : X.K = K := by rfl) : OpR X (compareOp .NotEq) (rNeD K) := by
  subst hK
  exact op_neD hu
theorem op_inK (hK : X.K = K := by rfl) : OpR X (compareOp .In) (rIn K false) := by
  subst hK
  exact op_in_seq
theorem op_niK (hK : X.K = K := by rfl) : OpR X (compareOp .NotIn) (rIn K true) := by
  subst hK
  exact op_notIn_seq
theorem pi_listK {tg l : Expr} {tl : TE} (hl : PE X l tl) (hK : X.K = K := by rfl) : PI X tg l (iList K tl) := by
  subst hK
  exact pi_list hl
theorem pi_tupK {tg l : Expr} {tl : TE} (hl : PE X l tl) (hK : X.K = K := by rfl) : PI X tg l (iTup K tl) := by
  subst hK
  exact pi_tup hl
theorem pg_tupK {es : List Expr} {k : Nat} {t : TGs} {n : Nat} {pos : Pos} (hc : X.calm = true) (h : PGs X es t) (hn : (assignEach es X.env).length = n := by rfl) (hst : (assignEach es X.env).findIdx? (·.1) = none := by rfl) (hK : X.K = K := by rfl) : PG X (.Tuple es k pos) (gTup K n t) := by
  subst hK
  exact pg_tup hc h hn hst
theorem pt_truthK {a : Expr} {ta : TE} (ha : PE X a ta) (he : ∀ whole, isTrue a X.env whole = (do let v ← whole; standAt a.pos; holding [v] (truthy v)) := by intro _; rfl) (hK : X.K = K := by rfl) : PT X a (fun σ H Q => ta σ H fun x H' => ∃ k, TruV K x H' k ∧ Q k H') := by
  subst hK
  exact pt_truth ha he
theorem call_isiK (hK : X.K = K := by rfl) : CallR X (.builtin "isinstance") (rIsi K) := by
  subst hK
  exact call_isi
variable {o e : Expr} {es : List Expr} {to : TE} {t : TA} {name : Str} {apos cpos : Pos} {T id : String} {r : V → List V → Hp → VK → Prop}
theorem pe_bm0K (pa : PlainAttrs T) (slot : Slot T name id) (hty : typeOf (.builtin id) = pure (.type "method_descriptor")) (hm : MtR X id r) (ho : PE X o to)
    (hbase : attributeBase o name X.env (eval o X.env) = eval o X.env := by rfl) (hline : (apos.endLine == cpos.line) = true := by rfl) (hK : X.K = K := by rfl) : PE X (.Call (.Attribute o name apos) [] [] cpos) (tBM0 K T r to) := by
  subst hK
  exact pe_bm0 pa slot hty hm ho hbase hline
theorem pe_bmK (pa : PlainAttrs T) (slot : Slot T name id) (hty : typeOf (.builtin id) = pure (.type "method_descriptor")) (hm : MtR X id r) (ho : PE X o to) (ha : PA X (e :: es) t)
    (hb : attributeBase o name X.env (eval o X.env) = eval o X.env := by rfl)
    (hf : ((backTo cpos (starEach (e :: es) X.env)).all (fun x => !x.1) && (backToKw cpos (keywordEach [] X.env)).all (fun x => x.1.isSome) && decide ((e :: es).length + ([] : List Keyword).length + (if ([] : List Keyword).isEmpty then 0 else 1) < 30)) = true := by rfl)
    (hl : (apos.endLine == cpos.line) = true := by rfl) (h1 : starEach (e :: es) X.env = (false, eval e X.env) :: starEach es X.env := by rfl) (h2 : (backTo cpos (starEach es X.env)).any (·.1) = false := by rfl) (hK : X.K = K := by rfl) :
    PE X (.Call (.Attribute o name apos) (e :: es) [] cpos) (tBM K T r to t) := by
  subst hK
  exact pe_bm pa slot hty hm ho ha hb hf hl h1 h2
end
section
variable {H B : Hp} {L L' : List (Addr × HO)} {l : Addr} {y a b c d e : V} {r : List V} {R : Hp → Prop}
theorem w_set0 (hs : Hs B L H) (h : Put L l (.lst (a :: r)) (.lst (y :: r)) L') (q : ∀ H', Hs B L' H' → R H') : rSetL (.ref l) (.int 0) y H R := w_setL (k := 0) hs h rfl (by simp) q
theorem w_set1 (hs : Hs B L H) (h : Put L l (.lst (a :: b :: r)) (.lst (a :: y :: r)) L') (q : ∀ H', Hs B L' H' → R H') : rSetL (.ref l) (.int 1) y H R := w_setL (k := 1) hs h rfl (by simp) q
theorem w_set2 (hs : Hs B L H) (h : Put L l (.lst (a :: b :: c :: r)) (.lst (a :: b :: y :: r)) L') (q : ∀ H', Hs B L' H' → R H') : rSetL (.ref l) (.int 2) y H R := w_setL (k := 2) hs h rfl (by simp) q
theorem w_set3 (hs : Hs B L H) (h : Put L l (.lst (a :: b :: c :: d :: r)) (.lst (a :: b :: c :: y :: r)) L') (q : ∀ H', Hs B L' H' → R H') : rSetL (.ref l) (.int 3) y H R := w_setL (k := 3) hs h rfl (by simp) q
theorem w_set4 (hs : Hs B L H) (h : Put L l (.lst (a :: b :: c :: d :: e :: r)) (.lst (a :: b :: c :: d :: y :: r)) L') (q : ∀ H', Hs B L' H' → R H') : rSetL (.ref l) (.int 4) y H R := w_setL (k := 4) hs h rfl (by simp) q
end
theorem w_eqB {a b : Bool} {H : Hp} {Q : VK} (q : Q (.bl (decide (a = b))) H) : rEq (.bl a) (.bl b) H Q := ⟨rfl, by
  have e : decide (V.bl a = V.bl b) = decide (a = b) := by cases a <;> cases b <;> decide
  rw [e]
  exact q⟩
/-- arguments that are known -/
def kTA (vs : List V) : TA := fun _ H Q => Q vs H
theorem w_for1 {σ : St} {H : Hp} {D : Ends} {ta : TA} {tb : TS} {g : TG} (q : ta σ H fun vs H1 => tFor (iRng1 (kTA vs)) g tb D σ H1) : tFor (iRng1 ta) g tb D σ H := q
theorem w_for2 {σ : St} {H : Hp} {D : Ends} {ta : TA} {tb : TS} {g : TG} (q : ta σ H fun vs H1 => tFor (iRng2 (kTA vs)) g tb D σ H1) : tFor (iRng2 ta) g tb D σ H := q
/-! ### an own exception -/
section
variable {X : Cx} {C a : Addr}
/-- X.__init__(self, ..) of an own class that has its __init__ from ValueError -/
theorem pe_ownInit {x : Str} {e : Expr} {es : List Expr} {ta : TA} {p1 p2 pos : Pos} {pl : Sem Bool} (hg : Gl X x) (hm : X.mg x = some (.ref C)) (r : CRead X.K C (.type "type")) (cv : PySem.W.findCls X.K (.ref C) (.type "type") "__init__" = some (.val (.builtin "ValueError.__init__"))) (ha : PA X (e :: es) ta)
    (hdb : (x == ("__debug__" : Str)) = false := by decide)
    (hc : eval (.Call (.Attribute (.Name x p1) "__init__" p2) (e :: es) [] pos) X.env = (do
      let ov ← eval (.Name x p1) X.env
      standAt p2.atName
      let (f, first) ← holding [ov] (getMethod ov "__init__" pl)
      callWith pos f first (backTo pos (starEach (e :: es) X.env)) (backToKw pos (keywordEach [] X.env))) := by rfl)
    (he : starEach (e :: es) X.env = (false, eval e X.env) :: starEach es X.env := by rfl) (hpl : (backTo pos (starEach es X.env)).any (·.1) = false := by rfl) :
    PE X (.Call (.Attribute (.Name x p1) "__init__" p2) (e :: es) [] pos) (tVeI X.K ta) := by
  constructor
  intro pins s σ H Q I h
  refine PySem.W.methodCall_KW ?_ hc
  refine ld_glob I hg hm ?_ hdb
  refine PySem.W.method_cls I.kIn r.ga (PySem.W.cls_value I.kIn r.rd cv rfl ?_)
  have fin : ∀ (us : List Value) (s1 : Shared), AP X pins σ (fun vs H1 => ∃ (a C : Addr) (ws : List V), vs = .ref a :: ws ∧ ws.length ≤ 1000 ∧ OexC X.K C ∧ H1 a = some (exo a C none) ∧ Q .non H1) us s1 → wpAny (model X.prog X.w) X.A (call (.builtin "ValueError.__init__") us) (EP X pins σ Q) X.xe s1 := by
    rintro us s1 ⟨vs, H1, I1, r1, a', C', ws, rfl, hw, hT, hE, q1⟩
    match us, r1 with
    | u0 :: ur, .cons r0 rr =>
      cases (show u0 = Value.ref a' from r0)
      have hn : ur.length ≤ sizeLine := by
        rw [← Paired.length rr, sizeLine_eq]
        omega
      exact oinit_ok hT I1 hE hn fun _ J => ⟨.non, _, J, rfl, q1⟩
  exact PyProof.Rows.callWith_method1 (thn (ha.run pos pins _ σ H _ (I.tok _) h) fin) he hpl
/-- o.m(e), what it lets out by the slots -/
def tMethQ (C : Addr) (m : Str) (sp : Sp) (E : St → XK) (ta : TE) (t : TA) : TE := fun σ H Q => ta σ H fun x H1 => ∃ a dx fs, x = .ref a ∧ H1 a = some (.ins C dx fs) ∧ fs.lookup m = none ∧ t σ H1 fun vs H2 => sp (x :: vs) H2 Q (E σ)
theorem pe_methQ {CX : CXT} {k : Nat} {f : Addr} {fd : FuncData} {ps : List Str} {sp : Sp} {E : St → XK} {m : Str} {pos apos : Pos} {e o : Expr} {es : List Expr} {ta : TE} {t : TA} {pl : Sem Bool} (ho : PE X o ta) (c : Cls X.K C) (hm : Meth X.K C m f) (F : FnOk X.prog X.w X.K X.mg X.base CX k f fd ps sp)
    (hr : Room k X.A) (hb : Binds X.K fd ps []) (hx : ∀ σ, PassesAt CX X σ (E σ)) (ha : PA X (e :: es) t) (h1 : starEach (e :: es) X.env = (false, eval e X.env) :: starEach es X.env := by rfl) (h2 : (backTo pos (starEach es X.env)).any (·.1) = false := by rfl)
    (h3 : eval (.Call (.Attribute o m apos) (e :: es) [] pos) X.env = (do
      let ov ← eval o X.env
      standAt apos.atName
      let (f, first) ← holding [ov] (getMethod ov m pl)
      callWith pos f first (backTo pos (starEach (e :: es) X.env)) (backToKw pos (keywordEach [] X.env))) := by rfl) :
    PE X (.Call (.Attribute o m apos) (e :: es) [] pos) (tMethQ C m sp E ta t) := by
  constructor
  intro pins s σ H Q I h
  refine PySem.W.methodCall_KW (pl := pl) (thn (ho.run pins s σ H _ I h) ?_) h3
  rintro u s1 ⟨x, H1, I1, rx, a, dx, fs, rfl, ea, l, q⟩
  cases (show u = Value.ref a from rx)
  refine getmeth_ok I1 ea c hm l (PySem.W.callWith_K (first := [.ref a]) (h₀ := X.base) I.ok.mod.kin hm.kp (thn (ha.run pos pins s1 σ H1 _ I1 q) ?_) h1 h2)
  rintro us s2 ⟨vs, H2, I2, r, q2⟩
  exact ⟨I2.kIn, run_fnS (us := .ref a :: us) (vs := .ref a :: vs) F hr hb (hx σ) I2 (.cons rfl r) q2⟩
/-- what an own exception's class D must have for isinstance -/
structure XcC (K : PySem.W.Frag) (D : Addr) : Prop where
  cl : (PySem.W.clsIn K D).isSome = true
  ga : PySem.W.findIn K (.ref D) "__getattribute__" = some (some (.builtin "BaseException.__getattribute__"))
  gt : PySem.W.findIn K (.ref D) "__getattr__" = some none
  ex : PySem.W.subIn K (.ref D) (.type "BaseException") = some true
  cs : PySem.W.findIn K (.ref D) "__class__" = some (some (.builtin "object.__class__"))
  gd : PySem.W.specialIn K (.builtin "object.__class__") "__get__" = some (some (.builtin "getset_descriptor.__get__"))
  tk : PySem.W.takesIn K (.builtin "object.__class__") = some true
  mo : PySem.W.mroIn K D (.type "object") = some true
theorem kit_own {K : PySem.W.Frag} {D C : Addr} {b : Bool} (n : D ≠ C) (hc : PySem.W.isClsIn K C = true) (ht : PySem.W.typeIn K (.ref C) = some (.type "type")) (h : PySem.W.subIn K (.ref D) (.ref C) = some b) : PySem.W.kitOne K (.ref D) (.ref C) = some b := by
  have e : (Value.ref D == Value.ref C) = false := beq_eq_false_iff_ne.mpr fun q => n (Value.ref.inj q)
  have hc' : (PySem.W.clsIn K C).isSome = true := hc
  unfold PySem.W.kitOne PySem.W.kitCls
  simp [e, hc', ht, h]
theorem kit_ownT {K : PySem.W.Frag} {D C : Addr} (hc : PySem.W.isClsIn K C = true) (ht : PySem.W.typeIn K (.ref C) = some (.type "type")) (h : PySem.W.subIn K (.ref D) (.ref C) = some true) : PySem.W.kitOne K (.ref D) (.ref C) = some true := by
  by_cases e : D = C
  · subst e
    unfold PySem.W.kitOne
    rw [if_pos (beq_self_eq_true _)]
  · exact kit_own e hc ht h
/-- isinstance(e, c) of an exception that the suite holds, with its dict -/
def rIsX (K : PySem.W.Frag) (a : Addr) (cls : Value) (d : Option Addr) : List V → Hp → VK → Prop := fun xs H Q => ∃ (D C dd : Addr) (fs : List (Str × V)) (b : Bool), cls = .ref D ∧ d = some dd ∧ H dd = some (.xd fs) ∧ xs = [.ref a, .ref C] ∧ XcC K D ∧ PySem.W.kitOne K (.ref D) (.ref C) = some b ∧ Q (.bl b) H
theorem call_isX {oe : Obj} {cls : Value} {d : Option Addr} {pn : List (Addr × Obj)} (hz : Zc cls d oe) (hf : ∃ vs, oe.data = .fields vs) : CallR (X.suite a ((a, oe) :: pn)) (.builtin "isinstance") (rIsX X.K a cls d) := by
  rintro pins s σ H xs us Q I r ⟨D, C, dd, fs, b, rfl, rfl, hd, rfl, hD, hk, q⟩
  obtain ⟨u1, u2, rfl, r1, r2⟩ := vals2 r
  cases (show u1 = Value.ref a from r1)
  cases (show u2 = Value.ref C from r2)
  obtain ⟨ha, _⟩ := I.pin (a, oe) (List.mem_append_left _ List.mem_cons_self)
  obtain ⟨vs, hv⟩ := hf
  obtain ⟨mA, hns, _⟩ := (show ObjOk X.prog X.w H s.heap dd (.xd fs) from I.hok dd _ hd)
  obtain ⟨od, ho, _⟩ := lookIn_ns hns
  have J : PySem.W.InstAt s.heap a oe D (some od) := ⟨ha, hz.1, by unfold PySem.W.notCls; rw [hv] <;> rfl, by rw [hz.2]; exact ho⟩
  exact PySem.W.kia_one (PySem.W.kitx_exc hD.cl hD.ga hD.gt hD.ex hD.cs hD.gd hD.tk hD.mo) I.kIn J hk (fun z => nomatch z) fun tk => ⟨.bl b, H, I.kept (t' := tk) fun _ _ z => z, rfl, q⟩
end
section
variable {K : PySem.W.Frag} {σ : St} {H : Hp} {Q : VK} {D : Ends} {te tv to : TE} {ts : TA} {f : Str} {v x y : V} {C a : Addr} {B : Hp} {L L' : List (Addr × HO)}
def RVe (K : PySem.W.Frag) (vs : List V) (H : Hp) (Q : VK) : Prop := ∃ (a C : Addr) (ws : List V), vs = .ref a :: ws ∧ ws.length ≤ 1000 ∧ OexC K C ∧ H a = some (exo a C none) ∧ Q .non H
theorem w_vei (q : ts σ H fun vs H1 => RVe K vs H1 Q) : tVeI K ts σ H Q := q
theorem w_ve {ws : List V} (hl : ws.length ≤ 1000) (hT : OexC K C) (h : H a = some (exo a C none)) (q : Q .non H) : RVe K (.ref a :: ws) H Q := ⟨a, C, ws, rfl, hl, hT, h, q⟩
def ROst (K : PySem.W.Frag) (f : Str) (y x : V) (H : Hp) (R : Hp → Prop) : Prop := ∃ a C : Addr, x = .ref a ∧ OexC K C ∧ PySem.W.findIn K (.ref C) f = some none ∧
  ((H a = some (exo a C none) ∧ ∀ dx, H dx = none → dx ≠ a → R (upd (upd H dx (exd dx [(f, y)])) a (exo a C (some dx)))) ∨
    ∃ (dx : Addr) (fs : List (Str × V)), H a = some (exo a C (some dx)) ∧ H dx = some (exd dx fs) ∧ fs.length ≤ 900 ∧ R (upd H dx (exd dx ((f, y) :: fs))))
theorem w_ost0 (q : te σ H fun y H1 => to σ H1 fun x H2 => ROst K f y x H2 (D.nx σ)) : tOst K f to te D σ H := q
theorem w_ost {R : Hp → Prop} (hs : Hs B ((a, exo a C none) :: L) H) (hT : OexC K C) (hn : PySem.W.findIn K (.ref C) f = some none) (q : ∀ dx H', Hs B ((dx, exd dx [(f, y)]) :: (a, exo a C (some dx)) :: L) H' → R H') : ROst K f y (.ref a) H R :=
  ⟨a, C, rfl, hT, hn, .inl ⟨hs.g0, fun dx hd _ => q dx _ ((hs.new hd).p1 _)⟩⟩
/-- the making of an own exception -/
def MkO (C : Addr) (sp : Sp) (vs dvs : List V) (H1 : Hp) (Q : XK) : Prop := vs.length ≤ 1000 ∧ ∀ a, H1 a = none → sp (.ref a :: (vs ++ dvs)) (upd H1 a (exo a C none))
  (fun v H2 => v = .non ∧ ∃ (d : Addr) (fs : List (Str × V)), H2 a = some (exo a C (some d)) ∧ H2 d = some (exd d fs) ∧ H1 d = none ∧ Q (.ref C) (some d) (upd (del H2 a) d (.xd fs))) (fun _ _ _ => False)
theorem w_mko {sp : Sp} {dvs : List V} {Q : XK} (q : ts σ H fun vs H1 => MkO C sp vs dvs H1 Q) : tMkO C sp dvs ts σ H Q := by
  revert q
  unfold tMkO MkO
  exact id
/-- what an own __init__ with one field promises -/
def spXinit (C : Addr) (f : Str) (ok : V → Prop) : Sp := fun vs H Q _ => ∃ (B : Hp) (e : Addr) (v : V), vs = [.ref e, v] ∧ Hs B [(e, exo e C none)] H ∧ ok v ∧ ∀ dx H', Hs B [(dx, exd dx [(f, v)]), (e, exo e C (some dx))] H' → Q .non H'
theorem w_mkX {ok : V → Prop} {Q : XK} (hs : Hs B L H) (hv : ok v) (q : ∀ d H', Hs B ((d, .xd [(f, v)]) :: L) H' → Q (.ref C) (some d) H') : MkO C (spXinit C f ok) [v] [] H Q := by
  refine ⟨by simp, fun a ha => ?_⟩
  have h1 := hs.new (o := exo a C none) ha
  obtain ⟨_, h2, back⟩ := h1.frame [(a, exo a C none)]
  refine ⟨_, a, v, rfl, h2, hv, fun dx H2 h3 => ⟨rfl, dx, [(f, v)], h3.g1, h3.g0, ?_, ?_⟩⟩
  · have n : dx ≠ a := fun e => by
      have := h3.nd
      rw [e] at this
      simp at this
    have z := h3.out _ List.mem_cons_self
    have nm : dx ∉ [(a, exo a C none)].map (·.1) := by
      simp only [List.map_cons, List.map_nil, List.mem_singleton]
      exact n
    have z2 : upd H a (exo a C none) dx = none := (around_out nm).symm.trans z
    rwa [upd_ne n] at z2
  · have h4 := back _ _ h3
    have nd := h4.nd
    have hda : dx ≠ a := fun e => by
      rw [e] at nd
      simp at nd
    have nL : ∀ e ∈ L, e.1 ≠ dx ∧ e.1 ≠ a := fun e he => by
      simp only [List.cons_append, List.nil_append, List.map_cons, List.nodup_cons, List.mem_cons, not_or] at nd
      refine ⟨fun z => nd.1.2 ?_, fun z => nd.2.1 ?_⟩
      · rw [← z]
        exact List.mem_map.mpr ⟨e, he, rfl⟩
      · rw [← z]
        exact List.mem_map.mpr ⟨e, he, rfl⟩
    have ba : B a = none := hs.same.free ha
    have bd : B dx = none := h4.out _ List.mem_cons_self
    refine q dx _ ⟨fun b o e => ?_, ?_, fun e he => ?_, fun e he => ?_⟩
    · have n1 : b ≠ dx := fun z => by
        rw [z, bd] at e
        cases e
      have n2 : b ≠ a := fun z => by
        rw [z, ba] at e
        cases e
      rw [upd_ne n1, del_ne n2]
      exact h4.same b o e
    · simp only [List.cons_append, List.nil_append, List.map_cons, List.nodup_cons, List.mem_cons, not_or] at nd ⊢
      exact ⟨nd.1.2, nd.2.2⟩
    · rcases List.mem_cons.mp he with rfl | he
      · exact bd
      · exact hs.out e he
    · rcases List.mem_cons.mp he with rfl | he
      · exact upd_same
      · obtain ⟨n1, n2⟩ := nL e he
        rw [upd_ne n1, del_ne n2]
        exact h4.at_ e (List.mem_cons_of_mem _ (List.mem_cons_of_mem _ he))
theorem w_methQ {sp : Sp} {E : St → XK} {m : Str} {ta : TE} (q : ta σ H fun x H1 => Rc m C x H1 (ts σ H1 fun vs H2 => sp (x :: vs) H2 Q (E σ))) : tMethQ C m sp E ta ts σ H Q := by
  revert q
  unfold tMethQ Rc
  exact id
theorem w_isX {d : Addr} {fs : List (Str × V)} {C' : Addr} {b : Bool} (h : H d = some (.xd fs)) (hx : XcC K C) (hk : PySem.W.kitOne K (.ref C) (.ref C') = some b) (q : Q (.bl b) H) : rIsX K a (.ref C) (some d) [.ref a, .ref C'] H Q := ⟨C, C', d, fs, b, rfl, rfl, h, rfl, hx, hk, q⟩
def RXf (a : Addr) (cls : Value) (d : Option Addr) (C : Addr) (f : Str) (x : V) (H : Hp) (Q : VK) : Prop := x = .ref a ∧ cls = .ref C ∧ ∃ (dd : Addr) (fs : List (Str × V)) (v : V), d = some dd ∧ H dd = some (.xd fs) ∧ fs.lookup f = some v ∧ Q v H
theorem w_xf0 {cls : Value} {d : Option Addr} (q : te σ H fun x H1 => RXf a cls d C f x H1 Q) : tXf a cls d C f te σ H Q := q
theorem w_xf {d : Addr} {fs : List (Str × V)} (h : H d = some (.xd fs)) (hl : fs.lookup f = some v) (q : Q v H) : RXf a (.ref C) (some d) C f (.ref a) H Q := ⟨rfl, rfl, d, fs, v, rfl, h, hl, q⟩
theorem w_was {i : Nat} {ts : Addr → Value → Option Addr → TS} {Wout : WX} {d : Addr} (he : PySem.W.exmOne K (.ref C) (.ref C) = some true)
    (q : ∀ e, H e = none → ts e (.ref C) (some d) { nx := fun σ' H' => D.nx (σ'.set i none) H', rt := D.rt, bk := fun σ' H' => D.bk (σ'.set i none) H', ct := fun σ' H' => D.ct (σ'.set i none) H' } (σ.set i (some (.ref e))) H) :
    wAs K (.ref C) i ts Wout D (.ref C) (some d) σ H := ⟨true, he, fun _ e h => q e h, fun z => Bool.noConfusion z⟩
theorem w_eqSt {a b : Str} (q : Q (.bl (decide (a = b))) H) : rEq (.str a) (.str b) H Q := ⟨rfl, by
  have e : decide (V.str a = V.str b) = decide (a = b) := by
    by_cases h : a = b
    · rw [decide_eq_true h, decide_eq_true (congrArg V.str h)]
    · rw [decide_eq_false h, decide_eq_false fun q => h (V.str.inj q)]
  rw [e]
  exact q⟩
/-- texts of an f-string -/
theorem w_js {t : TE} {us : List TE} {acc : Str} {Q : Str → Hp → Prop} (q : t σ H fun x H1 => ∃ y : Str, x = .str y ∧ (acc ++ y).length ≤ sizeLine ∧ tJs us (acc ++ y) σ H1 Q) : tJs (t :: us) acc σ H Q := q
theorem w_js0 {acc : Str} {Q : Str → Hp → Prop} (q : Q acc H) : tJs [] acc σ H Q := q
theorem w_js1 {s acc : Str} {R : Str → Prop} (h : (acc ++ s).length ≤ sizeLine) (q : R s) : ∃ y : Str, V.str s = .str y ∧ (acc ++ y).length ≤ sizeLine ∧ R y := ⟨s, rfl, h, q⟩
def RFmt (x : V) (H : Hp) (Q : VK) : Prop := (∃ y : Str, x = .str y ∧ y.length ≤ sizeLine ∧ Q (.str y) H) ∨ ∃ i : Int, x = .int i ∧ i.natAbs.log2 < 1920 ∧ Q (.str (toString i)) H
theorem w_fmt (q : te σ H fun x H1 => RFmt x H1 Q) : tFmt te σ H Q := q
theorem w_fmtS {s : Str} (h : s.length ≤ sizeLine) (q : Q (.str s) H) : RFmt (.str s) H Q := .inl ⟨s, rfl, h, q⟩
theorem w_fmtI {n : Int} (h : n.natAbs < 2 ^ 64) (q : Q (.str (toString n)) H) : RFmt (.int n) H Q := .inr ⟨n, rfl, Nat.lt_of_lt_of_le (PySem.Flt.log2_lt_of (by decide) h) (by decide), q⟩
def tRaiseX (W : WX) (t : St → Hp → XK → Prop) : TS := fun _ σ H => t σ H fun cls d H' => W cls d σ H'
theorem ps_raiseQ {X : Cx} {W : WX} {e : Expr} {t : St → Hp → XK → Prop} {pos : Pos} (hc : X.calm = true) (tk : Takes X W) (he : PMk X e t) : PS X (.Raise (some e) none pos) (tRaiseX W t) := ps_raise hc tk he
theorem w_raise {W : WX} {t : St → Hp → XK → Prop} (q : t σ H fun cls d H' => W cls d σ H') : tRaiseX W t D σ H := q
end

/-! ### data that nobody changes: scalars and tuples -/
mutual
inductive Im (K : PySem.W.Frag) (H : Hp) : V → PyData → Prop
  | non : Im K H .non .none
  | bl (b : Bool) : Im K H (.bl b) (.bool b)
  | int (i : Int) : Im K H (.int i) (.int i)
  | str (x : Str) : Im K H (.str x) (.str x)
  | tup {a : Addr} {xs : List V} {ds : List PyData} : H a = some (.tup xs) → ImAll K H xs ds → Im K H (.ref a) (.tuple ds)
inductive ImAll (K : PySem.W.Frag) (H : Hp) : List V → List PyData → Prop
  | nil : ImAll K H [] []
  | cons {v : V} {vs : List V} {d : PyData} {ds : List PyData} : Im K H v d → ImAll K H vs ds → ImAll K H (v :: vs) (d :: ds)
end
section
variable {K : PySem.W.Frag} {H H' : Hp}
mutual
theorem Im.dp : ∀ {d : PyData} {v : V}, Im K H v d → Dp K H v d
  | .none, _, h => by cases h; exact .non
  | .bool _, _, h => by cases h; exact .bl _
  | .int _, _, h => by cases h; exact .int _
  | .str _, _, h => by cases h; exact .str _
  | .tuple _, _, h => by
    cases h with
    | tup h1 h2 => exact .tup (SqT.of h1) h2.dp
  | .list _, _, h => nomatch h
  | .dict _, _, h => nomatch h
theorem ImAll.dp : ∀ {ds : List PyData} {vs : List V}, ImAll K H vs ds → DpAll K H vs ds
  | [], _, h => by cases h; exact .nil
  | _ :: _, _, h => by
    cases h with
    | cons h1 h2 => exact .cons h1.dp h2.dp
end
mutual
theorem Im.mono (e : ∀ a xs, H a = some (.tup xs) → H' a = some (.tup xs)) : ∀ {d : PyData} {v : V}, Im K H v d → Im K H' v d
  | .none, _, h => by cases h; exact .non
  | .bool _, _, h => by cases h; exact .bl _
  | .int _, _, h => by cases h; exact .int _
  | .str _, _, h => by cases h; exact .str _
  | .tuple _, _, h => by
    cases h with
    | tup h1 h2 => exact .tup (e _ _ h1) (h2.mono e)
  | .list _, _, h => nomatch h
  | .dict _, _, h => nomatch h
theorem ImAll.mono (e : ∀ a xs, H a = some (.tup xs) → H' a = some (.tup xs)) : ∀ {ds : List PyData} {vs : List V}, ImAll K H vs ds → ImAll K H' vs ds
  | [], _, h => by cases h; exact .nil
  | _ :: _, _, h => by
    cases h with
    | cons h1 h2 => exact .cons (h1.mono e) (h2.mono e)
end
theorem Im.same (e : Same H H') {d : PyData} {v : V} (h : Im K H v d) : Im K H' v d := h.mono fun _ _ => e _ _
theorem ImAll.same (e : Same H H') {ds : List PyData} {vs : List V} (h : ImAll K H vs ds) : ImAll K H' vs ds := h.mono fun _ _ => e _ _
theorem ImAll.snoc {ds : List PyData} {vs : List V} {d : PyData} {v : V} (h : ImAll K H vs ds) (h1 : Im K H v d) : ImAll K H (vs ++ [v]) (ds ++ [d]) := by
  induction vs generalizing ds with
  | nil =>
    cases h
    exact .cons h1 .nil
  | cons w ws ih =>
    cases h with
    | cons a b => exact .cons a (ih b)
theorem ImAll.len : ∀ {ds : List PyData} {vs : List V}, ImAll K H vs ds → vs.length = ds.length
  | [], _, h => by cases h; rfl
  | _ :: _, _, h => by
    cases h with
    | cons _ b => exact congrArg (· + 1) b.len
/-- what is data stays data where a list changes -/
theorem tup_but {p : Addr} {o o' : HO} (h : H p = some o) (n : ∀ xs, o ≠ .tup xs) (a : Addr) (xs : List V) (e : H a = some (.tup xs)) : upd H p o' a = some (.tup xs) := by
  have d : a ≠ p := fun z => by
    rw [z, h] at e
    exact n xs (Option.some.inj e)
  rw [upd_ne d]
  exact e
theorem Hs.base {B B2 : Hp} {L : List (Addr × HO)} (e : Same B B2) (h : Hs B2 L H) : Hs B L H := ⟨e.trans h.same, h.nd, fun x hx => e.free (h.out x hx), h.at_⟩
end
section
variable {K : PySem.W.Frag} {σ : St} {H : Hp} {Q : VK} {te : TE} {ts : TA}
/-- [e for i in range(lo, hi)], each e data that is made anew -/
theorem w_lcI {vs : List Nat} {j : Nat} {lo hi : Int} (b1 : -(2 ^ 62) ≤ lo ∧ lo < 2 ^ 62 ∧ -(2 ^ 62) ≤ hi ∧ hi < 2 ^ 62) (hz : hi - lo ≤ 1000000) (ds : Nat → PyData) (hta : ∀ Q : List V → Hp → Prop, Q [.int lo, .int hi] H → ts σ H Q)
    (hw : ∀ v, wipe ((wipe σ vs).set j (some v)) vs = wipe σ vs)
    (he : ∀ (i : Nat) (H' : Hp) (Q' : VK), lo + (i : Int) < hi → Same H H' → (∀ y H3, Same H' H3 → Im K H3 y (ds i) → Q' y H3) → te ((wipe σ vs).set j (some (.int (lo + (i : Int))))) H' Q')
    (hq : ∀ D acc H', Hs H [(D, .lst acc)] H' → ImAll K H' acc ((List.range (hi - lo).toNat).map ds) → Q (.ref D) H') : tLc (iRng2 ts) (gName j) tYes te vs σ H Q := by
  refine w_lcR b1 (fun D i H' => ∃ acc, Hs H [(D, .lst acc)] H' ∧ ImAll K H' acc ((List.range i).map ds)) hta (fun D hD => ⟨[], (Hs.start H).new hD, .nil⟩) ?_ ?_
  · rintro D i H' hi' ⟨acc, h1, h2⟩
    refine ⟨hw _, ?_⟩
    refine w_yes (iteT ?_)
    refine he i H' _ hi' h1.same fun y H3 s3 hy => ?_
    have hD : H3 D = some (.lst acc) := s3 _ _ h1.g0
    have hl := h2.len
    rw [List.length_map, List.length_range] at hl
    refine ⟨acc, hD, szl (by omega), acc ++ [y], ?_, ?_⟩
    · have h3 : Hs H [(D, .lst acc)] H3 := ⟨h1.same.trans s3, h1.nd, h1.out, fun e he => s3 _ _ (h1.at_ e he)⟩
      exact h3.p0 _
    · rw [List.range_succ, List.map_append]
      exact ((h2.same s3).snoc hy).mono fun a xs => tup_but hD (fun _ z => by cases z) a xs
  · rintro D H' ⟨acc, h1, h2⟩
    exact hq D acc H' h1 h2
theorem w_lcI1 {vs : List Nat} {j : Nat} {hi : Int} (b1 : -(2 ^ 62) ≤ hi ∧ hi < 2 ^ 62) (hz : hi ≤ 1000000) (ds : Nat → PyData) (hta : ∀ Q : List V → Hp → Prop, Q [.int hi] H → ts σ H Q)
    (hw : ∀ v, wipe ((wipe σ vs).set j (some v)) vs = wipe σ vs)
    (he : ∀ (i : Nat) (H' : Hp) (Q' : VK), (i : Int) < hi → Same H H' → (∀ y H3, Same H' H3 → Im K H3 y (ds i) → Q' y H3) → te ((wipe σ vs).set j (some (.int (i : Int)))) H' Q')
    (hq : ∀ D acc H', Hs H [(D, .lst acc)] H' → ImAll K H' acc ((List.range hi.toNat).map ds) → Q (.ref D) H') : tLc (iRng1 ts) (gName j) tYes te vs σ H Q := by
  refine w_lcR1 b1 (fun D i H' => ∃ acc, Hs H [(D, .lst acc)] H' ∧ ImAll K H' acc ((List.range i).map ds)) hta (fun D hD => ⟨[], (Hs.start H).new hD, .nil⟩) ?_ ?_
  · rintro D i H' hi' ⟨acc, h1, h2⟩
    refine ⟨hw _, ?_⟩
    refine w_yes (iteT ?_)
    refine he i H' _ hi' h1.same fun y H3 s3 hy => ?_
    have hD : H3 D = some (.lst acc) := s3 _ _ h1.g0
    have hl := h2.len
    rw [List.length_map, List.length_range] at hl
    refine ⟨acc, hD, szl (by omega), acc ++ [y], ?_, ?_⟩
    · have h3 : Hs H [(D, .lst acc)] H3 := ⟨h1.same.trans s3, h1.nd, h1.out, fun e he => s3 _ _ (h1.at_ e he)⟩
      exact h3.p0 _
    · rw [List.range_succ, List.map_append]
      exact ((h2.same s3).snoc hy).mono fun a xs => tup_but hD (fun _ z => by cases z) a xs
  · rintro D H' ⟨acc, h1, h2⟩
    exact hq D acc H' h1 h2
theorem depth_all {n : Nat} : ∀ ds : List PyData, (∀ d ∈ ds, d.depth ≤ n) → PyData.depthAll ds ≤ n
  | [], _ => by simp [PyData.depthAll]
  | d :: ds, h => by
    have h1 := h d List.mem_cons_self
    have h2 := depth_all ds fun x hx => h x (List.mem_cons_of_mem _ hx)
    simp only [PyData.depthAll]
    omega
theorem lay_all : ∀ ds : List PyData, (∀ d ∈ ds, d.canLay0 = true) → PyData.canLayAll0 ds = true
  | [], _ => by simp [PyData.canLayAll0]
  | d :: ds, h => by
    have h1 := h d List.mem_cons_self
    have h2 := lay_all ds fun x hx => h x (List.mem_cons_of_mem _ hx)
    simp only [PyData.canLayAll0, h1, h2, Bool.and_self]
theorem shp_list {ds : List PyData} (h : ∀ d ∈ ds, d.canLay0 = true ∧ d.depth ≤ 60) : SeqAt.shaped (.list ds) = true := by
  have e := depth_all ds fun d hd => (h d hd).2
  have l := lay_all ds fun d hd => (h d hd).1
  unfold SeqAt.shaped PyData.canLay0 PyData.depth
  rw [l]
  simp only [Bool.true_and, decide_eq_true_eq]
  omega
/-- two lists of like data are equal -/
theorem w_eqL {p q : Addr} {xs ys : List V} {ds : List PyData} (hp : H p = some (.lst xs)) (hq : H q = some (.lst ys)) (h1 : ImAll K H xs ds) (h2 : ImAll K H ys ds) (h : ∀ d ∈ ds, d.canLay0 = true ∧ d.depth ≤ 60) (k : Q (.bl true) H) : rEqD K (.ref p) (.ref q) H Q :=
  ⟨_, _, .lst (SqL.of hp) h1.dp, .lst (SqL.of hq) h2.dp, shp_list h, shp_list h, by
    rw [SeqAt.eqv_refl _ (by have := shp_list h; unfold SeqAt.shaped at this; exact (Bool.and_eq_true_iff.mp this).1)]
    exact k⟩
theorem w_neL {p q : Addr} {xs ys : List V} {ds : List PyData} (hp : H p = some (.lst xs)) (hq : H q = some (.lst ys)) (h1 : ImAll K H xs ds) (h2 : ImAll K H ys ds) (h : ∀ d ∈ ds, d.canLay0 = true ∧ d.depth ≤ 60) (k : Q (.bl false) H) : rNeD K (.ref p) (.ref q) H Q :=
  ⟨_, _, .lst (SqL.of hp) h1.dp, .lst (SqL.of hq) h2.dp, shp_list h, shp_list h, by
    rw [SeqAt.eqv_refl _ (by have := shp_list h; unfold SeqAt.shaped at this; exact (Bool.and_eq_true_iff.mp this).1)]
    exact k⟩
theorem ima_str : ∀ xs : List Str, ImAll K H (xs.map V.str) (xs.map PyData.str)
  | [] => .nil
  | x :: xs => .cons (.str x) (ima_str xs)
end
end Hb

set_option Elab.async false
set_option maxRecDepth 100000
set_option maxHeartbeats 4000000
/-! Still more steps: truth of lists, texts in a tuple, slices of tuples, comprehensions over lists of tuples. -/
namespace Hb
open PySem L2
/-- the truth of a list -/
theorem w_truL {K : PySem.W.Frag} {H : Hp} {p : Addr} {xs : List V} {R : Bool → Prop} (h : SqL K H p xs) (q : R (!xs.isEmpty)) : ∃ k, TruV K (.ref p) H k ∧ R k := ⟨_, .inl ⟨xs, h, rfl⟩, q⟩
/-- a text in a new tuple of texts -/
theorem w_inT {K : PySem.W.Frag} {H : Hp} {Q : VK} {x : V} {p : Addr} {neg : Bool} {xs : List V} (h : SqT K H p xs) (hx : flatV x = true) (hf : xs.all flatV = true) (q : Q (.bl (if neg then !inV x xs else inV x xs)) H) : rIn K neg x (.ref p) H Q := ⟨p, xs, rfl, .inr h, hx, hf, q⟩
/-- a tuple's slice, not the whole -/
theorem w_slT0 {K : PySem.W.Frag} {B H : Hp} {L : List (Addr × HO)} {Q : VK} {p : Addr} {xs : List V} {lo hi : Option Int} (hs : Hs B L H) (h : SqT K H p xs) (hw : ¬ (HT.sIx xs.length 0 lo = 0 ∧ HT.sIx xs.length xs.length hi = xs.length)) (q : ∀ l H', Hs B ((l, .tup (cutV xs lo hi)) :: L) H' → Q (.ref l) H') : rSlT K (.ref p) lo hi H Q := by
  exact ⟨p, xs, rfl, h, hw, w_new hs q⟩
/-- what stands aside of our own objects becomes the ground -/
theorem Hs.rebase {B H : Hp} {L : List (Addr × HO)} (hs : Hs B L H) : Same B (around L H) ∧ Hs (around L H) L H := by
  have h := Hs.frame (R := []) L (by rw [List.append_nil]; exact hs)
  exact ⟨h.1, h.2.1⟩
theorem im_around {K : PySem.W.Frag} {H : Hp} {L : List (Addr × HO)} (nt : ∀ e ∈ L, ∀ xs, H e.1 ≠ some (.tup xs)) {vs : List V} {ds : List PyData} (h : ImAll K H vs ds) : ImAll K (around L H) vs ds :=
  h.mono fun a xs e => by
    rw [around_out fun m => ?_]
    · exact e
    · obtain ⟨z, hz, rfl⟩ := List.mem_map.mp m
      exact nt z hz xs e

theorem w_slT {K : PySem.W.Frag} {B H : Hp} {L : List (Addr × HO)} {Q : VK} {p : Addr} {xs : List V} {j : Int} (n : Nat) (e : j = (n : Int)) (hs : Hs B L H) (h : SqT K H p xs) (h0 : 0 < n) (h1 : n ≤ xs.length) (q : ∀ l H', Hs B ((l, .tup (xs.drop n)) :: L) H' → Q (.ref l) H') : rSlT K (.ref p) (some j) none H Q := by
  refine w_slT0 hs h ?_ fun l H' hs' => ?_
  · subst e
    rw [HT.sIx_nat]
    omega
  · rw [cut_from n e] at hs'
    exact q l H' hs'
section
variable {K : PySem.W.Frag} {σ : St} {H : Hp} {Q : VK} {te : TE} {g : TG}
/-- [e for .. in xs], xs a list of data, each e data that is made anew -/
theorem w_lcD {tl : TE} {a : Addr} {xs : List V} {vs : List Nat} (hx : SqL K H a xs) (hz : xs.length ≤ 1000000) (ds : List PyData) (hl : ds.length = xs.length) (htl : ∀ Q : VK, Q (.ref a) H → tl σ H Q)
    (he : ∀ (i : Nat) (x : V) (d : PyData) (H' : Hp) (Q' : VK), xs[i]? = some x → ds[i]? = some d → Same H H' → (∀ y H3, Same H' H3 → Im K H3 y d → Q' y H3) → g x (wipe σ vs) H' fun σ2 H2 => wipe σ2 vs = wipe σ vs ∧ te σ2 H2 Q')
    (hq : ∀ D acc H', Hs H [(D, .lst acc)] H' → ImAll K H' acc ds → Q (.ref D) H') (gm : ∀ x σ H R R', (∀ σ' H', R σ' H' → R' σ' H') → g x σ H R → g x σ H R') : tLc (iList K tl) g tYes te vs σ H Q := by
  refine w_lc hx (fun D i H' => ∃ acc, Hs H [(D, .lst acc)] H' ∧ ImAll K H' acc (ds.take i)) htl (fun D hD => ⟨[], (Hs.start H).new hD, by rw [List.take_zero]; exact .nil⟩) (fun D i H' _ ⟨_, h, _⟩ => h.same.seq hx) ?_ ?_
  · rintro D i x H' hi ⟨acc, h1, h2⟩
    have hin := (List.getElem?_eq_some_iff.mp hi).1
    have hd : ds[i]? = some ds[i] := List.getElem?_eq_getElem (by omega)
    refine gm _ _ _ _ _ (fun σ' H2 ⟨e1, e2⟩ => ⟨e1, w_yes (iteT e2)⟩) (he i x ds[i] H' _ hi hd h1.same fun y H3 s3 hy => ?_)
    have hD : H3 D = some (.lst acc) := s3 _ _ h1.g0
    have hl2 := h2.len
    rw [List.length_take] at hl2
    refine ⟨acc, hD, szl (by omega), acc ++ [y], ?_, ?_⟩
    · have h3 : Hs H [(D, .lst acc)] H3 := ⟨h1.same.trans s3, h1.nd, h1.out, fun e he => s3 _ _ (h1.at_ e he)⟩
      exact h3.p0 _
    · have e : ds.take (i + 1) = ds.take i ++ [ds[i]] := by
        rw [List.take_succ, hd]
        rfl
      rw [e]
      exact ((h2.same s3).snoc hy).mono fun a xs => tup_but hD (fun _ z => by cases z) a xs
  · rintro D H' ⟨acc, h1, h2⟩
    rw [← hl, List.take_length] at h2
    exact hq D acc H' h1 h2
theorem ImAll.get {H : Hp} : ∀ {xs : List V} {ds : List PyData} {i : Nat} {x : V} {d : PyData}, ImAll K H xs ds → xs[i]? = some x → ds[i]? = some d → Im K H x d
  | _ :: _, _ :: _, 0, x, d, .cons h _, e1, e2 => by
    cases e1
    cases e2
    exact h
  | _ :: _, _ :: _, i + 1, x, d, .cons _ h, e1, e2 => ImAll.get (i := i) h (by simpa using e1) (by simpa using e2)
theorem ImAll.app {H : Hp} : ∀ {xs ys : List V} {ds es : List PyData}, ImAll K H xs ds → ImAll K H ys es → ImAll K H (xs ++ ys) (ds ++ es)
  | [], _, _, _, .nil, h => h
  | _ :: _, _, _, _, .cons a b, h => .cons a (b.app h)
end
end Hb

set_option Elab.async false
set_option maxRecDepth 100000
set_option maxHeartbeats 4000000
/-! Dicts with a fixed row of text keys, as a law's plain models have them; tuples put together. -/
namespace Hb
open PySem L2
/-- a dict whose keys are a fixed row of texts -/
def zipK (ks : List Str) (vs : List V) : List (Key × V) := (ks.map Sum.inr).zip vs
theorem val_zip : ∀ {ks : List Str} {vs : List V} {i : Nat} {k : Str} {v : V}, ks.Nodup → ks[i]? = some k → vs[i]? = some v → valV (zipK ks vs) (Sum.inr k) = some v
  | k0 :: ks, v0 :: vs, 0, k, v, _, hk, hv => by
    cases hk
    cases hv
    show Option.map _ (List.find? _ ((Sum.inr k0, v0) :: zipK ks vs)) = _
    rw [List.find?_cons, decide_eq_true (rfl : (Sum.inr k0 : Key) = Sum.inr k0)]
    rfl
  | k0 :: ks, v0 :: vs, i + 1, k, v, nd, hk, hv => by
    have h1 := List.nodup_cons.mp nd
    have hk' : ks[i]? = some k := by simpa using hk
    have hv' : vs[i]? = some v := by simpa using hv
    have hne : ¬ (Sum.inr k0 : Key) = Sum.inr k := fun e => h1.1 (by cases e; exact List.mem_of_getElem? hk')
    show Option.map _ (List.find? _ ((Sum.inr k0, v0) :: zipK ks vs)) = _
    rw [List.find?_cons, decide_eq_false hne]
    exact val_zip h1.2 hk' hv'
theorem map_zip_out : ∀ {ks : List Str} {vs : List V} {k : Str} {v : V}, k ∉ ks → (zipK ks vs).map (fun kv => if kv.1 = (Sum.inr k : Key) then (kv.1, v) else kv) = zipK ks vs
  | [], _, _, _, _ => rfl
  | _ :: _, [], _, _, _ => rfl
  | k0 :: ks, v0 :: vs, k, v, h => by
    have hne : ¬ (Sum.inr k0 : Key) = Sum.inr k := fun e => h (by cases e; exact List.mem_cons_self)
    show (if (Sum.inr k0 : Key) = Sum.inr k then ((Sum.inr k0 : Key), v) else (Sum.inr k0, v0)) :: (zipK ks vs).map _ = _
    rw [if_neg hne, map_zip_out (fun m => h (List.mem_cons_of_mem _ m))]
    rfl
theorem map_zip : ∀ {ks : List Str} {vs : List V} {i : Nat} {k : Str} {v : V}, ks.Nodup → ks[i]? = some k → i < vs.length → (zipK ks vs).map (fun kv => if kv.1 = (Sum.inr k : Key) then (kv.1, v) else kv) = zipK ks (vs.set i v)
  | k0 :: ks, v0 :: vs, 0, k, v, nd, hk, _ => by
    cases hk
    have h1 := List.nodup_cons.mp nd
    show (if (Sum.inr k0 : Key) = Sum.inr k0 then ((Sum.inr k0 : Key), v) else (Sum.inr k0, v0)) :: (zipK ks vs).map _ = _
    rw [if_pos rfl, map_zip_out h1.1]
    rfl
  | k0 :: ks, v0 :: vs, i + 1, k, v, nd, hk, hl => by
    have h1 := List.nodup_cons.mp nd
    have hk' : ks[i]? = some k := by simpa using hk
    have hne : ¬ (Sum.inr k0 : Key) = Sum.inr k := fun e => h1.1 (by cases e; exact List.mem_of_getElem? hk')
    show (if (Sum.inr k0 : Key) = Sum.inr k then ((Sum.inr k0 : Key), v) else (Sum.inr k0, v0)) :: (zipK ks vs).map _ = _
    rw [if_neg hne, map_zip h1.2 hk' (Nat.lt_of_succ_lt_succ hl)]
    rfl
theorem any_of_val {kvs : List (Key × V)} {k : Key} {v : V} (h : valV kvs k = some v) : (kvs.any fun kv => decide (kv.1 = k)) = true := by
  unfold valV at h
  cases e : kvs.find? (fun kv => decide (kv.1 = k)) with
  | none =>
    rw [e] at h
    cases h
  | some z =>
    have h1 := List.find?_some e
    exact List.any_eq_true.mpr ⟨z, List.mem_of_find?_eq_some e, h1⟩
theorem put_zip {ks : List Str} {vs : List V} {i : Nat} {k : Str} {v u : V} (nd : ks.Nodup) (hk : ks[i]? = some k) (hv : vs[i]? = some u) : putK (zipK ks vs) (Sum.inr k) v = zipK ks (vs.set i v) := by
  unfold putK
  rw [if_pos (any_of_val (val_zip nd hk hv))]
  exact map_zip nd hk (List.getElem?_eq_some_iff.mp hv).1
/-! ### their steps -/
section
variable {σ : St} {H : Hp} {Q : VK} {D : Ends} {td ty tv : TE} {p : Addr} {B : Hp} {L L' : List (Addr × HO)} {ks : List Str} {vs us : List V} {i : Nat} {k : Str} {v u : V}
def RDget (x y : V) (H : Hp) (Q : VK) : Prop := ∃ a v, x = .ref a ∧ DGet H a y (some v) ∧ Q v H
theorem w_dget (q : td σ H fun x H1 => ty σ H1 fun y H2 => RDget x y H2 Q) : tDGet td ty σ H Q := q
theorem w_dgetZ (h : H p = some (.dK (zipK ks vs))) (nd : ks.Nodup) (hk : ks[i]? = some k) (hv : vs[i]? = some v) (q : Q v H) : RDget (.ref p) (.str k) H Q :=
  ⟨p, v, rfl, val_zip nd hk hv ▸ DGet.k (k := Sum.inr k) h, q⟩
theorem w_dgetI {kvs : List (Key × V)} {n : Int} (h : H p = some (.dK kvs)) (hv : valV kvs (Sum.inl n) = some v) (q : Q v H) : RDget (.ref p) (.int n) H Q :=
  ⟨p, v, rfl, hv ▸ DGet.k (k := Sum.inl n) h, q⟩
theorem w_dputZ {R : Hp → Prop} (hs : Hs B L H) (h : Put L p (.dK (zipK ks vs)) (.dK (zipK ks us)) L') (nd : ks.Nodup) (hk : ks[i]? = some k) (hv : vs[i]? = some u) (hu : vs.set i v = us) (hl : ks.length < 1000) (q : ∀ H', Hs B L' H' → R H') : RDput (.ref p) (.str k) v H R := by
  subst hu
  refine ⟨p, _, rfl, DPut.k (k := Sum.inr k) (hs.gets h) ?_, ?_⟩
  · refine szl ?_
    show ((ks.map Sum.inr).zip vs).length ≤ 1000000
    rw [List.length_zip, List.length_map]
    omega
  · rw [put_zip nd hk hv]
    exact q _ (hs.puts h)
/-- the same as a target among others -/
theorem w_gsub {tset : TSet} {R : St → Hp → Prop} (q : td σ H fun o H1 => ty σ H1 fun i H2 => tset o i v H2 fun H3 => R σ H3) : gSub td ty tset v σ H R := q
theorem w_setD {x y : V} {R : Hp → Prop} (q : RDput x y v H R) : rSetD x y v H R := q
end
section
variable {K : PySem.W.Frag}
theorem op_catTK {X : Cx} (hK : X.K = K := by rfl) : OpR X (binaryOp .Add) (rCatT K) := by
  subst hK
  exact op_catT
theorem w_catT {B H : Hp} {L : List (Addr × HO)} {Q : VK} {p r : Addr} {xs ys : List V} (hs : Hs B L H) (h1 : SqT K H p xs) (h2 : SqT K H r ys) (n1 : xs ≠ []) (n2 : ys ≠ []) (hl : xs.length + ys.length ≤ 1000) (q : ∀ l H', Hs B ((l, .tup (xs ++ ys)) :: L) H' → Q (.ref l) H') : rCatT K (.ref p) (.ref r) H Q :=
  ⟨p, r, xs, ys, rfl, rfl, h1, h2, n1, Nat.le_of_lt (szl (by omega)), fun e => absurd e n2, fun _ => w_new hs q⟩
end
section
variable {α : Type} {a b c d e f g h i v : α} {l : List α}
theorem v0 : (a :: l)[0]? = some a := rfl
theorem v1 : (a :: b :: l)[1]? = some b := rfl
theorem v2 : (a :: b :: c :: l)[2]? = some c := rfl
theorem v3 : (a :: b :: c :: d :: l)[3]? = some d := rfl
theorem v4 : (a :: b :: c :: d :: e :: l)[4]? = some e := rfl
theorem v5 : (a :: b :: c :: d :: e :: f :: l)[5]? = some f := rfl
theorem v6 : (a :: b :: c :: d :: e :: f :: g :: l)[6]? = some g := rfl
theorem v7 : (a :: b :: c :: d :: e :: f :: g :: h :: l)[7]? = some h := rfl
theorem v8 : (a :: b :: c :: d :: e :: f :: g :: h :: i :: l)[8]? = some i := rfl
theorem st0 : (a :: l).set 0 v = v :: l := rfl
theorem st1 : (a :: b :: l).set 1 v = a :: v :: l := rfl
theorem st2 : (a :: b :: c :: l).set 2 v = a :: b :: v :: l := rfl
theorem st3 : (a :: b :: c :: d :: l).set 3 v = a :: b :: c :: v :: l := rfl
theorem st4 : (a :: b :: c :: d :: e :: l).set 4 v = a :: b :: c :: d :: v :: l := rfl
theorem st5 : (a :: b :: c :: d :: e :: f :: l).set 5 v = a :: b :: c :: d :: e :: v :: l := rfl
theorem st6 : (a :: b :: c :: d :: e :: f :: g :: l).set 6 v = a :: b :: c :: d :: e :: f :: v :: l := rfl
theorem st7 : (a :: b :: c :: d :: e :: f :: g :: h :: l).set 7 v = a :: b :: c :: d :: e :: f :: g :: v :: l := rfl
theorem st8 : (a :: b :: c :: d :: e :: f :: g :: h :: i :: l).set 8 v = a :: b :: c :: d :: e :: f :: g :: h :: v :: l := rfl
end
/-! ### a dict that is written down -/
theorem merge_zip : ∀ {ks : List Str} {vs : List V} {acc : List (Key × V)}, ks.Nodup → (∀ k ∈ ks, ∀ kv ∈ acc, kv.1 ≠ (Sum.inr k : Key)) → mergeK acc (zipK ks vs) = acc ++ zipK ks vs
  | [], _, acc, _, _ => by
    show acc = acc ++ []
    rw [List.append_nil]
  | _ :: _, [], acc, _, _ => by
    show acc = acc ++ []
    rw [List.append_nil]
  | k :: ks, v :: vs, acc, nd, h => by
    have h1 := List.nodup_cons.mp nd
    have e : putK acc (Sum.inr k) v = acc ++ [(Sum.inr k, v)] := by
      unfold putK
      rw [if_neg]
      intro h2
      obtain ⟨z, hz, h3⟩ := List.any_eq_true.mp h2
      exact h k List.mem_cons_self z hz (of_decide_eq_true h3)
    show mergeK (putK acc (Sum.inr k) v) (zipK ks vs) = acc ++ ((Sum.inr k, v) :: zipK ks vs)
    rw [e, merge_zip h1.2 ?_, List.append_assoc]
    · rfl
    · intro k2 hk2 kv hkv
      rcases List.mem_append.mp hkv with m | m
      · exact h k2 (List.mem_cons_of_mem _ hk2) kv m
      · rw [List.mem_singleton.mp m]
        intro c
        cases c
        exact h1.1 hk2
section
variable {σ : St} {H : Hp} {Q : VK} {B : Hp} {L L' : List (Addr × HO)}
def NewP (trs : List (TE × TE)) (σ : St) (Q : VK) (H : Hp) : Prop := ∀ p, H p = none → tPairs trs σ (upd H p (.dK [])) fun ps H2 => H2 p = some (.dK []) ∧ ∃ kvs : List (Key × V), ps = kvs.map (fun kv => (kV kv.1, kv.2)) ∧ kvs.length ≤ 15 ∧ Q (.ref p) (upd H2 p (.dK (mergeK [] kvs)))
def DispP (p : Addr) (Q : VK) (ps : List (V × V)) (H2 : Hp) : Prop := H2 p = some (.dK []) ∧ ∃ kvs : List (Key × V), ps = kvs.map (fun kv => (kV kv.1, kv.2)) ∧ kvs.length ≤ 15 ∧ Q (.ref p) (upd H2 p (.dK (mergeK [] kvs)))
theorem w_disp {trs : List (TE × TE)} (q : NewP trs σ Q H) : tDisp trs σ H Q := q
theorem w_newP {trs : List (TE × TE)} (hs : Hs B L H) (q : ∀ p H', Hs B ((p, .dK []) :: L) H' → tPairs trs σ H' (DispP p Q)) : NewP trs σ Q H := fun p hp => q p _ (hs.new hp)
theorem w_pcons {tk tv : TE} {trs : List (TE × TE)} {R : List (V × V) → Hp → Prop} (q : tk σ H fun k H1 => tv σ H1 fun v H2 => tPairs trs σ H2 fun ps H3 => R ((k, v) :: ps) H3) : tPairs ((tk, tv) :: trs) σ H R := q
theorem w_pnil {R : List (V × V) → Hp → Prop} (q : R [] H) : tPairs [] σ H R := q
theorem w_dispZ {p : Addr} {ps : List (V × V)} (ks : List Str) (vs : List V) (hs : Hs B L H) (h : Put L p (.dK []) (.dK (zipK ks vs)) L') (nd : ks.Nodup) (hl : ks.length ≤ 15) (hp : ps = (zipK ks vs).map (fun kv => (kV kv.1, kv.2))) (q : ∀ H', Hs B L' H' → Q (.ref p) H') : DispP p Q ps H := by
  refine ⟨hs.gets h, zipK ks vs, hp, ?_, ?_⟩
  · unfold zipK
    rw [List.length_zip, List.length_map]
    omega
  · rw [merge_zip nd (fun _ _ _ z => absurd z List.not_mem_nil)]
    exact q _ (hs.puts h)
end
end Hb

set_option Elab.async false
set_option maxRecDepth 100000
set_option maxHeartbeats 4000000
/-! Dicts whose keys are tuples of any depth; sorted of such keys. -/
namespace Hb
open PySem L2
mutual
/-- the value v in the abstract heap is the key k -/
inductive NK (H : Hp) : NestedKey → V → Prop
  | non : NK H .none .non
  | int (i : Int) : NK H (.num i) (.int i)
  | str (x : Str) : NK H (.text x) (.str x)
  | tup {p : Addr} {vs : List V} {ks : List NestedKey} : H p = some (.tup vs) → NKs H ks vs → NK H (.tup ks) (.ref p)
inductive NKs (H : Hp) : List NestedKey → List V → Prop
  | nil : NKs H [] []
  | cons {k : NestedKey} {v : V} {ks : List NestedKey} {vs : List V} : NK H k v → NKs H ks vs → NKs H (k :: ks) (v :: vs)
end
mutual
theorem NK.mono {H H' : Hp} (e : ∀ p xs, H p = some (.tup xs) → H' p = some (.tup xs)) : ∀ {k : NestedKey} {v : V}, NK H k v → NK H' k v
  | _, _, .non => .non
  | _, _, .int i => .int i
  | _, _, .str x => .str x
  | _, _, .tup h hs => .tup (e _ _ h) (NKs.mono e hs)
theorem NKs.mono {H H' : Hp} (e : ∀ p xs, H p = some (.tup xs) → H' p = some (.tup xs)) : ∀ {ks : List NestedKey} {vs : List V}, NKs H ks vs → NKs H' ks vs
  | _, _, .nil => .nil
  | _, _, .cons h hs => .cons (NK.mono e h) (NKs.mono e hs)
end
theorem NK.same {H H' : Hp} (e : Same H H') {k : NestedKey} {v : V} (h : NK H k v) : NK H' k v := h.mono fun _ _ => e _ _
mutual
theorem NK.inj {H : Hp} : ∀ {k k' : NestedKey} {v : V}, NK H k v → NK H k' v → k = k'
  | _, _, _, .non, h => by cases h; rfl
  | _, _, _, .int i, h => by cases h; rfl
  | _, _, _, .str x, h => by cases h; rfl
  | _, _, _, .tup h1 h2, h => by
    cases h with
    | tup k1 k2 =>
      rw [h1] at k1
      cases k1
      rw [NKs.inj h2 k2]
theorem NKs.inj {H : Hp} : ∀ {ks ks' : List NestedKey} {vs : List V}, NKs H ks vs → NKs H ks' vs → ks = ks'
  | _, _, _, .nil, h => by cases h; rfl
  | _, _, _, .cons h1 h2, h => by
    cases h with
    | cons k1 k2 => rw [NK.inj h1 k1, NKs.inj h2 k2]
end
mutual
theorem NK.im {K : PySem.W.Frag} {H : Hp} : ∀ {k : NestedKey} {v : V}, NK H k v → Im K H v k.data
  | _, _, .non => .non
  | _, _, .int i => .int i
  | _, _, .str x => .str x
  | _, _, .tup h hs => .tup h (NKs.im hs)
theorem NKs.im {K : PySem.W.Frag} {H : Hp} : ∀ {ks : List NestedKey} {vs : List V}, NKs H ks vs → ImAll K H vs (NestedKey.datas ks)
  | _, _, .nil => .nil
  | _, _, .cons h hs => .cons (NK.im h) (NKs.im hs)
end
section
variable {P : Program} {w : World} {H : Hp} {h : Heap}
mutual
theorem NK.is (ok : HOk P w H h) : ∀ {k : NestedKey} {v : V} {u : Value}, NK H k v → RelV v u → NestedIs h k u
  | _, _, _, .non, r => by
    cases (show _ = Value.none from r)
    exact .none
  | _, _, _, .int i, r => by
    obtain ⟨t, rfl⟩ := r
    exact .int i t
  | _, _, _, .str x, r => by
    obtain ⟨t, rfl⟩ := r
    exact .text x t
  | _, _, _, .tup e hs, r => by
    cases (show _ = Value.ref _ from r)
    obtain ⟨_, its, r2, o, ho, hc, n, hd⟩ := ok _ _ e
    exact .tup ho hc hd (NKs.is ok hs r2)
theorem NKs.is (ok : HOk P w H h) : ∀ {ks : List NestedKey} {vs : List V} {us : List Value}, NKs H ks vs → Vals vs us → NestedAll h ks us
  | _, _, _, .nil, r => by cases r; exact .nil
  | _, _, _, .cons h1 h2, r => by
    cases r with
    | cons r1 r2 => exact .cons (NK.is ok h1 r1) (NKs.is ok h2 r2)
end
end
/-- a key, where its tuple stands, what it holds -/
abbrev Ent := NestedKey × Addr × V
def atN (es : List Ent) (k : NestedKey) : Option V := (es.find? fun e => decide (e.1 = k)).map (·.2.2)
def putN (es : List Ent) (k : NestedKey) (b : Addr) (v : V) : List Ent := if (atN es k).isSome then es.map (fun e => if e.1 = k then (e.1, e.2.1, v) else e) else es ++ [(k, b, v)]
def dropN (es : List Ent) (k : NestedKey) : List Ent := es.filter fun e => decide (e.1 ≠ k)
abbrev RelE (p : Ent) (q : NestedKey × Addr × Value) : Prop := p.1 = q.1 ∧ p.2.1 = q.2.1 ∧ RelV p.2.2 q.2.2
abbrev RelEs : List Ent → List (NestedKey × Addr × Value) → Prop := Paired RelE
def entN (w : World) (x : NestedKey × Addr × Value) : DictEntry := ⟨x.1.hash w, .ref x.2.1, x.2.2⟩
def DNx (w : World) (a : Addr) (es : List Ent) (h : Heap) : Prop := es.length ≤ sizeLine ∧ (a == sysModules) = false ∧ ∃ xs, RelEs es xs ∧ ∃ o ds ep, h.get? a = some o ∧ o.ExactDict ∧ o.data = .dict ds ep ∧ ds.toList = xs.map (entN w) ∧ (xs.map (·.1)).Nodup
/-- a dict with such keys -/
abbrev DN (w : World) (a : Addr) (es : List Ent) : HO := .ext (DNx w a es)
/-- its keys stand as they are told -/
def EntsOk (H : Hp) (es : List Ent) : Prop := ∀ e ∈ es, NK H e.1 (.ref e.2.1) ∧ e.1.depth ≤ 8
theorem EntsOk.mono {H H' : Hp} (e : ∀ p xs, H p = some (.tup xs) → H' p = some (.tup xs)) {es : List Ent} (h : EntsOk H es) : EntsOk H' es := fun x hx => ⟨(h x hx).1.mono e, (h x hx).2⟩
theorem EntsOk.same {H H' : Hp} (e : Same H H') {es : List Ent} (h : EntsOk H es) : EntsOk H' es := h.mono fun _ _ => e _ _
theorem EntsOk.nil {H : Hp} : EntsOk H [] := fun _ h => nomatch h
theorem EntsOk.drop {H : Hp} {es : List Ent} {k : NestedKey} (h : EntsOk H es) : EntsOk H (dropN es k) := fun e he => h e (List.mem_filter.mp he).1
theorem EntsOk.put {H : Hp} {es : List Ent} {k : NestedKey} {b : Addr} {v : V} (h : EntsOk H es) (hk : NK H k (.ref b)) (hd : k.depth ≤ 8) : EntsOk H (putN es k b v) := fun e he => by
  unfold putN at he
  split at he
  · obtain ⟨y, hy, rfl⟩ := List.mem_map.mp he
    by_cases hc : y.1 = k
    · rw [if_pos hc]
      exact h y hy
    · rw [if_neg hc]
      exact h y hy
  · rcases List.mem_append.mp he with m | m
    · exact h e m
    · rw [List.mem_singleton.mp m]
      exact ⟨hk, hd⟩
theorem RelEs.at {es : List Ent} {xs : List (NestedKey × Addr × Value)} (r : RelEs es xs) (k : NestedKey) : RelO (atN es k) ((atKey xs k).map (·.2)) := by
  induction r with
  | nil => exact trivial
  | @cons p q ps qs h _ ih =>
    obtain ⟨h1, h2, h3⟩ := h
    unfold atN atKey at ih ⊢
    rw [List.find?_cons, List.find?_cons, ← h1]
    by_cases hc : p.1 = k
    · rw [decide_eq_true hc]
      exact h3
    · rw [decide_eq_false hc]
      exact ih
theorem RelEs.keys {es : List Ent} {xs : List (NestedKey × Addr × Value)} (r : RelEs es xs) : xs.map (·.1) = es.map (·.1) := by
  induction r with
  | nil => rfl
  | cons h _ ih => rw [List.map_cons, List.map_cons, ih, h.1]
theorem RelEs.some {es : List Ent} {xs : List (NestedKey × Addr × Value)} (r : RelEs es xs) (k : NestedKey) : (atN es k).isSome = (atKey xs k).isSome := by
  have q := (r.at k).isSome_eq
  rw [Option.isSome_map] at q
  exact q
theorem relEs_map {k : NestedKey} {v : V} {u : Value} (hv : RelV v u) : ∀ {es : List Ent} {xs : List (NestedKey × Addr × Value)}, RelEs es xs → RelEs (es.map (fun e => if e.1 = k then (e.1, e.2.1, v) else e)) (xs.map (putAt k u))
  | _, _, .nil => .nil
  | p :: ps, q :: qs, .cons h t => by
    refine .cons ?_ (relEs_map hv t)
    show RelE (if p.1 = k then (p.1, p.2.1, v) else p) (if q.1 = k then (q.1, q.2.1, u) else q)
    rw [← h.1]
    by_cases hc : p.1 = k
    · rw [if_pos hc, if_pos hc]
      exact ⟨rfl, h.2.1, hv⟩
    · rw [if_neg hc, if_neg hc]
      exact h
theorem relEs_snoc {p : Ent} {q : NestedKey × Addr × Value} (h : RelE p q) : ∀ {es : List Ent} {xs : List (NestedKey × Addr × Value)}, RelEs es xs → RelEs (es ++ [p]) (xs ++ [q])
  | _, _, .nil => .cons h .nil
  | _, _, .cons r t => .cons r (relEs_snoc h t)
theorem RelEs.put {es : List Ent} {xs : List (NestedKey × Addr × Value)} (r : RelEs es xs) (k : NestedKey) (b : Addr) {v : V} {u : Value} (hv : RelV v u) : RelEs (putN es k b v) (storedH xs k b u) := by
  unfold putN storedH
  rw [r.some k]
  cases (atKey xs k).isSome with
  | true =>
    rw [if_pos rfl, if_pos rfl]
    exact relEs_map hv r
  | false =>
    rw [if_neg Bool.false_ne_true, if_neg Bool.false_ne_true]
    exact relEs_snoc ⟨rfl, rfl, hv⟩ r
theorem RelEs.drop {es : List Ent} {xs : List (NestedKey × Addr × Value)} (r : RelEs es xs) (k : NestedKey) : RelEs (dropN es k) (withoutH xs k) := by
  unfold dropN withoutH
  induction r with
  | nil => exact .nil
  | @cons p q ps qs h _ ih =>
    rw [List.filter_cons, List.filter_cons, ← h.1]
    by_cases hc : p.1 = k
    · have e : decide (p.1 ≠ k) = false := decide_eq_false (fun z => z hc)
      rw [e]
      exact ih
    · have e : decide (p.1 ≠ k) = true := decide_eq_true hc
      rw [e]
      exact .cons h ih
theorem RelEs.len {es : List Ent} {xs : List (NestedKey × Addr × Value)} (r : RelEs es xs) : es.length = xs.length := Paired.length r
theorem putN_len {es : List Ent} {k : NestedKey} {b : Addr} {v : V} : (putN es k b v).length ≤ es.length + 1 := by
  unfold putN
  split
  · rw [List.length_map]
    omega
  · rw [List.length_append, List.length_singleton]
    exact Nat.le_refl _
theorem dropN_len {es : List Ent} {k : NestedKey} : (dropN es k).length ≤ es.length := List.length_filter_le _ _
section
variable {P : Program} {w : World} {H : Hp} {h : Heap} {a : Addr} {es : List Ent}
theorem dn_of (ok : HOk P w H h) (e : H a = some (DN w a es)) (hk : EntsOk H es) : es.length ≤ sizeLine ∧ (a == sysModules) = false ∧ ∃ xs, RelEs es xs ∧ h.DictOfH (nestedKind P w) a xs := by
  obtain ⟨⟨z, y, xs, r, o, ds, ep, h1, h2, h3, h4, h5⟩, _, _⟩ := (show ObjOk P w H h a (DN w a es) from ok _ _ e)
  refine ⟨z, y, xs, r, o, ds, ep, h1, h2, h3, h4, ?_, h5⟩
  have all : ∀ {l : List Ent} {m : List (NestedKey × Addr × Value)}, EntsOk H l → RelEs l m → ∀ x ∈ m, (nestedKind P w).is h x.1 x.2.1 := by
    intro l m hl r
    induction r with
    | nil => exact fun _ hx => nomatch hx
    | @cons p q ps qs hpq _ ih =>
      intro x hx
      rcases List.mem_cons.mp hx with rfl | hx
      · obtain ⟨k1, k2⟩ := hl p List.mem_cons_self
        rw [← hpq.1, ← hpq.2.1]
        exact ⟨k1.is ok rfl, k2⟩
      · exact ih (fun e he => hl e (List.mem_cons_of_mem _ he)) x hx
  exact all hk r
theorem dn_obj {H' : Hp} {h' : Heap} {xs : List (NestedKey × Addr × Value)} (z : es.length ≤ sizeLine) (y : (a == sysModules) = false) (r : RelEs es xs) (dd : h'.DictOfH (nestedKind P w) a xs) : ObjOk P w H' h' a (DN w a es) := by
  obtain ⟨o, ds, ep, h1, h2, h3, h4, _, h5⟩ := dd
  refine ⟨⟨z, y, xs, r, o, ds, ep, h1, h2, h3, h4, h5⟩, ⟨o, h1⟩, fun g1 g2 ⟨z, y, xs, r, o, ds, ep, h1, h2⟩ hg => ⟨z, y, xs, r, o, ds, ep, hg _ h1, h2⟩⟩
theorem dn_empty (h : Heap) (hb : sysModules < h.objs.size) : ObjOk P w H (h.push { cls := .type "dict", data := .dict #[] }) h.objs.size (DN w h.objs.size []) :=
  dn_obj (Nat.zero_le _) (beq_eq_false_iff_ne.mpr (Ne.symm (Nat.ne_of_lt hb))) .nil (Heap.DictOfH.new h)
end
/-- the parts of what is asked of such a dict -/
structure AtN (w : World) (H : Hp) (x y : V) (a b : Addr) (es : List Ent) (k : NestedKey) : Prop where
  ex : x = .ref a
  ey : y = .ref b
  ha : H a = some (DN w a es)
  he : EntsOk H es
  hk : NK H k (.ref b)
  hd : k.depth ≤ 8
def rNGet (w : World) (x y : V) (H : Hp) (Q : VK) : Prop := ∃ a b es k v, AtN w H x y a b es k ∧ atN es k = some v ∧ Q v H
def rNIn (w : World) (x y : V) (H : Hp) (Q : Bool → Prop) : Prop := ∃ a b es k, AtN w H x y a b es k ∧ Q (atN es k).isSome
def rNPut (w : World) (x y v : V) (H : Hp) (Q : Hp → Prop) : Prop := ∃ a b es k, AtN w H x y a b es k ∧ es.length < sizeLine ∧ Q (upd H a (DN w a (putN es k b v)))
def rNDel (w : World) (x y : V) (H : Hp) (Q : V → Hp → Prop) : Prop := ∃ a b es k v, AtN w H x y a b es k ∧ atN es k = some v ∧ Q v (upd H a (DN w a (dropN es k)))
def tNGet (w : World) (td ty : TE) : TE := fun σ H Q => td σ H fun x H1 => ty σ H1 fun y H2 => rNGet w x y H2 Q
def tNIn (w : World) (ty td : TE) : TE := fun σ H Q => ty σ H fun y H1 => td σ H1 fun x H2 => rNIn w x y H2 fun b => Q (.bl b) H2
def tNNot (w : World) (ty td : TE) : TE := fun σ H Q => ty σ H fun y H1 => td σ H1 fun x H2 => rNIn w x y H2 fun b => Q (.bl (!b)) H2
def sNPut (w : World) (td ty tv : TE) : TS := fun D σ H => tv σ H fun v H1 => td σ H1 fun x H2 => ty σ H2 fun y H3 => rNPut w x y v H3 fun H4 => D.nx σ H4
def sNDel (w : World) (td ty : TE) : TS := fun D σ H => td σ H fun x H1 => ty σ H1 fun y H2 => rNDel w x y H2 fun _ H3 => D.nx σ H3
def tNNew (w : World) : TE := fun _ H Q => ∀ p, H p = none → Q (.ref p) (upd H p (DN w p []))
def tNPop (w : World) (td ty : TE) : TE := fun σ H Q => td σ H fun x H1 => (∃ a es, x = .ref a ∧ H1 a = some (DN w a es)) ∧ ty σ H1 fun y H2 => rNDel w x y H2 Q
section
variable {X : Cx} {w : World} {o i value : Expr} {pos pos' tpos : Pos} {td ty tv : TE}
theorem AtN.dn {H : Hp} {x y : V} {a b : Addr} {es : List Ent} {k : NestedKey} {pins : List (Addr × Obj)} {σ : St} {s : Shared} (I : Inv X pins σ H s) (hw : X.w = w) (g : AtN w H x y a b es k) : es.length ≤ sizeLine ∧ (a == sysModules) = false ∧ ∃ xs, RelEs es xs ∧ s.heap.DictOfH (nestedKind X.prog X.w) a xs ∧ (nestedKind X.prog X.w).is s.heap k b := by
  subst hw
  obtain ⟨z, hd, xs, r, dd⟩ := dn_of I.hok g.ha g.he
  exact ⟨z, hd, xs, r, dd, g.hk.is I.hok rfl, g.hd⟩
theorem n_room {A : Around} (hu : A.units + 64 < cLine) {P : Program} {w : World} : (nestedKind P w).room A.in1 := by
  show A.in1.units + 8 < cLine
  have e : A.in1.units = A.units + 1 := rfl
  omega
theorem pe_ndget (hu : X.A.units + 64 < cLine) (ho : PE X o td) (hi : PE X i ty) (hs : NoSl i) (hw : X.w = w := by rfl) : PE X (.Subscript o i pos) (tNGet w td ty) := by
  refine ⟨fun pins s σ H Q I h => ?_⟩
  refine subD_of PySem.F.slot_dict_getitem.lookup hs (thn (ho.run pins s σ H _ I h) fun u s1 ⟨x, H1, I1, rx, q1⟩ => thn (hi.run pins s1 σ H1 _ I1 q1) fun iv s2 ⟨y, H2, I2, ry, a, b, es, k, v, g, hv, q2⟩ => ?_)
  obtain ⟨z, hd, xs, r, dd, hk⟩ := g.dn I2 hw
  cases g.ex
  cases g.ey
  obtain rfl : u = Value.ref a := rx
  obtain rfl : iv = Value.ref b := ry
  obtain ⟨w', hw', rw'⟩ := RelO.some_of (v := v) (o := (atKey xs k).map (·.2)) (by rw [← hv]; exact r.at k)
  obtain ⟨p, hp, hp2⟩ := Option.map_eq_some_iff.mp hw'
  refine ⟨dd.typeIs, wpAny_getItem_heap (n_room hu) hk dd hp ?_⟩
  rw [hp2]
  exact ⟨v, H2, I2.tok _, rw', q2⟩
theorem pc_nin (hu : X.A.units + 64 < cLine) (hi : PE X i ty) (ho : PE X o td) (hw : X.w = w := by rfl) : PC X .In i o (tNIn w ty td) := by
  refine ⟨fun pins s σ H Q I h => ?_⟩
  refine thn (hi.run pins s σ H _ I h) fun iv s1 ⟨y, H1, I1, ry, q1⟩ => thn (ho.run pins s1 σ H1 _ I1 q1) fun u s2 ⟨x, H2, I2, rx, a, b, es, k, g, q2⟩ => ?_
  obtain ⟨z, hd, xs, r, dd, hk⟩ := g.dn I2 hw
  cases g.ex
  cases g.ey
  obtain rfl : u = Value.ref a := rx
  obtain rfl : iv = Value.ref b := ry
  refine wpAny_in_heap (n_room hu) hk hd dd ?_
  rw [← r.some k]
  exact ⟨.bl _, H2, I2.tok _, rfl, q2⟩
theorem pc_nnot (hu : X.A.units + 64 < cLine) (hi : PE X i ty) (ho : PE X o td) (hw : X.w = w := by rfl) : PC X .NotIn i o (tNNot w ty td) := by
  refine ⟨fun pins s σ H Q I h => ?_⟩
  refine thn (hi.run pins s σ H _ I h) fun iv s1 ⟨y, H1, I1, ry, q1⟩ => thn (ho.run pins s1 σ H1 _ I1 q1) fun u s2 ⟨x, H2, I2, rx, a, b, es, k, g, q2⟩ => ?_
  obtain ⟨z, hd, xs, r, dd, hk⟩ := g.dn I2 hw
  cases g.ex
  cases g.ey
  obtain rfl : u = Value.ref a := rx
  obtain rfl : iv = Value.ref b := ry
  refine PyProof.Rows.wpAny_notIn_heap (n_room hu) hk hd dd ?_
  rw [← r.some k]
  exact ⟨.bl _, H2, I2.tok _, rfl, q2⟩
theorem ps_nput (hu : X.A.units + 64 < cLine) (ho : PE X o td) (hi : PE X i ty) (hv : PE X value tv) (hs : swapsWith value (some (.Subscript o i pos')) pos.line X.env = pure false) (hw : X.w = w := by rfl) :
    PS X (.Assign [.Subscript o i pos'] value pos) (sNPut w td ty tv) := by
  refine ⟨fun pins s σ H D I h => ?_⟩
  refine wpAny_Assign_Subscript (thn (hv.run pins s σ H _ I h) fun r s1 ⟨v, H1, I1, rv, q1⟩ => thn (ho.run pins s1 σ H1 _ I1 q1) fun u s2 ⟨x, H2, I2, rx, q2⟩ => thn (hi.run pins s2 σ H2 _ I2 q2) fun iv s3 ⟨y, H3, I3, ry, a, b, es, k, g, hl, q3⟩ => ?_) hs
  obtain ⟨z, hd, xs, rr, dd, hk⟩ := g.dn I3 hw
  subst hw
  cases g.ex
  cases g.ey
  obtain rfl : u = Value.ref a := rx
  obtain rfl : iv = Value.ref b := ry
  have hz : xs.length ≤ sizeLine := by rw [← rr.len]; exact z
  have hl2 : (putN es k b v).length ≤ sizeLine := Nat.le_trans putN_len hl
  refine wpAny_setItem_heap (hsz := hz) (n_room hu) hk dd fun h' dd' hs => ⟨σ, _, ?_, q3⟩
  have he : ∃ q, h'.get? a = some q := let ⟨q, _, _, hq, _⟩ := dd'; ⟨q, hq⟩
  exact d_write I3 (by rw [g.ha]; exact True.intro) hs he (dn_obj hl2 hd (rr.put k b rv) dd')
theorem ps_ndel (hu : X.A.units + 64 < cLine) (ho : PE X o td) (hi : PE X i ty) (hw : X.w = w := by rfl) : PS X (.Delete [.Subscript o i tpos] pos) (sNDel w td ty) := by
  refine ⟨fun pins s σ H D I h => ?_⟩
  refine wpAny_Delete (wpAny_deleteEach_cons (wpAny_delete_Subscript (thn (ho.run pins s σ H _ I h) fun u s1 ⟨x, H1, I1, rx, q1⟩ => thn (hi.run pins s1 σ H1 _ I1 q1) fun iv s2 ⟨y, H2, I2, ry, a, b, es, k, v, g, hv, q2⟩ => ?_)))
  obtain ⟨z, hd, xs, rr, dd, hk⟩ := g.dn I2 hw
  subst hw
  cases g.ex
  cases g.ey
  obtain rfl : u = Value.ref a := rx
  obtain rfl : iv = Value.ref b := ry
  have hz : xs.length ≤ sizeLine := by rw [← rr.len]; exact z
  obtain ⟨w', hw', rw'⟩ := RelO.some_of (v := v) (o := (atKey xs k).map (·.2)) (by rw [← hv]; exact rr.at k)
  obtain ⟨p, hp, hp2⟩ := Option.map_eq_some_iff.mp hw'
  refine wpAny_delItem_heap (hsz := hz) (n_room hu) hk hd dd hp fun h' dd' hs => wpAny_deleteEach_nil ⟨σ, _, ?_, q2⟩
  have he : ∃ q, h'.get? a = some q := let ⟨q, _, _, hq, _⟩ := dd'; ⟨q, hq⟩
  exact d_write I2 (by rw [g.ha]; exact True.intro) hs he (dn_obj (Nat.le_trans dropN_len z) hd (rr.drop k) dd')
theorem dn_type {H : Hp} {a : Addr} {es : List Ent} {pins : List (Addr × Obj)} {σ : St} {s : Shared} (I : Inv X pins σ H s) (e : H a = some (DN w a es)) : s.TypeIs (.ref a) "dict" ∧ ∀ b, Value.ref a = .ref b → ∃ ob, s.heap.get? b = some ob ∧ ob.dict = none := by
  obtain ⟨⟨z, y, xs, r, o, ds, ep, h1, h2, h3, h4, h5⟩, _, _⟩ := (show ObjOk X.prog X.w H s.heap a (DN w a es) from I.hok _ _ e)
  exact ⟨⟨o, h1, h2.1⟩, fun b q => by
    cases q
    exact ⟨o, h1, h2.2.1⟩⟩
theorem pe_npop {e : Expr} {apos cpos : Pos} (hu : X.A.units + 64 < cLine) (ho : PE X o td) (he : PE X e ty) (m : M1 X o "pop" apos e cpos) (hw : X.w = w := by rfl) : PE X (.Call (.Attribute o "pop" apos) [e] [] cpos) (tNPop w td ty) := by
  refine ⟨fun pins s σ H Q I h => ?_⟩
  refine wpAny_Call_method m.base m.few m.line PySem.F.plainAttrs_dict PySem.F.slot_dict_pop PySem.F.type_dict_pop (thn (ho.run pins s σ H _ I h) fun u s1 ⟨x, H1, I1, rx, ⟨a0, es0, ex, ea⟩, q1⟩ => ?_)
  cases ex
  obtain rfl : u = Value.ref a0 := rx
  obtain ⟨t1, t2⟩ := dn_type I1 ea
  refine ⟨t1, t2, ?_⟩
  rw [m.trees]
  refine Calls.callWith_builtin rfl (Calls.evalArgs_plain (Calls.spliced_cons (thn (he.run pins s1 σ H1 _ I1 q1) fun iv s2 ⟨y, H2, I2, ry, a, b, es, k, v, g, hv, q2⟩ => Calls.spliced_nil ?_)))
  obtain ⟨z, hd, xs, rr, dd, hk⟩ := g.dn I2 hw
  subst hw
  cases g.ex
  cases g.ey
  obtain rfl : iv = Value.ref b := ry
  have hz : xs.length ≤ sizeLine := by rw [← rr.len]; exact z
  obtain ⟨w', hw', rw'⟩ := RelO.some_of (v := v) (o := (atKey xs k).map (·.2)) (by rw [← hv]; exact rr.at k)
  obtain ⟨p, hp, hp2⟩ := Option.map_eq_some_iff.mp hw'
  refine call_pop_heap (hsz := hz) (.inl rfl) (PySem.F.args_dict_pop_2 _ _) (n_room hu) hk hd dd hp fun h' dd' hs => ?_
  have he : ∃ q, h'.get? a0 = some q := let ⟨q, _, _, hq, _⟩ := dd'; ⟨q, hq⟩
  rw [hp2]
  exact ⟨v, _, d_write I2 (by rw [g.ha]; exact True.intro) hs he (dn_obj (Nat.le_trans dropN_len z) hd (rr.drop k) dd'), rw', q2⟩
theorem pe_nnew (hw : X.w = w := by rfl) : PE X (.Dict [] [] pos) (tNNew w) := ⟨fun pins s σ H Q I h => by
  subst hw
  exact wpAny_Dict_empty ⟨.ref s.heap.objs.size, _, I.laid (a := s.heap.objs.size) (o := DN X.w s.heap.objs.size []) (t' := s.toks) (fun _ _ q => Heap.get?_push_of_some _ q) (Nat.le_refl _) (dn_empty s.heap I.big), rfl, h _ (I.hok.fresh (Nat.le_refl _))⟩⟩
end
end Hb

set_option Elab.async false
set_option maxRecDepth 100000
set_option maxHeartbeats 4000000
/-! sorted(..) of tuples of ints and of tuples of ints. -/
namespace Hb
open PySem L2 PyProof.Rows
/-! ### the order of rows of ints -/
abbrev lexI (x y : List Int) : Bool := HT.lexLt x y
theorem lexI_cons {x y : Int} {xs ys : List Int} : lexI (x :: xs) (y :: ys) = if x = y then lexI xs ys else decide (x < y) := rfl
theorem lexI_self : ∀ x : List Int, lexI x x = false
  | [] => rfl
  | x :: xs => by rw [lexI_cons, if_pos rfl]; exact lexI_self xs
theorem lexI_asym : ∀ x y : List Int, lexI x y = true → lexI y x = false
  | [], [], h => nomatch h
  | [], _ :: _, _ => rfl
  | _ :: _, [], h => nomatch h
  | x :: xs, y :: ys, h => by
    rw [lexI_cons] at h ⊢
    by_cases e : x = y
    · rw [if_pos e] at h
      rw [if_pos e.symm]
      exact lexI_asym xs ys h
    · rw [if_neg e] at h
      rw [if_neg (fun q => e q.symm)]
      have := of_decide_eq_true h
      exact decide_eq_false (by omega)
theorem lexI_tr : ∀ x y z : List Int, lexI y x = false → lexI z y = false → lexI z x = false
  | [], [], _, _, h => h
  | [], _ :: _, _, h1, _ => by
    rename_i z _
    cases z with
    | nil => rfl
    | cons z zs => rfl
  | _ :: _, [], _, h1, _ => nomatch h1
  | x :: xs, y :: ys, [], h1, h2 => nomatch h2
  | x :: xs, y :: ys, z :: zs, h1, h2 => by
    rw [lexI_cons] at h1 h2 ⊢
    by_cases e1 : y = x
    · subst e1
      rw [if_pos rfl] at h1
      by_cases e2 : z = y
      · subst e2
        rw [if_pos rfl] at h2
        rw [if_pos rfl]
        exact lexI_tr xs ys zs h1 h2
      · rw [if_neg e2] at h2 ⊢
        exact h2
    · rw [if_neg e1] at h1
      have g1 := of_decide_eq_false h1
      by_cases e2 : z = y
      · subst e2
        rw [if_neg e1]
        exact h1
      · rw [if_neg e2] at h2
        have g2 := of_decide_eq_false h2
        rw [if_neg (by omega)]
        exact decide_eq_false (by omega)
theorem lexI_total : ∀ x y : List Int, lexI x y = false → lexI y x = false → x = y
  | [], [], _, _ => rfl
  | [], _ :: _, h, _ => nomatch h
  | _ :: _, [], _, h => nomatch h
  | x :: xs, y :: ys, h1, h2 => by
    rw [lexI_cons] at h1 h2
    by_cases e : x = y
    · subst e
      rw [if_pos rfl] at h1 h2
      rw [lexI_total xs ys h1 h2]
    · rw [if_neg e] at h1
      rw [if_neg (fun q => e q.symm)] at h2
      have g1 := of_decide_eq_false h1
      have g2 := of_decide_eq_false h2
      omega
theorem lexI_app : ∀ {x y r t : List Int}, x.length = y.length → lexI (x ++ r) (y ++ t) = if x = y then lexI r t else lexI x y
  | [], [], r, t, _ => by rw [if_pos rfl]; rfl
  | x :: xs, y :: ys, r, t, h => by
    have h' : xs.length = ys.length := by simpa using h
    show lexI (x :: (xs ++ r)) (y :: (ys ++ t)) = _
    rw [lexI_cons, lexI_cons]
    by_cases e : x = y
    · subst e
      rw [if_pos rfl, if_pos rfl, lexI_app h']
      by_cases e2 : xs = ys
      · rw [if_pos e2, if_pos (by rw [e2])]
      · rw [if_neg e2, if_neg (fun q => e2 (List.cons.inj q).2)]
    · rw [if_neg e, if_neg e, if_neg (fun q => e (List.cons.inj q).1)]
theorem swo_lexI {α : Type} (f : α → List Int) : SrtO.Swo fun x y => lexI (f x) (f y) := ⟨fun _ _ => lexI_asym _ _, fun _ _ _ => lexI_tr _ _ _⟩
/-! ### tuples of ints and of tuples of ints -/
abbrev Itm := Int ⊕ List Int
def flI : Itm → List Int
  | .inl i => [i]
  | .inr ns => ns
def flK (ks : List Itm) : List Int := ks.flatMap flI
def shp : Itm → Option Nat
  | .inl _ => none
  | .inr ns => some ns.length
def nkI : Itm → NestedKey
  | .inl i => .num i
  | .inr ns => .tup (ns.map .num)
def nkK (ks : List Itm) : NestedKey := .tup (ks.map nkI)
theorem shp_len {x y : Itm} (h : shp x = shp y) : (flI x).length = (flI y).length := by
  cases x with
  | inl i =>
    cases y with
    | inl j => rfl
    | inr ms => cases h
  | inr ns =>
    cases y with
    | inl j => cases h
    | inr ms => exact Option.some.inj h
theorem flI_inj {x y : Itm} (h : shp x = shp y) (e : flI x = flI y) : x = y := by
  cases x with
  | inl i =>
    cases y with
    | inl j => cases e; rfl
    | inr ms => cases h
  | inr ns =>
    cases y with
    | inl j => cases h
    | inr ms => cases e; rfl
theorem flK_inj : ∀ {xs ys : List Itm}, xs.map shp = ys.map shp → flK xs = flK ys → xs = ys
  | [], [], _, _ => rfl
  | [], _ :: _, h, _ => nomatch h
  | _ :: _, [], h, _ => nomatch h
  | x :: xs, y :: ys, h, e => by
    have h1 : shp x = shp y := (List.cons.inj h).1
    have e' : flI x ++ flK xs = flI y ++ flK ys := e
    have h2 := List.append_inj e' (shp_len h1)
    rw [flI_inj h1 h2.1, flK_inj (List.cons.inj h).2 h2.2]
theorem nums_inj : ∀ {a b : List Int}, a.map NestedKey.num = b.map NestedKey.num → a = b
  | [], [], _ => rfl
  | [], _ :: _, h => nomatch h
  | _ :: _, [], h => nomatch h
  | x :: xs, y :: ys, h => by
    have h1 := List.cons.inj h
    rw [NestedKey.num.inj h1.1, nums_inj h1.2]
theorem nkI_inj {x y : Itm} (h : nkI x = nkI y) : x = y := by
  cases x with
  | inl i =>
    cases y with
    | inl j => cases h; rfl
    | inr ms => cases h
  | inr ns =>
    cases y with
    | inl j => cases h
    | inr ms => rw [nums_inj (NestedKey.tup.inj h)]
section
variable {prog : Program} {w : World} {A : Around} {E : Value → Shared → Prop} {s : Shared}
theorem lt_any {f : Bool} {a b : Int} {t u : Tok} {Q : Bool → Shared → Prop} (h : Q (decide (a < b)) s) : wpAny (model prog w) A (oneLt' f (.int a t) (.int b u)) Q (fun _ _ => False) s := by
  cases f with
  | true => exact oneLt_int h
  | false => exact PySem.W.kat_one _ _ (lt_int h)
/-- an item of such a tuple -/
def ItIs (h : Heap) : Itm → Value → Prop
  | .inl i, v => ∃ t, v = .int i t
  | .inr ns, v => ∃ p items, v = .ref p ∧ IsTup h p items ∧ IntsAre items.toList ns
def K2Is (h : Heap) (ks : List Itm) (v : Value) : Prop := ∃ p o n vs, v = .ref p ∧ h.get? p = some o ∧ o.cls = .type "tuple" ∧ o.data = .seq vs n ∧ Paired (ItIs h) ks vs.toList
theorem ItIs.keeps {h h' : Heap} (k : ∀ b o, h.get? b = some o → o.cls = .type "tuple" → h'.get? b = some o) {x : Itm} {v : Value} (r : ItIs h x v) : ItIs h' x v := by
  cases x with
  | inl i => exact r
  | inr ns =>
    obtain ⟨p, items, e, ⟨o, ho, hc, n, hd⟩, hi⟩ := r
    exact ⟨p, items, e, ⟨o, k _ _ ho hc, hc, n, hd⟩, hi⟩
theorem K2Is.keeps {h h' : Heap} (k : ∀ b o, h.get? b = some o → o.cls = .type "tuple" → h'.get? b = some o) {ks : List Itm} {v : Value} (r : K2Is h ks v) : K2Is h' ks v := by
  obtain ⟨p, o, n, vs, e, ho, hc, hd, r⟩ := r
  exact ⟨p, o, n, vs, e, k _ _ ho hc, hc, hd, Paired.mapP r fun a b => ItIs.keeps k⟩
theorem ints_nested {h : Heap} : ∀ {vs : List Value} {ns : List Int}, IntsAre vs ns → NestedAll h (ns.map .num) vs
  | _, _, .nil => .nil
  | _, _, .cons i t r => .cons (.int i t) (ints_nested r)
theorem ItIs.nested {h : Heap} {x : Itm} {v : Value} (r : ItIs h x v) : NestedIs h (nkI x) v := by
  cases x with
  | inl i =>
    obtain ⟨t, rfl⟩ := r
    exact .int i t
  | inr ns =>
    obtain ⟨p, items, rfl, ⟨o, ho, hc, n, hd⟩, hi⟩ := r
    exact .tup ho hc hd (ints_nested hi)
theorem depth_nums : ∀ ns : List Int, NestedKey.depthAll (ns.map .num) ≤ 1
  | [] => by simp [NestedKey.depthAll]
  | n :: ns => by
    have := depth_nums ns
    simp only [List.map_cons, NestedKey.depthAll, NestedKey.depth]
    omega
theorem depth_nkI (x : Itm) : (nkI x).depth ≤ 2 := by
  cases x with
  | inl i => simp [nkI, NestedKey.depth]
  | inr ns =>
    have := depth_nums ns
    simp only [nkI, NestedKey.depth]
    omega
theorem k2_lex {b fin : Bool} {Q : Bool → Shared → Prop} (hu : A.units + 2 < cLine) : ∀ {xs ys : List Itm} {vs ws : List Value} {i : Nat}, Paired (ItIs s.heap) xs vs → Paired (ItIs s.heap) ys ws → xs.map shp = ys.map shp → (b = true → i = 0 → ∀ x ∈ xs.head?, shp x = none) → fin = false → Q (lexI (flK xs) (flK ys)) s →
    PySem.W.KatLex prog w A b fin Q (vs.zip ws) i s
  | _, _, _, _, i, .nil, .nil, _, _, hf, h => by
    subst hf
    exact PySem.W.kat_nil h
  | _, _, _, _, _, .nil, .cons _ _, hs, _, _, _ => nomatch hs
  | _, _, _, _, _, .cons _ _, .nil, hs, _, _, _ => nomatch hs
  | x :: xs, y :: ys, v :: vs, u :: us, i, .cons r rs, .cons q qs, hs, hb, hf, h => by
    have h1 : shp x = shp y := (List.cons.inj hs).1
    have h2 := (List.cons.inj hs).2
    have e : lexI (flK (x :: xs)) (flK (y :: ys)) = if flI x = flI y then lexI (flK xs) (flK ys) else lexI (flI x) (flI y) := lexI_app (shp_len h1)
    rw [e] at h
    refine PySem.W.kat_cons (eqAt_key (nkI x) (nkI y) A s v u r.nested q.nested (by have := depth_nkI x; omega) prog w _ _ ?_)
    rw [← NestedKey.decide_eq]
    refine PySem.W.kat_go (fun e1 => ?_) (fun e1 => ?_)
    · have e2 : x = y := nkI_inj (of_decide_eq_true e1)
      rw [if_pos (by rw [e2])] at h
      exact PySem.W.kat_yes (k2_lex hu rs qs h2 (fun _ z => nomatch z) hf h)
    · have e2 : ¬ flI x = flI y := fun z => of_decide_eq_false e1 (by rw [flI_inj h1 z])
      rw [if_neg e2] at h
      refine PySem.W.kat_no ?_
      cases x with
      | inl n =>
        cases y with
        | inr ms => cases h1
        | inl m =>
          obtain ⟨t, rfl⟩ := r
          obtain ⟨t', rfl⟩ := q
          have e3 : lexI (flI (.inl n)) (flI (.inl m)) = decide (n < m) := by
            show lexI [n] [m] = _
            rw [lexI_cons, if_neg (fun z => e2 (by rw [z]))]
          rw [e3] at h
          exact lt_any h
      | inr ns =>
        cases y with
        | inl m => cases h1
        | inr ms =>
          have hc : (b && i == 0) = false := by
            cases hb1 : b with
            | false => rfl
            | true =>
              cases hi : i == 0 with
              | false => rfl
              | true =>
                have := hb hb1 (by simpa using hi) (.inr ns) rfl
                cases this
          rw [hc]
          obtain ⟨p, its, rfl, ht, hi⟩ := r
          obtain ⟨p', its', rfl, ht', hi'⟩ := q
          exact PySem.W.kat_one _ _ (HT.lt_tupInts ht ht' hi hi' (by omega) h)
theorem paired_len {α β : Type} {R : α → β → Prop} {xs : List α} {ys : List β} (h : Paired R xs ys) : xs.length = ys.length := Paired.length h
/-- the first items -/
theorem firsts2 {h : Heap} {k : Value → List Itm} {c : Option Nat} {sh : List (Option Nat)} : ∀ {vs : List Value}, (∀ v ∈ vs, K2Is h (k v) v ∧ (k v).map shp = c :: sh) → ∃ fs : List Value, PySem.W.KatTups h vs fs ∧ fs.length = vs.length ∧ ∀ f ∈ fs, ∃ x, ItIs h x f ∧ shp x = c
  | [], _ => ⟨[], PySem.W.KatTups.nil, rfl, fun _ hm => by simp at hm⟩
  | v :: vs, hp => by
    obtain ⟨fs, h1, h2, h3⟩ := firsts2 (vs := vs) fun v' hm => hp v' (List.mem_cons_of_mem _ hm)
    obtain ⟨⟨p, o, n, ws, e, ho, hc, hd, r⟩, hsh⟩ := hp v (List.mem_cons_self ..)
    generalize k v = ks at r hsh
    match ks, hsh, hw : ws.toList, r with
    | x :: ks, hsh, u :: us, .cons r _ =>
      subst e
      refine ⟨u :: fs, PySem.W.KatTups.cons ho hc hd (by rw [← Array.getElem?_toList, hw]; rfl) h1, by rw [List.length_cons, List.length_cons, h2], fun f hm => ?_⟩
      rcases List.mem_cons.mp hm with rfl | hm
      · exact ⟨x, r, (List.cons.inj hsh).1⟩
      · exact h3 f hm
theorem k2_cmp {vs : List Value} {k : Value → List Itm} {b : Bool} {c : Option Nat} {sh : List (Option Nat)} (hu : A.units + 2 < cLine) (hb : b = true → c = none) (hp : ∀ v ∈ vs, K2Is s.heap (k v) v ∧ (k v).map shp = c :: sh) : SrtO.Cmp prog w A s (tuples' b) (fun p => p.1 ∈ vs) (SrtO.lt2 fun v u => lexI (flK (k v)) (flK (k u))) := by
  intro p q hm hm'
  obtain ⟨⟨a, o, n, ws, e, ho, hc, hd, r⟩, hs⟩ := hp _ hm
  obtain ⟨⟨a', o', n', ws', e', ho', hc', hd', r'⟩, hs'⟩ := hp _ hm'
  show wpAny (model prog w) A (keyLt' (tuples' b) p.1 q.1) (fun r s' => s' = s ∧ r = lexI (flK (k p.1)) (flK (k q.1))) (fun _ _ => False) s
  generalize k p.1 = ks at r hs ⊢
  generalize k q.1 = ks' at r' hs' ⊢
  rw [e, e']
  refine PySem.W.kat_lt ho hd ho' hd' ?_
  have l1 : ks.length = ws.size := by
    have := paired_len r
    simpa using this
  have l2 : ks'.length = ws'.size := by
    have := paired_len r'
    simpa using this
  have l3 : ks.length = ks'.length := by
    have := congrArg List.length (hs.trans hs'.symm)
    simpa using this
  refine k2_lex hu r r' (hs.trans hs'.symm) (fun h1 _ x hx => ?_) ?_ ⟨rfl, rfl⟩
  · match ks, hs, hx with
    | y :: ks, hs, hx =>
      cases hx
      rw [← hb h1]
      exact (List.cons.inj hs).1
  · exact decide_eq_false (by omega)
theorem k2_sortable {a : Addr} {vs : List Value} {k : Value → List Itm} {c : Option Nat} {sh : List (Option Nat)} (hu : A.units + 2 < cLine) (h0 : 0 < vs.length) (hp : ∀ v ∈ vs, K2Is s.heap (k v) v ∧ (k v).map shp = c :: sh) (ha : ∀ o, s.heap.get? a = some o → o.cls ≠ .type "tuple") : SrtO.SortableO prog w A s a vs fun v u => lexI (flK (k v)) (flK (k u)) := by
  intro h' keep
  have hp' : ∀ v ∈ vs, K2Is h' (k v) v ∧ (k v).map shp = c :: sh := fun v hm => ⟨(hp v hm).1.keeps fun b o e cc => keep b o (fun z => by subst z; exact ha o e cc) e, (hp v hm).2⟩
  obtain ⟨fs, h1, h2, h3⟩ := firsts2 hp'
  cases c with
  | none =>
    refine ⟨tuples' true, fun Q E hq => ?_, k2_cmp hu (fun _ => rfl) hp'⟩
    refine PySem.W.kat_kind (T := .type "int") h1 (by omega) (fun f hm => ?_) (by rfl) ?_
    · obtain ⟨x, r, e⟩ := h3 f hm
      cases x with
      | inr ns => cases e
      | inl i =>
        obtain ⟨t, rfl⟩ := r
        exact PySem.W.Looks.now
    · have e : (Value.type "int" != Value.type "tuple") = true := by first | decide +kernel | rfl | decide
      rw [e]
      exact hq
  | some n =>
    refine ⟨tuples' false, fun Q E hq => ?_, k2_cmp hu (fun z => nomatch z) hp'⟩
    refine PySem.W.kat_kind (T := .type "tuple") h1 (by omega) (fun f hm => ?_) (by rfl) ?_
    · obtain ⟨x, r, e⟩ := h3 f hm
      cases x with
      | inl i => cases e
      | inr ns =>
        obtain ⟨p, its, rfl, ⟨o, ho, hc, n, hd⟩, hi⟩ := r
        exact (PySem.W.Looks.ld ho).andThen (by rw [hc]; exact .now)
    · have e : (Value.type "tuple" != Value.type "tuple") = false := by first | decide +kernel | rfl | decide
      rw [e]
      exact hq
end
/-! ### as rules -/
theorem nums_ints {H : Hp} : ∀ {ns : List Int} {vs : List V} {us : List Value}, NKs H (ns.map .num) vs → Vals vs us → IntsAre us ns
  | [], _, _, .nil, r => by cases r; exact .nil
  | n :: ns, _, _, .cons h hs, r => by
    cases h
    cases r with
    | cons r1 r2 =>
      obtain ⟨t, rfl⟩ := r1
      exact .cons n t (nums_ints hs r2)
theorem NK.it {P : Program} {w : World} {H : Hp} {h : Heap} (ok : HOk P w H h) {x : Itm} {v : V} {u : Value} (hk : NK H (nkI x) v) (r : RelV v u) : ItIs h x u := by
  cases x with
  | inl i =>
    cases hk
    exact r
  | inr ns =>
    cases hk with
    | tup e hs =>
      cases (show u = Value.ref _ from r)
      obtain ⟨_, its, r2, ht⟩ := ok _ _ e
      exact ⟨_, _, rfl, ht, nums_ints hs r2⟩
theorem NKs.its {P : Program} {w : World} {H : Hp} {h : Heap} (ok : HOk P w H h) : ∀ {ks : List Itm} {vs : List V} {us : List Value}, NKs H (ks.map nkI) vs → Vals vs us → Paired (ItIs h) ks us
  | [], _, _, .nil, r => by cases r; exact .nil
  | k :: ks, _, _, .cons hk hs, r => by
    cases r with
    | cons r1 r2 => exact .cons (hk.it ok r1) (NKs.its ok hs r2)
theorem NK.k2 {P : Program} {w : World} {H : Hp} {h : Heap} (ok : HOk P w H h) {ks : List Itm} {b : Addr} (hk : NK H (nkK ks) (.ref b)) : K2Is h ks (.ref b) := by
  cases hk with
  | tup e hs =>
    obtain ⟨_, its, r2, o, ho, hc, n, hd⟩ := ok _ _ e
    exact ⟨b, o, n, _, rfl, ho, hc, hd, NKs.its ok hs r2⟩
theorem _root_.Hb.RelEs.addrs : ∀ {es : List Ent} {xs : List (NestedKey × Addr × Value)}, RelEs es xs → es.map (fun e => Value.ref e.2.1) = xs.map fun x => Value.ref x.2.1
  | _, _, .nil => rfl
  | _, _, .cons h t => by rw [List.map_cons, List.map_cons, RelEs.addrs t, h.2.1]
/-- by the ints of the keys -/
abbrev ltK (k : V → List Itm) (x y : V) : Bool := lexI (flK (k x)) (flK (k y))
theorem ltK_swo (k : V → List Itm) : SrtO.Swo (ltK k) := swo_lexI fun x => flK (k x)
/-- sorted(xs): xs a list of such tuples, all of one shape -/
def rSortN (K : PySem.W.Frag) (c : Option Nat) (sh : List (Option Nat)) : List V → Hp → VK → Prop := fun vs H Q => ∃ (a : Addr) (xs : List V) (k : V → List Itm), vs = [V.ref a] ∧ SqL K H a xs ∧ (∀ x ∈ xs, (∃ b, x = V.ref b) ∧ NK H (nkK (k x)) x ∧ (k x).map shp = c :: sh) ∧
  ∀ ys p, SrtO.Srtd (ltK k) ys → SrtO.Stb (ltK k) ys xs → H p = none → Q (.ref p) (upd H p (.lst ys))
/-- sorted(d) of a dict with such keys -/
def rSortDN (w : World) (c : Option Nat) (sh : List (Option Nat)) : List V → Hp → VK → Prop := fun vs H Q => ∃ (a : Addr) (es : List Ent) (k : V → List Itm), vs = [V.ref a] ∧ H a = some (DN w a es) ∧ (∀ e ∈ es, NK H (nkK (k (.ref e.2.1))) (.ref e.2.1) ∧ (k (.ref e.2.1)).map shp = c :: sh) ∧
  ∀ ys p, SrtO.Srtd (ltK k) ys → SrtO.Stb (ltK k) ys (es.map fun e => V.ref e.2.1) → H p = none → Q (.ref p) (upd H p (.lst ys))
section
variable {X : Cx} {c : Option Nat} {sh : List (Option Nat)} {K : PySem.W.Frag} {w : World}
theorem cr_sortN (hu : X.A.units + 64 < cLine) (hK : X.K = K := by rfl) : CallR X (.builtin "sorted") (rSortN K c sh) := by
  subst hK
  intro pins s σ H vs us Q I r h
  obtain ⟨a, xs, k, rfl, hs, hx, q⟩ := h
  obtain ⟨its, rv, hl, hz⟩ := I.list hs
  obtain ⟨u, rfl, ru⟩ := vals1 r
  obtain rfl : u = Value.ref a := ru
  obtain ⟨e1, e2⟩ := refs_back rv fun x m => (hx x m).1
  have hp : ∀ v ∈ its, K2Is s.heap (k (backV v)) v ∧ (k (backV v)).map shp = c :: sh := fun v hv => by
    obtain ⟨t, rfl⟩ := e2 v hv
    have hm : V.ref t ∈ xs := by
      rw [e1]
      exact List.mem_map.mpr ⟨_, hv, rfl⟩
    obtain ⟨_, h1, h2⟩ := hx _ hm
    exact ⟨NK.k2 I.hok h1, h2⟩
  have hu2 : X.A.in1.in1.units + 2 < cLine := by
    have e : X.A.in1.in1.units = X.A.units + 1 + 1 := rfl
    omega
  refine SrtO.sorted_ord (ltv := fun v u => lexI (flK (k (backV v))) (flK (k (backV u)))) (swo_lexI fun v => flK (k (backV v))) hl.isList (by rw [← rv.length]; exact hz) (fun h2 h₁ a ha kk => ?_) fun out h1 h2 => ?_
  · refine k2_sortable (s := { s with heap := h₁ }) hu2 (by omega) (fun v hm => ⟨(hp v hm).1.keeps fun b o e _ => (kk b o e).2, (hp v hm).2⟩) fun o e => ?_
    have e' : some o = some (seqObj "list" its.toArray 0) := e.symm.trans ha
    cases e'
    intro cc
    exact absurd (Value.type.inj cc) (by decide)
  · have h3 : ∀ u ∈ out, ∃ a, u = Value.ref a := fun u hu => e2 u (h2.perm.mem_iff.mp hu)
    obtain ⟨n, hn⟩ := sortedAll_at s.heap its out.toArray
    have hb : SrtO.Stb (ltK k) (out.map backV) xs := by
      rw [e1]
      exact SrtO.Stb.map (ltK_swo k) backV h2
    refine ⟨.ref (s.heap.objs.size + 1), upd H (s.heap.objs.size + 1) (.lst (out.map backV)), I.laid (t' := s.toks) (fun b o e => sortedAll_old e) (Nat.le_succ _) ⟨?_, out, n, vals_back h3, hn⟩, rfl, q _ _ (SrtO.srtd_map h1) hb (I.hok.fresh (Nat.le_succ _))⟩
    rw [hb.len]
    exact hz
theorem cr_sortDN (hc : X.calm = true) (hu : X.A.units + 64 < cLine) (hw : X.w = w := by rfl) : CallR X (.builtin "sorted") (rSortDN w c sh) := by
  subst hw
  intro pins s σ H vs us Q I r h
  obtain ⟨a, es, k, rfl, ha, hx, q⟩ := h
  obtain ⟨u, rfl, ru⟩ := vals1 r
  obtain rfl : u = Value.ref a := ru
  obtain ⟨⟨z, lo, xs, rel, o, ds, ep, h1, h2, h3, h4, h5⟩, _, _⟩ := (show ObjOk X.prog X.w H s.heap a (DN X.w a es) from I.hok _ _ ha)
  have hu2 : X.A.in1.in1.units + 2 < cLine := by
    have e : X.A.in1.in1.units = X.A.units + 1 + 1 := rfl
    omega
  have hsz : ds.size = es.length := by
    rw [← Array.length_toList, h4, List.length_map, rel.len]
  refine Calls.call_function_entry kind_sorted plain_sorted entry_sorted (args_sorted1 _) ?_
  unfold Builtin.«sorted»
  refine wpAny_bind (m := checkCount "sorted" 1 1 _) (wpAny_pure ?_)
  refine wpAny_bind (PySem.W.kdu_collect (A := X.A.in1) (kdl_raw lo h2 h3) (I.ok.hd hc) h1 (by rw [hsz]; exact z) fun h' tk acc hk hacc => ?_)
  have hal : acc.toList.length = es.length := by rw [Array.length_toList, hacc.1, hsz]
  have hac : acc.toList = es.map fun e => Value.ref e.2.1 := by
    refine List.ext_getElem? fun j => ?_
    rw [List.getElem?_map]
    cases e1 : acc.toList[j]? with
    | none =>
      have g1 := List.getElem?_eq_none_iff.mp e1
      rw [List.getElem?_eq_none (by omega)]
      rfl
    | some v =>
      obtain ⟨en, g1, g2⟩ := hacc.2 j v (by rw [← Array.getElem?_toList]; exact e1)
      rw [← Array.getElem?_toList, h4, List.getElem?_map] at g1
      obtain ⟨x, g3, g4⟩ := Option.map_eq_some_iff.mp g1
      have g5 : (es.map fun e => Value.ref e.2.1)[j]? = some (Value.ref x.2.1) := by
        have g6 : es.map (fun e => Value.ref e.2.1) = xs.map fun x => Value.ref x.2.1 := by
          exact rel.addrs
        rw [g6, List.getElem?_map, g3]
        rfl
      rw [List.getElem?_map] at g5
      rw [g5, g2, ← g4]
      rfl
  have I1 : Inv X pins σ H { s with heap := h', toks := tk } := I.kept hk
  have hp : ∀ v ∈ acc.toList, K2Is h' (k (backV v)) v ∧ (k (backV v)).map shp = c :: sh := fun v hv => by
    rw [hac] at hv
    obtain ⟨e, he, rfl⟩ := List.mem_map.mp hv
    obtain ⟨g1, g2⟩ := hx e he
    exact ⟨NK.k2 I1.hok g1, g2⟩
  refine wpAny_bind (wpAny_newList ?_ (by rw [hal]; exact z))
  have hoL : (h'.push (seqObj "list" acc.toList.toArray 0)).get? h'.objs.size = some (seqObj "list" acc.toList.toArray 0) := Heap.get?_push_size _ rfl
  show wpAny _ _ _ _ _ { s with heap := h'.push (seqObj "list" acc.toList.toArray 0), toks := tk }
  refine wpAny_bind (wpAny_holding (wpAny_call_entry slot_list_sort ⟨_, hoL, rfl⟩ entry_list_sort
    (SrtO.list_sort_ord (s := { s with heap := h'.push (seqObj "list" acc.toList.toArray 0), toks := tk }) (ltv := fun v u => lexI (flK (k (backV v))) (flK (k (backV u)))) (swo_lexI fun v => flK (k (backV v))) hoL (by rw [hal]; exact z) (fun g0 => ?_) fun out g1 g2 => ⟨_, rfl, ?_⟩) (args_list_sort _)))
  · refine k2_sortable (s := { s with heap := h'.push (seqObj "list" acc.toList.toArray 0), toks := tk }) hu2 (by omega) (fun v hm => ⟨(hp v hm).1.keeps fun b o e _ => Heap.get?_push_of_some _ e, (hp v hm).2⟩) fun o e => ?_
    have e' : some o = some (seqObj "list" acc.toList.toArray 0) := e.symm.trans hoL
    cases e'
    intro cc
    exact absurd (Value.type.inj cc) (by decide)
  · obtain ⟨e', he'⟩ := sortedHeap_at (vs := acc.toList) (out := out.toArray) hoL
    have g3 : ∀ u ∈ out, ∃ a, u = Value.ref a := fun u hu => by
      have hm := g2.perm.mem_iff.mp hu
      rw [hac] at hm
      obtain ⟨e, _, rfl⟩ := List.mem_map.mp hm
      exact ⟨_, rfl⟩
    have hb : SrtO.Stb (ltK k) (out.map backV) (es.map fun e => V.ref e.2.1) := by
      have hm := SrtO.Stb.map (ltK_swo k) backV g2
      rw [hac, List.map_map] at hm
      exact hm
    refine wpAny_pure ⟨_, rfl, .ref h'.objs.size, upd H h'.objs.size (.lst (out.map backV)), I1.laid (t' := tk) (fun b u e => ?_) (Nat.le_refl _)
      (show ObjOk X.prog X.w _ _ _ (.lst (out.map backV)) from ⟨?_, out, e', vals_back g3, he'⟩), rfl, q _ _ (SrtO.srtd_map g1) hb (I1.hok.fresh (Nat.le_refl _))⟩
    · have hlt : b < h'.objs.size := Heap.lt_size e
      rw [sortedHeap_old (Nat.ne_of_lt hlt) (by rw [size_push']; exact Nat.lt_succ_of_lt hlt)]
      exact Heap.get?_push_of_some _ e
    · rw [hb.len, List.length_map]
      exact z
end
/-! ### min and max of two tuples of ints -/
section
open PySem.SeqAt
open PySem.W (keyToksAll dataLt alike alikeAll dataLt_cons dataLt_int AlikeAll reads_keeps iter_tupleW cmpIn_lt cmpIn_gt moved_old)
theorem toks_ints : ∀ ns ms : List Int, PyProof.Rows.lexLt itemOrd (keyToksAll (ns.map .int)) (keyToksAll (ms.map .int)) = lexI ns ms
  | [], [] => lex_irrefl _
  | [], m :: ms => by
    show PyProof.Rows.lexLt itemOrd [.inl 0] (.inl 1 :: _) = true
    exact lex_diff (by decide)
  | n :: ns, [] => by
    show PyProof.Rows.lexLt itemOrd (.inl 1 :: _) [.inl 0] = false
    exact lex_diff (by decide)
  | n :: ns, m :: ms => by
    show PyProof.Rows.lexLt itemOrd (keyToksAll (.int n :: ns.map .int)) (keyToksAll (.int m :: ms.map .int)) = _
    rw [dataLt_cons (by rfl), lexI_cons, dataLt_int, toks_ints ns ms]
    have e : PyData.eqv (.int n) (.int m) = (n == m) := by simp only [PyData.eqv]
    rw [e]
    by_cases h : n = m
    · rw [if_pos h, if_pos (by rw [h]; exact beq_self_eq_true m)]
    · rw [if_neg h, if_neg (fun z => h (by simpa using z))]
theorem dataLt_ints (ns ms : List Int) : dataLt (.tuple (ns.map .int)) (.tuple (ms.map .int)) = lexI ns ms := toks_ints ns ms
theorem alike_ints : ∀ {ns ms : List Int}, ns.length = ms.length → alikeAll (ns.map .int) (ms.map .int) = true
  | [], [], _ => by simp [alikeAll]
  | n :: ns, m :: ms, h => by
    simp only [List.map_cons, alikeAll, alike, Bool.true_and]
    exact alike_ints (by simpa using h)
theorem depth_ints : ∀ ns : List Int, PyData.depthAll (ns.map .int) ≤ 1
  | [] => by simp [PyData.depthAll]
  | n :: ns => by
    have := depth_ints ns
    simp only [List.map_cons, PyData.depthAll, PyData.depth]
    omega
section
variable {prog : Program} {w : World} {A : Around} {E : Value → Shared → Prop} {s : Shared}
theorem alike2 {ns ms : List Int} (hl : ns.length = ms.length) : AlikeAll [PyData.tuple (ns.map .int), .tuple (ms.map .int)] := by
  have a : ∀ x y : List Int, x.length = y.length → alike (.tuple (x.map .int)) (.tuple (y.map .int)) = true := fun x y h => by
    simp only [alike]
    exact alike_ints h
  refine ⟨fun x hx y hy => ?_, fun x hx => ?_⟩
  · simp only [List.mem_cons, List.not_mem_nil, or_false] at hx hy
    rcases hx with rfl | rfl <;> rcases hy with rfl | rfl
    · exact a _ _ rfl
    · exact a _ _ hl
    · exact a _ _ hl.symm
    · exact a _ _ rfl
  · simp only [List.mem_cons, List.not_mem_nil, or_false] at hx
    rcases hx with rfl | rfl <;> exact fun z => nomatch z
theorem depth2 {ns ms : List Int} : PyData.depthAll [PyData.tuple (ns.map .int), .tuple (ms.map .int)] ≤ 2 := by
  have h1 := depth_ints ns
  have h2 := depth_ints ms
  simp only [PyData.depthAll, PyData.depth]
  omega
theorem min_two_tups {a b : Addr} {ns ms : List Int} {as bs : List Addr} {Q : Value → Shared → Prop} (hh : A.handled = none) (hu : A.units + 3 < cLine) (r1 : Reads s.heap (.ref a) (.tuple (ns.map .int)) as) (r2 : Reads s.heap (.ref b) (.tuple (ms.map .int)) bs) (hl : ns.length = ms.length)
    (h : ∀ h' tk, (∀ c o, s.heap.get? c = some o → h'.get? c = some o) → Q (.ref (if lexI ms ns = true then b else a)) { s with heap := h', toks := tk }) :
    wpAny (model prog w) A (call (.builtin "min") [.ref a, .ref b]) Q E s := by
  have hname : (toString "min" ++ toString ".loop" : String) = "min.loop" := by decide
  refine call_function_tree PySem.F.kind_min PySem.F.plain_min PySem.F.entry_min (PySem.F.args_min2 _ _) ?_
  show wpAny _ A.in1 (Builtin.Builtins.bindParams "min" ["key", "default"] 0 ⟨[], []⟩ >>= _) _ _ s
  refine wpAny_bind (wpAny_of_eq (show Builtin.Builtins.bindParams "min" ["key", "default"] 0 ⟨[], []⟩ = pure [none, none] from rfl) ?_)
  show wpAny _ A.in1 (newTuple [.ref a, .ref b] >>= _) _ _ s
  refine wpAny_bind (wpAny_newObj_type ?_)
  have k0 : ∀ c o, s.heap.get? c = some o → (s.heap.push { cls := .type "tuple", data := .seq #[Value.ref a, .ref b] }).get? c = some o := fun c o e => Heap.get?_push_of_some _ e
  have hT : (s.heap.push { cls := .type "tuple", data := .seq #[Value.ref a, .ref b] }).IsTuple s.heap.objs.size #[.ref a, .ref b] := ⟨_, Heap.get?_push_size _ rfl, rfl, 0, rfl⟩
  have hr : ReadsAll (s.heap.push { cls := .type "tuple", data := .seq #[Value.ref a, .ref b] }) (#[Value.ref a, .ref b] : Array Value).toList [PyData.tuple (ns.map .int), .tuple (ms.map .int)] (as ++ (bs ++ [])) := .cons (reads_keeps k0 r1) (.cons (reads_keeps k0 r2) .nil)
  refine wpAny_bind (iter_tupleW (A := A.in1) (s := { s with heap := s.heap.push { cls := .type "tuple", data := .seq #[Value.ref a, .ref b] } }) hh hT fun s₂ e W st hfp hw hk => ?_)
  refine wpAny_bind (wpAny_newObj_type ?_)
  have hSf : s₂.heap.objs.size ∉ [(s.heap.push { cls := .type "tuple", data := .seq #[Value.ref a, .ref b] }).objs.size, s.heap.objs.size] := fun hm => Nat.lt_irrefl _ (hfp _ hm)
  rw [hname]
  have hcm := cmpIn_lt (prog := prog) (w := w) (A := A.in1) (s := { s with heap := s.heap.push { cls := .type "tuple", data := .seq #[Value.ref a, .ref b] } }) hr (alike2 hl) (by
    have := depth2 (ns := ns) (ms := ms)
    show A.units + 1 + _ < cLine
    omega)
  refine wpAny_pure ⟨plainId_quiet PySem.F.plain_min_loop _, codeAny_min_loop_firstH W _ hw _ hcm s₂.heap.objs.size hSf (fresh_in hk) _ (Nat.succ_pos 1) (fun b o e => Heap.get?_push_of_some _ (hk b o e)) (W.frame 0 s₂ _ s₂.toks st (Nat.le_refl _) fun b _ o e => Heap.get?_push_of_some _ e) (Heap.get?_push_size _ rfl) fun v s' hP hm => ?_⟩
  have hm2 := Moved.drop_new (tk := s₂.toks) hm (Nat.le_refl _)
  obtain ⟨h', tk, rfl, hk'⟩ := moved_old e rfl hm2
  have e2 : v = .ref (if lexI ms ns = true then b else a) := by
    have e3 : argBest (fun i j => dataLt ([PyData.tuple (ns.map .int), .tuple (ms.map .int)].getD i .none) ([PyData.tuple (ns.map .int), .tuple (ms.map .int)].getD j .none)) 1 = if lexI ms ns = true then 1 else 0 := by
      show (if dataLt (.tuple (ms.map .int)) (.tuple (ns.map .int)) = true then 1 else 0) = _
      rw [dataLt_ints]
    have hP' : (#[Value.ref a, .ref b] : Array Value)[argBest (fun i j => dataLt ([PyData.tuple (ns.map .int), .tuple (ms.map .int)].getD i .none) ([PyData.tuple (ns.map .int), .tuple (ms.map .int)].getD j .none)) 1]? = some v := hP
    rw [e3] at hP'
    by_cases hc : lexI ms ns = true
    · rw [if_pos hc] at hP' ⊢
      exact (Option.some.inj hP').symm
    · rw [if_neg hc] at hP' ⊢
      exact (Option.some.inj hP').symm
  rw [e2]
  exact h h' tk fun c o ec => hk' c o (k0 c o ec)
theorem max_two_tups {a b : Addr} {ns ms : List Int} {as bs : List Addr} {Q : Value → Shared → Prop} (hh : A.handled = none) (hu : A.units + 3 < cLine) (r1 : Reads s.heap (.ref a) (.tuple (ns.map .int)) as) (r2 : Reads s.heap (.ref b) (.tuple (ms.map .int)) bs) (hl : ns.length = ms.length)
    (h : ∀ h' tk, (∀ c o, s.heap.get? c = some o → h'.get? c = some o) → Q (.ref (if lexI ns ms = true then b else a)) { s with heap := h', toks := tk }) :
    wpAny (model prog w) A (call (.builtin "max") [.ref a, .ref b]) Q E s := by
  have hname : (toString "max" ++ toString ".loop" : String) = "max.loop" := by decide
  refine call_function_tree PySem.F.kind_max PySem.F.plain_max PySem.F.entry_max (PySem.F.args_max2 _ _) ?_
  show wpAny _ A.in1 (Builtin.Builtins.bindParams "max" ["key", "default"] 0 ⟨[], []⟩ >>= _) _ _ s
  refine wpAny_bind (wpAny_of_eq (show Builtin.Builtins.bindParams "max" ["key", "default"] 0 ⟨[], []⟩ = pure [none, none] from rfl) ?_)
  show wpAny _ A.in1 (newTuple [.ref a, .ref b] >>= _) _ _ s
  refine wpAny_bind (wpAny_newObj_type ?_)
  have k0 : ∀ c o, s.heap.get? c = some o → (s.heap.push { cls := .type "tuple", data := .seq #[Value.ref a, .ref b] }).get? c = some o := fun c o e => Heap.get?_push_of_some _ e
  have hT : (s.heap.push { cls := .type "tuple", data := .seq #[Value.ref a, .ref b] }).IsTuple s.heap.objs.size #[.ref a, .ref b] := ⟨_, Heap.get?_push_size _ rfl, rfl, 0, rfl⟩
  have hr : ReadsAll (s.heap.push { cls := .type "tuple", data := .seq #[Value.ref a, .ref b] }) (#[Value.ref a, .ref b] : Array Value).toList [PyData.tuple (ns.map .int), .tuple (ms.map .int)] (as ++ (bs ++ [])) := .cons (reads_keeps k0 r1) (.cons (reads_keeps k0 r2) .nil)
  refine wpAny_bind (iter_tupleW (A := A.in1) (s := { s with heap := s.heap.push { cls := .type "tuple", data := .seq #[Value.ref a, .ref b] } }) hh hT fun s₂ e W st hfp hw hk => ?_)
  refine wpAny_bind (wpAny_newObj_type ?_)
  have hSf : s₂.heap.objs.size ∉ [(s.heap.push { cls := .type "tuple", data := .seq #[Value.ref a, .ref b] }).objs.size, s.heap.objs.size] := fun hm => Nat.lt_irrefl _ (hfp _ hm)
  rw [hname]
  have hcm := cmpIn_gt (prog := prog) (w := w) (A := A.in1) (s := { s with heap := s.heap.push { cls := .type "tuple", data := .seq #[Value.ref a, .ref b] } }) hr (alike2 hl) (by
    have := depth2 (ns := ns) (ms := ms)
    show A.units + 1 + _ < cLine
    omega)
  refine wpAny_pure ⟨plainId_quiet PySem.F.plain_max_loop _, codeAny_max_loop_firstH W _ hw _ hcm s₂.heap.objs.size hSf (fresh_in hk) _ (Nat.succ_pos 1) (fun b o e => Heap.get?_push_of_some _ (hk b o e)) (W.frame 0 s₂ _ s₂.toks st (Nat.le_refl _) fun b _ o e => Heap.get?_push_of_some _ e) (Heap.get?_push_size _ rfl) fun v s' hP hm => ?_⟩
  have hm2 := Moved.drop_new (tk := s₂.toks) hm (Nat.le_refl _)
  obtain ⟨h', tk, rfl, hk'⟩ := moved_old e rfl hm2
  have e2 : v = .ref (if lexI ns ms = true then b else a) := by
    have e3 : argBest (fun i j => dataLt ([PyData.tuple (ns.map .int), .tuple (ms.map .int)].getD j .none) ([PyData.tuple (ns.map .int), .tuple (ms.map .int)].getD i .none)) 1 = if lexI ns ms = true then 1 else 0 := by
      show (if dataLt (.tuple (ns.map .int)) (.tuple (ms.map .int)) = true then 1 else 0) = _
      rw [dataLt_ints]
    have hP' : (#[Value.ref a, .ref b] : Array Value)[argBest (fun i j => dataLt ([PyData.tuple (ns.map .int), .tuple (ms.map .int)].getD j .none) ([PyData.tuple (ns.map .int), .tuple (ms.map .int)].getD i .none)) 1]? = some v := hP
    rw [e3] at hP'
    by_cases hc : lexI ns ms = true
    · rw [if_pos hc] at hP' ⊢
      exact (Option.some.inj hP').symm
    · rw [if_neg hc] at hP' ⊢
      exact (Option.some.inj hP').symm
  rw [e2]
  exact h h' tk fun c o ec => hk' c o (k0 c o ec)
end
/-- min(t, u), max(t, u) of tuples of as many ints -/
def rMinT (mx : Bool) : List V → Hp → VK → Prop := fun vs H Q => ∃ (a b : Addr) (ns ms : List Int), vs = [.ref a, .ref b] ∧ H a = some (.tup (ns.map V.int)) ∧ H b = some (.tup (ms.map V.int)) ∧ ns.length = ms.length ∧ Q (.ref (if (if mx then lexI ns ms else lexI ms ns) = true then b else a)) H
/-- x in a tuple, data of any depth -/
def rInDT (K : PySem.W.Frag) (neg : Bool) : R2 := fun x y H Q => ∃ d ds, Dp K H x d ∧ Dp K H y (.tuple ds) ∧ SeqAt.shaped d = true ∧ SeqAt.shaped (.tuple ds) = true ∧ Q (.bl (if neg then !(ds.any fun z => PyData.eqv z d) else ds.any fun z => PyData.eqv z d)) H
def rInDL (K : PySem.W.Frag) (neg : Bool) : R2 := fun x y H Q => ∃ d ds, Dp K H x d ∧ Dp K H y (.list ds) ∧ SeqAt.shaped d = true ∧ SeqAt.shaped (.list ds) = true ∧ Q (.bl (if neg then !(ds.any fun z => PyData.eqv z d) else ds.any fun z => PyData.eqv z d)) H
section
variable {X : Cx} {K : PySem.W.Frag}
theorem im_ints {H : Hp} : ∀ ns : List Int, ImAll K H (ns.map V.int) (ns.map PyData.int)
  | [] => .nil
  | n :: ns => .cons (.int n) (im_ints ns)
theorem call_minT (hc : X.calm = true) (hu : X.A.units + 64 < cLine) : CallR X (.builtin "min") (rMinT false) := by
  intro pins s σ H vs us Q I r h
  obtain ⟨a, b, ns, ms, rfl, ha, hb, hl, q⟩ := h
  obtain ⟨u1, u2, rfl, r1, r2⟩ := vals2 r
  cases r1
  cases r2
  obtain ⟨as, g1⟩ := Dp.reads I (.tuple (ns.map .int)) _ _ (.tup (SqT.of ha) (im_ints ns).dp) rfl
  obtain ⟨bs, g2⟩ := Dp.reads I (.tuple (ms.map .int)) _ _ (.tup (SqT.of hb) (im_ints ms).dp) rfl
  exact min_two_tups (I.ok.hd hc) (by omega) g1 g2 hl fun h' tk k => ⟨.ref (if lexI ms ns = true then b else a), H, I.kept k, rfl, q⟩
theorem call_maxT (hc : X.calm = true) (hu : X.A.units + 64 < cLine) : CallR X (.builtin "max") (rMinT true) := by
  intro pins s σ H vs us Q I r h
  obtain ⟨a, b, ns, ms, rfl, ha, hb, hl, q⟩ := h
  obtain ⟨u1, u2, rfl, r1, r2⟩ := vals2 r
  cases r1
  cases r2
  obtain ⟨as, g1⟩ := Dp.reads I (.tuple (ns.map .int)) _ _ (.tup (SqT.of ha) (im_ints ns).dp) rfl
  obtain ⟨bs, g2⟩ := Dp.reads I (.tuple (ms.map .int)) _ _ (.tup (SqT.of hb) (im_ints ms).dp) rfl
  exact max_two_tups (I.ok.hd hc) (by omega) g1 g2 hl fun h' tk k => ⟨.ref (if lexI ns ms = true then b else a), H, I.kept k, rfl, q⟩
theorem op_inDT (hu : X.A.units + 65 < cLine) (hK : X.K = K := by rfl) : OpR X (compareOp .In) (rInDT K false) := by
  subst hK
  intro pins s σ H x y v u Q I rx ry h
  obtain ⟨d, ds, hd, he, sd, se, q⟩ := h
  obtain ⟨as, r1⟩ := Dp.reads I d x v hd rx
  obtain ⟨bs, r2⟩ := Dp.reads I (.tuple ds) y u he ry
  exact SeqAt.in_tuple_reads r2 r1 (SeqAt.canLay_of_shaped se) (SeqAt.canLay_of_shaped sd) (room_in_shaped sd hu) ⟨.bl _, H, I, rfl, q⟩
theorem op_inDL (hu : X.A.units + 65 < cLine) (hK : X.K = K := by rfl) : OpR X (compareOp .In) (rInDL K false) := by
  subst hK
  exact op_inD hu
theorem op_niDL (hu : X.A.units + 65 < cLine) (hK : X.K = K := by rfl) : OpR X (compareOp .NotIn) (rInDL K true) := by
  subst hK
  exact op_notInD hu
end
end
end Hb

set_option Elab.async false
set_option maxRecDepth 100000
set_option maxHeartbeats 4000000
/-! Links as keys: pairs of pairs of ints, their dicts, their sorted lists. -/
namespace Hb
open PySem L2
abbrev E2 := Int × Int
abbrev Lk := E2 × E2
def flL (l : Lk) : List Int := [l.1.1, l.1.2, l.2.1, l.2.2]
def itL (l : Lk) : List Itm := [.inr [l.1.1, l.1.2], .inr [l.2.1, l.2.2]]
def lkK (l : Lk) : NestedKey := nkK (itL l)
theorem flK_it (l : Lk) : flK (itL l) = flL l := rfl
theorem flL_inj {x y : Lk} (h : flL x = flL y) : x = y := by
  obtain ⟨⟨a, b⟩, c, d⟩ := x
  obtain ⟨⟨a', b'⟩, c', d'⟩ := y
  have h1 := List.cons.inj h
  have h2 := List.cons.inj h1.2
  have h3 := List.cons.inj h2.2
  have h4 := List.cons.inj h3.2
  simp only at h1 h2 h3 h4
  rw [h1.1, h2.1, h3.1, h4.1]
theorem lkK_inj {x y : Lk} (h : lkK x = lkK y) : x = y := by
  have h1 : (itL x).map nkI = (itL y).map nkI := NestedKey.tup.inj h
  have h2 := List.cons.inj h1
  have h3 := List.cons.inj h2.2
  have e1 := nkI_inj h2.1
  have e2 := nkI_inj h3.1
  refine flL_inj ?_
  have e3 : ([x.1.1, x.1.2] : List Int) = [y.1.1, y.1.2] := Sum.inr.inj e1
  have e4 : ([x.2.1, x.2.2] : List Int) = [y.2.1, y.2.2] := Sum.inr.inj e2
  show [x.1.1, x.1.2] ++ [x.2.1, x.2.2] = [y.1.1, y.1.2] ++ [y.2.1, y.2.2]
  rw [e3, e4]
theorem lkK_depth (l : Lk) : (lkK l).depth ≤ 8 := by
  simp [lkK, nkK, itL, nkI, NestedKey.depth, NestedKey.depthAll]
/-! ### sorted -/
def ltL (x y : Lk) : Bool := lexI (flL x) (flL y)
abbrev SortedL (l : List Lk) : Prop := l.Pairwise fun x y => ltL y x = false
def insL (x : Lk) : List Lk → List Lk
  | [] => [x]
  | y :: ys => if ltL y x then y :: insL x ys else x :: y :: ys
def srt : List Lk → List Lk
  | [] => []
  | x :: xs => insL x (srt xs)
theorem insL_perm (x : Lk) : ∀ ys : List Lk, (insL x ys).Perm (x :: ys)
  | [] => List.Perm.refl _
  | y :: ys => by
    unfold insL
    split
    · exact ((insL_perm x ys).cons y).trans (List.Perm.swap x y ys)
    · exact List.Perm.refl _
theorem srt_perm : ∀ ls : List Lk, (srt ls).Perm ls
  | [] => List.Perm.refl _
  | x :: xs => (insL_perm x (srt xs)).trans ((srt_perm xs).cons x)
theorem insL_sorted (x : Lk) : ∀ ys : List Lk, SortedL ys → SortedL (insL x ys)
  | [], _ => List.pairwise_singleton _ _
  | y :: ys, h => by
    have h1 := List.pairwise_cons.mp h
    unfold insL
    by_cases hc : ltL y x = true
    · rw [if_pos hc]
      refine List.pairwise_cons.mpr ⟨fun z hz => ?_, insL_sorted x ys h1.2⟩
      rcases List.mem_cons.mp ((insL_perm x ys).mem_iff.mp hz) with rfl | hz
      · exact lexI_asym _ _ hc
      · exact h1.1 z hz
    · rw [if_neg hc]
      have hc' : ltL y x = false := by
        cases q : ltL y x with
        | true => exact absurd q hc
        | false => rfl
      refine List.pairwise_cons.mpr ⟨fun z hz => ?_, h⟩
      rcases List.mem_cons.mp hz with rfl | hz
      · exact hc'
      · exact lexI_tr _ _ _ hc' (h1.1 z hz)
theorem srt_sorted : ∀ ls : List Lk, SortedL (srt ls)
  | [] => List.Pairwise.nil
  | x :: xs => insL_sorted x _ (srt_sorted xs)
theorem sorted_uniq : ∀ {l m : List Lk}, l.Perm m → SortedL l → SortedL m → l = m
  | [], m, p, _, _ => (List.Perm.eq_nil p.symm).symm
  | x :: l, [], p, _, _ => absurd p.length_eq (by simp)
  | x :: l, y :: m, p, hl, hm => by
    have h1 := List.pairwise_cons.mp hl
    have h2 := List.pairwise_cons.mp hm
    have e : x = y := by
      rcases List.mem_cons.mp (p.mem_iff.mp List.mem_cons_self) with e | hx
      · exact e
      · rcases List.mem_cons.mp (p.mem_iff.mpr List.mem_cons_self) with e | hy
        · exact e.symm
        · exact flL_inj (lexI_total _ _ (h2.1 x hx) (h1.1 y hy))
    subst e
    rw [sorted_uniq p.cons_inv h1.2 h2.2]
theorem srt_uniq {l ls : List Lk} (p : l.Perm ls) (h : SortedL l) : l = srt ls := sorted_uniq (p.trans (srt_perm ls).symm) h (srt_sorted ls)
theorem srt_filter (p : Lk → Bool) (ls : List Lk) : (srt ls).filter p = srt (ls.filter p) := srt_uniq ((srt_perm ls).filter p) ((srt_sorted ls).filter p)
theorem mem_srt {ls : List Lk} {l : Lk} : l ∈ srt ls ↔ l ∈ ls := (srt_perm ls).mem_iff
/-! ### where they stand -/
theorem nk_link {H : Hp} {l : Lk} {a : Addr} (h : NK H (lkK l) (.ref a)) : ∃ p q, H a = some (.tup [.ref p, .ref q]) ∧ H p = some (.tup [.int l.1.1, .int l.1.2]) ∧ H q = some (.tup [.int l.2.1, .int l.2.2]) := by
  have end_ : ∀ {x y : Int} {v : V}, NK H (nkI (.inr [x, y])) v → ∃ p, v = .ref p ∧ H p = some (.tup [.int x, .int y]) := by
    intro x y v h
    cases h with
    | tup e hs =>
      cases hs with
      | cons h1 h2 =>
        cases h2 with
        | cons h2 h3 =>
          cases h3
          cases h1
          cases h2
          exact ⟨_, rfl, e⟩
  cases h with
  | tup e hs =>
    cases hs with
    | cons h1 h2 =>
      cases h2 with
      | cons h2 h3 =>
        cases h3
        obtain ⟨p, rfl, hp⟩ := end_ h1
        obtain ⟨q, rfl, hq⟩ := end_ h2
        exact ⟨p, q, e, hp, hq⟩
theorem nk_end {H : Hp} {p : Addr} {x y : Int} (h : H p = some (.tup [.int x, .int y])) : NK H (nkI (.inr [x, y])) (.ref p) := .tup h (.cons (.int x) (.cons (.int y) .nil))
theorem nk_mk {H : Hp} {l : Lk} {a p q : Addr} (h : H a = some (.tup [.ref p, .ref q])) (hp : H p = some (.tup [.int l.1.1, .int l.1.2])) (hq : H q = some (.tup [.int l.2.1, .int l.2.2])) : NK H (lkK l) (.ref a) := .tup h (.cons (nk_end hp) (.cons (nk_end hq) .nil))
/-- a list of links -/
abbrev LkL (H : Hp) (vs : List V) (ls : List Lk) : Prop := Paired (fun v l => ∃ a, v = V.ref a ∧ NK H (lkK l) (.ref a)) vs ls
theorem LkL.mono {H H' : Hp} (e : ∀ p xs, H p = some (.tup xs) → H' p = some (.tup xs)) {vs : List V} {ls : List Lk} (h : LkL H vs ls) : LkL H' vs ls := Paired.mapP h fun _ _ ⟨a, e1, e2⟩ => ⟨a, e1, e2.mono e⟩
theorem LkL.same {H H' : Hp} (e : Same H H') {vs : List V} {ls : List Lk} (h : LkL H vs ls) : LkL H' vs ls := h.mono fun _ _ => e _ _
theorem LkL.len {H : Hp} {vs : List V} {ls : List Lk} (h : LkL H vs ls) : vs.length = ls.length := Paired.length h
theorem LkL.get {H : Hp} : ∀ {vs : List V} {ls : List Lk} {i : Nat} {v : V}, LkL H vs ls → vs[i]? = some v → ∃ a l, v = .ref a ∧ ls[i]? = some l ∧ NK H (lkK l) (.ref a)
  | _ :: _, l :: _, 0, _, .cons ⟨a, e1, e2⟩ _, e => by
    cases e
    exact ⟨a, l, e1, rfl, e2⟩
  | _ :: _, _ :: _, i + 1, _, .cons _ t, e => LkL.get (i := i) t (by simpa using e)
theorem LkL.app {H : Hp} : ∀ {vs us : List V} {ls ms : List Lk}, LkL H vs ls → LkL H us ms → LkL H (vs ++ us) (ls ++ ms)
  | _, _, _, _, .nil, h => h
  | _, _, _, _, .cons h t, h2 => .cons h (LkL.app t h2)
theorem LkL.snoc {H : Hp} {vs : List V} {ls : List Lk} {a : Addr} {l : Lk} (h : LkL H vs ls) (hk : NK H (lkK l) (.ref a)) : LkL H (vs ++ [.ref a]) (ls ++ [l]) := h.app (.cons ⟨a, rfl, hk⟩ .nil)
theorem LkL.ima {K : PySem.W.Frag} {H : Hp} : ∀ {vs : List V} {ls : List Lk}, LkL H vs ls → ImAll K H vs (ls.map fun l => (lkK l).data)
  | _, _, .nil => .nil
  | _, _, .cons ⟨a, e1, e2⟩ t => by
    subst e1
    exact .cons e2.im (LkL.ima t)
theorem paired_perm {α β : Type} {R : α → β → Prop} : ∀ {xs ys : List α}, ys.Perm xs → ∀ {ls : List β}, Paired R xs ls → ∃ ms, ms.Perm ls ∧ Paired R ys ms := by
  intro xs ys p
  induction p with
  | nil => exact fun h => ⟨_, List.Perm.refl _, h⟩
  | cons x _ ih =>
    intro ls h
    cases h with
    | cons h1 h2 =>
      obtain ⟨ms, p1, p2⟩ := ih h2
      exact ⟨_, p1.cons _, .cons h1 p2⟩
  | swap x y l =>
    intro ls h
    cases h with
    | cons h1 h2 =>
      cases h2 with
      | cons h2 h3 => exact ⟨_, List.Perm.swap _ _ _, .cons h2 (.cons h1 h3)⟩
  | trans _ _ ih1 ih2 =>
    intro ls h
    obtain ⟨ms, p1, p2⟩ := ih2 h
    obtain ⟨ns, p3, p4⟩ := ih1 p2
    exact ⟨ns, p3.trans p1, p4⟩
/-- the items of what stands there -/
noncomputable def itK (H : Hp) (v : V) : List Itm := Classical.epsilon fun ks => NK H (nkK ks) v
theorem nkK_inj {x y : List Itm} (h : nkK x = nkK y) : x = y := by
  have h1 : x.map nkI = y.map nkI := NestedKey.tup.inj h
  clear h
  induction x generalizing y with
  | nil =>
    cases y with
    | nil => rfl
    | cons _ _ => cases h1
  | cons a x ih =>
    cases y with
    | nil => cases h1
    | cons b y =>
      have h2 := List.cons.inj h1
      rw [nkI_inj h2.1, ih h2.2]
theorem itK_eq {H : Hp} {ks : List Itm} {v : V} (h : NK H (nkK ks) v) : itK H v = ks := by
  have h2 : NK H (nkK (itK H v)) v := Classical.epsilon_spec (p := fun ks => NK H (nkK ks) v) ⟨ks, h⟩
  exact nkK_inj (h2.inj h)
theorem srtd_links {H : Hp} : ∀ {ys : List V} {ls : List Lk}, LkL H ys ls → SrtO.Srtd (ltK (itK H)) ys → SortedL ls
  | _, _, .nil, _ => List.Pairwise.nil
  | _, _, .cons (a := v) (b := l) ⟨a, e1, e2⟩ t, h => by
    have h1 := List.pairwise_cons.mp h
    refine List.pairwise_cons.mpr ⟨fun m hm => ?_, srtd_links t h1.2⟩
    have key : ∀ {vs : List V} {ms : List Lk}, LkL H vs ms → (∀ u ∈ vs, ltK (itK H) u v = false) → ∀ m ∈ ms, ltL m l = false := by
      intro vs ms hL
      induction hL with
      | nil => exact fun _ m hm => nomatch hm
      | cons hx _ ih =>
        obtain ⟨b, g1, g2⟩ := hx
        intro hu m hm
        rcases List.mem_cons.mp hm with rfl | hm
        · have := hu _ List.mem_cons_self
          unfold ltK at this
          rw [g1, e1, itK_eq (ks := itL m) g2, itK_eq (ks := itL l) e2, flK_it, flK_it] at this
          exact this
        · exact ih (fun u hu' => hu u (List.mem_cons_of_mem _ hu')) m hm
    exact key t h1.1 m hm
/-- data of links can be compared -/
theorem lk_data (l : Lk) : (lkK l).data = .tuple [.tuple [.int l.1.1, .int l.1.2], .tuple [.int l.2.1, .int l.2.2]] := by simp [lkK, nkK, itL, nkI, NestedKey.data, NestedKey.datas]
theorem lk_ok {ls : List Lk} : ∀ d ∈ ls.map (fun l => (lkK l).data), d.canLay0 = true ∧ d.depth ≤ 60 := fun d hd => by
  obtain ⟨l, _, rfl⟩ := List.mem_map.mp hd
  rw [lk_data]
  constructor
  · simp [PyData.canLay0, PyData.canLayAll0]
  · simp [PyData.depth, PyData.depthAll]
theorem eqv_end {x y : E2} : PyData.eqv (.tuple [.int x.1, .int x.2]) (.tuple [.int y.1, .int y.2]) = decide (x = y) := by
  have e : PyData.eqv (.tuple [.int x.1, .int x.2]) (.tuple [.int y.1, .int y.2]) = ((x.1 == y.1) && ((x.2 == y.2) && true)) := by simp only [PyData.eqv, PyData.eqvAll]
  rw [e, Bool.and_true]
  by_cases h : x = y
  · rw [decide_eq_true h, h]
    simp
  · rw [decide_eq_false h]
    cases q : (x.1 == y.1) && (x.2 == y.2) with
    | false => rfl
    | true =>
      rw [Bool.and_eq_true] at q
      exact absurd (Prod.ext (by simpa using q.1) (by simpa using q.2)) h
theorem eqv_link {x y : Lk} : PyData.eqv (lkK x).data (lkK y).data = decide (x = y) := by
  rw [lk_data, lk_data]
  have e : PyData.eqv (.tuple [.tuple [.int x.1.1, .int x.1.2], .tuple [.int x.2.1, .int x.2.2]]) (.tuple [.tuple [.int y.1.1, .int y.1.2], .tuple [.int y.2.1, .int y.2.2]]) = (PyData.eqv (.tuple [.int x.1.1, .int x.1.2]) (.tuple [.int y.1.1, .int y.1.2]) && (PyData.eqv (.tuple [.int x.2.1, .int x.2.2]) (.tuple [.int y.2.1, .int y.2.2]) && true)) := by simp only [PyData.eqv, PyData.eqvAll]
  rw [e, eqv_end, eqv_end, Bool.and_true]
  by_cases h : x = y
  · rw [decide_eq_true h, h]
    simp
  · rw [decide_eq_false h]
    cases q : decide (x.1 = y.1) && decide (x.2 = y.2) with
    | false => rfl
    | true =>
      rw [Bool.and_eq_true, decide_eq_true_eq, decide_eq_true_eq] at q
      exact absurd (Prod.ext q.1 q.2) h
/-! ### dicts by links -/
abbrev Mp := List (Lk × Int)
/-- the entries at B's tuples are M's -/
abbrev EntM (B : Hp) (es : List Ent) (M : Mp) : Prop := Paired (fun e x => e.1 = lkK x.1 ∧ e.2.2 = V.int x.2 ∧ NK B (lkK x.1) (.ref e.2.1)) es M
def keysM (M : Mp) : List Lk := M.map (·.1)
def valM (M : Mp) (l : Lk) : Option Int := (M.find? fun x => decide (x.1 = l)).map (·.2)
def dropM (M : Mp) (ls : List Lk) : Mp := M.filter fun x => decide (x.1 ∉ ls)
def putM (M : Mp) (l : Lk) (n : Int) : Mp := if (valM M l).isSome then M.map (fun x => if x.1 = l then (x.1, n) else x) else M ++ [(l, n)]
def has (e : E2) (l : Lk) : Bool := decide (l.1 = e) || decide (l.2 = e)
def atM (M : Mp) (e : E2) : List Lk := (srt (keysM M)).filter (has e)
theorem EntM.mono {B B' : Hp} (e : ∀ p xs, B p = some (.tup xs) → B' p = some (.tup xs)) {es : List Ent} {M : Mp} (h : EntM B es M) : EntM B' es M := Paired.mapP h fun _ _ ⟨h1, h2, h3⟩ => ⟨h1, h2, h3.mono e⟩
theorem EntM.same {B B' : Hp} (e : Same B B') {es : List Ent} {M : Mp} (h : EntM B es M) : EntM B' es M := h.mono fun _ _ => e _ _
theorem EntM.ok {B : Hp} {es : List Ent} {M : Mp} (h : EntM B es M) : EntsOk B es := by
  induction h with
  | nil => exact EntsOk.nil
  | cons h _ ih =>
    intro e he
    rcases List.mem_cons.mp he with rfl | he
    · rw [h.1]
      exact ⟨h.2.2, lkK_depth _⟩
    · exact ih e he
theorem EntM.len {B : Hp} {es : List Ent} {M : Mp} (h : EntM B es M) : es.length = M.length := Paired.length h
theorem EntM.at {B : Hp} {es : List Ent} {M : Mp} (h : EntM B es M) (l : Lk) : atN es (lkK l) = (valM M l).map V.int := by
  induction h with
  | nil => rfl
  | @cons e x es xs h _ ih =>
    unfold atN valM at ih ⊢
    rw [List.find?_cons, List.find?_cons, h.1]
    by_cases hc : x.1 = l
    · rw [decide_eq_true hc, decide_eq_true (by rw [hc])]
      show some e.2.2 = some (V.int x.2)
      rw [h.2.1]
    · rw [decide_eq_false hc, decide_eq_false (fun z => hc (lkK_inj z))]
      exact ih
theorem entM_map {B : Hp} {l : Lk} {n : Int} : ∀ {es : List Ent} {M : Mp}, EntM B es M → EntM B (es.map fun e => if e.1 = lkK l then (e.1, e.2.1, V.int n) else e) (M.map fun x => if x.1 = l then (x.1, n) else x)
  | _, _, .nil => .nil
  | e :: es, x :: xs, .cons h t => by
    refine .cons ?_ (entM_map t)
    by_cases hc : x.1 = l
    · have hc2 : e.1 = lkK l := by rw [h.1, hc]
      simp only [if_pos hc2, if_pos hc]
      exact ⟨h.1, trivial, h.2.2⟩
    · have hc2 : ¬ e.1 = lkK l := fun z => hc (lkK_inj (h.1.symm.trans z))
      simp only [if_neg hc2, if_neg hc]
      exact h
theorem paired_app {α β : Type} {R : α → β → Prop} : ∀ {xs us : List α} {ys ws : List β}, Paired R xs ys → Paired R us ws → Paired R (xs ++ us) (ys ++ ws)
  | _, _, _, _, .nil, h => h
  | _, _, _, _, .cons h t, h2 => .cons h (paired_app t h2)
theorem EntM.put {B : Hp} {es : List Ent} {M : Mp} (h : EntM B es M) {l : Lk} {b : Addr} (n : Int) (hk : NK B (lkK l) (.ref b)) : EntM B (putN es (lkK l) b (.int n)) (putM M l n) := by
  unfold putN putM
  rw [h.at l, Option.isSome_map]
  by_cases hc : (valM M l).isSome = true
  · rw [if_pos hc, if_pos hc]
    exact entM_map h
  · rw [if_neg hc, if_neg hc]
    exact paired_app h (.cons ⟨rfl, rfl, hk⟩ .nil)
theorem EntM.drop {B : Hp} {l : Lk} : ∀ {es : List Ent} {M : Mp}, EntM B es M → EntM B (dropN es (lkK l)) (dropM M [l])
  | _, _, .nil => .nil
  | e :: es, x :: xs, .cons h t => by
    unfold dropN dropM
    rw [List.filter_cons, List.filter_cons]
    by_cases hc : x.1 = l
    · have e1 : decide (e.1 ≠ lkK l) = false := decide_eq_false (fun z => z (by rw [h.1, hc]))
      have e2 : decide (x.1 ∉ [l]) = false := decide_eq_false (fun z => z (by rw [hc]; exact List.mem_cons_self))
      rw [e1, e2]
      exact EntM.drop t
    · have e1 : decide (e.1 ≠ lkK l) = true := decide_eq_true (fun z => hc (lkK_inj (h.1.symm.trans z)))
      have e2 : decide (x.1 ∉ [l]) = true := decide_eq_true (fun z => hc (List.mem_singleton.mp z))
      rw [e1, e2]
      exact .cons h (EntM.drop t)
theorem EntM.lkl {B : Hp} : ∀ {es : List Ent} {M : Mp}, EntM B es M → LkL B (es.map fun e => V.ref e.2.1) (keysM M)
  | _, _, .nil => .nil
  | _, _, .cons h t => .cons ⟨_, rfl, h.2.2⟩ (EntM.lkl t)
/-! ### their steps -/
section
variable {w : World} {σ : St} {H B : Hp} {Q : VK} {D : Ends} {td ty tv : TE} {L L' : List (Addr × HO)} {es : List Ent} {M : Mp} {l : Lk} {d b : Addr} {n : Int}
theorem w_nget (q : td σ H fun x H1 => ty σ H1 fun y H2 => rNGet w x y H2 Q) : tNGet w td ty σ H Q := q
theorem w_nin (q : ty σ H fun y H1 => td σ H1 fun x H2 => rNIn w x y H2 fun b => Q (.bl b) H2) : tNIn w ty td σ H Q := q
theorem w_nnot (q : ty σ H fun y H1 => td σ H1 fun x H2 => rNIn w x y H2 fun b => Q (.bl (!b)) H2) : tNNot w ty td σ H Q := q
theorem w_nput (q : tv σ H fun v H1 => td σ H1 fun x H2 => ty σ H2 fun y H3 => rNPut w x y v H3 fun H4 => D.nx σ H4) : sNPut w td ty tv D σ H := q
theorem w_ndel (q : td σ H fun x H1 => ty σ H1 fun y H2 => rNDel w x y H2 fun _ H3 => D.nx σ H3) : sNDel w td ty D σ H := q
theorem w_npop (q : td σ H fun x H1 => (∃ a es, x = .ref a ∧ H1 a = some (DN w a es)) ∧ ty σ H1 fun y H2 => rNDel w x y H2 Q) : tNPop w td ty σ H Q := q
theorem w_nnew (hs : Hs B L H) (q : ∀ p H', Hs B ((p, DN w p []) :: L) H' → Q (.ref p) H') : tNNew w σ H Q := fun p hp => q p _ (hs.new hp)
theorem atN_of (h : H d = some (DN w d es)) (e : EntM H es M) (hk : NK H (lkK l) (.ref b)) : AtN w H (.ref d) (.ref b) d b es (lkK l) := ⟨rfl, rfl, h, e.ok, hk, lkK_depth l⟩
theorem wn_get (hs : Hs B L H) (h : H d = some (DN w d es)) (e : EntM B es M) (hk : NK B (lkK l) (.ref b)) (hv : valM M l = some n) (q : Q (.int n) H) : rNGet w (.ref d) (.ref b) H Q :=
  ⟨d, b, es, lkK l, .int n, atN_of h (e.same hs.same) (hk.same hs.same), by rw [e.at l, hv]; rfl, q⟩
theorem wn_in {R : Bool → Prop} (hs : Hs B L H) (h : H d = some (DN w d es)) (e : EntM B es M) (hk : NK B (lkK l) (.ref b)) (q : R (valM M l).isSome) : rNIn w (.ref d) (.ref b) H R :=
  ⟨d, b, es, lkK l, atN_of h (e.same hs.same) (hk.same hs.same), by rw [e.at l, Option.isSome_map]; exact q⟩
theorem wn_put {R : Hp → Prop} (hs : Hs B L H) (h : Put L d (DN w d es) (DN w d (putN es (lkK l) b (.int n))) L') (e : EntM B es M) (hk : NK B (lkK l) (.ref b)) (hl : M.length ≤ 1000) (q : ∀ H', Hs B L' H' → EntM B (putN es (lkK l) b (.int n)) (putM M l n) → R H') : rNPut w (.ref d) (.ref b) (.int n) H R :=
  ⟨d, b, es, lkK l, atN_of (hs.gets h) (e.same hs.same) (hk.same hs.same), by rw [e.len, sizeLine_eq]; omega, q _ (hs.puts h) (e.put n hk)⟩
theorem wn_del {R : V → Hp → Prop} (hs : Hs B L H) (h : Put L d (DN w d es) (DN w d (dropN es (lkK l))) L') (e : EntM B es M) (hk : NK B (lkK l) (.ref b)) (hv : valM M l = some n) (q : ∀ H', Hs B L' H' → EntM B (dropN es (lkK l)) (dropM M [l]) → R (.int n) H') : rNDel w (.ref d) (.ref b) H R :=
  ⟨d, b, es, lkK l, .int n, atN_of (hs.gets h) (e.same hs.same) (hk.same hs.same), by rw [e.at l, hv]; rfl, q _ (hs.puts h) e.drop⟩
theorem w_sortD (hs : Hs B L H) (h : H d = some (DN w d es)) (e : EntM B es M) (q : ∀ p ys H', LkL B ys (srt (keysM M)) → Hs B ((p, .lst ys) :: L) H' → Q (.ref p) H') : rSortDN w (some 2) [some 2] [.ref d] H Q := by
  have eH := e.same hs.same
  refine ⟨d, es, itK H, rfl, h, fun z hz => ?_, fun ys p h1 h2 hp => ?_⟩
  · have key : ∀ {es : List Ent} {M : Mp}, EntM H es M → ∀ z ∈ es, ∃ l, NK H (lkK l) (.ref z.2.1) := by
      intro es M e
      induction e with
      | nil => exact fun _ hz => nomatch hz
      | cons h _ ih =>
        intro z hz
        rcases List.mem_cons.mp hz with rfl | hz
        · exact ⟨_, h.2.2⟩
        · exact ih z hz
    obtain ⟨l, hl⟩ := key eH z hz
    rw [itK_eq (ks := itL l) hl]
    exact ⟨hl, rfl⟩
  · obtain ⟨ms, p1, p2⟩ := paired_perm h2.perm e.lkl
    have e1 := srt_uniq p1 (srtd_links (LkL.same hs.same p2) h1)
    subst e1
    exact q p ys _ p2 (hs.new hp)
theorem w_ltT {K : PySem.W.Frag} {p q : Addr} {ns ms : List Int} (h1 : H p = some (.tup (ns.map V.int))) (h2 : H q = some (.tup (ms.map V.int))) (k : Q (.bl (lexI ns ms)) H) : rLtT K (.ref p) (.ref q) H Q := ⟨p, q, ns, ms, rfl, rfl, SqT.of h1, SqT.of h2, k⟩
end
def ntQ : HO → Bool
  | .tup _ => false
  | _ => true
/-- what stands aside of our own objects, none a tuple, is the ground: all tuples stand there -/
theorem Hs.ground {B H : Hp} {L : List (Addr × HO)} (hs : Hs B L H) (nt : L.all (fun e => ntQ e.2) = true) : ∃ B1, Same B B1 ∧ Hs B1 L H ∧ ∀ p xs, H p = some (.tup xs) → B1 p = some (.tup xs) := by
  obtain ⟨h1, h2⟩ := hs.rebase
  refine ⟨_, h1, h2, fun p xs e => ?_⟩
  rw [around_out fun m => ?_]
  · exact e
  · obtain ⟨z, hz, rfl⟩ := List.mem_map.mp m
    have h3 := List.all_eq_true.mp nt z hz
    rw [hs.at_ z hz] at e
    rw [Option.some.inj e] at h3
    cases h3
theorem r64 {k : Nat} {A : Around} (r : Room k A) : A.units + 64 < cLine := by
  have := r.un
  omega
theorem r65 {k : Nat} {A : Around} (r : Room k A) : A.units + 65 < cLine := by
  have := r.un
  omega
theorem r0 {k : Nat} {A : Around} (r : Room k A) : A.units < cLine := by
  have := r.un
  omega
abbrev endO (x : E2) : HO := .tup [.int x.1, .int x.2]
theorem shp_end (x : E2) : SeqAt.shaped (.tuple [.int x.1, .int x.2]) = true := by simp [SeqAt.shaped, PyData.canLay0, PyData.canLayAll0, PyData.depth, PyData.depthAll]
theorem dp_end {K : PySem.W.Frag} {H : Hp} {p : Addr} {x : E2} (h : H p = some (endO x)) : Dp K H (.ref p) (.tuple [.int x.1, .int x.2]) := .tup (SqT.of h) (ImAll.cons (.int _) (.cons (.int _) .nil)).dp
theorem w_eqE {K : PySem.W.Frag} {H : Hp} {Q : VK} {p q : Addr} {x y : E2} (h1 : H p = some (endO x)) (h2 : H q = some (endO y)) (k : Q (.bl (decide (x = y))) H) : rEqD K (.ref p) (.ref q) H Q :=
  w_eqD (dp_end h1) (dp_end h2) (shp_end x) (shp_end y) (by rw [eqv_end]; exact k)
/-! ### what holds of the links -/
structure IM (M : Mp) : Prop where
  nd : (keysM M).Nodup
  ok : ∀ l ∈ keysM M, l.1.1 ≠ l.2.1 ∧ lexI [l.1.1, l.1.2] [l.2.1, l.2.2] = true
  dj : ∀ x ∈ keysM M, ∀ y ∈ keysM M, ∀ e : E2, has e x = true → has e y = true → x = y
theorem keys_drop {M : Mp} {ls : List Lk} : keysM (dropM M ls) = (keysM M).filter fun l => decide (l ∉ ls) := by
  unfold keysM dropM
  rw [List.filter_map]
  rfl
theorem mem_keys_drop {M : Mp} {ls : List Lk} {l : Lk} : l ∈ keysM (dropM M ls) ↔ l ∈ keysM M ∧ l ∉ ls := by
  rw [keys_drop, List.mem_filter, decide_eq_true_eq]
theorem IM.nil : IM [] := ⟨List.nodup_nil, (fun _ h => nomatch h), (fun _ h => nomatch h)⟩
theorem IM.drop {M : Mp} (h : IM M) (ls : List Lk) : IM (dropM M ls) := by
  refine ⟨?_, fun l hl => h.ok l (mem_keys_drop.mp hl).1, fun x hx y hy => h.dj x (mem_keys_drop.mp hx).1 y (mem_keys_drop.mp hy).1⟩
  rw [keys_drop]
  exact h.nd.filter _
theorem val_some {M : Mp} {l : Lk} : (valM M l).isSome = true ↔ l ∈ keysM M := by
  unfold valM
  rw [Option.isSome_map, List.find?_isSome]
  constructor
  · rintro ⟨x, hx, e⟩
    exact List.mem_map.mpr ⟨x, hx, of_decide_eq_true e⟩
  · intro h
    obtain ⟨x, hx, e⟩ := List.mem_map.mp h
    exact ⟨x, hx, decide_eq_true e⟩
theorem val_of {M : Mp} {l : Lk} (h : l ∈ keysM M) : ∃ n, valM M l = some n := Option.isSome_iff_exists.mp (val_some.mpr h)
theorem mem_at {M : Mp} {e : E2} {l : Lk} : l ∈ atM M e ↔ l ∈ keysM M ∧ has e l = true := by
  unfold atM
  rw [List.mem_filter, mem_srt]
theorem at_nodup {M : Mp} (h : IM M) (e : E2) : (atM M e).Nodup := ((srt_perm _).nodup_iff.mpr h.nd).filter _
theorem at_one {M : Mp} (h : IM M) (e : E2) : atM M e = [] ∨ ∃ l, atM M e = [l] := by
  have nd := at_nodup h e
  match hm : atM M e with
  | [] => exact .inl rfl
  | [l] => exact .inr ⟨l, rfl⟩
  | x :: y :: r =>
    have hx : x ∈ atM M e := by rw [hm]; exact List.mem_cons_self
    have hy : y ∈ atM M e := by rw [hm]; exact List.mem_cons_of_mem _ List.mem_cons_self
    obtain ⟨x1, x2⟩ := mem_at.mp hx
    obtain ⟨y1, y2⟩ := mem_at.mp hy
    have := h.dj x x1 y y1 e x2 y2
    subst this
    rw [hm] at nd
    exact absurd List.mem_cons_self (List.nodup_cons.mp nd).1
theorem find_at {M : Mp} (e : E2) : (srt (keysM M)).find? (has e) = (atM M e).head? := by
  unfold atM
  rw [List.head?_filter]
theorem at_drop {M : Mp} {ls : List Lk} {e : E2} : atM (dropM M ls) e = (atM M e).filter fun l => decide (l ∉ ls) := by
  unfold atM
  rw [keys_drop, ← srt_filter, List.filter_filter, List.filter_filter]
  congr 1
  funext l
  exact Bool.and_comm _ _
theorem drop_drop {M : Mp} {a b : List Lk} : dropM (dropM M a) b = dropM M (a ++ b) := by
  unfold dropM
  rw [List.filter_filter]
  congr 1
  funext x
  by_cases h1 : x.1 ∈ a <;> by_cases h2 : x.1 ∈ b <;> simp [h1, h2]
theorem drop_nil {M : Mp} : dropM M [] = M := by
  unfold dropM
  rw [List.filter_eq_self]
  exact fun _ _ => decide_eq_true (fun z => nomatch z)
theorem drop_len {M : Mp} {ls : List Lk} : (dropM M ls).length ≤ M.length := List.length_filter_le _ _
/-- the law's list is the program's -/
theorem at_two {M : Mp} {one other : E2} : (atM M one ++ (atM M other).filter fun l => decide (l ∉ atM M one)) = atM M one ++ atM (dropM M (atM M one)) other := by rw [at_drop]
/-- the link of two ends -/
def mkL (x y : E2) : Lk := if lexI [x.1, x.2] [y.1, y.2] = true then (x, y) else (y, x)
theorem lexI_ne {x y : E2} (h : x.1 ≠ y.1) : lexI [x.1, x.2] [y.1, y.2] = decide (x.1 < y.1) := by rw [lexI_cons, if_neg h]
theorem mkL_ok {x y : E2} (h : x.1 ≠ y.1) : (mkL x y).1.1 ≠ (mkL x y).2.1 ∧ lexI [(mkL x y).1.1, (mkL x y).1.2] [(mkL x y).2.1, (mkL x y).2.2] = true := by
  unfold mkL
  by_cases hc : lexI [x.1, x.2] [y.1, y.2] = true
  · rw [if_pos hc]
    exact ⟨h, hc⟩
  · rw [if_neg hc]
    refine ⟨fun z => h z.symm, ?_⟩
    rw [lexI_ne h] at hc
    show lexI [y.1, y.2] [x.1, x.2] = true
    rw [lexI_ne (fun z => h z.symm)]
    have : ¬ x.1 < y.1 := fun z => hc (decide_eq_true z)
    exact decide_eq_true (by omega)
theorem mkL_comm {x y : E2} (h : x.1 ≠ y.1) : mkL x y = mkL y x := by
  unfold mkL
  rw [lexI_ne h, lexI_ne (fun z => h z.symm)]
  by_cases hc : x.1 < y.1
  · rw [if_pos (decide_eq_true hc), if_neg (by rw [decide_eq_true_eq]; omega)]
  · rw [if_neg (by rw [decide_eq_true_eq]; exact hc), if_pos (decide_eq_true (by omega))]
theorem mkL_of {l : Lk} (h : l.1.1 ≠ l.2.1 ∧ lexI [l.1.1, l.1.2] [l.2.1, l.2.2] = true) : mkL l.1 l.2 = l := by
  unfold mkL
  rw [if_pos h.2]
theorem has_mkL {x y e : E2} : has e (mkL x y) = true ↔ e = x ∨ e = y := by
  unfold has mkL
  split
  · rw [Bool.or_eq_true, decide_eq_true_eq, decide_eq_true_eq]
    exact ⟨fun z => z.elim (fun q => .inl q.symm) (fun q => .inr q.symm), fun z => z.elim (fun q => .inl q.symm) (fun q => .inr q.symm)⟩
  · rw [Bool.or_eq_true, decide_eq_true_eq, decide_eq_true_eq]
    exact ⟨fun z => z.elim (fun q => .inr q.symm) (fun q => .inl q.symm), fun z => z.elim (fun q => .inr q.symm) (fun q => .inl q.symm)⟩
theorem keys_put {M : Mp} {l : Lk} {n : Int} : keysM (putM M l n) = if l ∈ keysM M then keysM M else keysM M ++ [l] := by
  unfold putM
  by_cases hc : l ∈ keysM M
  · rw [if_pos (val_some.mpr hc), if_pos hc]
    unfold keysM
    rw [List.map_map]
    refine List.map_congr_left fun x _ => ?_
    show (if x.1 = l then (x.1, n) else x).1 = x.1
    split <;> rfl
  · rw [if_neg (fun z => hc (val_some.mp z)), if_neg hc]
    unfold keysM
    rw [List.map_append]
    rfl
theorem IM.put_old {M : Mp} (h : IM M) {l : Lk} (n : Int) (hl : l ∈ keysM M) : IM (putM M l n) := by
  have e : keysM (putM M l n) = keysM M := by rw [keys_put, if_pos hl]
  exact ⟨by rw [e]; exact h.nd, by rw [e]; exact h.ok, by rw [e]; exact h.dj⟩
/-- a link that is seen, whose ends' links are lost -/
theorem IM.put_new {M : Mp} (h : IM M) {x y : E2} (n : Int) (hxy : x.1 ≠ y.1) (hx : ∀ l ∈ keysM M, has x l = false) (hy : ∀ l ∈ keysM M, has y l = false) : IM (putM M (mkL x y) n) ∧ mkL x y ∉ keysM M := by
  have hn : mkL x y ∉ keysM M := fun z => by
    have h1 : has x (mkL x y) = true := has_mkL.mpr (.inl rfl)
    rw [hx _ z] at h1
    cases h1
  have e : keysM (putM M (mkL x y) n) = keysM M ++ [mkL x y] := by rw [keys_put, if_neg hn]
  have no : ∀ e : E2, has e (mkL x y) = true → ∀ l ∈ keysM M, has e l = false := fun e he l hl => by
    rcases has_mkL.mp he with rfl | rfl
    · exact hx l hl
    · exact hy l hl
  refine ⟨⟨?_, fun l hl => ?_, fun u hu v hv e2 h1 h2 => ?_⟩, hn⟩
  · rw [e, List.nodup_append]
    refine ⟨h.nd, List.pairwise_singleton _ _, fun a ha b hb z => ?_⟩
    rw [List.mem_singleton.mp hb] at z
    subst z
    exact hn ha
  · rw [e] at hl
    rcases List.mem_append.mp hl with m | m
    · exact h.ok l m
    · rw [List.mem_singleton.mp m]
      exact mkL_ok hxy
  · rw [e] at hu hv
    rcases List.mem_append.mp hu with m | m <;> rcases List.mem_append.mp hv with m' | m'
    · exact h.dj u m v m' e2 h1 h2
    · rw [List.mem_singleton.mp m'] at h2 ⊢
      rw [no e2 h2 u m] at h1
      cases h1
    · rw [List.mem_singleton.mp m] at h1 ⊢
      rw [no e2 h1 v m'] at h2
      cases h2
    · rw [List.mem_singleton.mp m, List.mem_singleton.mp m']
theorem at_none {M : Mp} {ls : List Lk} {e : E2} (h : ∀ l ∈ atM M e, l ∈ ls) : ∀ l ∈ keysM (dropM M ls), has e l = false := fun l hl => by
  obtain ⟨h1, h2⟩ := mem_keys_drop.mp hl
  cases q : has e l with
  | false => rfl
  | true => exact absurd (h l (mem_at.mpr ⟨h1, q⟩)) h2
theorem put_len {M : Mp} {l : Lk} {n : Int} : (putM M l n).length ≤ M.length + 1 := by
  unfold putM
  split
  · rw [List.length_map]
    omega
  · rw [List.length_append]
    exact Nat.le_refl _
theorem srt_len {ls : List Lk} : (srt ls).length = ls.length := (srt_perm ls).length_eq
theorem keys_len {M : Mp} : (keysM M).length = M.length := List.length_map _
theorem at_len {M : Mp} {e : E2} : (atM M e).length ≤ M.length := by
  unfold atM
  refine Nat.le_trans (List.length_filter_le _ _) ?_
  rw [srt_len, keys_len]
  exact Nat.le_refl _
/-! ### lists of links, by a test -/
theorem take_filter {α : Type} {ls : List α} {i : Nat} {l : α} {p : α → Bool} (e : ls[i]? = some l) : (ls.take (i + 1)).filter p = (ls.take i).filter p ++ (if p l = true then [l] else []) := by
  rw [List.take_add_one, e, List.filter_append]
  congr 1
  show [l].filter p = _
  rw [List.filter_cons]
  split <;> rfl
theorem w_lcF {K : PySem.W.Frag} {σ : St} {H B : Hp} {Q : VK} {tl : TE} {a : Addr} {tt : TT} {us : List V} {ls : List Lk} {i : Nat} (p : Lk → Bool) (hx : SqL K H a us) (hL : LkL B us ls) (hz : us.length ≤ 1000) (htl : ∀ Q : VK, Q (.ref a) H → tl σ H Q)
    (hw : ∀ x, wipe ((wipe σ [i]).set i (some x)) [i] = wipe σ [i]) (hv : ∀ x, ((wipe σ [i]).set i (some x))[i]? = some (some x))
    (ht : ∀ t l H1, l ∈ ls → NK B (lkK l) (.ref t) → Same H H1 → ∀ R : Bool → Hp → Prop, (∀ H2, Same H1 H2 → R (p l) H2) → tt ((wipe σ [i]).set i (some (.ref t))) H1 R)
    (hq : ∀ D acc H', Hs H [(D, .lst acc)] H' → LkL B acc (ls.filter p) → Q (.ref D) H') : tLc (iList K tl) (gName i) tt (tVar i) [i] σ H Q := by
  refine w_lc hx (fun D j H' => ∃ acc, Hs H [(D, .lst acc)] H' ∧ LkL B acc ((ls.take j).filter p)) htl (fun D hD => ⟨[], (Hs.start H).new hD, .nil⟩) (fun D j H' _ ⟨_, h, _⟩ => h.same.seq hx) ?_ ?_
  · rintro D j x H' hj ⟨acc, h1, h2⟩
    obtain ⟨t, l, rfl, hl, hk⟩ := LkL.get hL hj
    refine ⟨hw _, ht t l H' (List.mem_of_getElem? hl) hk h1.same _ fun H2 sb => ?_⟩
    have hlen := LkL.len h2
    have hj2 := (List.getElem?_eq_some_iff.mp hl).1
    have hll := LkL.len hL
    have h3 : Hs H [(D, .lst acc)] H2 := ⟨h1.same.trans sb, h1.nd, h1.out, fun e he => sb _ _ (h1.at_ e he)⟩
    have e1 := take_filter (p := p) hl
    by_cases hp : p l = true
    · rw [if_pos hp]
      rw [if_pos hp] at e1
      refine ⟨_, hv _, acc, h3.g0, ?_, acc ++ [.ref t], h3.p0 _, ?_⟩
      · refine szl ?_
        have := List.length_filter_le p (ls.take j)
        rw [List.length_take] at this
        omega
      · rw [e1]
        exact h2.snoc hk
    · rw [if_neg hp]
      rw [if_neg hp, List.append_nil] at e1
      refine ⟨acc, h3, ?_⟩
      rw [e1]
      exact h2
  · rintro D H' ⟨acc, h1, h2⟩
    rw [LkL.len hL, List.take_length] at h2
    exact hq D acc H' h1 h2
/-- what is walked first, then the walk -/
theorem w_lcS {K : PySem.W.Frag} {σ : St} {H : Hp} {Q : VK} {tl : TE} {g : TG} {tt : TT} {te : TE} {vs : List Nat} (q : tl σ H fun v H1 => tLc (iList K (tC v)) g tt te vs σ H1 Q) : tLc (iList K tl) g tt te vs σ H Q := q
theorem w_forS {K : PySem.W.Frag} {σ : St} {H : Hp} {D : Ends} {tl : TE} {g : TG} {tb : TS} (q : tl σ H fun v H1 => tFor (iList K (tC v)) g tb D σ H1) : tFor (iList K tl) g tb D σ H := q
theorem w_isL {K : PySem.W.Frag} {H : Hp} {Q : VK} {p : Addr} {xs : List V} (h : H p = some (.lst xs)) (k : Q (.bl true) H) : rIsi K [.ref p, .ty "list"] H Q :=
  ⟨_, _, _, _, true, rfl, .ty "list", .base (.lst h), kit_ty (by decide +kernel), k⟩
end Hb

set_option Elab.async false
set_option linter.all false
set_option maxRecDepth 100000
set_option maxHeartbeats 4000000
/-! Sets whose elements are tuples of a kind of keys (nested tuples: KE's nestedKind), kept in the model's own table. -/
namespace Hb
open PySem L2 PyProof.Rows

section
variable {P : Program} {w : World} {κ : Type} [DecidableEq κ]
/-- what the model asks of an element besides its hash and its == -/
structure Els (knd : HeapKind P w κ) : Prop where
  ofA : ∀ {A : Around} {E : Value → Shared → Prop} {s : Shared} {k : κ} {b : Addr} {Q : Bool → Shared → Prop}, knd.is s.heap k b → Q false s → wpAny (model P w) A (ofAClassStatement 8 (.ref b)) Q E s
  byV : ∀ {A : Around} {E : Value → Shared → Prop} {s : Shared} {k : κ} {b : Addr} {Q : Bool → Shared → Prop}, knd.is s.heap k b → Q true s → wpAny (model P w) A (hashByValue 8 (.ref b)) Q E s
  stay : ∀ {h h' : Heap} {k : κ} {b d : Addr} {o : Obj} {es : Array (Int × Value)} {ep : Nat} {t : SetTable}, knd.is h k b → h.get? d = some o → o.data = .set es ep t → Heap.SameBut d h h' → knd.is h' k b
  grow : ∀ {h h' : Heap} {k : κ} {b : Addr}, knd.is h k b → (∀ c o, h.get? c = some o → h'.get? c = some o) → knd.is h' k b
end

/-! ### nested tuples are such elements -/
section
variable {P : Program} {w : World}
def NoCls (P : Program) (w : World) (n : Nat) (s : Shared) (v : Value) : Prop := ∀ (A : Around) (E : Value → Shared → Prop) (Q : Bool → Shared → Prop), Q false s → wpAny (model P w) A (ofAClassStatement n v) Q E s
def ByVal (P : Program) (w : World) (n : Nat) (s : Shared) (v : Value) : Prop := ∀ (A : Around) (E : Value → Shared → Prop) (Q : Bool → Shared → Prop), Q true s → wpAny (model P w) A (hashByValue n v) Q E s
theorem NoCls.pure {n : Nat} {s : Shared} {v : Value} (h : ofAClassStatement n v = Pure.pure false) : NoCls P w n s v := fun A E Q q => by
  rw [h]
  exact wpAny_pure q
theorem ByVal.pure {n : Nat} {s : Shared} {v : Value} (h : hashByValue n v = Pure.pure true) : ByVal P w n s v := fun A E Q q => by
  rw [h]
  exact wpAny_pure q
theorem NoCls.tup {n m : Nat} {s : Shared} {a : Addr} {o : Obj} {vs : Array Value} (ho : s.heap.get? a = some o) (hc : o.cls = .type "tuple") (hd : o.data = .seq vs m) (hv : ∀ v ∈ vs.toList, NoCls P w n s v) : NoCls P w (n + 1) s (.ref a) := fun A E Q q => by
  have hT : s.TypeIs (.ref a) "tuple" := ⟨o, ho, hc⟩
  unfold ofAClassStatement
  refine wpAny_bind (wpAny_typeOf hT ?_)
  dsimp only
  have e : (("tuple" : String) == "tuple") = true := by decide
  simp only [e, if_true, Bool.not_true, Bool.false_eq_true, if_false]
  try refine wpAny_bind (wpAny_pure ?_)
  try simp only [Bool.not_true, Bool.false_eq_true, if_false]
  show wpAny _ _ (seqItems? (.ref a) >>= _) _ _ s
  refine wpAny_bind (wpAny_seqItems ho hd ?_)
  dsimp only
  refine wpAny_bind ?_
  show wpAny _ _ (forIn vs _ _) _ _ s
  rw [← Array.forIn_toList]
  refine wpAny_forIn_list _ (fun rest r s' => r.1 = none ∧ s' = s ∧ ∀ v ∈ rest, NoCls P w n s v) _ ?_ ?_ _ _ ⟨rfl, rfl, hv⟩
  · rintro v rest r s' ⟨_, rfl, all⟩
    refine wpAny_bind (all v List.mem_cons_self _ _ _ ?_)
    simp only [Bool.false_eq_true, if_false]
    exact wpAny_pure ⟨rfl, rfl, fun u hu => all u (List.mem_cons_of_mem _ hu)⟩
  · rintro ⟨r1, r2⟩ s' ⟨hr, rfl, _⟩
    simp only at hr
    subst hr
    exact wpAny_pure q
theorem ByVal.tup {n m : Nat} {s : Shared} {a : Addr} {o : Obj} {vs : Array Value} (ho : s.heap.get? a = some o) (hc : o.cls = .type "tuple") (hd : o.data = .seq vs m) (hv : ∀ v ∈ vs.toList, ByVal P w n s v) : ByVal P w (n + 1) s (.ref a) := fun A E Q q => by
  have hT : s.TypeIs (.ref a) "tuple" := ⟨o, ho, hc⟩
  unfold hashByValue
  refine wpAny_bind (wpAny_specialOf hT F.slot_tuple_hash.lookup ?_)
  show wpAny _ _ (seqItems? (.ref a) >>= _) _ _ s
  refine wpAny_bind (wpAny_seqItems ho hd ?_)
  refine wpAny_bind ?_
  show wpAny _ _ (forIn vs _ _) _ _ s
  rw [← Array.forIn_toList]
  refine wpAny_forIn_list _ (fun rest r s' => r.1 = none ∧ s' = s ∧ ∀ v ∈ rest, ByVal P w n s v) _ ?_ ?_ _ _ ⟨rfl, rfl, hv⟩
  · rintro v rest r s' ⟨_, rfl, all⟩
    refine wpAny_bind (all v List.mem_cons_self _ _ _ ?_)
    simp only [Bool.not_true, Bool.false_eq_true, if_false]
    exact wpAny_pure ⟨rfl, rfl, fun u hu => all u (List.mem_cons_of_mem _ hu)⟩
  · rintro ⟨r1, r2⟩ s' ⟨hr, rfl, _⟩
    simp only at hr
    subst hr
    exact wpAny_pure q
theorem scal_ofA {v : Value} (h : v.onHeap = false) (n : Nat) (hv : v = .none ∨ (∃ b, v = .bool b) ∨ (∃ i t, v = .int i t) ∨ ∃ x t, v = .str x t) : ofAClassStatement n v = Pure.pure false := by
  rcases hv with rfl | ⟨b, rfl⟩ | ⟨i, t, rfl⟩ | ⟨x, t, rfl⟩ <;> cases n <;> rfl
theorem scal_byV {v : Value} (n : Nat) (hv : v = .none ∨ (∃ b, v = .bool b) ∨ (∃ i t, v = .int i t)) : hashByValue n v = Pure.pure true := by
  rcases hv with rfl | ⟨b, rfl⟩ | ⟨i, t, rfl⟩ <;> cases n <;> rfl
mutual
/-- no text is in it: its hash hangs on its value alone -/
def noTx : NestedKey → Bool
  | .none => true
  | .num _ => true
  | .text _ => false
  | .tup ks => noTxs ks
def noTxs : List NestedKey → Bool
  | [] => true
  | k :: ks => noTx k && noTxs ks
end
mutual
theorem nested_els : ∀ (k : NestedKey) (v : Value) (n : Nat) (s : Shared), NestedIs s.heap k v → k.depth ≤ n → noTx k = true → NoCls P w n s v ∧ ByVal P w n s v
  | .none, _, n, s, x, _, _ => by
    cases x
    exact ⟨.pure (scal_ofA rfl n (.inl rfl)), .pure (scal_byV n (.inl rfl))⟩
  | .num i, _, n, s, x, _, _ => by
    cases x with
    | bool e => exact ⟨.pure (scal_ofA rfl n (.inr (.inl ⟨_, rfl⟩))), .pure (scal_byV n (.inr (.inl ⟨_, rfl⟩)))⟩
    | int _ t => exact ⟨.pure (scal_ofA rfl n (.inr (.inr (.inl ⟨_, _, rfl⟩)))), .pure (scal_byV n (.inr (.inr ⟨_, _, rfl⟩)))⟩
  | .text y, _, n, s, x, _, h => by
    simp only [noTx, Bool.false_eq_true] at h
  | .tup ks, _, n, s, x, hn, h => by
    cases x with
    | tup hg hc hd hk =>
      simp only [NestedKey.depth] at hn
      simp only [noTx] at h
      cases n with
      | zero => omega
      | succ n =>
        have all := nested_elss ks _ n s hk (by omega) h
        exact ⟨.tup hg hc hd fun v hv => (all v hv).1, .tup hg hc hd fun v hv => (all v hv).2⟩
theorem nested_elss : ∀ (ks : List NestedKey) (vs : List Value) (n : Nat) (s : Shared), NestedAll s.heap ks vs → NestedKey.depthAll ks ≤ n → noTxs ks = true → ∀ v ∈ vs, NoCls P w n s v ∧ ByVal P w n s v
  | [], _, n, s, x, _, _, v, hv => by cases x; cases hv
  | k :: ks, _, n, s, x, hn, h, v, hv => by
    cases x with
    | cons x1 x2 =>
      simp only [NestedKey.depthAll] at hn
      simp only [noTxs, Bool.and_eq_true] at h
      rcases List.mem_cons.mp hv with e | hv
      · rw [e]
        exact nested_els k _ n s x1 (by omega) h.1
      · exact nested_elss ks _ n s x2 (by omega) h.2 v hv
end
/-- the kind of nested tuples without texts -/
def numKind (P : Program) (w : World) : HeapKind P w NestedKey where
  is := fun h k a => (nestedKind P w).is h k a ∧ noTx k = true
  hash := (nestedKind P w).hash
  draws := (nestedKind P w).draws
  room := (nestedKind P w).room
  inj := fun x y => (nestedKind P w).inj x.1 y.1
  keeps := fun x ho hd hs => ⟨(nestedKind P w).keeps x.1 ho hd hs, x.2⟩
  pyHash := fun hr x h => (nestedKind P w).pyHash hr x.1 h
  eqBool := fun hr x y h => (nestedKind P w).eqBool hr x.1 y.1 h
  quiet := fun x h => (nestedKind P w).quiet x.1 h
theorem els_num : Els (numKind P w) where
  ofA := fun {A E s k b Q} h q => (nested_els k _ 8 s h.1.1 h.1.2 h.2).1 A E Q q
  byV := fun {A E s k b Q} h q => (nested_els k _ 8 s h.1.1 h.1.2 h.2).2 A E Q q
  stay := fun {h h' k b d o es ep t} x ho hd hs => ⟨⟨NestedIs.at (fun c oc vs n hc hdc => by
    refine (hs.2 c fun e => ?_).trans hc
    subst e
    rw [ho] at hc
    cases hc
    rw [hd] at hdc
    cases hdc) k _ x.1.1, x.1.2⟩, x.2⟩
  grow := fun x k => ⟨⟨NestedIs.at (fun c o _ _ hc _ => k c o hc) _ _ x.1.1, x.1.2⟩, x.2⟩
end

/-! ### the table -/
section
variable {P : Program} {w : World} {κ : Type} [DecidableEq κ] {knd : HeapKind P w κ} {A : Around} {E : Value → Shared → Prop} {s : Shared}
/-- the elements as the table's rows -/
def rowsK (knd : HeapKind P w κ) (L : List (κ × Addr)) : List (Int × Value) := L.map fun p => (knd.hash p.1, Value.ref p.2)
/-- the set at a, of the elements L (in the table's order) -/
structure SetK (knd : HeapKind P w κ) (h : Heap) (a : Addr) (L : List (κ × Addr)) (es : Array (Int × Value)) (ep : Nat) (t : SetTable) : Prop where
  ob : ∃ o, h.get? a = some o ∧ o.ExactSet ∧ o.data = .set es ep t
  rows : es.toList = rowsK knd L
  tab : TabOk t (L.map fun p => knd.hash p.1)
  nd : (L.map (·.1)).Nodup
  els : ∀ p ∈ L, knd.is h p.1 p.2
  pl : t.plain = true
  led : w.params.followText "set-order" = true ∨ t.led = true
  room : L.length * 5 < t.mask * 3
  few : L.length < 64
variable {a : Addr} {L : List (κ × Addr)} {es : Array (Int × Value)} {ep : Nat} {t : SetTable}
theorem rowsK_size (e : es.toList = rowsK knd L) : es.size = L.length := by
  rw [← Array.length_toList, e]
  exact List.length_map _
theorem rowsK_at (e : es.toList = rowsK knd L) (i : Nat) : es[i]? = (L[i]?).map fun p => (knd.hash p.1, Value.ref p.2) := by
  rw [← Array.getElem?_toList, e]
  exact List.getElem?_map ..
theorem fitsK (T : TabOk t (L.map fun p => knd.hash p.1)) (e : es.toList = rowsK knd L) (hm : L.length ≤ t.mask) : t.fits es.size = true := by
  have h1 : t.place.size = L.length := by
    rw [T.sz]
    exact List.length_map _
  unfold SetTable.fits SetTable.fill
  rw [T.dm, rowsK_size e, Bool.and_eq_true, beq_iff_eq, decide_eq_true_eq]
  exact ⟨h1, by show t.place.size + 0 ≤ t.mask; omega⟩
theorem SetK.fits (R : SetK knd s.heap a L es ep t) : t.fits es.size = true := fitsK R.tab R.rows (by have := R.room; omega)
/-- a search shows nothing of the elements -/
theorem unseenK (el : Els knd) {k : κ} {b : Addr} {Q : Bool → Shared → Prop} (hk : knd.is s.heap k b) {ys : List Value} (hy : ∀ y ∈ ys, ∃ j c, y = Value.ref c ∧ knd.is s.heap j c) (h : Q false s) : wpAny (model P w) A (searchCouldBeSeen (.ref b) ys) Q E s := by
  unfold searchCouldBeSeen
  refine wpAny_bind ?_
  refine wpAny_forIn_list _ (fun rest r s' => r.1 = none ∧ s' = s ∧ ∀ y ∈ rest, y ∈ ys) _ ?_ ?_ _ _ ⟨rfl, rfl, fun _ z => z⟩
  · rintro v rest r s' ⟨_, rfl, sub⟩
    obtain ⟨j, c, rfl, hc⟩ := hy v (sub v List.mem_cons_self)
    have more : ∀ y ∈ rest, y ∈ ys := fun u hu => sub u (List.mem_cons_of_mem _ hu)
    dsimp only
    by_cases hv : (b == c || (carriedByValue (.ref b) && carriedByValue (.ref c))) = true
    · exact wp_if_pos hv (wpAny_pure ⟨rfl, rfl, more⟩)
    · refine wp_if_neg hv (wpAny_bind (knd.quiet hk ?_))
      simp only [Bool.not_true, Bool.false_eq_true, if_false]
      refine wpAny_bind (knd.quiet hc ?_)
      simp only [Bool.not_true, Bool.false_eq_true, if_false]
      refine wpAny_bind (el.ofA hk ?_)
      simp only [Bool.false_eq_true, if_false]
      refine wpAny_bind (el.ofA hc ?_)
      simp only [Bool.false_eq_true, if_false]
      exact wpAny_pure ⟨rfl, rfl, more⟩
  · rintro ⟨r1, r2⟩ s' ⟨hr, rfl, _⟩
    simp only at hr
    subst hr
    exact wpAny_pure h

/-- where a search for the hash h stands behind c steps -/
abbrev stepK (t : SetTable) (h : Int) (c : Nat) : SetTable.Probe := nth t.mask (runAt t.mask (SetTable.bits h % (t.mask + 1)) (SetTable.bits h)) c
theorem stepK_add (t : SetTable) (h : Int) (c q : Nat) : nth t.mask (stepK t h c) q = stepK t h (c + q) := (nth_add t.mask c _ q).symm
theorem stepK_j (t : SetTable) (h : Int) (c q : Nat) : (nth t.mask (stepK t h c) q).j = way t.mask h (c + q) := congrArg SetTable.Probe.j (stepK_add t h c q)
theorem dummy_nth (m : Nat) : ∀ (n : Nat) (p : SetTable.Probe), p.dummy = none → (nth m p n).dummy = none
  | 0, _, h => h
  | n + 1, p, h => dummy_nth m n (adv m p) (by
    unfold adv
    split <;> exact h)
/-- THE SEARCH: with n steps to go to the first free slot -/
theorem seekK (el : Els knd) (R : SetK knd s.heap a L es ep t) {x : Addr} {k : κ} (hx : knd.is s.heap k x) (hr : knd.room A) {N : Nat} (hN : N < 10 * SetTable.turns t.mask) (hfree : way t.mask (knd.hash k) N ∉ t.place.toList)
    (htak : ∀ c, c < N → way t.mask (knd.hash k) c ∈ t.place.toList) {Q : SetFound → Shared → Prop} (qin : k ∈ L.map (·.1) → Q (.there none) s) (qout : k ∉ L.map (·.1) → Q (.free (way t.mask (knd.hash k) N) false) s) (n : Nat) :
    ∀ (c f : Nat) (stand : Option SetTable.Probe), c + n = N → n < f → stand.getD (t.probeStart (knd.hash k)) = stepK t (knd.hash k) c →
      (∀ (i : Nat) (p : κ × Addr), L[i]? = some p → p.1 = k → ∃ q, q < n ∧ t.place.toList[i]? = some (way t.mask (knd.hash k) (c + q))) →
      wpAny (model P w) A (setSearchFrom a (.ref x) (knd.hash k) true f stand) Q E s := by
  induction n using Nat.strongRecOn with
  | ind n ih =>
    intro c f stand hc hf hst hre
    obtain ⟨f, rfl⟩ : ∃ g, f = g + 1 := ⟨f - 1, by omega⟩
    obtain ⟨o, ho, hex, hd⟩ := R.ob
    rw [setSearchFrom_succ]
    refine wpAny_bind (wpAny_setState_of ho hd R.fits ?_)
    dsimp only
    refine wp_if_neg (by unfold SetTable.gaveWay; rw [mask_odd R.tab.mok]; decide) ?_
    try refine wpAny_bind (wpAny_pure ?_)
    have hAt : ∀ (i : Nat) (p : κ × Addr), L[i]? = some p → (fun i => (es[i]?.map (·.1)).getD 0) i = knd.hash p.1 := fun i p hp => by
      show (es[i]?.map (·.1)).getD 0 = _
      rw [rowsK_at R.rows, hp]
      rfl
    have spec := go_spec t R.tab.ris R.tab.dm (fun i => (es[i]?.map (·.1)).getD 0) (knd.hash k) (10 * SetTable.turns t.mask) n (stepK t (knd.hash k) c) (dummy_nth _ _ _ rfl) (by omega)
      (fun q hq => by rw [stepK_j]; exact htak _ (by omega)) (by rw [stepK_j, hc]; exact hfree)
    have pr : t.probe (fun i => (es[i]?.map (·.1)).getD 0) (knd.hash k) (stand.getD (t.probeStart (knd.hash k))) = SetTable.probe.go t (fun i => (es[i]?.map (·.1)).getD 0) (knd.hash k) (10 * SetTable.turns t.mask) (stepK t (knd.hash k) c) := by
      rw [hst]
      rfl
    rw [pr]
    rcases spec with ⟨q, i, hq, hi, _, hno, e⟩ | ⟨hno, e⟩
    · rw [e, stepK_j, stepK_add]
      rw [stepK_j] at hi
      dsimp only
      have hil : i < L.length := by
        have h1 := (List.getElem?_eq_some_iff.mp hi).1
        rw [Array.length_toList, R.tab.sz, List.length_map] at h1
        exact h1
      obtain ⟨p, hp⟩ : ∃ p, L[i]? = some p := ⟨_, List.getElem?_eq_getElem hil⟩
      have hm : p ∈ L := List.mem_of_getElem? hp
      have hei : es[i]? = some (knd.hash p.1, Value.ref p.2) := by
        rw [rowsK_at R.rows, hp]
        rfl
      have hsl : t.slot (way t.mask (knd.hash k) (c + q)) = .live i := slot_live R.tab.ris hi
      have after : wpAny (model P w) A (searchRest a (.ref x) (knd.hash k) true f es t (way t.mask (knd.hash k) (c + q)) i (stepK t (knd.hash k) (c + (q + 1)))) Q E s := by
        unfold searchRest
        rw [hei]
        dsimp only
        refine wpAny_bind (wpAny_holding (knd.eqBool hr (R.els p hm) hx ?_))
        refine wpAny_bind (wpAny_setState_of ho hd R.fits ?_)
        dsimp only
        by_cases hk : p.1 = k
        · exact wp_if_pos (by simp [hk]) (wpAny_pure (qin (List.mem_map.mpr ⟨p, hm, hk⟩)))
        · refine wp_if_neg (by simp [hk]) ?_
          try refine wpAny_bind (wpAny_pure ?_)
          rw [sameMem]
          dsimp only
          simp only [if_true, hsl, hei]
          refine wpAny_bind (wpAny_isSame_ref_self (wpAny_bind (wpAny_pure ?_)))
          simp only [if_true]
          refine wp_if_neg (by simp [hk]) ?_
          refine ih (n - (q + 1)) (by omega) (c + (q + 1)) f _ (by omega) (by omega) rfl fun i0 p0 h0 hk0 => ?_
          obtain ⟨r, hrn, hpl⟩ := hre i0 p0 h0 hk0
          rcases Nat.lt_trichotomy r q with z | z | z
          · exact absurd ((hAt i0 p0 h0).trans (congrArg knd.hash hk0)) (hno r i0 z (by rw [stepK_j]; exact hpl))
          · subst z
            have s0 := slot_live R.tab.ris hpl
            rw [hsl] at s0
            injection s0 with s0
            rw [← s0, hp] at h0
            exact absurd ((congrArg Prod.fst (Option.some.inj h0)).trans hk0) hk
          · exact ⟨r - (q + 1), by omega, by rw [show c + (q + 1) + (r - (q + 1)) = c + r by omega]; exact hpl⟩
      by_cases hl : t.led = true
      · refine wp_if_neg (by simp [hl]) ?_
        try refine wpAny_bind (wpAny_pure ?_)
        exact after
      · refine wp_if_pos (by simp [hl]) ?_
        refine wpAny_bind (unseenK el hx (fun y hy => ?_) (wp_if_neg (by decide) ?_))
        · obtain ⟨z, hz, rfl⟩ := List.mem_map.mp hy
          have hz1 : z ∈ es ∧ z.1 = knd.hash k := by simpa using hz
          have hz2 : z ∈ es.toList := by simpa using hz1.1
          rw [R.rows] at hz2
          obtain ⟨p2, hp2, rfl⟩ := List.mem_map.mp hz2
          exact ⟨p2.1, p2.2, rfl, R.els p2 hp2⟩
        · try refine wpAny_bind (wpAny_pure ?_)
          exact after
    · rw [e, stepK_j, hc]
      dsimp only
      refine wpAny_pure (qout fun hm => ?_)
      obtain ⟨p0, h0, hk0⟩ := List.mem_map.mp hm
      obtain ⟨i0, hi0, e0⟩ := List.getElem_of_mem h0
      have h00 : L[i0]? = some p0 := by rw [List.getElem?_eq_getElem hi0, e0]
      obtain ⟨r, hrn, hpl⟩ := hre i0 p0 h00 hk0
      exact hno r i0 hrn (by rw [stepK_j]; exact hpl) ((hAt i0 p0 h00).trans (congrArg knd.hash hk0))
/-- the search as adding asks for it -/
theorem lookK (el : Els knd) (R : SetK knd s.heap a L es ep t) {x : Addr} {k : κ} (hx : knd.is s.heap k x) (hr : knd.room A) {Q : SetFound → Shared → Prop} (qin : k ∈ L.map (·.1) → Q (.there none) s)
    (qout : ∀ N, k ∉ L.map (·.1) → way t.mask (knd.hash k) N ∉ t.place.toList → (∀ c, c < N → way t.mask (knd.hash k) c ∈ t.place.toList) → Q (.free (way t.mask (knd.hash k) N) false) s) :
    wpAny (model P w) A (setSearch a (.ref x) (knd.hash k) true) Q E s := by
  have room := R.room
  obtain ⟨N, h1, h2, h3⟩ := R.tab.first (by rw [List.length_map]; omega) (knd.hash k)
  have few : N < 100000 := by
    have : 10 * SetTable.turns t.mask ≤ 1420 := by
      unfold SetTable.turns
      rcases R.tab.mok with e | e | e <;> omega
    omega
  unfold setSearch
  refine seekK el R hx hr h1 h2 h3 qin (fun z => qout N z h2 h3) N 0 100000 none (Nat.zero_add N) few rfl fun i p hp hk => ?_
  have hi : (L.map fun p => knd.hash p.1)[i]? = some (knd.hash k) := by
    rw [List.getElem?_map, hp, ← hk]
    rfl
  have hil : i < t.place.toList.length := by
    rw [Array.length_toList, R.tab.sz, List.length_map]
    exact (List.getElem?_eq_some_iff.mp hp).1
  have hj := List.getElem?_eq_getElem hil
  obtain ⟨q, hq, e⟩ := R.tab.before h2 hi hj
  exact ⟨q, hq, by rw [hj, Nat.zero_add, e]⟩

theorem range_pick {α : Type} : ∀ l : List α, (List.range l.length).filterMap (fun i => l[i]?) = l
  | [] => rfl
  | x :: l => by
    rw [List.length_cons, List.range_succ_eq_map, List.filterMap_cons]
    show x :: (List.map Nat.succ (List.range l.length)).filterMap (fun i => (x :: l)[i]?) = x :: l
    rw [List.filterMap_map]
    exact congrArg (x :: ·) (range_pick l)
theorem fm_congr {α β : Type} {f g : α → Option β} : ∀ {l : List α}, (∀ x ∈ l, f x = g x) → l.filterMap f = l.filterMap g
  | [], _ => rfl
  | x :: l, h => by rw [List.filterMap_cons, List.filterMap_cons, h x List.mem_cons_self, fm_congr fun y hy => h y (List.mem_cons_of_mem _ hy)]
/-- the rows in another order -/
theorem orderK (e : es.toList = rowsK knd L) {order : Array Nat} (hp : order.toList.Perm (List.range L.length)) :
    ∃ L2, (order.filterMap (es[·]?)).toList = rowsK knd L2 ∧ L2.Perm L ∧ (L2.map fun p => knd.hash p.1) = order.toList.map fun i => (es.map (·.1)).getD i 0 := by
  refine ⟨order.toList.filterMap fun i => L[i]?, ?_, ?_, ?_⟩
  · rw [Array.toList_filterMap]
    unfold rowsK
    rw [List.map_filterMap]
    exact fm_congr fun i _ => rowsK_at e i
  · exact (hp.filterMap _).trans (List.Perm.of_eq (range_pick L))
  · rw [List.map_filterMap, ← List.filterMap_eq_map]
    refine fm_congr fun i hi => ?_
    have hlt : i < L.length := List.mem_range.mp (hp.mem_iff.mp hi)
    have h1 : (es.map (·.1))[i]? = some (knd.hash (L[i]).1) := by
      rw [Array.getElem?_map, rowsK_at e, List.getElem?_eq_getElem hlt]
      rfl
    rw [List.getElem?_eq_getElem hlt]
    show some (knd.hash (L[i]).1) = some ((es.map (·.1)).getD i 0)
    rw [Array.getD_eq_getD_getElem?, h1]
    rfl
/-- all laid anew in a larger table -/
theorem relayK (el : Els knd) {o : Obj} (ho : s.heap.get? a = some o) (hex : o.ExactSet) (hd : o.data = .set es ep t) (hrows : es.toList = rowsK knd L) (T : TabOk t (L.map fun p => knd.hash p.1)) (hm : L.length ≤ t.mask)
    (nd : (L.map (·.1)).Nodup) (els : ∀ p ∈ L, knd.is s.heap p.1 p.2) (pl : t.plain = true) (led : w.params.followText "set-order" = true ∨ t.led = true) (few : L.length < 64) {wanted M : Nat}
    (hw : SetTable.sizeAbove wanted - 1 = M) (hM : MaskOk M) (hw2 : SetTable.sizeAbove wanted ≤ 128) (hn : L.length * 5 < M * 3) {Q : Unit → Shared → Prop}
    (hQ : ∀ h' L' es' ep' t', Heap.SameBut a s.heap h' → SetK knd h' a L' es' ep' t' → L'.Perm L → Q () { s with heap := h' }) : wpAny (model P w) A (setRelay a wanted) Q E s := by
  have hsz := rowsK_size hrows
  obtain ⟨t', order, e, hp, T', em, el', ep', _⟩ := relaid_ok t (hs := es.map (·.1)) (wanted := wanted) hw hM (by rw [Array.size_map, hsz]; omega)
  rw [Array.size_map, hsz] at hp
  obtain ⟨L2, r1, r2, r3⟩ := orderK hrows hp
  rw [← r3] at T'
  have hs2 : (order.filterMap (es[·]?)).size = es.size := by rw [rowsK_size r1, r2.length_eq, hsz]
  rw [setRelay_eq]
  refine wpAny_bind (wpAny_setState_of ho hd (fitsK T hrows hm) ?_)
  dsimp only
  refine wp_if_neg (by rw [sizeLine_eq]; omega) ?_
  try refine wpAny_bind (wpAny_pure ?_)
  rw [e]
  dsimp only
  refine wpAny_bind ?_
  refine wp_if_neg (by rw [hs2]; simp) ?_
  try refine wpAny_bind (wpAny_pure ?_)
  refine wpAny_pure ?_
  dsimp only
  refine wpAny_storeSet_of ho hd ?_ (by rw [hs2, hsz, sizeLine_eq]; omega)
  have sb : Heap.SameBut a s.heap (s.heap.update a (Obj.putSet (order.filterMap (es[·]?)) t')) := Heap.SameBut.update ..
  exact hQ _ L2 _ (ep + 1) t' sb ⟨⟨_, store_at ho hd, ⟨hex.1, hex.2.1, hex.2.2⟩, rfl⟩, r1, T', (r2.map (·.1)).nodup_iff.mpr nd, fun p hpm => el.stay (els p (r2.mem_iff.mp hpm)) ho hd sb, by rw [ep']; exact pl, by rw [el']; exact led, by rw [r2.length_eq, em]; exact hn, by rw [r2.length_eq]; exact few⟩ r2
/-- ADDING an element whose hash is known -/
theorem addK (el : Els knd) (R : SetK knd s.heap a L es ep t) {x : Addr} {k : κ} (hx : knd.is s.heap k x) (hr : knd.room A) (few : L.length + 1 < 64) {Q : Bool → Shared → Prop}
    (hQ : ∀ b h' L' es' ep' t', Heap.SameBut a s.heap h' → SetK knd h' a L' es' ep' t' → (k ∈ L.map (·.1) → L' = L) → (k ∉ L.map (·.1) → L'.Perm ((k, x) :: L)) → Q b { s with heap := h' }) :
    wpAny (model P w) A (setAddHashed a (.ref x) (knd.hash k)) Q E s := by
  obtain ⟨o, ho, hex, hd⟩ := R.ob
  have room := R.room
  unfold setAddHashed
  refine wpAny_holding ?_
  rw [show (100000 : Nat) = 99999 + 1 from rfl, setAddHashedIn_succ]
  refine wpAny_bind (wpAny_setState_of ho hd R.fits ?_)
  dsimp only
  refine wp_if_neg (by simp [byScan, Value.scannable]) ?_
  try refine wpAny_bind (wpAny_pure ?_)
  refine wpAny_bind (lookK el R hx hr (fun hm => ?_) fun N hm hN hb => ?_)
  · dsimp only
    exact wpAny_pure (hQ false s.heap L es ep t (Heap.SameBut.refl a s.heap) R (fun _ => rfl) fun z => absurd hm z)
  dsimp only
  refine wpAny_bind (wpAny_setState_of ho hd R.fits ?_)
  dsimp only
  obtain ⟨q1, q2, q3, q4, q5, q6, _, _, q9⟩ := R.tab.put hN hb
  rw [← List.map_take, ← List.map_drop, ← List.map_cons (f := fun p : κ × Addr => knd.hash p.1) (a := (k, x)), ← List.map_append] at q3
  rw [List.length_map] at q9
  generalize hpt : t.put (way t.mask (knd.hash k) N) = pt at q1 q3 q4 q5 q6 q9 ⊢
  obtain ⟨t1, p⟩ := pt
  dsimp only at q1 q3 q4 q5 q6 q9 ⊢
  have pl1 : t1.plain = true := q6.trans R.pl
  have ins : (SetTable.insertAt es p (knd.hash k, Value.ref x)).toList = rowsK knd (L.take p ++ (k, x) :: L.drop p) := by
    rw [SetTable.toList_insertAt, R.rows]
    unfold rowsK
    rw [List.map_append, List.map_cons, List.map_take, List.map_drop]
  rw [← q1] at q3
  have pm : (L.take p ++ (k, x) :: L.drop p).Perm ((k, x) :: L) := by
    have h : (L.take p ++ (k, x) :: L.drop p).Perm ((k, x) :: (L.take p ++ L.drop p)) := List.perm_middle
    rwa [List.take_append_drop] at h
  first
    | (refine wpAny_bind ?_; refine wp_if_pos pl1 ?_; refine el.byV hx ?_)
    | refine wp_if_pos pl1 (wpAny_bind (el.byV hx ?_))
  simp only [if_true]
  generalize SetTable.insertAt es p (knd.hash k, Value.ref x) = es1 at ins ⊢
  generalize L.take p ++ (k, x) :: L.drop p = L1 at pm q3 ins
  have len : L1.length = L.length + 1 := pm.length_eq
  have nd1 : (L1.map (·.1)).Nodup := (pm.map (·.1)).nodup_iff.mpr (by rw [List.map_cons]; exact List.nodup_cons.mpr ⟨hm, R.nd⟩)
  have hes : es1.size = L.length + 1 := (rowsK_size ins).trans len
  refine wpAny_bind (wpAny_storeSet_of ho hd ?_ (by rw [hes, sizeLine_eq]; omega))
  have sb : Heap.SameBut a s.heap (s.heap.update a (Obj.putSet es1 t1)) := Heap.SameBut.update ..
  have ho1 := store_at (es' := es1) (t' := t1) ho hd
  generalize s.heap.update a (Obj.putSet es1 t1) = h1 at sb ho1 ⊢
  have els1 : ∀ p ∈ L1, knd.is h1 p.1 p.2 := fun p hp => by
    rcases List.mem_cons.mp (pm.mem_iff.mp hp) with e | hp
    · rw [e]
      exact el.stay hx ho hd sb
    · exact el.stay (R.els p hp) ho hd sb
  have led1 : w.params.followText "set-order" = true ∨ t1.led = true := by rw [q5]; exact R.led
  by_cases hf : t1.tooFull = true
  · have full : (L.length + 1) * 5 ≥ t1.mask * 3 := by
      have h := hf
      unfold SetTable.tooFull at h
      rw [decide_eq_true_eq, q9] at h
      exact h
    have two : (t.mask = 7 ∧ L.length = 4) ∨ (t.mask = 31 ∧ L.length = 18) := by
      rw [q4] at full
      rcases R.tab.mok with e | e | e <;> rw [e] at full room
      · exact .inl ⟨e, by omega⟩
      · exact .inr ⟨e, by omega⟩
      · omega
    have go : ∀ M, SetTable.sizeAbove (SetTable.grown (L.length + 1)) - 1 = M → MaskOk M → SetTable.sizeAbove (SetTable.grown (L.length + 1)) ≤ 128 → (L.length + 1) * 5 < M * 3 →
        wpAny (model P w) A (setRelay a (SetTable.grown (L.length + 1))) (fun _ s' => wpAny (model P w) A (pure true) Q E s') E { s with heap := h1 } := fun M z1 z2 z3 z4 => by
      refine relayK (s := { s with heap := h1 }) el ho1 ⟨hex.1, hex.2.1, hex.2.2⟩ rfl ins q3 (by rw [len, q4]; rcases two with ⟨e, e2⟩ | ⟨e, e2⟩ <;> omega) nd1 els1 pl1 led1 (by rw [len]; exact few) z1 z2 z3 (by rw [len]; exact z4) ?_
      intro h2 L2 es2 ep2 t2 sb2 R2 pm2
      exact wpAny_pure (hQ true h2 L2 es2 ep2 t2 (sb.trans sb2) R2 (fun z => absurd z hm) fun _ => pm2.trans pm)
    rw [rowsK_size R.rows]
    first
      | (refine wpAny_bind ?_; refine wp_if_pos (by simp [hf]) ?_)
      | (refine wp_if_pos (by simp [hf]) ?_; refine wpAny_bind ?_)
    rcases two with ⟨_, e2⟩ | ⟨_, e2⟩
    · exact go 31 (by rw [e2, size_20]) (.inr (.inl rfl)) (by rw [e2, size_20]; decide) (by omega)
    · exact go 127 (by rw [e2, size_76]) (.inr (.inr rfl)) (by rw [e2, size_76]; decide) (by omega)
  · have notFull : ¬ (L.length + 1) * 5 ≥ t1.mask * 3 := fun z => hf (by
      unfold SetTable.tooFull
      rw [decide_eq_true_eq, q9]
      exact z)
    first
      | refine wp_if_neg (by simp [hf]) ?_
      | (refine wpAny_bind ?_; refine wp_if_neg (by simp [hf]) ?_; refine wpAny_pure ?_)
    exact wpAny_pure (hQ true h1 L1 es1 (ep + 1) t1 sb ⟨⟨_, ho1, ⟨hex.1, hex.2.1, hex.2.2⟩, rfl⟩, ins, q3, nd1, els1, pl1, led1, by rw [len]; omega, by rw [len]; exact few⟩ (fun z => absurd z hm) fun _ => pm)
/-- a new set -/
theorem freshK {h : Heap} {a : Addr} (ho : h.get? a = some { cls := .type "set", dict := none, data := .set #[] 0 (.fresh 0 0 (!w.params.followText "set-order")) }) : SetK knd h a [] #[] 0 (.fresh 0 0 (!w.params.followText "set-order")) where
  ob := ⟨_, ho, ⟨rfl, rfl, rfl⟩, rfl⟩
  rows := rfl
  tab := ⟨List.Pairwise.nil, rfl, rfl, .inl rfl, fun x hx => (by cases hx), fun i h j hi => (by simp at hi)⟩
  nd := List.nodup_nil
  els := fun p hp => (by cases hp)
  pl := rfl
  led := by
    show _ ∨ (!w.params.followText "set-order") = true
    cases w.params.followText "set-order"
    · exact .inr rfl
    · exact .inl rfl
  room := by
    show 0 * 5 < 7 * 3
    decide
  few := by
    show 0 < 64
    decide
end
end Hb

set_option Elab.async false
set_option linter.all false
set_option maxRecDepth 100000
set_option maxHeartbeats 4000000
/-! Sets of nested tuples over the abstract heap: add, the comprehension, sorted. -/
namespace Hb
open PySem L2 PyProof.Rows

/-- the set at a: its elements' keys and addresses, in the table's order -/
structure SetK0 (P : Program) (w : World) (h : Heap) (a : Addr) (L : List (NestedKey × Addr)) : Prop where
  ex : ∃ (es : Array (Int × Value)) (ep : Nat) (t : SetTable), (∃ o, h.get? a = some o ∧ o.ExactSet ∧ o.data = .set es ep t) ∧ es.toList = rowsK (numKind P w) L ∧ TabOk t (L.map fun p => (numKind P w).hash p.1) ∧ (L.map (·.1)).Nodup ∧ t.plain = true ∧
    (w.params.followText "set-order" = true ∨ t.led = true) ∧ L.length * 5 < t.mask * 3 ∧ L.length < 64
/-- .. as an object of the abstract heap -/
def SN (P : Program) (w : World) (a : Addr) (L : List (NestedKey × Addr)) : HO := .ext fun h => SetK0 P w h a L
theorem SetK.k0 {P : Program} {w : World} {h : Heap} {a : Addr} {L : List (NestedKey × Addr)} {es : Array (Int × Value)} {ep : Nat} {t : SetTable} (R : SetK (numKind P w) h a L es ep t) : SetK0 P w h a L := ⟨es, ep, t, R.ob, R.rows, R.tab, R.nd, R.pl, R.led, R.room, R.few⟩
theorem SetK0.full {P : Program} {w : World} {h : Heap} {a : Addr} {L : List (NestedKey × Addr)} (R : SetK0 P w h a L) (he : ∀ p ∈ L, (numKind P w).is h p.1 p.2) : ∃ es ep t, SetK (numKind P w) h a L es ep t := by
  obtain ⟨es, ep, t, h1, h2, h3, h4, h5, h6, h7, h8⟩ := R.ex
  exact ⟨es, ep, t, h1, h2, h3, h4, he, h5, h6, h7, h8⟩
theorem sn_new {P : Program} {w : World} {H : Hp} {h : Heap} {a : Addr} {L : List (NestedKey × Addr)} (R : SetK0 P w h a L) : ObjOk P w H h a (SN P w a L) := by
  have ⟨es, ep, t, ⟨o, ho, r⟩, q⟩ := R.ex
  refine ⟨R, ⟨o, ho⟩, fun h1 h2 p k => ?_⟩
  have ⟨es', ep', t', ⟨o', ho', r'⟩, q'⟩ := SetK0.ex p
  exact ⟨es', ep', t', ⟨o', k o' ho', r'⟩, q'⟩
/-- an element as the abstract heap tells it -/
def ElN (H : Hp) (p : NestedKey × Addr) : Prop := NK H p.1 (.ref p.2) ∧ p.1.depth ≤ 8 ∧ noTx p.1 = true
theorem ElN.is {P : Program} {w : World} {H : Hp} {h : Heap} (ok : HOk P w H h) {p : NestedKey × Addr} (e : ElN H p) : (numKind P w).is h p.1 p.2 := ⟨⟨NK.is ok e.1 rfl, e.2.1⟩, e.2.2⟩

section
variable {X : Cx} {pins : List (Addr × Obj)} {σ : L2.St} {H : Hp} {s : Shared} {E : Value → Shared → Prop} {D : Addr} {L : List (NestedKey × Addr)}
theorem sn_get (I : Inv X pins σ H s) (hD : H D = some (SN X.prog X.w D L)) : SetK0 X.prog X.w s.heap D L := (I.hok D _ hD).1
/-- what the set is behind the adding of p -/
def AddN (L : List (NestedKey × Addr)) (p : NestedKey × Addr) (L' : List (NestedKey × Addr)) : Prop := (p.1 ∈ L.map (·.1) → L' = L) ∧ (p.1 ∉ L.map (·.1) → L'.Perm (p :: L))
/-- set.add -/
theorem addN_ok {A : Around} {p : NestedKey × Addr} {Q : Value → Shared → Prop} (hu : A.units + 64 < cLine) (I : Inv X pins σ H s) (hD : H D = some (SN X.prog X.w D L)) (hL : ∀ e ∈ L, ElN H e) (hp : ElN H p) (few : L.length + 1 < 64)
    (h : ∀ L' s', AddN L p L' → Inv X pins σ (upd H D (SN X.prog X.w D L')) s' → Q .none s') : wpAny (model X.prog X.w) A (call (.builtin "set.add") [.ref D, .ref p.2]) Q E s := by
  obtain ⟨es, ep, t, R⟩ := (sn_get I hD).full fun e he => (hL e he).is I.hok
  obtain ⟨o, ho, hex, hd⟩ := R.ob
  have hk := hp.is (P := X.prog) (w := X.w) I.hok
  refine wpAny_call_entry F.slot_set_add ⟨o, ho, hex.1⟩ F.entry_set_add ?_ (F.args_set_add_2 _ _)
  unfold Builtin.«set.add» Builtin.Frozenset.oneOther
  simp only [List.isEmpty_nil, bind_assoc]
  unfold Builtin.Frozenset.addrOf setAdd
  refine wpAny_bind (wpAny_pure ?_)
  try dsimp only
  refine wpAny_bind (wpAny_pure ?_)
  try dsimp only
  refine wpAny_bind ?_
  refine wpAny_holding ?_
  refine wpAny_bind ((numKind X.prog X.w).pyHash (by show A.in1.units + 8 < cLine; rw [Around.in1_units]; omega) hk ?_)
  refine addK (s := { s with toks := s.toks + (numKind X.prog X.w).draws p.1 }) (knd := numKind X.prog X.w) els_num R hk (by show A.in1.units + 8 < cLine; rw [Around.in1_units]; omega) few fun b h' L' es' ep' t' sb R' e1 e2 => ?_
  show wpAny _ _ (ret Value.none) _ _ _
  refine wpAny_pure ⟨_, rfl, h L' _ ⟨e1, e2⟩ ?_⟩
  have ⟨o', ho', _⟩ := R'.ob
  exact I.write (e := D) (by rw [hD]; trivial) (.inl rfl) (fun b u hb hu => (sb.2 b hb).trans hu) ⟨o', ho'⟩ (sn_new R'.k0)
end

/-! ### the comprehension -/
/-- {elt for target in iter if ..}, each elt a nested tuple -/
def tSn (P : Program) (w : World) (wi : TI) (g : TG) (tt : TT) (te : TE) (vs : List Nat) : TE := fun σ H Q => wi σ H fun J H1 => ∀ D, H1 D = none → ∃ W : Nat → Nat → Hp → Prop, (∃ m, W 0 m (upd H1 D (SN P w D []))) ∧ ∀ i m H, W i m H →
  (J.stop i H ∧ Q (.ref D) H) ∨ (J.go i H ∧ ∃ Nx : Hp → Prop, (∀ H', Nx H' → ∃ m', m' < m ∧ W (i + 1) m' H') ∧ ∀ x H', J.yld i H x H' → g x (wipe σ vs) H' fun σ2 H2 => wipe σ2 vs = wipe σ vs ∧ tt σ2 H2 fun b H3 =>
    if b = true then te σ2 H3 fun y H4 => ∃ (L : List (NestedKey × Addr)) (p : NestedKey × Addr), y = .ref p.2 ∧ H4 D = some (SN P w D L) ∧ (∀ e ∈ L, ElN H4 e) ∧ ElN H4 p ∧ L.length + 1 < 64 ∧ ∀ L', AddN L p L' → Nx (upd H4 D (SN P w D L')) else Nx H3)
section
open PpSet
variable {X : Cx}
theorem pe_sn {elt tg iter : Expr} {ifs : List Expr} {scope : Scope} {own : List (Str × Nat)} {pos : Pos} {wi : TI} {g : TG} {tt : TT} {te : TE} (hc : X.calm = true) (hu : X.A.units + 64 < cLine) (hN : X.N.Nodup) (hi : PI X tg iter wi) (ok : BlkOk X.N X.env.scope scope own)
    (hg : ∀ (s : Shared) (H : Hp) (C : Addr) (cl : List (Str × Addr)) (fp : List Addr), PG (X.blk s H scope (compEnvC scope cl C X.env) fp) tg g) (ht : ∀ (s : Shared) (H : Hp) (C : Addr) (cl : List (Str × Addr)) (fp : List Addr), PTs (X.blk s H scope (compEnvC scope cl C X.env) fp) ifs tt)
    (he : ∀ (s : Shared) (H : Hp) (C : Addr) (cl : List (Str × Addr)) (fp : List Addr), PE (X.blk s H scope (compEnvC scope cl C X.env) fp) elt te) (hs : ∀ x, foldedSetIterable iter X.env x = pure x := by intro _; rfl) :
    PE X (.SetComp elt [⟨tg, iter, ifs, 0⟩] scope pos) (tSn X.prog X.w wi g tt te (own.map (·.2))) := by
  refine ⟨fun pins s σ H Q I h => ?_⟩
  rw [eval_SetComp]
  have hfree : ∀ y ∈ scope.names, y.2 = .free → ∃ c, X.env.cells.lookup y.1 = some c := fun y hy e => by
    rcases ok.free y hy e with k | k
    · exact I.ok.has _ (.inl k)
    · exact I.ok.has _ (.inr k)
  refine wpAny_comprehension_free (use := none) rfl hs (closure_ok hfree) ok.kind (fun y hy e => by rw [ok.uniq y hy, e]) (thn (hi.run pins s σ H _ I h) fun xv s1 hx => thn hx fun itv s2 h2 => ?_)
  obtain ⟨it, fp, tn, J, H2, rfl, I2, T, st2, f2, q⟩ := h2
  refine newSet_ok (newEnv_comp ?_)
  obtain ⟨D, hD⟩ : ∃ D, D = s2.heap.objs.size := ⟨_, rfl⟩
  rw [← hD]
  obtain ⟨W, ⟨m0, w0⟩, turn⟩ := q D (I2.hok.fresh (Nat.le_of_eq hD.symm))
  have grown : ∀ b o, s2.heap.get? b = some o → (s2.heap.push { cls := .type "set", dict := none, data := .set #[] 0 (.fresh 0 0 (!X.w.params.followText "set-order")) }).get? b = some o := fun b o e => Heap.get?_push_of_some _ e
  have I3 : Inv X pins σ (upd H2 D (SN X.prog X.w D [])) { s2 with heap := s2.heap.push { cls := .type "set", dict := none, data := .set #[] 0 (.fresh 0 0 (!X.w.params.followText "set-order")) } } :=
    I2.laid (t' := s2.toks) grown (Nat.le_of_eq hD.symm) (sn_new (freshK (knd := numKind X.prog X.w) (by rw [hD]; exact Heap.get?_push_size _ rfl)).k0)
  have f3 : ∀ b ∈ fp, FpOk X pins (upd H2 D (SN X.prog X.w D [])) b ∧ b < (s2.heap.push { cls := .type "set", dict := none, data := .set #[] 0 (.fresh 0 0 (!X.w.params.followText "set-order")) }).objs.size := fun b hb => by
    obtain ⟨o, e, _⟩ := T.obj _ _ st2 b hb
    have hlt := Heap.lt_size e
    refine ⟨⟨?_, (f2 b hb).2⟩, by rw [Heap.size_push]; exact Nat.lt_succ_of_lt hlt⟩
    rw [upd_ne (by rw [hD]; exact Nat.ne_of_lt hlt)]
    exact (f2 b hb).1
  have st3 := T.keep _ _ _ st2 fun b _ o e => grown b o e
  obtain ⟨s3, hs3⟩ : ∃ s3 : Shared, s3 = { s2 with heap := s2.heap.push { cls := .type "set", dict := none, data := .set #[] 0 (.fresh 0 0 (!X.w.params.followText "set-order")) } } := ⟨_, rfl⟩
  obtain ⟨H3, hH3⟩ : ∃ H3 : Hp, H3 = upd H2 D (SN X.prog X.w D []) := ⟨_, rfl⟩
  rw [← hH3] at I3 w0
  rw [← hs3] at I3
  have st3' : tn 0 s3.heap := by rw [hs3]; exact st3
  have f3' : ∀ b ∈ fp, FpOk X pins H3 b ∧ b < s3.heap.objs.size := fun b hb => by rw [hH3, hs3]; exact f3 b hb
  have I4 := block_start I3 ok hN f3'
  show codeAny _ _ (.compStart (.SetComp elt [⟨tg, iter, ifs, 0⟩] scope pos) 0 (.ref it) (.ref D) (compEnvC scope (cellsFrom ((s2.heap.push { cls := .type "set", dict := none, data := .set #[] 0 (.fresh 0 0 (!X.w.params.followText "set-order")) }).objs.size + 1) scope.names (cloFrom X.env.cells scope.names [])) (s2.heap.push { cls := .type "set", dict := none, data := .set #[] 0 (.fresh 0 0 (!X.w.params.followText "set-order")) }).objs.size X.env))
    (compPost (model X.prog X.w) X.A X.xe none (EP X pins σ Q) (.ref D) (s2.heap.push { cls := .type "set", dict := none, data := .set #[] 0 (.fresh 0 0 (!X.w.params.followText "set-order")) }).objs.size)
    { s2 with heap := pushCells ((s2.heap.push { cls := .type "set", dict := none, data := .set #[] 0 (.fresh 0 0 (!X.w.params.followText "set-order")) }).push { cls := .type "dict", data := .dict #[] }) scope.names }
  have hh3 : s2.heap.push { cls := .type "set", dict := none, data := .set #[] 0 (.fresh 0 0 (!X.w.params.followText "set-order")) } = s3.heap := by rw [hs3]
  have hst : ({ s2 with heap := pushCells ((s2.heap.push { cls := .type "set", dict := none, data := .set #[] 0 (.fresh 0 0 (!X.w.params.followText "set-order")) }).push { cls := .type "dict", data := .dict #[] }) scope.names } : Shared) = { s3 with heap := pushCells (s3.heap.push { cls := .type "dict", data := .dict #[] }) scope.names } := by rw [hs3]
  rw [hst, hh3]
  have pg := hg s3 H3 s3.heap.objs.size (cellsFrom (s3.heap.objs.size + 1) scope.names (cloFrom X.env.cells scope.names [])) fp
  have pt := ht s3 H3 s3.heap.objs.size (cellsFrom (s3.heap.objs.size + 1) scope.names (cloFrom X.env.cells scope.names [])) fp
  have pe := he s3 H3 s3.heap.objs.size (cellsFrom (s3.heap.objs.size + 1) scope.names (cloFrom X.env.cells scope.names [])) fp
  generalize hce : compEnvC scope (cellsFrom (s3.heap.objs.size + 1) scope.names (cloFrom X.env.cells scope.names [])) s3.heap.objs.size X.env = ce at I4 pg pt pe ⊢
  have cL : ce.locals = s3.heap.objs.size := by subst hce; rfl
  generalize hs4 : ({ s3 with heap := pushCells (s3.heap.push { cls := .type "dict", data := .dict #[] }) scope.names } : Shared) = s4 at I4 ⊢
  have st4 : tn 0 s4.heap := T.keep _ _ _ st3' fun b _ o e => by rw [← hs4]; exact pushCells_keeps _ _ _ _ (Heap.get?_push_of_some _ e)
  have nfp : ∀ b ∈ fp, H3 b = none := fun b hb => (f3' b hb).1.1
  have stat : ∀ {σ' : L2.St} {H' : Hp} {s' : Shared}, Inv (X.blk s3 H3 scope ce fp) [] σ' H' s' → (∀ b ∈ fp, H' b = none) → ∀ b ∈ fp, FpOk (X.blk s3 H3 scope ce fp) [] H' b := fun {σ' H' s'} I' hn b hb =>
    ⟨hn b hb, (I'.ok.exf b hb).1, I'.ok.exfs b hb, .inl hb, fun x c e => (I'.ok.exf b hb).2 x c e, fun p hp => absurd (show p ∈ ([] : List (Addr × Obj)) ++ [] from hp) (by simp)⟩
  have loop : codeAny (model X.prog X.w) X.A (.compLoop (.SetComp elt [⟨tg, iter, ifs, 0⟩] scope pos) 0 (.ref it) (.ref D) ce) (compPost (model X.prog X.w) X.A X.xe none (EP X pins σ Q) (.ref D) s3.heap.objs.size) s4 := by
    refine compLoopS_any (fun n s' => ∃ i H', Inv (X.blk s3 H3 scope ce fp) [] (wipe σ (own.map (·.2))) H' s' ∧ tn i s'.heap ∧ (∀ b ∈ fp, H' b = none) ∧ W i n H') ?_ m0 ⟨0, H3, I4, st4, nfp, w0⟩
    rintro n s5 ⟨i, H5, I5, st5, n5, w5⟩
    rcases turn i n H5 w5 with ⟨stop, qq⟩ | ⟨go, Nx, hNx, step⟩
    · refine thnF (T.done (X.blk s3 H3 scope ce fp) rfl rfl rfl hc i [] s5 _ H5 (fun _ _ => False) I5 (stat I5 n5) st5 stop) fun r s6 ⟨hr, I6⟩ => ?_
      subst hr
      have I7 : Inv X pins σ H5 s6 := I3.call' (ch := fp) I6.os I6.base I6.hok I6.bare fun b hb => ⟨(f3' b hb).1.2.2.2.1, (f3' b hb).1.2.1, (f3' b hb).1.2.2.2.2.1, (f3' b hb).1.2.2.2.2.2⟩
      have nC : H5 s3.heap.objs.size = none := by
        have z : H5 ce.locals = none := I6.free
        rwa [cL] at z
      obtain ⟨m, hn, _⟩ := I6.loc
      have hn' : s6.heap.Ns ce.locals m := hn
      rw [cL] at hn'
      obtain ⟨z0, z1, _, z3, z4, z5⟩ := I3.fpOk (Nat.le_refl _) nC
      exact ⟨m, hn', fun h'' sb => ⟨.ref D, H5, I7.turned (t' := s6.toks) (fun b o hb e => (sb.2 b hb).trans e) z0 z1 z3 z4 z5, rfl, qq⟩⟩
    · refine thnF (T.item (X.blk s3 H3 scope ce fp) rfl rfl rfl hc i [] s5 _ H5 (fun _ _ => False) I5 (stat I5 n5) st5 go) fun r s6 ⟨u, hr, h6⟩ => ?_
      subst hr
      refine thnF h6 fun _ s7 ⟨x, H7, I7, r7, y7, st7, n7⟩ => ?_
      refine thnF (pg.run _ s7 _ H7 x u _ (I7.pinned (stat I7 n7) (T.obj _ _ st7)) r7 (step x H7 y7)) fun _ s8 ⟨σ8, H8, I8, hw8, q8⟩ => ?_
      refine thnF (pt.run _ s8 σ8 H8 _ I8 q8) fun b s9 ⟨H9, I9, q9⟩ => ?_
      have fin : ∀ {s' : Shared} {H' : Hp}, Inv (X.blk s3 H3 scope ce fp) ([] ++ pinsAt fp s7.heap) σ8 H' s' → Nx H' → ∃ m, m < n ∧ ∃ i H', Inv (X.blk s3 H3 scope ce fp) [] (wipe σ (own.map (·.2))) H' s' ∧ tn i s'.heap ∧ (∀ b ∈ fp, H' b = none) ∧ W i m H' := fun {s' H'} I' nx => by
        obtain ⟨m', hm, w'⟩ := hNx H' nx
        have pin' : ∀ b ∈ fp, ∀ o, s7.heap.get? b = some o → s'.heap.get? b = some o ∧ H' b = none := fun b hb o e =>
          let z := I'.pin (b, o) (List.mem_append_right _ (List.mem_append_right _ (mem_pinsAt hb e)))
          ⟨z.1, z.2.1⟩
        have hl : (wipe σ (own.map (·.2))).length = σ8.length := by rw [← hw8, wipe_length]
        refine ⟨m', hm, i + 1, H', (I'.unpinned (pins := [])).weak hl (fun j v e => ?_), T.keep _ _ _ st7 fun b hb o e => (pin' b hb o e).1, fun b hb => ?_, w'⟩
        · rw [← hw8] at e
          exact (wipe_some e).1
        · obtain ⟨o, e, _⟩ := T.obj _ _ st7 b hb
          exact (pin' b hb o e).2
      cases b with
      | false =>
        simp only [Bool.false_eq_true, if_false] at q9 ⊢
        exact fin I9 q9
      | true =>
        simp only [if_true] at q9 ⊢
        refine thnF (pe.run _ s9 σ8 H9 _ I9 q9) fun z s10 ⟨yv, H10, I10, r10, L, p, ey, hDL, hL, hp, few, nx⟩ => ?_
        subst ey
        obtain rfl : z = Value.ref p.2 := r10
        exact addN_ok (X := X.blk s3 H3 scope ce fp) hu I10 hDL hL hp few fun L' s11 hA I11 => fin I11 (nx L' hA)
  exact codeAny_compStart_set loop (T.self X.A 0 _ _ _ st4 loop)
end

/-! ### sorted of such a set -/
/-- sorted(s): the elements by the order of their ints, all of one shape -/
def rSortSN (P : Program) (w : World) (c : Option Nat) (sh : List (Option Nat)) : List V → Hp → VK → Prop := fun vs H Q => ∃ (a : Addr) (L : List (NestedKey × Addr)) (k : V → List Itm), vs = [V.ref a] ∧ H a = some (SN P w a L) ∧ (∀ e ∈ L, NK H e.1 (.ref e.2) ∧ e.1 = nkK (k (.ref e.2)) ∧ (k (.ref e.2)).map shp = c :: sh) ∧
  ∀ ys p, SrtO.Srtd (ltK k) ys → ys.Perm (L.map fun e => V.ref e.2) → (L.map (·.1)).Nodup → H p = none → Q (.ref p) (upd H p (.lst ys))
section
variable {X : Cx} {c : Option Nat} {sh : List (Option Nat)} {P : Program} {w : World}
theorem cr_sortSN (hc : X.calm = true) (hu : X.A.units + 64 < cLine) (hP : X.prog = P := by rfl) (hw : X.w = w := by rfl) : CallR X (.builtin "sorted") (rSortSN P w c sh) := by
  subst hP hw
  intro pins s σ H vs us Q I r h
  obtain ⟨a, L, k, rfl, ha, hx, q⟩ := h
  obtain ⟨u, rfl, ru⟩ := vals1 r
  obtain rfl : u = Value.ref a := ru
  obtain ⟨es, ep, t, ⟨o, ho, hex, hd⟩, rows, T, nd, _, led, room, few⟩ := (sn_get I ha).ex
  have hu2 : X.A.in1.in1.units + 2 < cLine := by
    have e : X.A.in1.in1.units = X.A.units + 1 + 1 := rfl
    omega
  have hsz := rowsK_size rows
  refine Calls.call_function_entry kind_sorted plain_sorted entry_sorted (args_sorted1 _) ?_
  unfold Builtin.«sorted»
  refine wpAny_bind (m := checkCount "sorted" 1 1 _) (wpAny_pure ?_)
  refine wpAny_bind (collect_set (A := X.A.in1) (I.ok.hd hc) ⟨o, ho, hex.1, hd⟩ (fitsK T rows (by omega)) (by unfold scanBound; omega) T.ris led fun s1 acc hk hz g1 o1 pm => ?_)
  have hes : es.toList.map (·.2) = L.map fun e => Value.ref e.2 := by
    rw [rows]
    unfold rowsK
    rw [List.map_map]
    rfl
  rw [hes] at pm
  have hal : acc.length = L.length := by rw [pm.length_eq, List.length_map]
  have I1 : Inv X pins σ H s1 := I.call' (ch := []) o1 (Un.kept hk) (I.hok.kept hk) (by rw [g1]; exact I.bare) (fun _ z => nomatch z)
  have mem : ∀ v ∈ acc, ∃ e ∈ L, Value.ref e.2 = v := fun v hv => List.mem_map.mp (pm.mem_iff.mp hv)
  have hp : ∀ v ∈ acc, K2Is s1.heap (k (backV v)) v ∧ (k (backV v)).map shp = c :: sh := fun v hv => by
    obtain ⟨e, he, rfl⟩ := mem v hv
    obtain ⟨g1, g2, g3⟩ := hx e he
    rw [g2] at g1
    exact ⟨NK.k2 I1.hok g1, g3⟩
  refine wpAny_bind (wpAny_newList ?_ (by rw [hal, sizeLine_eq]; omega))
  have hoL : (s1.heap.push (seqObj "list" acc.toArray 0)).get? s1.heap.objs.size = some (seqObj "list" acc.toArray 0) := Heap.get?_push_size _ rfl
  refine wpAny_bind (wpAny_holding (wpAny_call_entry slot_list_sort ⟨_, hoL, rfl⟩ entry_list_sort
    (SrtO.list_sort_ord (s := { s1 with heap := s1.heap.push (seqObj "list" acc.toArray 0) }) (ltv := fun v u => lexI (flK (k (backV v))) (flK (k (backV u)))) (swo_lexI fun v => flK (k (backV v))) hoL (by rw [hal, sizeLine_eq]; omega) (fun g0 => ?_) fun out g1' g2 => ⟨_, rfl, ?_⟩) (args_list_sort _)))
  · refine k2_sortable (s := { s1 with heap := s1.heap.push (seqObj "list" acc.toArray 0) }) hu2 (by omega) (fun v hm => ⟨(hp v hm).1.keeps fun b o e _ => Heap.get?_push_of_some _ e, (hp v hm).2⟩) fun o e => ?_
    have e' : some o = some (seqObj "list" acc.toArray 0) := e.symm.trans hoL
    cases e'
    intro cc
    exact absurd (Value.type.inj cc) (by decide)
  · obtain ⟨e', he'⟩ := sortedHeap_at (vs := acc) (out := out.toArray) hoL
    have g3 : ∀ u ∈ out, ∃ a, u = Value.ref a := fun u hu => by
      obtain ⟨e, _, rfl⟩ := mem u (g2.perm.mem_iff.mp hu)
      exact ⟨_, rfl⟩
    have hb : (out.map backV).Perm (L.map fun e => V.ref e.2) := by
      have hm := (g2.perm.trans pm).map backV
      rw [List.map_map] at hm
      exact hm
    refine wpAny_pure ⟨_, rfl, .ref s1.heap.objs.size, upd H s1.heap.objs.size (.lst (out.map backV)), I1.laid (t' := s1.toks) (fun b u e => ?_) (Nat.le_refl _)
      (show ObjOk X.prog X.w _ _ _ (.lst (out.map backV)) from ⟨?_, out, e', vals_back g3, he'⟩), rfl, q _ _ (SrtO.srtd_map g1') hb nd (I1.hok.fresh (Nat.le_refl _))⟩
    · have hlt : b < s1.heap.objs.size := Heap.lt_size e
      rw [sortedHeap_old (Nat.ne_of_lt hlt) (by rw [size_push']; exact Nat.lt_succ_of_lt hlt)]
      exact Heap.get?_push_of_some _ e
    · rw [hb.length_eq, List.length_map, sizeLine_eq]
      omega
end
end Hb

set_option Elab.async false
set_option linter.all false
set_option maxRecDepth 100000
set_option maxHeartbeats 4000000
/-! More steps: zip over tuples, a star in a display, set comprehensions; a comprehension's turns for any body. -/
namespace Hb
open PySem L2 PyProof.Rows
theorem Hs.keep {B H H' : Hp} {L : List (Addr × HO)} (hs : Hs B L H) (e : Same H H') : Hs B L H' := ⟨hs.same.trans e, hs.nd, hs.out, fun x hx => e _ _ (hs.at_ x hx)⟩

/-! ### rules that name K -/
section
variable {X : Cx} {K : PySem.W.Frag}
theorem pi_zipK {e e2 : Expr} {ta : TA} {p pos tpos : Pos} {elts : List Expr} {kk : Nat} (hg : Gl X "zip") (hm : X.mg "zip" = none) (ha : PA X [e, e2] ta) (hK : X.K = K := by rfl)
    (hs : starEach [e, e2] X.env = (false, eval e X.env) :: starEach [e2] X.env := by rfl) (hpl : (backTo pos (starEach [e2] X.env)).any (·.1) = false := by rfl) :
    PI X (.Tuple elts kk tpos) (.Call (.Name "zip" p) [e, e2] [] pos) (RZ.iZipA K ta) := by
  subst hK
  exact RZ.pi_zipA hg hm ha hs hpl
theorem pa_starK {e : Expr} {es : List Expr} {te : TE} {t : TA} {p : Pos} (he : PE X e te) (hr : PA X es t) (hK : X.K = K := by rfl) (hs : starEach (.Starred e p :: es) X.env = (true, eval e X.env) :: starEach es X.env := by rfl) : PA X (.Starred e p :: es) (StX.tStar K te t) := by
  subst hK
  exact StX.pa_star he hr hs
theorem pe_snK {P : Program} {w : World} {elt tg iter : Expr} {ifs : List Expr} {scope : Scope} {own : List (Str × Nat)} {pos : Pos} {wi : TI} {g : TG} {tt : TT} {te : TE} (hc : X.calm = true) (hu : X.A.units + 64 < cLine) (hN : X.N.Nodup) (hi : PI X tg iter wi) (ok : BlkOk X.N X.env.scope scope own)
    (hg : ∀ (s : Shared) (H : Hp) (C : Addr) (cl : List (Str × Addr)) (fp : List Addr), PG (X.blk s H scope (compEnvC scope cl C X.env) fp) tg g) (ht : ∀ (s : Shared) (H : Hp) (C : Addr) (cl : List (Str × Addr)) (fp : List Addr), PTs (X.blk s H scope (compEnvC scope cl C X.env) fp) ifs tt)
    (he : ∀ (s : Shared) (H : Hp) (C : Addr) (cl : List (Str × Addr)) (fp : List Addr), PE (X.blk s H scope (compEnvC scope cl C X.env) fp) elt te) (hP : X.prog = P := by rfl) (hw : X.w = w := by rfl) (hs : ∀ x, foldedSetIterable iter X.env x = pure x := by intro _; rfl) :
    PE X (.SetComp elt [⟨tg, iter, ifs, 0⟩] scope pos) (tSn P w wi g tt te (own.map (·.2))) := by
  subst hP hw
  exact pe_sn hc hu hN hi ok hg ht he hs
theorem cr_sumK (hc : X.calm = true) (hK : X.K = K := by rfl) : CallR X (.builtin "sum") (rSum K) := by
  subst hK
  exact cr_sum hc
theorem cr_sortedIK (hK : X.K = K := by rfl) : CallR X (.builtin "sorted") (rSortedI K) := by
  subst hK
  exact cr_sortedI
end

/-! ### the turns of a comprehension, whatever is done in each -/
section
variable {K : PySem.W.Frag} {a b : Addr} {xs ys : List V} {H0 : Hp} {Qd : Hp → Prop} {Body : (Hp → Prop) → V → Hp → Prop}
/-- what tLc, tSn, tDc ask of an iterator J -/
def Turns (J : It) (Body : (Hp → Prop) → V → Hp → Prop) (H0 : Hp) (Qd : Hp → Prop) : Prop := ∃ W : Nat → Nat → Hp → Prop, (∃ m, W 0 m H0) ∧ ∀ i m H, W i m H →
  (J.stop i H ∧ Qd H) ∨ (J.go i H ∧ ∃ Nx : Hp → Prop, (∀ H', Nx H' → ∃ m', m' < m ∧ W (i + 1) m' H') ∧ ∀ x H', J.yld i H x H' → Body Nx x H')
theorem turns_list (Pv : Nat → Hp → Prop) (h0 : Pv 0 H0) (hl : ∀ i H, i ≤ xs.length → Pv i H → SqL K H a xs) (hs : ∀ i x H, xs[i]? = some x → Pv i H → Body (Pv (i + 1)) x H) (hd : ∀ H, Pv xs.length H → Qd H) : Turns (Itl K a) Body H0 Qd := by
  refine ⟨fun i m H => m = xs.length - i ∧ i ≤ xs.length ∧ Pv i H, ⟨xs.length, by simp, Nat.zero_le _, h0⟩, ?_⟩
  rintro i m H ⟨rfl, hi, p⟩
  have q := hl i H hi p
  by_cases hlt : i < xs.length
  · refine .inr ⟨⟨xs, xs[i], q, by simp [hlt]⟩, Pv (i + 1), fun H' p' => ⟨xs.length - (i + 1), by omega, rfl, hlt, p'⟩, fun x H' y => ?_⟩
    obtain ⟨e, y⟩ := y
    subst e
    exact hs i x _ (y xs q) p
  · have e : i = xs.length := by omega
    subst e
    exact .inl ⟨⟨xs, q, Nat.le_refl _⟩, hd H p⟩
theorem turns_zip (hl : xs.length = ys.length) (Pv : Nat → Hp → Prop) (h0 : Pv 0 H0) (hq : ∀ i H, i ≤ xs.length → Pv i H → H a = some (.tup xs) ∧ H b = some (.tup ys))
    (hs : ∀ i x y T H, xs[i]? = some x → ys[i]? = some y → Pv i H → H T = none → Body (Pv (i + 1)) (.ref T) (upd H T (.tup [x, y]))) (hd : ∀ H, Pv xs.length H → Qd H) : Turns (RZ.ItzT K a b) Body H0 Qd := by
  refine ⟨fun i m H => m = xs.length - i ∧ i ≤ xs.length ∧ Pv i H, ⟨xs.length, by simp, Nat.zero_le _, h0⟩, ?_⟩
  rintro i m H ⟨rfl, hi, p⟩
  obtain ⟨q1, q2⟩ := hq i H hi p
  have qx : SqT K H a xs := SqT.of q1
  have qy : SqT K H b ys := SqT.of q2
  by_cases hlt : i < xs.length
  · have hx : xs[i]? = some xs[i] := List.getElem?_eq_getElem hlt
    have hlt2 : i < ys.length := by omega
    have hy : ys[i]? = some ys[i] := List.getElem?_eq_getElem hlt2
    refine .inr ⟨⟨xs, ys, _, _, qx, qy, hx, hy⟩, Pv (i + 1), fun H' p' => ⟨xs.length - (i + 1), by omega, rfl, hlt, p'⟩, fun v H' y => ?_⟩
    obtain ⟨T, x', y', rfl, hT, rfl, f1, f2⟩ := y
    exact hs i x' y' T H (f1 xs qx) (f2 ys qy) p hT
  · have e : i = xs.length := by omega
    subst e
    exact .inl ⟨⟨xs, ys, qx, qy, Or.inl (Nat.le_refl _)⟩, hd H p⟩
end
section
variable {H0 : Hp} {Qd : Hp → Prop} {Body : (Hp → Prop) → V → Hp → Prop} {d : Addr} {o : Obj} {kvs : List (Key × V)}
theorem turns_vals (Pv : Nat → Hp → Prop) (h0 : Pv 0 H0) (hl : ∀ i H, i ≤ kvs.length → Pv i H → H d = some (.frz o (.dK kvs))) (hs : ∀ i k x H, kvs[i]? = some (k, x) → Pv i H → Body (Pv (i + 1)) x H) (hd : ∀ H, Pv kvs.length H → Qd H) : Turns (Itd d o kvs) Body H0 Qd := by
  refine ⟨fun i m H => m = kvs.length - i ∧ i ≤ kvs.length ∧ Pv i H, ⟨kvs.length, by simp, Nat.zero_le _, h0⟩, ?_⟩
  rintro i m H ⟨rfl, hi, p⟩
  have q := hl i H hi p
  by_cases hlt : i < kvs.length
  · refine .inr ⟨⟨q, hlt⟩, Pv (i + 1), fun H' p' => ⟨kvs.length - (i + 1), by omega, rfl, hlt, p'⟩, fun x H' y => ?_⟩
    obtain ⟨rfl, k, hk⟩ := y
    exact hs i k x _ hk p
  · have e : i = kvs.length := by omega
    subst e
    exact .inl ⟨⟨q, Nat.le_refl _⟩, hd H p⟩
theorem turns_keys (Pv : Nat → Hp → Prop) (h0 : Pv 0 H0) (hl : ∀ i H, i ≤ kvs.length → Pv i H → H d = some (.frz o (.dK kvs))) (hs : ∀ i k x H, kvs[i]? = some (k, x) → Pv i H → Body (Pv (i + 1)) (kV k) H) (hd : ∀ H, Pv kvs.length H → Qd H) : Turns (Itk d o kvs) Body H0 Qd := by
  refine ⟨fun i m H => m = kvs.length - i ∧ i ≤ kvs.length ∧ Pv i H, ⟨kvs.length, by simp, Nat.zero_le _, h0⟩, ?_⟩
  rintro i m H ⟨rfl, hi, p⟩
  have q := hl i H hi p
  by_cases hlt : i < kvs.length
  · refine .inr ⟨⟨q, hlt⟩, Pv (i + 1), fun H' p' => ⟨kvs.length - (i + 1), by omega, rfl, hlt, p'⟩, fun x H' y => ?_⟩
    obtain ⟨rfl, k, v, hk, rfl⟩ := y
    exact hs i k v _ hk p
  · have e : i = kvs.length := by omega
    subst e
    exact .inl ⟨⟨q, Nat.le_refl _⟩, hd H p⟩
end
section
variable {K : PySem.W.Frag} {σ : L2.St} {H : Hp} {Q : VK} {P : Program} {w : World}
/-! ### zip of two tuples -/
def ZipR (K : PySem.W.Frag) (vs : List V) (H1 : Hp) (R : It → Hp → Prop) : Prop := ∃ a b xs ys, vs = [.ref a, .ref b] ∧ ((SqL K H1 a xs ∧ SqL K H1 b ys ∧ R (Itz K a b) H1) ∨ (SqT K H1 a xs ∧ SqT K H1 b ys ∧ R (RZ.ItzT K a b) H1))
def ForR (g : TG) (tb : TS) (D : Ends) (σ : L2.St) (J : It) (H1 : Hp) : Prop := ∃ W : Nat → Nat → L2.St → Hp → Prop, (∃ m, W 0 m σ H1) ∧ ∀ i m σ H, W i m σ H →
  (J.stop i H ∧ D.nx σ H) ∨ (J.go i H ∧ ∃ N : L2.St → Hp → Prop, (∀ σ' H', N σ' H' → ∃ m', m' < m ∧ W (i + 1) m' σ' H') ∧ ∀ x H', J.yld i H x H' → g x σ H' fun σ2 H2 => tb { D with nx := N, ct := N, bk := D.nx } σ2 H2)
theorem w_zipF {ta : TA} {g : TG} {tb : TS} {D : Ends} (q : ta σ H fun vs H1 => ZipR K vs H1 (ForR g tb D σ)) : tFor (RZ.iZipA K ta) g tb D σ H := q
theorem w_zipT {g : TG} {tb : TS} {D : Ends} {a b : Addr} {xs ys : List V} (ha : H a = some (.tup xs)) (hb : H b = some (.tup ys)) (hl : xs.length = ys.length) (Pv : Nat → L2.St → Hp → Prop) (h0 : Pv 0 σ H) (hq : ∀ i σ H, Pv i σ H → H a = some (.tup xs) ∧ H b = some (.tup ys))
    (hs : ∀ (i : Nat) (x y : V) (T : Addr) (σ : L2.St) (H : Hp), xs[i]? = some x → ys[i]? = some y → Pv i σ H → H T = none → g (.ref T) σ (upd H T (.tup [x, y])) fun σ2 H2 => tb { D with nx := Pv (i + 1), ct := Pv (i + 1), bk := D.nx } σ2 H2) (hd : ∀ σ H, Pv xs.length σ H → D.nx σ H) :
    ZipR K [.ref a, .ref b] H (ForR g tb D σ) := ⟨a, b, xs, ys, rfl, .inr ⟨SqT.of ha, SqT.of hb, RZ.for_zipT hl Pv h0 (fun i σ H p => ⟨SqT.of (hq i σ H p).1, SqT.of (hq i σ H p).2⟩) hs hd⟩⟩
/-! ### comprehensions by their turns -/
def LcBody (g : TG) (tt : TT) (te : TE) (vs : List Nat) (σ : L2.St) (D : Addr) (Nx : Hp → Prop) (x : V) (H' : Hp) : Prop := g x (wipe σ vs) H' fun σ2 H2 => wipe σ2 vs = wipe σ vs ∧ tt σ2 H2 fun b H3 =>
    if b = true then te σ2 H3 fun y H4 => ∃ acc, H4 D = some (.lst acc) ∧ acc.length < sizeLine ∧ Nx (upd H4 D (.lst (acc ++ [y]))) else Nx H3
def LcR (g : TG) (tt : TT) (te : TE) (vs : List Nat) (σ : L2.St) (Q : VK) (J : It) (H1 : Hp) : Prop := ∀ D, H1 D = none → Turns J (LcBody g tt te vs σ D) (upd H1 D (.lst [])) fun H => Q (.ref D) H
theorem w_lcZ {ta : TA} {g : TG} {tt : TT} {te : TE} {vs : List Nat} (q : ta σ H fun us H1 => ZipR K us H1 (LcR g tt te vs σ Q)) : tLc (RZ.iZipA K ta) g tt te vs σ H Q := q
theorem w_lcZT {g : TG} {tt : TT} {te : TE} {vs : List Nat} {a b : Addr} {xs ys : List V} (ha : H a = some (.tup xs)) (hb : H b = some (.tup ys)) (hl : xs.length = ys.length) (Pv : Addr → Nat → Hp → Prop) (h0 : ∀ D, H D = none → Pv D 0 (upd H D (.lst [])))
    (hq : ∀ D i H, i ≤ xs.length → Pv D i H → H a = some (.tup xs) ∧ H b = some (.tup ys)) (hs : ∀ D i x y T H, xs[i]? = some x → ys[i]? = some y → Pv D i H → H T = none → LcBody g tt te vs σ D (Pv D (i + 1)) (.ref T) (upd H T (.tup [x, y]))) (hd : ∀ D H, Pv D xs.length H → Q (.ref D) H) :
    ZipR K [.ref a, .ref b] H (LcR g tt te vs σ Q) := ⟨a, b, xs, ys, rfl, .inr ⟨SqT.of ha, SqT.of hb, fun D hD => turns_zip hl (Pv D) (h0 D hD) (hq D) (hs D) (hd D)⟩⟩
def SnBody (P : Program) (w : World) (g : TG) (tt : TT) (te : TE) (vs : List Nat) (σ : L2.St) (D : Addr) (Nx : Hp → Prop) (x : V) (H' : Hp) : Prop := g x (wipe σ vs) H' fun σ2 H2 => wipe σ2 vs = wipe σ vs ∧ tt σ2 H2 fun b H3 =>
    if b = true then te σ2 H3 fun y H4 => ∃ (L : List (NestedKey × Addr)) (p : NestedKey × Addr), y = .ref p.2 ∧ H4 D = some (SN P w D L) ∧ (∀ e ∈ L, ElN H4 e) ∧ ElN H4 p ∧ L.length + 1 < 64 ∧ ∀ L', AddN L p L' → Nx (upd H4 D (SN P w D L')) else Nx H3
def SnR (P : Program) (w : World) (g : TG) (tt : TT) (te : TE) (vs : List Nat) (σ : L2.St) (Q : VK) (J : It) (H1 : Hp) : Prop := ∀ D, H1 D = none → Turns J (SnBody P w g tt te vs σ D) (upd H1 D (SN P w D [])) fun H => Q (.ref D) H
def ListR (K : PySem.W.Frag) (x : V) (H1 : Hp) (R : It → Hp → Prop) : Prop := ∃ a, x = .ref a ∧ (∃ xs, SqL K H1 a xs) ∧ R (Itl K a) H1
theorem w_snL {tl : TE} {g : TG} {tt : TT} {te : TE} {vs : List Nat} (q : tl σ H fun x H1 => ListR K x H1 (SnR P w g tt te vs σ Q)) : tSn P w (iList K tl) g tt te vs σ H Q := q
theorem w_listR {a : Addr} {xs : List V} {R : It → Hp → Prop} (h : SqL K H a xs) (q : R (Itl K a) H) : ListR K (.ref a) H R := ⟨a, rfl, ⟨xs, h⟩, q⟩
theorem w_star {te : TE} {t : TA} {Q : List V → Hp → Prop} (q : te σ H fun x H1 => ∃ p xs, x = V.ref p ∧ (SqT K H1 p xs ∨ SqL K H1 p xs) ∧ t σ H1 fun ys H2 => Q (xs ++ ys) H2) : StX.tStar K te t σ H Q := q
/-! ### dicts: values, keys, locked; get, pop, setdefault with a default -/
def ValR (x : V) (H1 : Hp) (R : It → Hp → Prop) : Prop := ∃ d o kvs, x = .ref d ∧ H1 d = some (.frz o (.dK kvs)) ∧ R (Itd d o kvs) H1
theorem w_lcV {td : TE} {g : TG} {tt : TT} {te : TE} {vs : List Nat} (q : td σ H fun x H1 => ValR x H1 (LcR g tt te vs σ Q)) : tLc (iVals td) g tt te vs σ H Q := q
theorem w_valR {d : Addr} {o : Obj} {kvs : List (Key × V)} {R : It → Hp → Prop} (h : H d = some (.frz o (.dK kvs))) (q : R (Itd d o kvs) H) : ValR (.ref d) H R := ⟨d, o, kvs, rfl, h, q⟩
def KeyR (x : V) (H1 : Hp) (R : It → Hp → Prop) : Prop := ∃ d o, x = .ref d ∧ ((∃ kvs, H1 d = some (.frz o (.dK kvs)) ∧ R (Itk d o kvs) H1) ∨ ∃ kvs, H1 d = some (.frz o (.dT kvs)) ∧ R (Itkt d o kvs) H1)
theorem w_lcK {td : TE} {g : TG} {tt : TT} {te : TE} {vs : List Nat} (q : td σ H fun x H1 => KeyR x H1 (LcR g tt te vs σ Q)) : tLc (iKeys td) g tt te vs σ H Q := q
theorem w_keyR {d : Addr} {o : Obj} {kvs : List (Key × V)} {R : It → Hp → Prop} (h : H d = some (.frz o (.dK kvs))) (q : R (Itk d o kvs) H) : KeyR (.ref d) H R := ⟨d, o, rfl, .inl ⟨kvs, h, q⟩⟩
def DcBody (g : TG) (tt : TT) (tk tv : TE) (vs : List Nat) (σ : L2.St) (D : Addr) (Nx : Hp → Prop) (x : V) (H' : Hp) : Prop := g x (wipe σ vs) H' fun σ2 H2 => wipe σ2 vs = wipe σ vs ∧ tt σ2 H2 fun b H3 =>
    if b = true then tk σ2 H3 fun y H4 => tv σ2 H4 fun z H5 => ∃ kvs k, y = kV k ∧ H5 D = some (.dK kvs) ∧ kvs.length < sizeLine ∧ Nx (upd H5 D (.dK (putK kvs k z))) else Nx H3
def DcR (g : TG) (tt : TT) (tk tv : TE) (vs : List Nat) (σ : L2.St) (Q : VK) (J : It) (H1 : Hp) : Prop := ∀ D, H1 D = none → Turns J (DcBody g tt tk tv vs σ D) (upd H1 D (.dK [])) fun H => Q (.ref D) H
theorem w_dcK {td : TE} {g : TG} {tt : TT} {tk tv : TE} {vs : List Nat} (q : td σ H fun x H1 => KeyR x H1 (DcR g tt tk tv vs σ Q)) : tDc (iKeys td) g tt tk tv vs σ H Q := q
theorem w_lockE {B : Hp} {L : List (Addr × HO)} {L' : Obj → List (Addr × HO)} {d : Addr} {kvs : List (Key × V)} {t : TE} (hs : Hs B L H) (h : ∀ od, Put L d (.dK kvs) (.frz od (.dK kvs)) (L' od)) (q : ∀ od H', Hs B (L' od) H' → t σ H' fun v H2 => H2 d = some (.frz od (.dK kvs)) ∧ Q v (upd H2 d (.dK kvs))) : tLockE t σ H Q :=
  ⟨d, .dK kvs, hs.gets (h default), True.intro, fun od => q od _ (hs.puts (h od))⟩
def RDg2 (a : Addr) (y z : V) (H : Hp) (Q : VK) : Prop := ∃ o, DGet H a y o ∧ Q (o.getD z) H
theorem w_dget2 {td ty tx : TE} (q : td σ H fun x H1 => RPopA x H1 fun a => ty σ H1 fun y H2 => tx σ H2 fun z H3 => RDg2 a y z H3 Q) : tDGet2 td ty tx σ H Q := q
theorem w_dg2 {p : Addr} {kvs : List (Key × V)} {n : Int} {z : V} (h : H p = some (.dK kvs)) (q : Q ((valV kvs (Sum.inl n)).getD z) H) : RDg2 p (.int n) z H Q := ⟨_, DGet.k (k := Sum.inl n) h, q⟩
def RPop2 (a : Addr) (y z : V) (H : Hp) (Q : VK) : Prop := ∃ kvs k, H a = some (.dK kvs) ∧ y = kV k ∧ (∀ v, valV kvs k = some v → Q v (upd H a (.dK (dropK kvs k)))) ∧ (valV kvs k = none → Q z H)
theorem w_dpop2 {td ty tx : TE} (q : td σ H fun x H1 => RPopA x H1 fun a => ty σ H1 fun y H2 => tx σ H2 fun z H3 => RPop2 a y z H3 Q) : tDPop2 td ty tx σ H Q := q
theorem w_pop2 {B : Hp} {L L' : List (Addr × HO)} {p : Addr} {kvs : List (Key × V)} {n : Int} {z : V} (hs : Hs B L H) (h : Put L p (.dK kvs) (.dK (dropK kvs (Sum.inl n))) L') (q1 : ∀ v H', valV kvs (Sum.inl n) = some v → Hs B L' H' → Q v H') (q2 : valV kvs (Sum.inl n) = none → Q z H) : RPop2 p (.int n) z H Q :=
  ⟨kvs, Sum.inl n, hs.gets h, rfl, fun v e => q1 v _ e (hs.puts h), q2⟩
def RSetd (a : Addr) (y z : V) (H : Hp) (Q : VK) : Prop := ∃ (kvs : List (Key × V)) (k : Key), H a = some (.dK kvs) ∧ y = kV k ∧ kvs.length < sizeLine ∧ (∀ v, valV kvs k = some v → Q v H) ∧ (valV kvs k = none → Q z (upd H a (.dK (putK kvs k z))))
theorem w_dsetd {td ty tx : TE} (q : td σ H fun x H1 => RPopA x H1 fun a => ty σ H1 fun y H2 => tx σ H2 fun z H3 => RSetd a y z H3 Q) : tDSetd td ty tx σ H Q := q
/-! ### a range whose end is reckoned -/
def RngR (us : List V) (H1 : Hp) (R : It → Hp → Prop) : Prop := ∃ j : Int, us = [.int j] ∧ -(2 ^ 62) ≤ j ∧ j < 2 ^ 62 ∧ R (Itr 0 j.toNat) H1
theorem w_lcG {ta : TA} {g : TG} {tt : TT} {te : TE} {vs : List Nat} (q : ta σ H fun us H1 => RngR us H1 (LcR g tt te vs σ Q)) : tLc (iRng1 ta) g tt te vs σ H Q := q
theorem turns_range {H0 : Hp} {Qd : Hp → Prop} {Body : (Hp → Prop) → V → Hp → Prop} {n : Nat} (Pv : Nat → Hp → Prop) (h0 : Pv 0 H0) (hs : ∀ i H, i < n → Pv i H → Body (Pv (i + 1)) (.int (i : Int)) H) (hd : ∀ H, Pv n H → Qd H) : Turns (Itr 0 n) Body H0 Qd := by
  refine ⟨fun i m H => m = n - i ∧ i ≤ n ∧ Pv i H, ⟨n, by simp, Nat.zero_le _, h0⟩, ?_⟩
  rintro i m H ⟨rfl, hi, p⟩
  by_cases hlt : i < n
  · refine .inr ⟨hlt, Pv (i + 1), fun H' p' => ⟨n - (i + 1), by omega, rfl, hlt, p'⟩, fun x H' y => ?_⟩
    obtain ⟨rfl, rfl⟩ := y
    rw [show (0 : Int) + (i : Int) = (i : Int) from Int.zero_add _]
    exact hs i _ hlt p
  · have e : i = n := by omega
    subst e
    exact .inl ⟨Nat.le_refl _, hd H p⟩
theorem w_rngR {n : Int} {R : It → Hp → Prop} (h0 : 0 ≤ n) (h1 : n < 1000000) (q : R (Itr 0 n.toNat) H) : RngR [.int n] H R := ⟨n, rfl, by omega, by omega, q⟩
end
end Hb

set_option Elab.async false
set_option linter.all false
set_option maxRecDepth 100000
set_option maxHeartbeats 4000000
/-! repr of data, in a law's own body: there no display is under way, which the promise of a def does not tell; so the law's def is run where it is called. -/
namespace Hb
open PySem PySem.Spec L2 PyProof.Rows
/-- data whose text is short -/
structure Shows (d : PyData) : Prop where
  lay : d.canLay0 = true
  dep : d.depth ≤ 40
  sho : d.showable = true
  blk : d.bulk ≤ 2 ^ 20
  lvs : d.leavesShort 13 = true
def rReprD (K : PySem.W.Frag) : List V → Hp → VK → Prop := fun xs H Q => ∃ (p : Addr) (d : PyData), xs = [.ref p] ∧ Dp K H (.ref p) d ∧ Shows d ∧ Q (.str d.shown) H
theorem call_reprD {X : Cx} (hg : X.A.guards = some []) (hu : X.A.units + 64 < cLine) : CallR X (.builtin "repr") (rReprD X.K) := by
  rintro pins s σ H xs us Q I r ⟨p, d, rfl, hd, hs, q⟩
  rw [Vals.ref1 r]
  obtain ⟨as, rd⟩ := Dp.reads I d (.ref p) (.ref p) hd rfl
  have hdep := hs.dep
  refine repr_of_reads' rd hs.sho (PyData.noDict_hsm (PyData.hasDict_of_canLay d hs.lay)) hg (by omega) (fun _ _ e => e) (fun h' u tk hk => ?_) (PyData.shown_fits_bulk (B := 13) (by decide) (by decide) hs.lvs hs.blk)
  exact ⟨.str d.shown, H, I.kept (t' := tk) hk, ⟨_, rfl⟩, q⟩
theorem call_reprDK {X : Cx} {K : PySem.W.Frag} (hg : X.A.guards = some [] := by rfl) (hu : X.A.units + 64 < cLine := by assumption) (hK : X.K = K := by rfl) : CallR X (.builtin "repr") (rReprD K) := by
  subst hK
  exact call_reprD hg hu
theorem w_reprD {K : PySem.W.Frag} {H : Hp} {Q : VK} {p : Addr} {d : PyData} (h : Dp K H (.ref p) d) (hs : Shows d) (q : Q (.str d.shown) H) : rReprD K [.ref p] H Q := ⟨p, d, rfl, h, hs, q⟩

/-! ### a law's def, run where it is called -/
/-- the promise of the law's def at the call itself -/
def LawRun (P : Program) (w : World) (K : PySem.W.Frag) (mg : Str → Option Value) (base : Heap) (k : Nat)
    (f : Addr) (fd : FuncData) (ps : List Str) (sp : Sp) : Prop :=
  ∀ (s : Shared) (H : Hp) (args : Args) (us : List Value)
    (vs : List V) (Q : VK) (E : XK), Room k callerA →
    Env0 P w K mg base callerA [] s H → BindsTo s fd args (ps.zip us) →
    Vals vs us → sp vs H Q E →
    codeAny (model P w) callerA (.call (.ref f) args)
      (CR CX0 [] P w H s Q E) s
section
variable {P : Program} {w : World} {K : PySem.W.Frag} {mg : Str → Option Value} {base : Heap}
theorem law_run {x qual : Str} {st : Stmt} {f : Addr} {fd : FuncData} {N ps : List Str} {k : Nat} {sp : Sp}
    (F : Fun K x qual st f fd) (S : FnScope N ps (defScope st))
    (len : ∀ vs H Q E, sp vs H Q E → vs.length = ps.length)
    (hbody : ∀ (cdv : Value) (s : Shared) (H : Hp) (vs : List V) (Q : VK) (E : XK),
      Room k (callerA.deeper (envOfC qual (defScope st) s.heap.objs.size f cdv)) → sp vs H Q E →
      ∃ t, PSs (cxOf CX0 P w K mg base N qual (defScope st) f cdv callerA [] s H E).nox (defBody st) t ∧
        t { nx := fun _ H' => Q .non H', rt := Q } (start N vs) H) :
    LawRun P w K mg base (k + 1) f fd ps sp := by
  intro s H args us vs Q E hr en hb rv hsp
  obtain ⟨oc, od, kV, doc, pm, an, cdv, ct, osl, rfl, lk, hcd⟩ := F.ex
  have hlen := len vs H Q E hsp
  have hold : ∀ b o, base.get? b = some o → s.heap.get? b = some o := fun b o e => (en.bs b o e).1
  have kin : K.In s.heap := en.mod.kin.keeps hold
  have nolim : s.heap.NoLimit := en.mod.nolimit.keeps hold
  refine codeAny_call_function hr.depth (kin _ _ lk) rfl S.co S.gen rfl (PySem.W.codeRec_of kin hcd) (hb _ _ _ _ ?_)
  refine wpAny_newFunctionEnv_cells S.kind ?_ ?_
  · rintro ⟨n, v⟩ hy
    cases S.par n (List.of_mem_zip hy).1 with
    | inl q => exact Or.inl q
    | inr q => exact Or.inr ⟨q, PySem.W.cellsFrom_some _ _ _ (Or.inl q)⟩
  · intro env he s1 hx
    subst he
    obtain ⟨t, ht, hq⟩ := hbody cdv s H vs Q E (hr.deeper _) hsp
    have i0 := inv_start (CX := CX0) (E := E) S hr.hd en hlen rv hx
    refine ⟨nolim.keeps hx.toInCall.keep, codeAny_func ?_⟩
    refine wpAny_mono (ht.nox.run [] s1 (start N vs) H _ i0 hq) ?_ (fun _ _ q => q)
    intro fl s' hs
    cases fl with
    | ret u =>
      obtain ⟨v, σ', H', j, r1, q1⟩ := hs
      exact ⟨v, H', j.os, j.bare, j.base, j.hok, r1, q1⟩
    | next =>
      obtain ⟨σ', H', j, q1⟩ := hs
      exact ⟨.non, H', j.os, j.bare, j.base, j.hok, rfl, q1⟩
    | brk => exact (hs.choose_spec.choose_spec.2 : False).elim
    | cont => exact (hs.choose_spec.choose_spec.2 : False).elim
end

section
variable {P : Program} {w : World} {K : PySem.W.Frag} {mg mb : Str → Option Value} {k : Nat} {fa a : Addr} {fd : FuncData} {x : Str} {sp : Sp}
/-- what a law's call must show -/
def LawEnd (s₁ : Shared) (r : Result) (s' : Shared) : Prop :=
  r = .ok (.ret (.bool true)) ∧ OldK s₁.heap s'.heap ∧ s'.os = s₁.os ∧ AllBare s'.gens
/-- an abstract heap that tells at most the script, as the machine has it -/
structure Lone (P : Program) (w : World) (K : PySem.W.Frag) (a : Addr) (H : Hp) (h : Heap) : Prop where
  only : Only H
  ok : HOk P w H h
  at_ : ∀ b, H b ≠ none → b = a
  off : H a ≠ none → K.lookup a = none
theorem Lone.free {H : Hp} {s : Shared} {vs : List Value} (L : Lone P w K a H s.heap)
    (ha : s.heap.get? a = some { cls := .type "list", data := .seq vs.toArray })
    {b : Addr} {o : Obj} {es : Array DictEntry} {n : Nat}
    (e : s.heap.get? b = some o) (d : o.data = .dict es n) : H b = none := by
  apply Classical.byContradiction
  intro z
  have q := L.at_ b z
  rw [q, ha] at e
  rw [← Option.some.inj e] at d
  cases d
theorem lone_call {H : Hp} {s : Shared} {vs : List Value} {ns : List Int}
    (L : Lone P w K a H s.heap) (hin : K.In s.heap) (hm : s.heap.Ns mainGlobals mg)
    (hbn : s.heap.Ns builtinsNs mb) (hbv : ∀ y : Str, y ≠ "__name__" → mb y = bootBuiltins y)
    (hno : s.heap.NoLimit) (hgen : s.gens = #[])
    (ha : s.heap.get? a = some { cls := .type "list", data := .seq vs.toArray })
    (hS : SqL K H a (ns.map V.int)) (hr : Room k callerA)
    (F : ∀ base : Heap, K.In base → base.Ns mainGlobals mg → LawRun P w K mg base k fa fd [x] sp)
    (hbind : ∀ (s : Shared) (u : Value), BindsTo s fd ⟨[u], []⟩ [(x, u)])
    (hsp : sp [.ref a] H (fun v _ => v = .bl true) fun _ _ _ => False) :
    codeAny (model P w) callerA (.call (.ref fa) ⟨[.ref a], []⟩) (LawEnd s) s := by
  have keepNs : ∀ {b : Addr} {m : Str → Option Value}, s.heap.Ns b m → (hidT s.heap H).Ns b m := by
    rintro b m ⟨o, es, n, e, d, rest⟩
    exact ⟨o, es, n, hidT_get e (L.free ha e d), d, rest⟩
  have keepK : K.In (hidT s.heap H) := by
    intro b o e
    refine hidT_get (hin b o e) ?_
    apply Classical.byContradiction
    intro z
    have q := L.at_ b z
    rw [q] at e z
    exact absurd ((L.off z).symm.trans e) (by simp)
  have mod : Mod K mg (hidT s.heap H) := by
    obtain ⟨mc, c1, c2⟩ := hno
    exact ⟨keepK, keepNs hm, ⟨mb, keepNs hbn, hbv⟩, mc, keepNs c1, c2⟩
  have none_in : ∀ b : Addr, b ∉ frs ([] : List Env) := fun b z => by
    have z2 : b ∈ ([] : List Addr) := z
    cases z2
  have en : Env0 P w K mg (hidT s.heap H) callerA [] s H := {
    frames := rfl
    mod := mod
    bs := fun b o e => of_hidT e
    bsz := Nat.le_of_eq (hidT_size _ _)
    funs := trivial
    frf := fun b z => (none_in b z).elim
    hok := L.ok
    bare := .of_eq hgen }
  have run := F _ keepK (keepNs hm) s H ⟨[.ref a], []⟩ [.ref a] [.ref a] _ _ hr en
    (hbind s (.ref a)) (.cons rfl .nil) hsp
  refine codeAny_mono run ?_
  intro r s' done
  match r, done with
  | .ok (.ret u), done =>
    obtain ⟨v, H', os, bare, un, ok', rel, hv⟩ := done
    have hv' : v = .bl true := hv
    rw [hv'] at rel
    have hu : u = Value.bool true := rel
    refine ⟨by rw [hu], OldK.of_keep ?_, os, bare⟩
    intro b o e
    rcases L.only b with z | ⟨ob, xs, z⟩
    · exact un.keep b o e z (none_in b) List.not_mem_nil
    · have e1 := (L.ok b _ z).1
      have e2 := (ok' b _ (un.frzs b ob _ z)).1
      rw [e1] at e
      rw [← e]
      exact e2
  | .error e, done => exact (show False from done).elim
  | .ok .next, done => exact (show False from done).elim
  | .ok .brk, done => exact (show False from done).elim
  | .ok .cont, done => exact (show False from done).elim
theorem law_at_call {s : Shared} {vs : List Value} {ns : List Int}
    (hin : K.In s.heap) (hm : s.heap.Ns mainGlobals mg) (hbn : s.heap.Ns builtinsNs mb)
    (hbv : ∀ y : Str, y ≠ "__name__" → mb y = bootBuiltins y) (hno : s.heap.NoLimit) (hgen : s.gens = #[])
    (ha : s.heap.get? a = some { cls := .type "list", data := .seq vs.toArray })
    (hi : IntsAre vs ns) (hl : ns.length ≤ sizeLine) (hr : Room k callerA)
    (F : ∀ base : Heap, K.In base → base.Ns mainGlobals mg → LawRun P w K mg base k fa fd [x] sp)
    (hbind : ∀ (s : Shared) (u : Value), BindsTo s fd ⟨[u], []⟩ [(x, u)])
    (hsp : ∀ H : Hp, Only H → SqL K H a (ns.map V.int) → sp [.ref a] H (fun v _ => v = .bl true) fun _ _ _ => False) :
    codeAny (model P w) callerA (.call (.ref fa) ⟨[.ref a], []⟩) (LawEnd s) s := by
  have rv := vals_ints hi
  cases hk : K.lookup a with
  | some o =>
    have e := hin a o hk
    rw [ha] at e
    have eo := Option.some.inj e
    subst eo
    have L : Lone P w K a (fun _ => none) s.heap :=
      ⟨fun _ => Or.inl rfl, fun _ u z => absurd (show none = some u from z) (by simp), fun _ z => (z rfl).elim, fun z => (z rfl).elim⟩
    have hS : SqL K (fun _ => none) a (ns.map V.int) :=
      Or.inr ⟨_, vs.toArray, _, hk, rfl, rfl, rfl, by rw [List.size_toArray, hi.length]; exact hl, by simpa using rv⟩
    exact lone_call L hin hm hbn hbv hno hgen ha hS hr F hbind (hsp _ L.only hS)
  | none =>
    let fz : HO := .frz { cls := .type "list", data := .seq vs.toArray } (.lst (ns.map V.int))
    have self : upd (fun _ => none) a fz a = some fz := upd_same
    have others : ∀ b, b ≠ a → upd (fun _ => none) a fz b = none := fun b n => upd_ne n
    have L : Lone P w K a (upd (fun _ => none) a fz) s.heap := by
      refine ⟨fun b => ?_, fun b u z => ?_, fun b z => ?_, fun _ => hk⟩
      · by_cases q : b = a
        · rw [q]
          exact Or.inr ⟨_, _, self⟩
        · exact Or.inl (others b q)
      · by_cases q : b = a
        · rw [q] at z ⊢
          have z2 := Option.some.inj (self.symm.trans z)
          subst z2
          exact ⟨ha, by rw [List.length_map]; exact hl, vs, _, rv, ha⟩
        · exact absurd ((others b q).symm.trans z) (by simp)
      · exact Classical.byContradiction fun q => z (others b q)
    have hS : SqL K (upd (fun _ => none) a fz) a (ns.map V.int) := Or.inl (Or.inr ⟨_, self⟩)
    exact lone_call L hin hm hbn hbv hno hgen ha hS hr F hbind (hsp _ L.only hS)
end
/-- the end of a law row from the law's run -/
theorem walk_run {l : PySem.W.OpenLaw} {n k : Nat} {q : Program} {loose : List Str} {XP : (Str → Option Value) → Heap → Prop}
    {YP : World → Heap → Prop} {d : DefRec} {K : Params → PySem.W.Frag} {sp : World → Sp} {x : Str}
    (hn : l.most = some n) (hn2 : n ≤ sizeLine) (hdf : d.params.defaults = []) (hr : Room k callerA)
    (hY : ∀ (w : World) (h : Heap), YP w h → (K w.params).In h)
    (F : ∀ (w : World) (mg : Str → Option Value) (fa : Addr) (h : Heap),
      (K w.params).In h → h.Ns mainGlobals mg → mg d.name = some (.ref fa) →
      ∃ fd : FuncData, (∀ (s : Shared) (u : Value), BindsTo s fd ⟨[u], []⟩ [(x, u)]) ∧
        ∀ base : Heap, (K w.params).In base → base.Ns mainGlobals mg →
          LawRun l.prog w (K w.params) mg base k fa fd [x] (sp w))
    (hsp : ∀ (w : World) (H : Hp) (a : Addr) (ns : List Int), ns.length ≤ n → Only H →
      SqL (K w.params) H a (ns.map V.int) → sp w [.ref a] H (fun v _ => v = .bl true) fun _ _ _ => False) :
    PySem.W.WalkO q loose XP YP l.row.toRowW d [] (fun f vs => PySem.call f vs) := by
  refine Att.attach_call hn hdf ?_
  intro w s₀ s₁ mg mb fa o pm cd doc a vs ns G Y _ _ _ hmg hobj hints hlen hgen
  have hin := hY w _ Y
  obtain ⟨fd, hb, hF⟩ := F w mg fa _ hin G.T.g hmg
  exact law_at_call hin G.T.g G.T.b G.T.builtins G.T.nolimit hgen hobj hints
    (Nat.le_trans hlen hn2) hr hF hb fun H hO hS => hsp w H a ns hlen hO hS
end Hb

set_option Elab.async false
set_option linter.all false
set_option maxRecDepth 100000
set_option maxHeartbeats 4000000
/-! More of dicts with nested tuple keys: get with and without a default, list(d); tuples joined, whatever they are; truth of lists of bools. -/
namespace Hb
open PySem L2 PyProof.Rows
section
variable {X : Cx} {w : World} {o e f : Expr} {apos cpos : Pos} {td ty tx : TE}
def rNG (w : World) (x y z : V) (H : Hp) (Q : VK) : Prop := ∃ a b es k, AtN w H x y a b es k ∧ Q ((atN es k).getD z) H
def tNGet1 (w : World) (td ty : TE) : TE := fun σ H Q => td σ H fun x H1 => (∃ a es, x = .ref a ∧ H1 a = some (DN w a es)) ∧ ty σ H1 fun y H2 => rNG w x y .non H2 Q
def tNGet2 (w : World) (td ty tx : TE) : TE := fun σ H Q => td σ H fun x H1 => (∃ a es, x = .ref a ∧ H1 a = some (DN w a es)) ∧ ty σ H1 fun y H2 => tx σ H2 fun z H3 => rNG w x y z H3 Q
theorem pe_nget1 (hu : X.A.units + 64 < cLine) (ho : PE X o td) (he : PE X e ty) (m : M1 X o "get" apos e cpos) (hw : X.w = w := by rfl) : PE X (.Call (.Attribute o "get" apos) [e] [] cpos) (tNGet1 w td ty) := by
  refine ⟨fun pins s σ H Q I h => ?_⟩
  refine wpAny_Call_method m.base m.few m.line PySem.F.plainAttrs_dict PySem.F.slot_dict_get PySem.F.type_dict_get (thn (ho.run pins s σ H _ I h) ?_)
  rintro u s1 ⟨x, H1, I1, rx, ⟨a0, es0, rfl, ea⟩, q1⟩
  obtain rfl : u = Value.ref a0 := rx
  subst hw
  obtain ⟨t1, t2⟩ := dn_type I1 ea
  have hd0 : (a0 == sysModules) = false := (show ObjOk X.prog X.w H1 s1.heap a0 (DN X.w a0 es0) from I1.hok _ _ ea).1.2.1
  refine ⟨t1, t2, ?_⟩
  rw [m.trees]
  refine wpAny_dict_get1_heap (knd := nestedKind X.prog X.w) (n_room hu) hd0 (thn (he.run pins s1 σ H1 _ I1 q1) ?_)
  rintro iv s2 ⟨y, H2, I2, ry, a, b, es, k, g, q2⟩
  obtain ⟨z, hd, xs, rr, dd, hk⟩ := g.dn I2 rfl
  cases g.ex
  cases g.ey
  refine ⟨b, k, xs, ry, hk, dd, ?_⟩
  exact ⟨_, H2, I2.tok _, (rr.at k).getD (show RelV .non .none from rfl), q2⟩
theorem pe_nget2 (hu : X.A.units + 64 < cLine) (ho : PE X o td) (he : PE X e ty) (hf : PE X f tx) (m : M2 X o "get" apos e f cpos) (hw : X.w = w := by rfl) : PE X (.Call (.Attribute o "get" apos) [e, f] [] cpos) (tNGet2 w td ty tx) := by
  refine ⟨fun pins s σ H Q I h => ?_⟩
  refine wpAny_Call_method m.base m.few m.line PySem.F.plainAttrs_dict PySem.F.slot_dict_get PySem.F.type_dict_get (thn (ho.run pins s σ H _ I h) ?_)
  rintro u s1 ⟨x, H1, I1, rx, ⟨a0, es0, rfl, ea⟩, q1⟩
  obtain rfl : u = Value.ref a0 := rx
  subst hw
  obtain ⟨t1, t2⟩ := dn_type I1 ea
  have hd0 : (a0 == sysModules) = false := (show ObjOk X.prog X.w H1 s1.heap a0 (DN X.w a0 es0) from I1.hok _ _ ea).1.2.1
  refine ⟨t1, t2, ?_⟩
  rw [m.trees]
  refine wpAny_dict_get2_heap (knd := nestedKind X.prog X.w) (n_room hu) hd0 (thn (he.run pins s1 σ H1 _ I1 q1) ?_)
  rintro iv s2 ⟨y, H2, I2, ry, q2⟩
  refine thn (hf.run pins s2 σ H2 _ I2 q2) ?_
  rintro fv s3 ⟨z0, H3, I3, rz, a, b, es, k, g, q3⟩
  obtain ⟨z, hd, xs, rr, dd, hk⟩ := g.dn I3 rfl
  cases g.ex
  cases g.ey
  refine ⟨b, k, xs, ry, hk, dd, ?_⟩
  exact ⟨_, H3, I3.tok _, (rr.at k).getD rz, q3⟩
/-- list(d) -/
def rListN (w : World) : List V → Hp → VK → Prop := fun xs H Q => ∃ (p : Addr) (es : List Ent), xs = [.ref p] ∧ H p = some (DN w p es) ∧ ∀ q, H q = none → Q (.ref q) (upd H q (.lst (es.map fun e => V.ref e.2.1)))
theorem call_listN (hc : X.calm = true) (hw : X.w = w := by rfl) : CallR X (.type "list") (rListN w) := by
  subst hw
  rintro pins s σ H xs us Q I r ⟨p, es, rfl, hp, q⟩
  rw [Vals.ref1 r]
  obtain ⟨⟨z, lo, vs, rel, ob, ds, ep, h1, h2, h3, h4, h5⟩, _, _⟩ := (show ObjOk X.prog X.w H s.heap p (DN X.w p es) from I.hok _ _ hp)
  have hsz : ds.size = es.length := by
    rw [← Array.length_toList, h4, List.length_map, rel.len]
  refine PySem.W.kdl_call (kdl_raw lo h2 h3) (I.ok.hd hc) h1 (by rw [hsz]; exact z) fun h' tk acc c hk hS hacc => ?_
  have hac : acc.toList = es.map fun e => Value.ref e.2.1 := by
    refine List.ext_getElem? fun j => ?_
    rw [List.getElem?_map]
    cases e1 : acc.toList[j]? with
    | none =>
      have g1 := List.getElem?_eq_none_iff.mp e1
      rw [Array.length_toList, hacc.1, hsz] at g1
      rw [List.getElem?_eq_none g1]
      rfl
    | some v =>
      obtain ⟨en, g1, g2⟩ := hacc.2 j v (by rw [← Array.getElem?_toList]; exact e1)
      rw [← Array.getElem?_toList, h4, List.getElem?_map] at g1
      obtain ⟨x, g3, g4⟩ := Option.map_eq_some_iff.mp g1
      have g5 := congrArg (fun l => l[j]?) rel.addrs
      simp only [List.getElem?_map, g3] at g5
      rw [g2, ← g4]
      cases e2 : es[j]? with
      | none =>
        rw [e2] at g5
        simp at g5
      | some y =>
        rw [e2] at g5
        simp only [Option.map_some, Option.some.injEq, Value.ref.injEq] at g5
        simp only [Option.map_some, entN, g5]
  have vals : ∀ l : List Ent, Vals (l.map fun e => V.ref e.2.1) (l.map fun e => Value.ref e.2.1) := fun l => by
    induction l with
    | nil => exact .nil
    | cons e l ih => exact .cons rfl ih
  refine ⟨.ref s.heap.objs.size, upd H s.heap.objs.size (.lst (es.map fun e => V.ref e.2.1)), I.laid hk (Nat.le_refl _) (show ObjOk X.prog X.w _ _ _ (.lst (es.map fun e => V.ref e.2.1)) from ⟨by rw [List.length_map]; exact z, acc.toList, c, ?_, hS⟩), rfl, q _ (I.hok.fresh (Nat.le_refl _))⟩
  rw [hac]
  exact vals es
theorem op_catAK {K : PySem.W.Frag} (hK : X.K = K := by rfl) : OpR X (binaryOp .Add) (rCatA K) := by
  subst hK
  exact op_catA
theorem sl_tupAK {K : PySem.W.Frag} (hK : X.K = K := by rfl) : SlR X (rSlA K) := by
  subst hK
  exact sl_tupA
theorem ix_kdictK {K : PySem.W.Frag} (hK : X.K = K := by rfl) (hw : X.w = w := by rfl) : IxR X (rIxD K w) := by
  subst hK hw
  exact ix_kdict
theorem cr_allK {K : PySem.W.Frag} (hc : X.calm = true) (hK : X.K = K := by rfl) : CallR X (.builtin "all") (rAll K) := by
  subst hK
  exact cr_all hc
theorem cr_anyK {K : PySem.W.Frag} (hc : X.calm = true) (hK : X.K = K := by rfl) : CallR X (.builtin "any") (rAny K) := by
  subst hK
  exact cr_any hc
theorem cr_minK {K : PySem.W.Frag} (hc : X.calm = true) (hK : X.K = K := by rfl) : CallR X (.builtin "min") (rMin K) := by
  subst hK
  exact cr_min hc
theorem cr_maxK {K : PySem.W.Frag} (hc : X.calm = true) (hK : X.K = K := by rfl) : CallR X (.builtin "max") (rMax K) := by
  subst hK
  exact cr_max hc
end
end Hb

set_option Elab.async false
set_option linter.all false
set_option maxRecDepth 100000
set_option maxHeartbeats 4000000
/-! Dicts whose keys are tuples of ints and of flat tuples of ints, with any values: a plain list of pairs. -/
namespace Hb
open PySem L2 PyProof.Rows
abbrev IK := List Itm
abbrev GM := List (IK × V)
theorem nkI_depth (x : Itm) : (nkI x).depth ≤ 3 := by
  cases x with
  | inl i => simp [nkI, NestedKey.depth]
  | inr ns =>
    have h : ∀ l : List Int, NestedKey.depthAll (l.map NestedKey.num) ≤ 1 := fun l => by
      induction l with
      | nil => simp [NestedKey.depthAll]
      | cons n l ih =>
        rw [List.map_cons]
        simp only [NestedKey.depthAll, NestedKey.depth]
        omega
    have := h ns
    simp only [nkI, NestedKey.depth]
    omega
theorem nkK_depth (ks : IK) : (nkK ks).depth ≤ 8 := by
  have h : ∀ l : List Itm, NestedKey.depthAll (l.map nkI) ≤ 3 := fun l => by
    induction l with
    | nil => simp [NestedKey.depthAll]
    | cons x l ih =>
      have := nkI_depth x
      rw [List.map_cons]
      simp only [NestedKey.depthAll]
      omega
  have := h ks
  simp only [nkK, NestedKey.depth]
  omega
/-- an item of a key, as it stands -/
def ItAt (H : Hp) (v : V) : Itm → Prop
  | .inl i => v = .int i
  | .inr ns => ∃ p : Addr, v = .ref p ∧ H p = some (.tup (ns.map V.int))
theorem nks_ints {H : Hp} : ∀ ns : List Int, NKs H (ns.map NestedKey.num) (ns.map V.int)
  | [] => .nil
  | n :: ns => .cons (.int n) (nks_ints ns)
theorem nks_ints_inv {H : Hp} : ∀ {ns : List Int} {vs : List V}, NKs H (ns.map NestedKey.num) vs → vs = ns.map V.int
  | [], _, h => by cases h; rfl
  | n :: ns, _, h => by
    cases h with
    | cons h1 h2 =>
      cases h1
      rw [nks_ints_inv h2]
      rfl
theorem ItAt.nk {H : Hp} {v : V} : ∀ {x : Itm}, ItAt H v x → NK H (nkI x) v
  | .inl i, h => by
    cases h
    exact .int i
  | .inr ns, ⟨p, h1, h2⟩ => by
    cases h1
    exact .tup h2 (nks_ints ns)
theorem ItAt.of {H : Hp} {v : V} : ∀ {x : Itm}, NK H (nkI x) v → ItAt H v x
  | .inl i, h => by
    cases h
    rfl
  | .inr ns, h => by
    cases h with
    | tup h1 h2 => exact ⟨_, rfl, by rw [h1, nks_ints_inv h2]⟩
/-- the key at an address: its items -/
def KAt (H : Hp) (p : Addr) (ks : IK) : Prop := ∃ vs, H p = some (.tup vs) ∧ Paired (fun v x => ItAt H v x) vs ks
theorem KAt.nk {H : Hp} {p : Addr} {ks : IK} (h : KAt H p ks) : NK H (nkK ks) (.ref p) := by
  obtain ⟨vs, h1, h2⟩ := h
  refine .tup h1 ?_
  clear h1
  induction h2 with
  | nil => exact .nil
  | cons h _ ih => exact .cons h.nk ih
theorem KAt.of {H : Hp} {p : Addr} {ks : IK} (h : NK H (nkK ks) (.ref p)) : KAt H p ks := by
  cases h with
  | @tup _ vs _ h1 h2 =>
    refine ⟨vs, h1, ?_⟩
    clear h1
    induction ks generalizing vs with
    | nil => cases h2; exact .nil
    | cons x ks ih =>
      cases h2 with
      | cons k1 k2 => exact .cons (ItAt.of k1) (ih k2)
theorem ItAt.mono {H H' : Hp} (e : ∀ p xs, H p = some (.tup xs) → H' p = some (.tup xs)) {v : V} : ∀ {x : Itm}, ItAt H v x → ItAt H' v x
  | .inl _, h => h
  | .inr _, ⟨p, h1, h2⟩ => ⟨p, h1, e _ _ h2⟩
theorem KAt.mono {H H' : Hp} (e : ∀ p xs, H p = some (.tup xs) → H' p = some (.tup xs)) {p : Addr} {ks : IK} (h : KAt H p ks) : KAt H' p ks := by
  obtain ⟨vs, h1, h2⟩ := h
  exact ⟨vs, e _ _ h1, Paired.mapP h2 fun _ _ => ItAt.mono e⟩
theorem KAt.same {H H' : Hp} (e : Same H H') {p : Addr} {ks : IK} (h : KAt H p ks) : KAt H' p ks := h.mono fun _ _ => e _ _
/-- a flat tuple of ints as a key -/
theorem kat_ints {H : Hp} {p : Addr} {ns : List Int} (h : H p = some (.tup (ns.map V.int))) : KAt H p (ns.map Sum.inl) := by
  refine ⟨_, h, ?_⟩
  clear h
  induction ns with
  | nil => exact .nil
  | cons n ns ih => exact .cons (show ItAt H (.int n) (.inl n) from rfl) ih
theorem kat_ints_inv {H : Hp} {p : Addr} {ns : List Int} (h : KAt H p (ns.map Sum.inl)) : H p = some (.tup (ns.map V.int)) := by
  obtain ⟨vs, h1, h2⟩ := h
  rw [h1]
  congr 2
  clear h1
  induction ns generalizing vs with
  | nil => cases h2; rfl
  | cons n ns ih =>
    cases h2 with
    | cons k1 k2 =>
      rw [ih _ k2, show _ = V.int n from k1]
      rfl
/-! ### the pairs -/
def valG (M : GM) (k : IK) : Option V := (M.find? fun x => decide (x.1 = k)).map (·.2)
def putG (M : GM) (k : IK) (v : V) : GM := if (valG M k).isSome then M.map (fun x => if x.1 = k then (x.1, v) else x) else M ++ [(k, v)]
def dropG (M : GM) (k : IK) : GM := M.filter fun x => decide (x.1 ≠ k)
abbrev EntG (H : Hp) : List Ent → GM → Prop := Paired fun e x => e.1 = nkK x.1 ∧ e.2.2 = x.2 ∧ KAt H e.2.1 x.1
theorem EntG.mono {H H' : Hp} (e : ∀ p xs, H p = some (.tup xs) → H' p = some (.tup xs)) {es : List Ent} {M : GM} (h : EntG H es M) : EntG H' es M := Paired.mapP h fun _ _ ⟨h1, h2, h3⟩ => ⟨h1, h2, h3.mono e⟩
theorem EntG.same {H H' : Hp} (e : Same H H') {es : List Ent} {M : GM} (h : EntG H es M) : EntG H' es M := h.mono fun _ _ => e _ _
theorem EntG.nil {H : Hp} : EntG H [] [] := Paired.nil
theorem EntG.ok {H : Hp} {es : List Ent} {M : GM} (h : EntG H es M) : EntsOk H es := by
  induction h with
  | nil => exact EntsOk.nil
  | cons h _ ih =>
    intro e he
    rcases List.mem_cons.mp he with rfl | he
    · rw [h.1]
      exact ⟨h.2.2.nk, nkK_depth _⟩
    · exact ih e he
theorem EntG.len {H : Hp} {es : List Ent} {M : GM} (h : EntG H es M) : es.length = M.length := Paired.length h
theorem EntG.at {H : Hp} {es : List Ent} {M : GM} (h : EntG H es M) (k : IK) : atN es (nkK k) = valG M k := by
  induction h with
  | nil => rfl
  | @cons e x es xs h _ ih =>
    unfold atN valG at ih ⊢
    rw [List.find?_cons, List.find?_cons, h.1]
    by_cases hc : x.1 = k
    · rw [decide_eq_true hc, decide_eq_true (by rw [hc])]
      show some e.2.2 = some x.2
      rw [h.2.1]
    · rw [decide_eq_false hc, decide_eq_false (fun z => hc (nkK_inj z))]
      exact ih
theorem entG_map {H : Hp} {k : IK} {v : V} : ∀ {es : List Ent} {M : GM}, EntG H es M → EntG H (es.map fun e => if e.1 = nkK k then (e.1, e.2.1, v) else e) (M.map fun x => if x.1 = k then (x.1, v) else x)
  | _, _, Paired.nil => Paired.nil
  | e :: es, x :: xs, Paired.cons h t => by
    refine Paired.cons ?_ (entG_map t)
    by_cases hc : x.1 = k
    · have hc2 : e.1 = nkK k := by rw [h.1, hc]
      simp only [if_pos hc2, if_pos hc]
      exact ⟨h.1, trivial, h.2.2⟩
    · have hc2 : ¬ e.1 = nkK k := fun z => hc (nkK_inj (h.1.symm.trans z))
      simp only [if_neg hc2, if_neg hc]
      exact h
theorem EntG.put {H : Hp} {es : List Ent} {M : GM} (h : EntG H es M) {k : IK} {b : Addr} (v : V) (hk : KAt H b k) : EntG H (putN es (nkK k) b v) (putG M k v) := by
  unfold putN putG
  rw [h.at k]
  by_cases hc : (valG M k).isSome = true
  · rw [if_pos hc, if_pos hc]
    exact entG_map h
  · rw [if_neg hc, if_neg hc]
    exact paired_app h (Paired.cons ⟨rfl, rfl, hk⟩ Paired.nil)
theorem putG_len {M : GM} {k : IK} {v : V} : (putG M k v).length ≤ M.length + 1 := by
  unfold putG
  by_cases h : (valG M k).isSome = true
  · rw [if_pos h, List.length_map]
    omega
  · rw [if_neg h, List.length_append]
    exact Nat.le_refl _
theorem valG_some {M : GM} {k : IK} : (valG M k).isSome = true ↔ k ∈ M.map (·.1) := by
  unfold valG
  rw [Option.isSome_map, List.find?_isSome, List.mem_map]
  exact ⟨fun ⟨x, h1, h2⟩ => ⟨x, h1, of_decide_eq_true h2⟩, fun ⟨x, h1, h2⟩ => ⟨x, h1, decide_eq_true h2⟩⟩
theorem putG_keys (M : GM) (k : IK) (v : V) : (putG M k v).map (·.1) = if (valG M k).isSome = true then M.map (·.1) else M.map (·.1) ++ [k] := by
  unfold putG
  by_cases h : (valG M k).isSome = true
  · rw [if_pos h, if_pos h, List.map_map]
    refine List.map_congr_left fun x _ => ?_
    by_cases hc : x.1 = k
    · simp [hc]
    · simp [hc]
  · rw [if_neg h, if_neg h, List.map_append]
    rfl
theorem valG_cons (x : IK × V) (M : GM) (k : IK) : valG (x :: M) k = if x.1 = k then some x.2 else valG M k := by
  unfold valG
  rw [List.find?_cons]
  by_cases h : x.1 = k
  · rw [decide_eq_true h, if_pos h]
    rfl
  · rw [decide_eq_false h, if_neg h]
theorem valG_nil (k : IK) : valG [] k = none := rfl
theorem valG_put (M : GM) (k : IK) (v : V) (j : IK) : valG (putG M k v) j = if j = k then some v else valG M j := by
  unfold putG
  by_cases h : (valG M k).isSome = true
  · rw [if_pos h]
    by_cases hj : j = k
    · subst hj
      rw [if_pos rfl]
      induction M with
      | nil => cases h
      | cons x M ih =>
        rw [List.map_cons, valG_cons]
        rw [valG_cons] at h
        by_cases hx : x.1 = j
        · rw [if_pos hx, if_pos hx]
        · rw [if_neg hx] at h
          rw [if_neg hx, if_neg hx]
          exact ih h
    · rw [if_neg hj]
      clear h
      induction M with
      | nil => rfl
      | cons x M ih =>
        rw [List.map_cons, valG_cons, valG_cons, ih]
        by_cases hx : x.1 = k
        · rw [if_pos hx]
          by_cases hxj : x.1 = j
          · exact absurd (hxj.symm.trans hx) hj
          · rw [if_neg hxj, if_neg hxj]
        · rw [if_neg hx]
  · rw [if_neg h]
    have hn : valG M k = none := by
      cases e : valG M k with
      | none => rfl
      | some _ => exact absurd (by rw [e]; rfl) h
    clear h
    induction M with
    | nil =>
      rw [List.nil_append, valG_cons]
      by_cases hj : k = j
      · rw [if_pos hj, if_pos hj.symm]
      · rw [if_neg hj, if_neg (fun z => hj z.symm)]
    | cons x M ih =>
      rw [valG_cons] at hn
      by_cases hx : x.1 = k
      · rw [if_pos hx] at hn
        cases hn
      · rw [if_neg hx] at hn
        rw [List.cons_append, valG_cons, ih hn, valG_cons]
        by_cases hxj : x.1 = j
        · rw [if_pos hxj]
          by_cases hj : j = k
          · exact absurd (hxj.trans hj) hx
          · rw [if_neg hj, if_pos hxj]
        · rw [if_neg hxj, if_neg hxj]
/-! ### the steps -/
section
variable {w : World} {σ : L2.St} {H B : Hp} {Q : VK} {D : Ends} {td ty tv tx : TE} {L L' : List (Addr × HO)} {es : List Ent} {M : GM} {k : IK} {d b : Addr} {v : V}
theorem atG_of (h : H d = some (DN w d es)) (e : EntG H es M) (hk : KAt H b k) : AtN w H (.ref d) (.ref b) d b es (nkK k) := ⟨rfl, rfl, h, e.ok, hk.nk, nkK_depth k⟩
theorem wg_get (hs : Hs B L H) (h : H d = some (DN w d es)) (e : EntG B es M) (hk : KAt H b k) (hv : valG M k = some v) (q : Q v H) : rNGet w (.ref d) (.ref b) H Q :=
  ⟨d, b, es, nkK k, v, atG_of h (e.same hs.same) hk, by rw [e.at k, hv], q⟩
theorem wg_in {R : Bool → Prop} (hs : Hs B L H) (h : H d = some (DN w d es)) (e : EntG B es M) (hk : KAt H b k) (q : R (valG M k).isSome) : rNIn w (.ref d) (.ref b) H R :=
  ⟨d, b, es, nkK k, atG_of h (e.same hs.same) hk, by rw [e.at k]; exact q⟩
theorem wg_put {R : Hp → Prop} (hs : Hs B L H) (h : Put L d (DN w d es) (DN w d (putN es (nkK k) b v)) L') (e : EntG B es M) (hk : KAt B b k) (hl : M.length ≤ 1000000) (q : ∀ H', Hs B L' H' → EntG B (putN es (nkK k) b v) (putG M k v) → R H') : rNPut w (.ref d) (.ref b) v H R :=
  ⟨d, b, es, nkK k, atG_of (hs.gets h) (e.same hs.same) (hk.same hs.same), by rw [e.len, sizeLine_eq]; omega, q _ (hs.puts h) (e.put v hk)⟩
theorem wg_def {z : V} (hs : Hs B L H) (h : H d = some (DN w d es)) (e : EntG B es M) (hk : KAt H b k) (q : Q ((valG M k).getD z) H) : rNG w (.ref d) (.ref b) z H Q :=
  ⟨d, b, es, nkK k, atG_of h (e.same hs.same) hk, by rw [e.at k]; exact q⟩
theorem w_ng1 (q : td σ H fun x H1 => (∃ a es, x = .ref a ∧ H1 a = some (DN w a es)) ∧ ty σ H1 fun y H2 => rNG w x y .non H2 Q) : tNGet1 w td ty σ H Q := q
theorem w_ng2 (q : td σ H fun x H1 => (∃ a es, x = .ref a ∧ H1 a = some (DN w a es)) ∧ ty σ H1 fun y H2 => tx σ H2 fun z H3 => rNG w x y z H3 Q) : tNGet2 w td ty tx σ H Q := q
theorem EntG.row {es : List Ent} {M : GM} (h : EntG H es M) : Paired (fun (v : V) (x : IK) => ∃ p : Addr, v = .ref p ∧ KAt H p x) (es.map fun e => V.ref e.2.1) (M.map (·.1)) := by
  induction h with
  | nil => exact .nil
  | cons h _ ih => exact .cons ⟨_, rfl, h.2.2⟩ ih
theorem wg_list (hs : Hs B L H) (h : H d = some (DN w d es)) (q : ∀ p H', Hs B ((p, .lst (es.map fun e => V.ref e.2.1)) :: L) H' → Q (.ref p) H') : rListN w [.ref d] H Q :=
  ⟨d, es, rfl, h, fun p hp => q p _ (hs.new hp)⟩
end
end Hb

set_option Elab.async false
set_option linter.all false
set_option maxRecDepth 100000
set_option maxHeartbeats 4000000
/-! Rows of items side by side with what they tell; sorted of keys; promises joined; objects that stand. -/
namespace Hb
open PySem L2 PyProof.Rows
/-! ## data side by side -/
def Row {α : Type} (R : V → α → Prop) (us : List V) (xs : List α) : Prop := us.length = xs.length ∧ ∀ (i : Nat) (u : V) (x : α), us[i]? = some u → xs[i]? = some x → R u x
theorem Row.mono {α : Type} {R R' : V → α → Prop} (h : ∀ u x, R u x → R' u x) {us : List V} {xs : List α} (r : Row R us xs) : Row R' us xs := ⟨r.1, fun i u x h1 h2 => h _ _ (r.2 i u x h1 h2)⟩
theorem Row.get {α : Type} {R : V → α → Prop} {us : List V} {xs : List α} (r : Row R us xs) {i : Nat} {u : V} (h : us[i]? = some u) : ∃ x, xs[i]? = some x ∧ R u x := by
  have hi := (List.getElem?_eq_some_iff.mp h).1
  have h2 : xs[i]? = some (xs[i]'(by have := r.1; omega)) := List.getElem?_eq_getElem _
  exact ⟨_, h2, r.2 i _ _ h h2⟩
theorem Row.nil {α : Type} {R : V → α → Prop} : Row R [] [] := ⟨rfl, fun _ _ _ z => nomatch z⟩
theorem Row.cons {α : Type} {R : V → α → Prop} {us : List V} {xs : List α} {u : V} {x : α} (h : R u x) (r : Row R us xs) : Row R (u :: us) (x :: xs) := by
  refine ⟨by rw [List.length_cons, List.length_cons, r.1], fun i y z h1 h2 => ?_⟩
  cases i with
  | zero =>
    cases h1
    cases h2
    exact h
  | succ i => exact r.2 i y z (by simpa using h1) (by simpa using h2)
theorem Row.snoc {α : Type} {R : V → α → Prop} {us : List V} {xs : List α} {u : V} {x : α} (r : Row R us xs) (h : R u x) : Row R (us ++ [u]) (xs ++ [x]) := by
  refine ⟨by rw [List.length_append, List.length_append, r.1]; rfl, fun i y z h1 h2 => ?_⟩
  by_cases hi : i < us.length
  · rw [List.getElem?_append_left hi] at h1
    rw [List.getElem?_append_left (by rw [← r.1]; exact hi)] at h2
    exact r.2 i y z h1 h2
  · rw [List.getElem?_append_right (by omega)] at h1
    rw [List.getElem?_append_right (by rw [← r.1]; omega)] at h2
    rw [r.1] at h1
    cases hj : i - xs.length with
    | zero =>
      rw [hj] at h1 h2
      cases h1
      cases h2
      exact h
    | succ n =>
      rw [hj] at h1
      simp at h1
theorem Row.take {α : Type} {R : V → α → Prop} {us : List V} {xs : List α} (r : Row R us xs) (n : Nat) : Row R (us.take n) (xs.take n) := by
  refine ⟨by rw [List.length_take, List.length_take, r.1], fun i u x h1 h2 => ?_⟩
  rw [List.getElem?_take] at h1 h2
  by_cases h : i < n
  · rw [if_pos h] at h1 h2
    exact r.2 i u x h1 h2
  · rw [if_neg h] at h1
    cases h1
theorem Row.drop {α : Type} {R : V → α → Prop} {us : List V} {xs : List α} (r : Row R us xs) (n : Nat) : Row R (us.drop n) (xs.drop n) := by
  refine ⟨by rw [List.length_drop, List.length_drop, r.1], fun i u x h1 h2 => ?_⟩
  rw [List.getElem?_drop] at h1 h2
  exact r.2 _ u x h1 h2
theorem Row.app {α : Type} {R : V → α → Prop} {us vs : List V} {xs ys : List α} (r : Row R us xs) (q : Row R vs ys) : Row R (us ++ vs) (xs ++ ys) := by
  refine ⟨by rw [List.length_append, List.length_append, r.1, q.1], fun i u x h1 h2 => ?_⟩
  by_cases hi : i < us.length
  · rw [List.getElem?_append_left hi] at h1
    rw [List.getElem?_append_left (by rw [← r.1]; exact hi)] at h2
    exact r.2 i u x h1 h2
  · rw [List.getElem?_append_right (by omega)] at h1
    rw [List.getElem?_append_right (by rw [← r.1]; omega), ← r.1] at h2
    exact q.2 _ u x h1 h2
theorem Row.dpAll {α : Type} {K : PySem.W.Frag} {H : Hp} {R : V → α → Prop} {d : α → PyData} (hd : ∀ u x, R u x → Dp K H u (d x)) : ∀ {us : List V} {xs : List α}, Row R us xs → DpAll K H us (xs.map d)
  | [], [], _ => .nil
  | [], _ :: _, h => by cases h.1
  | _ :: _, [], h => by cases h.1
  | u :: us, x :: xs, h => .cons (hd _ _ (h.2 0 u x rfl rfl)) (Row.dpAll hd ⟨Nat.succ.inj h.1, fun i y z h1 h2 => h.2 (i + 1) y z (by simpa using h1) (by simpa using h2)⟩)
/-- what is new and stands: from a callee that only makes -/
theorem Hs_own {B H H' : Hp} {L : List (Addr × HO)} {p : Addr} {o : HO} (hs : Hs B L H) (e : Same H H') (hn : H p = none) (h : H' p = some o) : Hs B ((p, o) :: L) H' := by
  refine ⟨hs.same.trans e, ?_, fun x hx => ?_, fun x hx => ?_⟩
  · rw [List.map_cons, List.nodup_cons]
    exact ⟨hs.fresh hn, hs.nd⟩
  · rcases List.mem_cons.mp hx with rfl | hx
    · exact hs.same.free hn
    · exact hs.out x hx
  · rcases List.mem_cons.mp hx with rfl | hx
    · exact h
    · exact e _ _ (hs.at_ x hx)
theorem w_lcLR {K : PySem.W.Frag} {σ : L2.St} {H : Hp} {Q : VK} {tl : TE} {g : TG} {tt : TT} {te : TE} {vs : List Nat} (q : tl σ H fun x H1 => ListR K x H1 (LcR g tt te vs σ Q)) : tLc (iList K tl) g tt te vs σ H Q := q
/-- [e for x in us], row by row: what is told of the new items hangs on tuples alone -/
theorem w_lcRow {α : Type} {K : PySem.W.Frag} {σ : L2.St} {H : Hp} {Q : VK} {tl : TE} {te : TE} {j : Nat} {vs : List Nat} {a : Addr} {us : List V} (R : Hp → V → α → Prop) (hm : ∀ H1 H2 v y, (∀ p xs, H1 p = some (.tup xs) → H2 p = some (.tup xs)) → R H1 v y → R H2 v y) (hx : SqL K H a us) (hz : us.length ≤ 1000000) (ys : List α) (hlen : us.length = ys.length)
    (htl : ∀ Q : VK, Q (.ref a) H → tl σ H Q) (hw : ∀ v, wipe ((wipe σ vs).set j (some v)) vs = wipe σ vs)
    (he : ∀ (i : Nat) (u : V) (y : α) (H' : Hp) (Q' : VK), us[i]? = some u → ys[i]? = some y → Same H H' → (∀ v H3, Same H' H3 → R H3 v y → Q' v H3) → te ((wipe σ vs).set j (some u)) H' Q')
    (hq : ∀ D acc H', Hs H [(D, .lst acc)] H' → Row (R H') acc ys → Q (.ref D) H') : tLc (iList K tl) (gName j) tYes te vs σ H Q := by
  refine w_lcLR (htl _ (w_listR hx fun D hD => ?_))
  refine turns_list (Body := LcBody (gName j) tYes te vs σ D) (fun i H' => ∃ acc, Hs H [(D, .lst acc)] H' ∧ Row (R H') acc (ys.take i)) ⟨[], (Hs.start H).new hD, Row.nil⟩ (fun i H' _ ⟨_, h, _⟩ => h.same.seq hx) ?_ ?_
  · rintro i u H' hu ⟨acc, h1, h2⟩
    have hi := (List.getElem?_eq_some_iff.mp hu).1
    have hy : ys[i]? = some (ys[i]'(by omega)) := List.getElem?_eq_getElem _
    refine w_name ⟨hw _, w_yes (iteT (he i u _ H' _ hu hy h1.same fun v H3 s3 r => ?_))⟩
    have hD3 : H3 D = some (.lst acc) := s3 _ _ h1.g0
    have hlt : acc.length ≤ i := by
      have := h2.1
      rw [List.length_take] at this
      omega
    refine ⟨acc, hD3, szl (by omega), acc ++ [v], (h1.keep s3).p0 _, ?_⟩
    rw [List.take_add_one, hy]
    refine Row.mono (fun u x => hm H3 _ u x fun a xs => tup_but hD3 (fun _ z => by cases z) a xs) ((h2.mono fun u x => hm _ _ u x fun a xs e => s3 _ _ e).snoc r)
  · rintro H' ⟨acc, h1, h2⟩
    rw [hlen, List.take_length] at h2
    exact hq D acc H' h1 h2
def spF : Sp := fun _ _ _ _ => False
theorem fn_F {P : Program} {w : World} {K : PySem.W.Frag} {mg : Str → Option Value} {base : Heap} {k : Nat} {f : Addr} {fd : FuncData} {ps : List Str} : FnOk P w K mg base CX0 k f fd ps spF := ⟨fun _ _ _ _ h => h.elim, fun _ _ _ _ _ _ _ _ _ _ _ _ _ h => h.elim⟩
theorem fn_or {P : Program} {w : World} {K : PySem.W.Frag} {mg : Str → Option Value} {base : Heap} {k : Nat} {f : Addr} {fd : FuncData} {ps : List Str} {sp1 sp2 : Sp} (F1 : FnOk P w K mg base CX0 k f fd ps sp1) (F2 : FnOk P w K mg base CX0 k f fd ps sp2) : FnOk P w K mg base CX0 k f fd ps (fun vs H Q E => sp1 vs H Q E ∨ sp2 vs H Q E) :=
  ⟨fun vs H Q E h => h.elim (F1.len vs H Q E) (F2.len vs H Q E), fun A outer s H args us vs Q E hr he hb hv h => h.elim (F1.run A outer s H args us vs Q E hr he hb hv) (F2.run A outer s H args us vs Q E hr he hb hv)⟩
theorem w_slA {K : PySem.W.Frag} {B H : Hp} {L : List (Addr × HO)} {Q : VK} {p : Addr} {xs : List V} {lo hi : Option Int} (hs : Hs B L H) (h : SqT K H p xs) (hw : ¬ (HT.sIx xs.length 0 lo = 0 ∧ HT.sIx xs.length xs.length hi = xs.length)) (q : ∀ l H', Hs B ((l, .tup (cutV xs lo hi)) :: L) H' → Q (.ref l) H') : rSlA K (.ref p) lo hi H Q :=
  ⟨p, xs, rfl, h, fun z => absurd z hw, fun _ => w_new hs q⟩

/-! ## sorted: keys of one shape -/
def ltQ (x y : IK) : Bool := lexI (flK x) (flK y)
def SortedK (l : List IK) : Prop := l.Pairwise fun x y => ltQ y x = false
def insK (x : IK) : List IK → List IK
  | [] => [x]
  | y :: ys => if ltQ y x then y :: insK x ys else x :: y :: ys
def srtK : List IK → List IK
  | [] => []
  | x :: xs => insK x (srtK xs)
theorem insK_perm (x : IK) : ∀ ys : List IK, (insK x ys).Perm (x :: ys)
  | [] => List.Perm.refl _
  | y :: ys => by
    unfold insK
    split
    · exact ((insK_perm x ys).cons y).trans (List.Perm.swap x y ys)
    · exact List.Perm.refl _
theorem srtK_perm : ∀ ls : List IK, (srtK ls).Perm ls
  | [] => List.Perm.refl _
  | x :: xs => (insK_perm x (srtK xs)).trans ((srtK_perm xs).cons x)
theorem insK_sorted (x : IK) : ∀ ys : List IK, SortedK ys → SortedK (insK x ys)
  | [], _ => List.pairwise_singleton _ _
  | y :: ys, h => by
    have h1 := List.pairwise_cons.mp h
    unfold insK
    by_cases hc : ltQ y x = true
    · rw [if_pos hc]
      refine List.pairwise_cons.mpr ⟨fun z hz => ?_, insK_sorted x ys h1.2⟩
      rcases List.mem_cons.mp ((insK_perm x ys).mem_iff.mp hz) with rfl | hz
      · exact lexI_asym _ _ hc
      · exact h1.1 z hz
    · rw [if_neg hc]
      have hc' : ltQ y x = false := by
        cases q : ltQ y x with
        | true => exact absurd q hc
        | false => rfl
      refine List.pairwise_cons.mpr ⟨fun z hz => ?_, h⟩
      rcases List.mem_cons.mp hz with rfl | hz
      · exact hc'
      · exact lexI_tr _ _ _ hc' (h1.1 z hz)
theorem srtK_sorted : ∀ ls : List IK, SortedK (srtK ls)
  | [] => List.Pairwise.nil
  | x :: xs => insK_sorted x _ (srtK_sorted xs)
/-- of one shape, the ints tell the key -/
theorem fl_shape : ∀ {x y : IK}, x.map shp = y.map shp → flK x = flK y → x = y
  | [], [], _, _ => rfl
  | [], _ :: _, h, _ => by cases h
  | _ :: _, [], h, _ => by cases h
  | a :: x, b :: y, h, e => by
    rw [List.map_cons, List.map_cons] at h
    injection h with h1 h2
    have hl := shp_len h1
    unfold flK at e
    rw [List.flatMap_cons, List.flatMap_cons] at e
    obtain ⟨e1, e2⟩ := List.append_inj e hl
    have hx := fl_shape h2 (show flK x = flK y from e2)
    have ha : a = b := by
      cases a with
      | inl i =>
        cases b with
        | inl j =>
          injection e1 with e1
          rw [e1]
        | inr ms => cases h1
      | inr ns =>
        cases b with
        | inl j => cases h1
        | inr ms => exact congrArg Sum.inr e1
    rw [hx, ha]
theorem sortedK_uniq {sh : List (Option Nat)} : ∀ {l m : List IK}, l.Perm m → (∀ x ∈ l, x.map shp = sh) → SortedK l → SortedK m → l = m
  | [], m, p, _, _, _ => (List.Perm.eq_nil p.symm).symm
  | x :: l, [], p, _, _, _ => absurd p.length_eq (by simp)
  | x :: l, y :: m, p, hs, hl, hm => by
    have h1 := List.pairwise_cons.mp hl
    have h2 := List.pairwise_cons.mp hm
    have e : x = y := by
      rcases List.mem_cons.mp (p.mem_iff.mp List.mem_cons_self) with e | hx
      · exact e
      · have hy2 := p.mem_iff.mpr (List.mem_cons_self (a := y) (l := m))
        rcases List.mem_cons.mp hy2 with e | hy
        · exact e.symm
        · exact fl_shape ((hs x List.mem_cons_self).trans (hs y hy2).symm) (lexI_total _ _ (h2.1 x hx) (h1.1 y hy))
    subst e
    rw [sortedK_uniq p.cons_inv (fun z hz => hs z (List.mem_cons_of_mem _ hz)) h1.2 h2.2]
theorem srtK_uniq {sh : List (Option Nat)} {l ls : List IK} (p : l.Perm ls) (hs : ∀ x ∈ ls, x.map shp = sh) (h : SortedK l) : l = srtK ls :=
  sortedK_uniq (p.trans (srtK_perm ls).symm) (fun x hx => hs x (p.mem_iff.mp hx)) h (srtK_sorted ls)
/-- an item of a list that is a key -/
def KeyAt (H : Hp) (v : V) (k : IK) : Prop := ∃ p : Addr, v = .ref p ∧ KAt H p k
theorem KeyAt.mono {H H' : Hp} (e : ∀ p xs, H p = some (.tup xs) → H' p = some (.tup xs)) {v : V} {k : IK} (h : KeyAt H v k) : KeyAt H' v k := by
  obtain ⟨p, h1, h2⟩ := h
  exact ⟨p, h1, h2.mono e⟩
theorem KeyAt.inj {H : Hp} {v : V} {k k' : IK} (h : KeyAt H v k) (h' : KeyAt H v k') : k = k' := by
  obtain ⟨p, rfl, h1⟩ := h
  obtain ⟨q, e, h2⟩ := h'
  cases e
  exact nkK_inj (NK.inj h1.nk h2.nk)
theorem KeyAt.it {H : Hp} {v : V} {k : IK} (h : KeyAt H v k) : itK H v = k := by
  obtain ⟨p, rfl, h1⟩ := h
  exact itK_eq h1.nk
theorem row_perm {α : Type} {R : V → α → Prop} {us ys : List V} (p : ys.Perm us) {xs : List α} (r : Row R us xs) : ∃ zs, zs.Perm xs ∧ Row R ys zs := by
  have toP : ∀ {us : List V} {xs : List α}, Row R us xs → Paired R us xs := by
    intro us
    induction us with
    | nil =>
      intro xs r
      cases xs with
      | nil => exact .nil
      | cons _ _ => cases r.1
    | cons u us ih =>
      intro xs r
      cases xs with
      | nil => cases r.1
      | cons x xs => exact .cons (r.2 0 u x rfl rfl) (ih ⟨Nat.succ.inj r.1, fun i y z h1 h2 => r.2 (i + 1) y z (by simpa using h1) (by simpa using h2)⟩)
  have ofP : ∀ {us : List V} {xs : List α}, Paired R us xs → Row R us xs := by
    intro us xs h
    induction h with
    | nil => exact Row.nil
    | cons h _ ih => exact Row.cons h ih
  obtain ⟨zs, h1, h2⟩ := paired_perm p (toP r)
  exact ⟨zs, h1, ofP h2⟩
theorem w_sortK2 {K : PySem.W.Frag} {B H : Hp} {L : List (Addr × HO)} {Q : VK} {a : Addr} {us : List V} {ks : List IK} {c : Option Nat} {sh : List (Option Nat)} (hs : Hs B L H) (h : SqL K H a us) (r : Row (KeyAt H) us ks) (hsh : ∀ k ∈ ks, k.map shp = c :: sh)
    (q : ∀ p ys H', ys.Perm us → Hs B ((p, .lst ys) :: L) H' → Row (KeyAt H') ys (srtK ks) → Q (.ref p) H') : rSortN K c sh [.ref a] H Q := by
  refine ⟨a, us, itK H, rfl, h, fun x hx => ?_, fun ys p h1 h2 hp => ?_⟩
  · obtain ⟨i, hi, rfl⟩ := List.getElem_of_mem hx
    obtain ⟨k, hk, hat⟩ := r.get (List.getElem?_eq_getElem hi)
    rw [hat.it]
    obtain ⟨b, e, hb⟩ := hat
    exact ⟨⟨b, e⟩, by rw [e]; exact hb.nk, hsh k (List.mem_of_getElem? hk)⟩
  · obtain ⟨zs, p1, p2⟩ := row_perm h2.perm r
    have srt : SortedK zs := by
      refine List.pairwise_iff_getElem.mpr fun i j hi hj hij => ?_
      have hi' : i < ys.length := by rw [p2.1]; exact hi
      have hj' : j < ys.length := by rw [p2.1]; exact hj
      have a1 := p2.2 i ys[i] zs[i] (List.getElem?_eq_getElem hi') (List.getElem?_eq_getElem hi)
      have a2 := p2.2 j ys[j] zs[j] (List.getElem?_eq_getElem hj') (List.getElem?_eq_getElem hj)
      have := List.pairwise_iff_getElem.mp h1 i j hi' hj' hij
      unfold ltK at this
      rw [a1.it, a2.it] at this
      exact this
    have e := srtK_uniq p1 hsh srt
    subst e
    have hs2 := hs.new (o := .lst ys) hp
    exact q p ys _ h2.perm hs2 (p2.mono fun u k => KeyAt.mono fun b xs e => by rw [upd_ne (ne_of_none e hp)]; exact e)
theorem frz_hs {B H : Hp} {p : Addr} {o : HO} {L : List (Addr × HO)} (hs : Hs B ((p, o) :: L) H) : ∃ B2, Same B B2 ∧ B2 p = some o ∧ Hs B2 L H := ⟨_, hs.freeze.1, upd_same, hs.freeze.2⟩
theorem shp_can {d : PyData} (h : SeqAt.shaped d = true) : d.canLay0 = true := by
  unfold SeqAt.shaped at h
  exact (Bool.and_eq_true_iff.mp h).1
theorem w_neRefl {K : PySem.W.Frag} {H : Hp} {Q : VK} {p q : V} {d : PyData} (h1 : Dp K H p d) (h2 : Dp K H q d) (hs : SeqAt.shaped d = true) (k : Q (.bl false) H) : rNeD K p q H Q :=
  ⟨d, d, h1, h2, hs, hs, by
    rw [SeqAt.eqv_refl _ (shp_can hs)]
    exact k⟩

/-! ## for i, x in enumerate(xs) -/
theorem w_enumF {K : PySem.W.Frag} {σ : L2.St} {H : Hp} {ta : TA} {g : TG} {tb : TS} {D : Ends} {a : Addr} {xs : List V} (hx : SqL K H a xs) (Pv : Nat → L2.St → Hp → Prop) (hta : ∀ Q : List V → Hp → Prop, Q [.ref a] H → ta σ H Q) (h0 : Pv 0 σ H) (hl : ∀ i σ H, i ≤ xs.length → Pv i σ H → SqL K H a xs)
    (hs : ∀ i x T σ H, xs[i]? = some x → Pv i σ H → H T = none → g (.ref T) σ (upd H T (.tup [.int (i : Int), x])) fun σ2 H2 => tb { D with nx := Pv (i + 1), ct := Pv (i + 1), bk := D.nx } σ2 H2) (hd : ∀ σ H, Pv xs.length σ H → D.nx σ H) : tFor (iEnum K ta) g tb D σ H := by
  refine hta _ ⟨a, xs, rfl, hx, fun i m σ H => m = xs.length - i ∧ i ≤ xs.length ∧ Pv i σ H, ⟨xs.length, by simp, Nat.zero_le _, h0⟩, ?_⟩
  rintro i m σ' H' ⟨rfl, hi, p⟩
  have q := hl i σ' H' hi p
  by_cases hlt : i < xs.length
  · refine .inr ⟨⟨xs, xs[i], q, List.getElem?_eq_getElem hlt⟩, Pv (i + 1), fun σ2 H2 p2 => ⟨xs.length - (i + 1), by omega, rfl, hlt, p2⟩, fun v H2 y => ?_⟩
    obtain ⟨T, x, rfl, hT, rfl, hx2⟩ := y
    exact hs i x T _ _ (hx2 xs q) p hT
  · have e : i = xs.length := by omega
    subst e
    exact .inl ⟨⟨xs, q, Nat.le_refl _⟩, hd σ' H' p⟩
theorem w_sortK {K : PySem.W.Frag} {B H : Hp} {L : List (Addr × HO)} {Q : VK} {a : Addr} {us : List V} {ks : List IK} {c : Option Nat} {sh : List (Option Nat)} (hs : Hs B L H) (h : SqL K H a us) (r : Row (KeyAt H) us ks) (hsh : ∀ k ∈ ks, k.map shp = c :: sh)
    (q : ∀ p ys H', Hs B ((p, .lst ys) :: L) H' → Row (KeyAt H') ys (srtK ks) → Q (.ref p) H') : rSortN K c sh [.ref a] H Q := w_sortK2 hs h r hsh fun p ys H' _ => q p ys H'
/-! ## ranges with a lower end -/
theorem w_forR2 {σ : L2.St} {H : Hp} {D : Ends} {ta : TA} {g : TG} {tb : TS} {lo hi : Int} (b1 : -(2 ^ 62) ≤ lo ∧ lo < 2 ^ 62 ∧ -(2 ^ 62) ≤ hi ∧ hi < 2 ^ 62) (Pv : Nat → L2.St → Hp → Prop) (hta : ∀ Q : List V → Hp → Prop, Q [.int lo, .int hi] H → ta σ H Q) (h0 : Pv 0 σ H)
    (hs : ∀ (i : Nat) σ H, lo + (i : Int) < hi → Pv i σ H → g (.int (lo + (i : Int))) σ H fun σ2 H2 => tb { D with nx := Pv (i + 1), ct := Pv (i + 1), bk := D.nx } σ2 H2) (hd : ∀ σ H, Pv (hi - lo).toNat σ H → D.nx σ H) : tFor (iRng2 ta) g tb D σ H :=
  hta _ ⟨lo, hi, rfl, b1, for_range (lo := lo) (n := (hi - lo).toNat) Pv h0 (fun i σ' H' hi' p => hs i σ' H' (by omega) p) hd⟩
def RngR2 (us : List V) (H1 : Hp) (R : It → Hp → Prop) : Prop := ∃ lo hi : Int, us = [.int lo, .int hi] ∧ (-(2 ^ 62) ≤ lo ∧ lo < 2 ^ 62 ∧ -(2 ^ 62) ≤ hi ∧ hi < 2 ^ 62) ∧ R (Itr lo (hi - lo).toNat) H1
theorem w_lcG2 {σ : L2.St} {H : Hp} {Q : VK} {ta : TA} {g : TG} {tt : TT} {te : TE} {vs : List Nat} (q : ta σ H fun us H1 => RngR2 us H1 (LcR g tt te vs σ Q)) : tLc (iRng2 ta) g tt te vs σ H Q := q
theorem turns_rangeL {H0 : Hp} {Qd : Hp → Prop} {Body : (Hp → Prop) → V → Hp → Prop} {lo : Int} {n : Nat} (Pv : Nat → Hp → Prop) (h0 : Pv 0 H0) (hs : ∀ i H, i < n → Pv i H → Body (Pv (i + 1)) (.int (lo + (i : Int))) H) (hd : ∀ H, Pv n H → Qd H) : Turns (Itr lo n) Body H0 Qd := by
  refine ⟨fun i m H => m = n - i ∧ i ≤ n ∧ Pv i H, ⟨n, by simp, Nat.zero_le _, h0⟩, ?_⟩
  rintro i m H ⟨rfl, hi, p⟩
  by_cases hlt : i < n
  · refine .inr ⟨hlt, Pv (i + 1), fun H' p' => ⟨n - (i + 1), by omega, rfl, hlt, p'⟩, fun x H' y => ?_⟩
    obtain ⟨rfl, rfl⟩ := y
    exact hs i _ hlt p
  · have e : i = n := by omega
    subst e
    exact .inl ⟨Nat.le_refl _, hd H p⟩

/-! ## [e for x in us if t], index by index -/
theorem w_lcIx {K : PySem.W.Frag} {σ : L2.St} {H : Hp} {Q : VK} {tl : TE} {te : TE} {tt : TT} {j : Nat} {vs : List Nat} {a : Addr} {us : List V} (f : Nat → Option V) (hx : SqL K H a us) (hz : us.length ≤ 1000000)
    (htl : ∀ Q : VK, Q (.ref a) H → tl σ H Q) (hw : ∀ v, wipe ((wipe σ vs).set j (some v)) vs = wipe σ vs)
    (he : ∀ (i : Nat) (u : V) (H' : Hp) (Nx : Hp → Prop) (Ap : VK), us[i]? = some u → Same H H' → (f i = none → ∀ H2, Same H' H2 → Nx H2) → (∀ y, f i = some y → ∀ H2, Same H' H2 → Ap y H2) → tt ((wipe σ vs).set j (some u)) H' fun b H2 => if b = true then te ((wipe σ vs).set j (some u)) H2 Ap else Nx H2)
    (hq : ∀ D acc H', Hs H [(D, .lst acc)] H' → acc = (List.range us.length).filterMap f → Q (.ref D) H') : tLc (iList K tl) (gName j) tt te vs σ H Q := by
  refine w_lcLR (htl _ (w_listR hx fun D hD => ?_))
  refine turns_list (Body := LcBody (gName j) tt te vs σ D) (fun i H' => ∃ acc, Hs H [(D, .lst acc)] H' ∧ acc = (List.range i).filterMap f) ⟨[], (Hs.start H).new hD, rfl⟩ (fun i H' _ ⟨_, h, _⟩ => h.same.seq hx) ?_ ?_
  · rintro i u H' hu ⟨acc, h1, rfl⟩
    have hi := (List.getElem?_eq_some_iff.mp hu).1
    have hst : (List.range (i + 1)).filterMap f = (List.range i).filterMap f ++ (f i).toList := by
      have e1 : List.filterMap f [i] = (f i).toList := by
        rw [List.filterMap_cons]
        cases f i with
        | none => rfl
        | some y => rfl
      rw [List.range_succ, List.filterMap_append, e1]
    refine w_name ⟨hw _, he i u H' _ _ hu h1.same (fun hn H2 s2 => ?_) fun y hy H2 s2 => ?_⟩
    · refine ⟨_, h1.keep s2, ?_⟩
      rw [hst, hn]
      exact (List.append_nil _).symm
    · have hl : ((List.range i).filterMap f).length ≤ i := by
        refine Nat.le_trans (List.length_filterMap_le _ _) ?_
        rw [List.length_range]
        exact Nat.le_refl _
      refine ⟨_, s2 _ _ h1.g0, szl (by omega), _, (h1.keep s2).p0 _, ?_⟩
      rw [hst, hy]
      rfl
  · rintro H' ⟨acc, h1, h2⟩
    exact hq D acc H' h1 h2
/-- a part of the rows -/
theorem row_filter {α : Type} {R : V → α → Prop} {us : List V} {xs : List α} (r : Row R us xs) (q : α → Bool) (f : Nat → Option V) (hf : ∀ i x u, us[i]? = some u → xs[i]? = some x → f i = if q x = true then some u else none) : Row R ((List.range us.length).filterMap f) (xs.filter q) := by
  have key : ∀ n, n ≤ us.length → Row R ((List.range n).filterMap f) ((xs.take n).filter q) := fun n => by
    induction n with
    | zero => exact fun _ => Row.nil
    | succ n ih =>
      intro hn
      have hu : us[n]? = some (us[n]'(by omega)) := List.getElem?_eq_getElem _
      have hx : xs[n]? = some (xs[n]'(by have := r.1; omega)) := List.getElem?_eq_getElem _
      generalize us[n]'(by omega) = u at hu
      generalize xs[n]'(by have := r.1; omega) = x at hx
      rw [List.range_succ, List.filterMap_append, List.take_add_one, hx, List.filter_append]
      have e1 : List.filterMap f [n] = (f n).toList := by
        rw [List.filterMap_cons]
        cases f n with
        | none => rfl
        | some y => rfl
      have e2 : List.filter q (some x).toList = if q x = true then [x] else [] := by
        show List.filter q [x] = _
        rw [List.filter_cons]
        rfl
      rw [e1, e2, hf n x u hu hx]
      by_cases h : q x = true
      · rw [if_pos h, if_pos h]
        exact (ih (by omega)).snoc (r.2 n u x hu hx)
      · rw [if_neg h, if_neg h]
        show Row R (_ ++ []) (_ ++ [])
        rw [List.append_nil, List.append_nil]
        exact ih (by omega)
  have := key us.length (Nat.le_refl _)
  rw [r.1, List.take_length, ← r.1] at this
  exact this
end Hb

set_option Elab.async false
set_option linter.all false
set_option maxRecDepth 100000
set_option maxHeartbeats 4000000
/-! len(set(xs)) of tuples of ints, comprehensions with two fors -/
namespace Hb
open PySem PySem.Spec L2 PyProof.Rows
def tLenSetT (K : PySem.W.Frag) (ta : TE) : TE := fun σ H Q => ta σ H fun x H1 => ∃ (l : Addr) (ks : List (Addr × List Int)), x = V.ref l ∧ SqL K H1 l (ks.map fun p => V.ref p.1) ∧ (∀ p ∈ ks, SqT K H1 p.1 (p.2.map V.int)) ∧ ks.length < 64 ∧
  ∀ L : List (List Int), L.Nodup → (∀ x, x ∈ L ↔ x ∈ ks.map (·.2)) → Q (.int L.length) H1
section
variable {X : Cx}
theorem pe_lenSetT {a : Expr} {ta : TE} {p p2 q pos : Pos} {K : PySem.W.Frag} (hc : X.calm = true) (hu : X.A.units + 64 < cLine) (hg : Gl X "len") (hm : X.mg "len" = none) (hg2 : Gl X "set") (hm2 : X.mg "set" = none) (ha : PE X a ta)
    (na : starEach [a] X.env = (false, eval a X.env) :: starEach [] X.env := by rfl) (hK : X.K = K := by rfl) : PE X (.Call (.Name "len" p) [.Call (.Name "set" p2) [a] [] q] [] pos) (tLenSetT K ta) := by
  subst hK
  refine ⟨fun pins s σ H Q I h => ?_⟩
  refine Call_ (ld_blt I hg hm PySem.boot_len ?_)
  refine PyProof.Rows.callWith_builtin1 (PyProof.Rows.args_cons ?_ rfl) rfl rfl
  refine Call_ (ld_blt I hg2 hm2 PyProof.Rows.boot_set ?_)
  refine PyProof.Rows.callWith_type1 (PyProof.Rows.args_cons (thn (ha.run pins s σ H _ I h) fun v s1 ⟨x, H1, I1, r1, q1⟩ => PyProof.Rows.args_nil ?_) na) na rfl
  obtain ⟨l, ks, rfl, hq, hk, h1, q1⟩ := q1
  cases r1
  obtain ⟨its, rv, pl, hz⟩ := I1.list hq
  refine call_set_tups (P := X.prog) (w := X.w) ks (I1.ok.hd hc) pl.isList (by simpa using refs_of_vals rv) (fun p hp => I1.isT (hk p hp)) h1 (by omega) fun h' tk L es ep t R g hkk => ?_
  refine PyProof.Rows.args_nil ?_
  have I2 : Inv X pins σ H1 { s1 with heap := h', toks := tk } := I1.kept fun b o e => hkk b o e
  obtain ⟨o, ho, hex, hd⟩ := R.ob
  have hz2 : es.size = L.length := SetTR.size (s := { s1 with heap := h', toks := tk }) R
  refine call_len_set ho hex hd (SetTR.fits (s := { s1 with heap := h', toks := tk }) R) (by have := R.few; omega) ⟨.int (L.map (·.2)).length, H1, I2.tok _, ⟨_, by rw [hz2, List.length_map]⟩, q1 _ R.nd fun x => ⟨fun hx => ?_, fun hx => ?_⟩⟩
  · obtain ⟨p, hp, rfl⟩ := List.mem_map.mp hx
    exact List.mem_map.mpr ⟨p, List.mem_of_mem_take (g.sub p hp), rfl⟩
  · obtain ⟨p, hp, rfl⟩ := List.mem_map.mp hx
    exact g.all p (by rw [List.take_length]; exact hp)
end
/-! ### [v for t in ts for v in t if ..] -/
theorem turns_tup {K : PySem.W.Frag} {a : Addr} {xs : List V} {H0 : Hp} {Qd : Hp → Prop} {Body : (Hp → Prop) → V → Hp → Prop} (Pv : Nat → Hp → Prop) (h0 : Pv 0 H0) (hl : ∀ i H, i ≤ xs.length → Pv i H → SqT K H a xs) (hs : ∀ i x H, xs[i]? = some x → Pv i H → Body (Pv (i + 1)) x H) (hd : ∀ H, Pv xs.length H → Qd H) : Turns (Itt K a) Body H0 Qd := by
  refine ⟨fun i m H => m = xs.length - i ∧ i ≤ xs.length ∧ Pv i H, ⟨xs.length, by simp, Nat.zero_le _, h0⟩, ?_⟩
  rintro i m H ⟨rfl, hi, p⟩
  have q := hl i H hi p
  by_cases hlt : i < xs.length
  · refine .inr ⟨⟨xs, xs[i], q, by simp [hlt]⟩, Pv (i + 1), fun H' p' => ⟨xs.length - (i + 1), by omega, rfl, hlt, p'⟩, fun x H' y => ?_⟩
    obtain ⟨e, y⟩ := y
    subst e
    exact hs i x _ (y xs q) p
  · have e : i = xs.length := by omega
    subst e
    exact .inl ⟨⟨xs, q, Nat.le_refl _⟩, hd H p⟩
def Lc2In (g1 : TG) (tt1 : TT) (te : TE) (vs1 : List Nat) (σ2 : L2.St) (D : Addr) (Nx1 : Hp → Prop) (x : V) (H : Hp) : Prop := g1 x (wipe σ2 vs1) H fun σ3 H5 => wipe σ3 vs1 = wipe σ2 vs1 ∧ tt1 σ3 H5 fun b H6 =>
  if b = true then te σ3 H6 fun y H7 => ∃ acc, H7 D = some (.lst acc) ∧ acc.length < sizeLine ∧ Nx1 (upd H7 D (.lst (acc ++ [y]))) else Nx1 H6
def Lc2Out (g : TG) (tt : TT) (wi1 : TI) (g1 : TG) (tt1 : TT) (te : TE) (vs vs1 : List Nat) (σ : L2.St) (D : Addr) (Nx : Hp → Prop) (x : V) (H : Hp) : Prop := g x (wipe σ vs) H fun σ2 H2 => wipe σ2 vs = wipe σ vs ∧ tt σ2 H2 fun b H3 =>
  if b = true then wi1 σ2 H3 fun J1 H4 => Turns J1 (Lc2In g1 tt1 te vs1 σ2 D) H4 Nx else Nx H3
theorem w_lc2R {K : PySem.W.Frag} {σ : L2.St} {H : Hp} {Q : VK} {tl : TE} {g : TG} {tt : TT} {wi1 : TI} {g1 : TG} {tt1 : TT} {te : TE} {vs vs1 : List Nat} (q : tl σ H fun x H1 => ListR K x H1 fun J H1 => ∀ D, H1 D = none → Turns J (Lc2Out g tt wi1 g1 tt1 te vs vs1 σ D) (upd H1 D (.lst [])) fun H => Q (.ref D) H) : tLc2 (iList K tl) g tt wi1 g1 tt1 te vs vs1 σ H Q := q
/-- the rows are tuples; what is kept of them, in order -/
theorem w_lc2T {K : PySem.W.Frag} {σ : L2.St} {H : Hp} {Q : VK} {tl tm : TE} {tt1 : TT} {te : TE} {j j1 : Nat} {vs vs1 : List Nat} {a : Addr} {us : List V} (it : Nat → List V) (keep : Nat → Nat → Bool) (hx : SqL K H a us) (hz : us.length ≤ 100000) (h2 : ∀ i, (it i).length ≤ 10)
    (hu : ∀ (i : Nat) (u : V), us[i]? = some u → ∃ p, u = .ref p ∧ H p = some (.tup (it i)))
    (htl : ∀ Q : VK, Q (.ref a) H → tl σ H Q) (hw : ∀ v, wipe ((wipe σ vs).set j (some v)) vs = wipe σ vs)
    (htm : ∀ (v : V) (H' : Hp) (Q' : VK), Q' v H' → tm ((wipe σ vs).set j (some v)) H' Q')
    (hw1 : ∀ u v, wipe ((wipe ((wipe σ vs).set j (some u)) vs1).set j1 (some v)) vs1 = wipe ((wipe σ vs).set j (some u)) vs1)
    (he : ∀ (i k : Nat) (p : Addr) (v : V) (H' : Hp) (Nx : Hp → Prop) (Ap : VK), us[i]? = some (.ref p) → (it i)[k]? = some v → Same H H' → (keep i k = false → ∀ H2, Same H' H2 → Nx H2) → (keep i k = true → ∀ H2, Same H' H2 → Ap v H2) →
      tt1 ((wipe ((wipe σ vs).set j (some (.ref p))) vs1).set j1 (some v)) H' fun b H2 => if b = true then te ((wipe ((wipe σ vs).set j (some (.ref p))) vs1).set j1 (some v)) H2 Ap else Nx H2)
    (hq : ∀ D acc H', Hs H [(D, .lst acc)] H' → acc = (List.range us.length).flatMap (fun i => (List.range (it i).length).filterMap fun k => if keep i k = true then (it i)[k]? else none) → Q (.ref D) H') :
    tLc2 (iList K tl) (gName j) tYes (iTup K tm) (gName j1) tt1 te vs vs1 σ H Q := by
  refine w_lc2R (htl _ (w_listR hx fun D hD => ?_))
  let row : Nat → Nat → List V := fun i n => (List.range n).filterMap fun k => if keep i k = true then (it i)[k]? else none
  let done : Nat → List V := fun n => (List.range n).flatMap fun i => row i (it i).length
  have rowz : ∀ i n, (row i n).length ≤ n := fun i n => by
    refine Nat.le_trans (List.length_filterMap_le _ _) ?_
    rw [List.length_range]
    exact Nat.le_refl _
  have donez : ∀ n, (done n).length ≤ n * 10 := fun n => by
    induction n with
    | zero => exact Nat.le_refl _
    | succ n ih =>
      show ((List.range (n + 1)).flatMap fun i => row i (it i).length).length ≤ _
      rw [List.range_succ, List.flatMap_append, List.length_append]
      have h1 := rowz n (it n).length
      have h3 := h2 n
      have h4 : ([n].flatMap fun i => row i (it i).length).length = (row n (it n).length).length := by simp
      rw [h4]
      have : (List.flatMap (fun i => row i (it i).length) (List.range n)).length ≤ n * 10 := ih
      omega
  refine turns_list (Body := Lc2Out (gName j) tYes (iTup K tm) (gName j1) tt1 te vs vs1 σ D) (fun i H' => Hs H [(D, .lst (done i))] H') ((Hs.start H).new hD) (fun i H' _ h => h.same.seq hx) ?_ ?_
  · intro i u H' hui hs
    obtain ⟨p, rfl, hp⟩ := hu i u hui
    have hi := (List.getElem?_eq_some_iff.mp hui).1
    refine w_name ⟨hw _, w_yes (iteT (htm _ _ _ ⟨p, rfl, ⟨_, SqT.of (hs.same _ _ hp)⟩, ?_⟩))⟩
    refine turns_tup (xs := it i) (Body := Lc2In (gName j1) tt1 te vs1 _ D) (fun k H2 => Hs H [(D, .lst (done i ++ row i k))] H2) ?_ (fun k H2 _ h => SqT.of (h.same _ _ hp)) ?_ ?_
    · show Hs H [(D, .lst (done i ++ []))] H'
      rw [List.append_nil]
      exact hs
    · intro k v H2 hv hs2
      have hst : row i (k + 1) = row i k ++ (if keep i k = true then [v] else []) := by
        show (List.range (k + 1)).filterMap _ = _
        rw [List.range_succ, List.filterMap_append]
        congr 1
        rw [List.filterMap_cons, hv]
        cases keep i k with
        | true => rfl
        | false => rfl
      refine w_name ⟨hw1 _ _, he i k p v H2 _ _ hui hv hs2.same (fun hn H3 s3 => ?_) fun hy H3 s3 => ?_⟩
      · rw [hst, hn]
        simp only [Bool.false_eq_true, if_false, List.append_nil]
        exact hs2.keep s3
      · have z1 := donez i
        have z2 := rowz i k
        have z3 := h2 i
        have z4 := (List.getElem?_eq_some_iff.mp hv).1
        refine ⟨_, s3 _ _ hs2.g0, szl (by rw [List.length_append]; omega), ?_⟩
        rw [hst, hy]
        simp only [if_true]
        rw [← List.append_assoc]
        exact (hs2.keep s3).p0 _
    · intro H2 hs2
      have : done (i + 1) = done i ++ row i (it i).length := by
        show (List.range (i + 1)).flatMap _ = _
        rw [List.range_succ, List.flatMap_append]
        simp [done]
      show Hs H [(D, .lst (done (i + 1)))] H2
      rw [this]
      exact hs2
  · intro H' hs
    exact hq D _ H' hs rfl
end Hb

set_option Elab.async false
set_option linter.all false
set_option maxRecDepth 100000
set_option maxHeartbeats 4000000
/-! for over a tuple; a number in a list of numbers -/
namespace Hb
open PySem PySem.Spec L2 PyProof.Rows
section
variable {K : PySem.W.Frag} {σ : L2.St} {H : Hp} {Q : VK} {D : Ends} {g : TG} {tb : TS}
def TupR (K : PySem.W.Frag) (x : V) (H1 : Hp) (R : It → Hp → Prop) : Prop := ∃ a, x = V.ref a ∧ (∃ xs, SqT K H1 a xs) ∧ R (Itt K a) H1
theorem w_forTF {tl : TE} (q : tl σ H fun x H1 => TupR K x H1 (ForR g tb D σ)) : tFor (iTup K tl) g tb D σ H := q
theorem w_tupR {a : Addr} {xs : List V} {R : It → Hp → Prop} (h : SqT K H a xs) (q : R (Itt K a) H) : TupR K (.ref a) H R := ⟨a, rfl, ⟨xs, h⟩, q⟩
theorem for_tupR {a : Addr} {xs : List V} (Pv : Nat → L2.St → Hp → Prop) (h0 : Pv 0 σ H) (hl : ∀ i σ H, i ≤ xs.length → Pv i σ H → SqT K H a xs)
    (hs : ∀ i x σ H, xs[i]? = some x → Pv i σ H → g x σ H fun σ2 H2 => tb { D with nx := Pv (i + 1), ct := Pv (i + 1), bk := D.nx } σ2 H2) (hd : ∀ σ H, Pv xs.length σ H → D.nx σ H) : ForR g tb D σ (Itt K a) H := by
  refine ⟨fun i m σ H => m = xs.length - i ∧ i ≤ xs.length ∧ Pv i σ H, ⟨xs.length, by simp, Nat.zero_le _, h0⟩, ?_⟩
  rintro i m σ' H' ⟨rfl, hi, p⟩
  have q := hl i σ' H' hi p
  by_cases hlt : i < xs.length
  · refine .inr ⟨⟨xs, xs[i], q, List.getElem?_eq_getElem hlt⟩, Pv (i + 1), fun σ2 H2 p2 => ⟨xs.length - (i + 1), by omega, rfl, hlt, p2⟩, fun v H2 y => ?_⟩
    obtain ⟨rfl, y⟩ := y
    exact hs i v _ _ (y xs q) p
  · have e : i = xs.length := by omega
    subst e
    exact .inl ⟨⟨xs, q, Nat.le_refl _⟩, hd σ' H' p⟩
theorem inV_ints {n : Int} : ∀ ns : List Int, inV (.int n) (ns.map V.int) = decide (n ∈ ns)
  | [] => rfl
  | m :: ns => by
    have ih := inV_ints (n := n) ns
    unfold inV at ih ⊢
    rw [List.map_cons, List.any_cons, ih]
    have e : eqV (.int m) (.int n) = decide (n = m) := by
      by_cases h : m = n
      · subst h
        simp [eqV]
      · rw [decide_eq_false (Ne.symm h)]
        simp [eqV, h]
    rw [e]
    simp
theorem flat_ints : ∀ ns : List Int, (ns.map V.int).all flatV = true
  | [] => rfl
  | _ :: ns => by
    rw [List.map_cons, List.all_cons, flat_ints ns]
    rfl
theorem w_inIs {neg : Bool} {n : Int} {ns : List Int} {p : Addr} (h : SqL K H p (ns.map V.int)) (q : Q (.bl (if neg then !decide (n ∈ ns) else decide (n ∈ ns))) H) : rIn K neg (.int n) (.ref p) H Q := by
  refine ⟨p, _, rfl, .inl h, rfl, flat_ints ns, ?_⟩
  rw [inV_ints]
  exact q
theorem Hs.down {B B1 H : Hp} {L : List (Addr × HO)} (e : Same B B1) (hs : Hs B1 L H) : Hs B L H := ⟨e.trans hs.same, hs.nd, fun x hx => e.free (hs.out x hx), hs.at_⟩
theorem Hs.tups {B H : Hp} {L : List (Addr × HO)} (hs : Hs B L H) : ∀ p xs, B p = some (.tup xs) → H p = some (.tup xs) := fun _ _ => hs.same _ _
/-- what stands, owned for a while -/
theorem Hs.own {H : Hp} {d : Addr} {o : HO} (h : H d = some o) : ∃ B, Hs B [(d, o)] H ∧ (∀ p o', p ≠ d → H p = some o' → B p = some o') ∧ ∀ L H', Hs B (L ++ [(d, o)]) H' → Hs H L H' := by
  refine ⟨fun a => if a = d then none else H a, ⟨fun b o' hb => ?_, by simp, fun x hx => ?_, fun x hx => ?_⟩, fun p o' hp e => ?_, fun L H' hs => ⟨fun b o' hb => ?_, ?_, fun x hx => ?_, fun x hx => hs.at_ x (List.mem_append_left _ hx)⟩⟩
  · by_cases hd : b = d
    · rw [if_pos hd] at hb
      cases hb
    · rwa [if_neg hd] at hb
  · rw [List.mem_singleton.mp hx]
    exact if_pos rfl
  · rw [List.mem_singleton.mp hx]
    exact h
  · exact (if_neg hp).trans e
  · by_cases hd : b = d
    · subst hd
      rw [h] at hb
      cases hb
      exact hs.at_ (b, o) (List.mem_append_right _ (List.mem_singleton.mpr rfl))
    · exact hs.same b o' (by rw [if_neg hd]; exact hb)
  · have := hs.nd
    rw [List.map_append] at this
    exact (List.nodup_append.mp this).1
  · have h1 := hs.out x (List.mem_append_left _ hx)
    have h2 := hs.nd
    rw [List.map_append, List.nodup_append] at h2
    have h3 : x.1 ≠ d := fun e => h2.2.2 x.1 (List.mem_map_of_mem hx) d (by simp) e
    rwa [if_neg h3] at h1
/-! a dict read while it is walked -/
theorem w_dgetF {p : Addr} {kvs : List (Key × V)} {n : Int} {v : V} {od : Obj} (h : H p = some (.frz od (.dK kvs))) (hv : valV kvs (Sum.inl n) = some v) (q : Q v H) : RDget (.ref p) (.int n) H Q := ⟨p, v, rfl, .inl ⟨kvs, Sum.inl n, .inr ⟨od, h⟩, rfl, hv.symm⟩, q⟩
theorem w_ext2 {B : Hp} {L : List (Addr × HO)} {l b : Addr} {xs zs : List V} (hs : Hs B ((b, .lst zs) :: (l, .lst xs) :: L) H) (hl : xs.length + zs.length ≤ 1000000) (q : ∀ H', Hs B ((l, .lst (xs ++ zs)) :: L) H' → Q .non H') : rExtend (.ref l) [.ref b] H Q :=
  ⟨l, b, xs, zs, rfl, rfl, hs.g1, hs.g0, Nat.le_of_lt (szl (by omega)), q _ (hs.p1 _).tl⟩
theorem w_listDK {B : Hp} {L : List (Addr × HO)} {d : Addr} {kvs : List (Key × V)} (hs : Hs B L H) (h : H d = some (.dK kvs)) (q : ∀ p H', Hs B ((p, .lst (kvs.map fun kv => kV kv.1)) :: L) H' → Q (.ref p) H') : rListD [.ref d] H Q := ⟨d, kvs, rfl, h, w_new hs q⟩
theorem Hs.allin {B H : Hp} {L : List (Addr × HO)} (hs : Hs B L H) : ∃ B2, Same B B2 ∧ Hs B2 L H ∧ (∀ p o, H p = some o → p ∉ L.map (·.1) → B2 p = some o) := by
  have h := (show Hs B (L ++ []) H by rw [List.append_nil]; exact hs).frame L
  exact ⟨around L H, h.1, h.2.1, fun p o e n => by rw [around_out n]; exact e⟩
/-- a part stays one's own, the others go into the ground -/
theorem Hs.rest {B H : Hp} {R : List (Addr × HO)} (L : List (Addr × HO)) (hs : Hs B (L ++ R) H) : ∃ B2, Same B B2 ∧ Hs B2 L H ∧ ∀ e ∈ R, B2 e.1 = some e.2 := by
  have h := hs.frame L
  refine ⟨around L H, h.1, h.2.1, fun e he => ?_⟩
  have nd := hs.nd
  rw [List.map_append, List.nodup_append] at nd
  rw [around_out fun z => nd.2.2 e.1 z e.1 (List.mem_map_of_mem he) rfl]
  exact hs.at_ e (List.mem_append_right _ he)
/-! what repr shows -/
def IB (n : Int) : Prop := 0 ≤ n ∧ n ≤ 100
structure Sh (D b : Nat) (d : PyData) : Prop where
  lay : d.canLay0 = true
  dep : d.depth ≤ D
  sho : d.showable = true
  blk : d.bulk ≤ b
  lvs : d.leavesShort 13 = true
theorem Sh.mono {D D' b b' : Nat} (h1 : D ≤ D') (h2 : b ≤ b') {d : PyData} (h : Sh D b d) : Sh D' b' d := ⟨h.lay, Nat.le_trans h.dep h1, h.sho, Nat.le_trans h.blk h2, h.lvs⟩
structure ShA (D b : Nat) (xs : List PyData) : Prop where
  lay : PyData.canLayAll0 xs = true
  dep : PyData.depthAll xs ≤ D
  sho : PyData.showableAll xs = true
  blk : PyData.bulkAll xs ≤ b
  lvs : PyData.leavesShortAll 13 xs = true
theorem ShA.nil {D b : Nat} : ShA D b [] := ⟨rfl, Nat.zero_le _, rfl, Nat.zero_le _, rfl⟩
theorem ShA.cons {D b c : Nat} {x : PyData} {xs : List PyData} (h : Sh D b x) (t : ShA D c xs) : ShA D (b + 1 + c) (x :: xs) := by
  have h1 := h.dep
  have h2 := t.dep
  have h3 := h.blk
  have h4 := t.blk
  refine ⟨?_, ?_, ?_, ?_, ?_⟩
  · simp only [PyData.canLayAll0, h.lay, t.lay, Bool.and_self]
  · simp only [PyData.depthAll]
    omega
  · simp only [PyData.showableAll, h.sho, t.sho, Bool.and_self]
  · simp only [PyData.bulkAll]
    omega
  · simp only [PyData.leavesShortAll, h.lvs, t.lvs, Bool.and_self]
theorem ShA.all {D b : Nat} : ∀ {xs : List PyData}, (∀ x ∈ xs, Sh D b x) → ShA D (xs.length * (b + 1)) xs
  | [], _ => ShA.nil
  | x :: xs, h => by
    have := (h x (List.mem_cons_self ..)).dep
    have t := ShA.cons (h x (List.mem_cons_self ..)) (ShA.all fun y hy => h y (List.mem_cons_of_mem _ hy))
    rw [List.length_cons, Nat.add_mul, Nat.one_mul, Nat.add_comm]
    exact t
theorem Sh.tup {D b : Nat} {xs : List PyData} (h : ShA D b xs) : Sh (D + 1) b (.tuple xs) := by
  have := h.dep
  exact ⟨by simp only [PyData.canLay0, h.lay], by simp only [PyData.depth]; omega, by simp only [PyData.showable, h.sho], by simp only [PyData.bulk]; exact h.blk, by simp only [PyData.leavesShort, h.lvs]⟩
theorem Sh.lst {D b : Nat} {xs : List PyData} (h : ShA D b xs) : Sh (D + 1) b (.list xs) := by
  have := h.dep
  exact ⟨by simp only [PyData.canLay0, h.lay], by simp only [PyData.depth]; omega, by simp only [PyData.showable, h.sho], by simp only [PyData.bulk]; exact h.blk, by simp only [PyData.leavesShort, h.lvs]⟩
theorem small_ints : ∀ n : Fin 101, (PyData.int ((n.val : Nat) : Int)).showable = true ∧ (PyData.int ((n.val : Nat) : Int)).leavesShort 13 = true := by decide +kernel
theorem Sh.int {n : Int} (h : IB n) : Sh 0 0 (.int n) := by
  have := small_ints ⟨n.toNat, by have := h.2; omega⟩
  have e : ((n.toNat : Nat) : Int) = n := by have := h.1; omega
  rw [e] at this
  exact ⟨rfl, Nat.le_refl _, this.1, Nat.le_refl _, this.2⟩
theorem Sh.ints {ns : List Int} (h : ∀ x ∈ ns, IB x) : Sh 1 (ns.length * 1) (.tuple (ns.map .int)) := by
  have := Sh.tup (ShA.all (D := 0) (b := 0) (xs := ns.map .int) fun d hd => by
    obtain ⟨x, hx, rfl⟩ := List.mem_map.mp hd
    exact Sh.int (h x hx))
  rw [List.length_map] at this
  exact this
/-! != of two dicts that map alike: the values are data -/
theorem kv_at {ls : List (Key × V)} {vs : List (Key × Value)} (r : KV ls vs) {k : Key} {u : V} (h : valV ls k = some u) : ∃ y, valueAt vs k = some y ∧ RelV u y := by
  induction r with
  | nil => cases h
  | @cons p q ps qs h1 _ ih =>
    unfold valV at h
    rw [List.find?_cons] at h
    unfold valueAt
    rw [List.find?_cons]
    by_cases hk : q.1 = k
    · have e1 : decide (p.1 = k) = true := decide_eq_true (h1.1.trans hk)
      rw [e1] at h
      cases h
      rw [decide_eq_true hk]
      exact ⟨q.2, rfl, h1.2⟩
    · have e1 : decide (p.1 = k) = false := decide_eq_false fun z => hk (h1.1.symm.trans z)
      rw [e1] at h
      rw [decide_eq_false hk]
      exact ih h
def rNeDD (K : PySem.W.Frag) : R2 := fun x y H Q => ∃ (a b : Addr) (ks ls : List (Key × V)), x = .ref a ∧ y = .ref b ∧ H a = some (.dK ks) ∧ H b = some (.dK ls) ∧ ks.length = ls.length ∧ (∀ p ∈ ks, ∃ u d, valV ls p.1 = some u ∧ Dp K H p.2 d ∧ Dp K H u d ∧ SeqAt.shaped d = true) ∧ Q (.bl false) H
theorem op_neDD {X : Cx} (hu : X.A.units + 65 < cLine) (hK : X.K = K := by rfl) : OpR X (compareOp .NotEq) (rNeDD K) := by
  subst hK
  intro pins s σ H x y v u Q I rx ry h
  obtain ⟨a, b, ks, ls, rfl, rfl, ha, hb, hl, hall, q⟩ := h
  cases rx
  cases ry
  obtain ⟨_, na, va, ra, da⟩ := dk_of I.hok ha
  obtain ⟨_, nb, vb, rb, db⟩ := dk_of I.hok hb
  have hits : ∀ {ks : List (Key × V)} {va : List (Key × Value)}, KV ks va → (∀ p ∈ ks, ∃ u d, valV ls p.1 = some u ∧ Dp X.K H p.2 d ∧ Dp X.K H u d ∧ SeqAt.shaped d = true) → PySem.W.KeqHits X.A.in1 s vb va true := fun {ks va} r => by
    induction r with
    | nil => exact fun _ => .nil
    | @cons p z ps zs h1 _ ih =>
      intro hall
      obtain ⟨u, d, h2, h3, h4, h5⟩ := hall p List.mem_cons_self
      obtain ⟨y, hy, ry⟩ := kv_at rb h2
      obtain ⟨as, g1⟩ := Dp.reads I d _ _ h3 h1.2
      obtain ⟨bs, g2⟩ := Dp.reads I d _ _ h4 ry
      have e := PySem.W.keq_at (A := X.A) g1 g2 h5 h5 (by show X.A.units + 1 + 64 < cLine; omega)
      rw [SeqAt.eqv_refl _ (shp_can h5)] at e
      have hz : z = (z.1, z.2) := rfl
      have := PySem.W.KeqHits.hit (k := z.1) (v := z.2) (by rw [← h1.1]; exact hy) e (ih fun p hp => hall p (List.mem_cons_of_mem _ hp))
      exact this
  have len : va.length = vb.length := by
    have h1 := Paired.length ra
    have h2 := Paired.length rb
    omega
  refine PySem.W.keq_ne na nb da db (by omega) (fun _ => hits ra hall) ?_
  have e : (!(va.length == vb.length && true)) = false := by rw [len]; simp
  rw [e]
  exact ⟨.bl false, H, I, rfl, q⟩
/-! two ways to one place -/
theorem w_orD {b1 b2 : Bool} {tb : TE} (h : b1 = false → ∀ R : VK, R (.bl b2) H → tb σ H R) (q : Q (.bl (b1 || b2)) H) : ∃ k, V.bl b1 = .bl k ∧ if k = true then Q (.bl true) H else tb σ H Q := by
  refine ⟨b1, rfl, ?_⟩
  cases b1 with
  | true => exact q
  | false => exact h rfl _ q
theorem join {A G : Prop} (f : A → G) (a : A) : G := f a
/-! [x for x in us if ..], what is told of a row -/
theorem w_lcFR {α : Type} {RR : V → α → Prop} {σ : L2.St} {tl : TE} {a : Addr} {tt : TT} {us : List V} {xs : List α} {i : Nat} (p : α → Bool) (hx : SqL K H a us) (hL : Row RR us xs) (hz : us.length ≤ 1000) (htl : ∀ Q : VK, Q (.ref a) H → tl σ H Q)
    (hw : ∀ x, wipe ((wipe σ [i]).set i (some x)) [i] = wipe σ [i]) (hv : ∀ x, ((wipe σ [i]).set i (some x))[i]? = some (some x))
    (ht : ∀ u x H1, x ∈ xs → RR u x → Same H H1 → ∀ R : Bool → Hp → Prop, (∀ H2, Same H1 H2 → R (p x) H2) → tt ((wipe σ [i]).set i (some u)) H1 R)
    (hq : ∀ D acc H', Hs H [(D, .lst acc)] H' → Row RR acc (xs.filter p) → Q (.ref D) H') : tLc (iList K tl) (gName i) tt (tVar i) [i] σ H Q := by
  refine w_lc hx (fun D j H' => ∃ acc, Hs H [(D, .lst acc)] H' ∧ Row RR acc ((xs.take j).filter p)) htl (fun D hD => ⟨[], (Hs.start H).new hD, Row.nil⟩) (fun D j H' _ ⟨_, h, _⟩ => h.same.seq hx) ?_ ?_
  · rintro D j u H' hj ⟨acc, h1, h2⟩
    obtain ⟨x, hxj, hk⟩ := hL.get hj
    refine ⟨hw _, ht u x H' (List.mem_of_getElem? hxj) hk h1.same _ fun H2 sb => ?_⟩
    have hlen := h2.1
    have hj2 := (List.getElem?_eq_some_iff.mp hj).1
    have h3 : Hs H [(D, .lst acc)] H2 := h1.keep sb
    have e1 := take_filter (p := p) hxj
    by_cases hp : p x = true
    · rw [if_pos hp]
      rw [if_pos hp] at e1
      refine ⟨_, hv _, acc, h3.g0, ?_, acc ++ [u], h3.p0 _, ?_⟩
      · refine szl ?_
        have := List.length_filter_le p (xs.take j)
        rw [List.length_take] at this
        omega
      · rw [e1]
        exact h2.snoc hk
    · rw [if_neg hp]
      rw [if_neg hp, List.append_nil] at e1
      refine ⟨acc, h3, ?_⟩
      rw [e1]
      exact h2
  · rintro D H' ⟨acc, h1, h2⟩
    rw [hL.1, List.take_length] at h2
    exact hq D acc H' h1 h2
theorem op_niDT {X : Cx} (hu : X.A.units + 65 < cLine) (hK : X.K = K := by rfl) : OpR X (compareOp .NotIn) (rInDT K true) := by
  subst hK
  intro pins s σ H x y v u Q I rx ry h
  obtain ⟨d, ds, hd, he, sd, se, q⟩ := h
  obtain ⟨as, r1⟩ := Dp.reads I d x v hd rx
  obtain ⟨bs, r2⟩ := Dp.reads I (.tuple ds) y u he ry
  exact SeqAt.notIn_tuple_reads r2 r1 (SeqAt.canLay_of_shaped se) (SeqAt.canLay_of_shaped sd) (room_in_shaped sd hu) ⟨.bl _, H, I, rfl, q⟩
theorem w_isTu {p : Addr} {xs : List V} (h : H p = some (.tup xs)) (k : Q (.bl true) H) : rIsi K [.ref p, .ty "tuple"] H Q :=
  ⟨_, _, _, _, true, rfl, .ty "tuple", .base (.tup h), kit_ty (by decide +kernel), k⟩
theorem w_notBl {a b : Bool} (q : Q (.bl (!decide (a = b))) H) : rNotB (.bl a) (.bl b) H Q := ⟨a, b, rfl, rfl, q⟩
/-! one tuple of ints > another one -/
def rGtT : R2 := fun x y H Q => ∃ (a b : Addr) (ns ms : List Int), x = .ref a ∧ y = .ref b ∧ H a = some (.tup (ns.map V.int)) ∧ H b = some (.tup (ms.map V.int)) ∧ ns.length = ms.length ∧ Q (.bl (lexI ms ns)) H
theorem op_gtT {X : Cx} (hu : X.A.units + 64 < cLine) : OpR X (compareOp .Gt) rGtT := by
  intro pins s σ H x y v u Q I rx ry h
  obtain ⟨a, b, ns, ms, rfl, rfl, ha, hb, hl, q⟩ := h
  obtain ⟨as, r1⟩ := Dp.reads I (.tuple (ns.map .int)) _ _ (.tup (SqT.of ha) (im_ints ns).dp) rx
  obtain ⟨bs, r2⟩ := Dp.reads I (.tuple (ms.map .int)) _ _ (.tup (SqT.of hb) (im_ints ms).dp) ry
  refine PySem.W.gt_data r1 r2 (alike_ints hl) (by intro z; cases z) ?_ ⟨.bl (lexI ms ns), H, I, ?_, q⟩
  · have h1 := depth_ints ns
    have h2 := depth_ints ms
    simp only [PyData.depth]
    omega
  · rw [dataLt_ints]
    rfl
theorem w_gtT {a b : Addr} {ns ms : List Int} (ha : H a = some (.tup (ns.map V.int))) (hb : H b = some (.tup (ms.map V.int))) (hl : ns.length = ms.length) (q : Q (.bl (lexI ms ns)) H) : rGtT (.ref a) (.ref b) H Q := ⟨a, b, ns, ms, rfl, rfl, ha, hb, hl, q⟩
/-! a comprehension within another one's block -/
theorem look_rel {env : Env} {n : Str} : ∀ {l : List (Str × NameKind)} {k : NameKind}, l.lookup n = some k → k = .cell ∨ k = .free →
    (l.map fun x => match x with
      | (n, k) => if (k == NameKind.free && env.scope.kind == ScopeKind.function && env.kindOf n == some NameKind.cell) = true then (n, NameKind.cell) else (n, k)).lookup n = some .cell ∨
    (l.map fun x => match x with
      | (n, k) => if (k == NameKind.free && env.scope.kind == ScopeKind.function && env.kindOf n == some NameKind.cell) = true then (n, NameKind.cell) else (n, k)).lookup n = some .free
  | [], _, h, _ => nomatch h
  | (m, j) :: l, k, h, hk => by
    rw [List.lookup_cons] at h
    rw [List.map_cons]
    by_cases hm : n = m
    · subst hm
      have e : (n == n) = true := by simp
      rw [e] at h
      cases h
      by_cases hc : (j == NameKind.free && env.scope.kind == ScopeKind.function && env.kindOf n == some NameKind.cell) = true
      · left
        show List.lookup n ((if _ then _ else _) :: _) = _
        rw [if_pos hc, List.lookup_cons, e]
      · rcases hk with rfl | rfl
        · left
          show List.lookup n ((if _ then _ else _) :: _) = _
          rw [if_neg hc, List.lookup_cons, e]
        · right
          show List.lookup n ((if _ then _ else _) :: _) = _
          rw [if_neg hc, List.lookup_cons, e]
    · have e : (n == m) = false := by simpa using hm
      rw [e] at h
      have ih := look_rel (env := env) (l := l) h hk
      by_cases hc : (j == NameKind.free && env.scope.kind == ScopeKind.function && env.kindOf m == some NameKind.cell) = true
      · show List.lookup n ((if _ then _ else _) :: _) = _ ∨ List.lookup n ((if _ then _ else _) :: _) = _
        rw [if_pos hc, List.lookup_cons, e]
        exact ih
      · show List.lookup n ((if _ then _ else _) :: _) = _ ∨ List.lookup n ((if _ then _ else _) :: _) = _
        rw [if_neg hc, List.lookup_cons, e]
        exact ih
theorem blkOk_in {N : List Str} {scO scope : Scope} {own : List (Str × Nat)} {env : Env} {cl : List (Str × Addr)} {C : Addr} (h : blkC N scO scope own = true) : BlkOk N (Env.scope (compEnvC scO cl C env)) scope own := by
  have b : BlkOk N scO scope own := blkOk_by h
  exact ⟨b.kind, b.uniq, b.ix, fun y hy hk => (b.free y hy hk).elim (fun z => look_rel z (.inl rfl)) (fun z => look_rel z (.inr rfl)), b.own⟩
/-! xs[::-1] -/
theorem pe_revLK {X : Cx} {e : Expr} {te : TE} {k p1 p2 p3 pos} (he : PE X e te) (hK : X.K = K := by rfl) : PE X (.Subscript e (.Slice none none (some (.UnaryOp .USub (.Constant (.int 1) k p1) p2)) p3) pos) (tRevL K te) := by
  subst hK
  exact pe_revL he
def RevR (K : PySem.W.Frag) (x : V) (H1 : Hp) (Q : VK) : Prop := ∃ a xs, x = .ref a ∧ SqL K H1 a xs ∧ ∀ p, H1 p = none → Q (.ref p) (upd H1 p (.lst xs.reverse))
theorem w_revL {te : TE} (q : te σ H fun x H1 => RevR K x H1 Q) : tRevL K te σ H Q := q
theorem w_revR {B : Hp} {L : List (Addr × HO)} {a : Addr} {xs : List V} (hs : Hs B L H) (h : SqL K H a xs) (q : ∀ l H', Hs B ((l, .lst xs.reverse) :: L) H' → Q (.ref l) H') : RevR K (.ref a) H Q := ⟨a, xs, rfl, h, w_new hs q⟩
end
end Hb

set_option Elab.async false
set_option linter.all false
set_option maxRecDepth 100000
set_option maxHeartbeats 4000000
namespace K46
open PySem L2 Hb
class IsP (P : Program) : Prop where
  eq : P = PySem.Challenge.pw_hangbridge_k46_whole_ways_around_dead_li
def top (i : Nat) : Stmt := PySem.Challenge.pw_hangbridge_k46_whole_ways_around_dead_li.main.body.getD i (.Pass ⟨0, 0, 0, 0⟩)
abbrev s_link_of : Stmt := (top 1)
abbrev s_peer : Stmt := (top 2)
abbrev s_reached : Stmt := (top 3)
abbrev s_ends_at : Stmt := (top 5)
abbrev s_living : Stmt := (top 7)
abbrev s_other_end : Stmt := (top 8)
abbrev s_distances : Stmt := (top 9)
abbrev s_next_port : Stmt := (top 10)
abbrev s_walk : Stmt := (top 11)
abbrev s_side_of : Stmt := (top 12)
abbrev s_cut_right : Stmt := (top 13)
abbrev s__law_state : Stmt := (top 15)
abbrev s__law_draw : Stmt := (top 16)
abbrev s__law_graph : Stmt := (top 17)
abbrev s__law_distances : Stmt := (top 18)
abbrev s__law_port : Stmt := (top 19)
abbrev s__law_end : Stmt := (top 20)
abbrev s__law_walk : Stmt := (top 21)
abbrev s__law_cut : Stmt := (top 22)
abbrev s_law : Stmt := (top 23)
abbrev N_link_of : List Str := ["one", "other"]
theorem sc_link_of : FnScope N_link_of ["one", "other"] (defScope s_link_of) := ⟨rfl, rfl, rfl, by decide +kernel, rfl, by decide +kernel, by decide +kernel⟩
abbrev N_peer : List Str := ["links", "end", "one", "other"]
theorem sc_peer : FnScope N_peer ["links", "end"] (defScope s_peer) := ⟨rfl, rfl, rfl, by decide +kernel, rfl, by decide +kernel, by decide +kernel⟩
abbrev N_reached : List Str := ["links", "switch", "found", "growing", "one", "other"]
theorem sc_reached : FnScope N_reached ["links", "switch"] (defScope s_reached) := ⟨rfl, rfl, rfl, by decide +kernel, rfl, by decide +kernel, by decide +kernel⟩
abbrev N_ends_at : List Str := ["links", "switch", "link", "end"]
theorem sc_ends_at : FnScope N_ends_at ["links", "switch"] (defScope s_ends_at) := ⟨rfl, rfl, rfl, by decide +kernel, rfl, by decide +kernel, by decide +kernel⟩
abbrev N_living : List Str := ["graph", "dead", "link"]
theorem sc_living : FnScope N_living ["graph", "dead"] (defScope s_living) := ⟨rfl, rfl, rfl, by decide +kernel, rfl, by decide +kernel, by decide +kernel⟩
abbrev N_other_end : List Str := ["graph", "end"]
theorem sc_other_end : FnScope N_other_end ["graph", "end"] (defScope s_other_end) := ⟨rfl, rfl, rfl, by decide +kernel, rfl, by decide +kernel, by decide +kernel⟩
abbrev N_distances : List Str := ["graph", "dead", "to", "links", "found", "row", "fresh", "switch", "end", "nearby"]
theorem sc_distances : FnScope N_distances ["graph", "dead", "to"] (defScope s_distances) := ⟨rfl, rfl, rfl, by decide +kernel, rfl, by decide +kernel, by decide +kernel⟩
abbrev N_next_port : List Str := ["graph", "dead", "switch", "to", "links", "far", "_", "port"]
theorem sc_next_port : FnScope N_next_port ["graph", "dead", "switch", "to"] (defScope s_next_port) := ⟨rfl, rfl, rfl, by decide +kernel, rfl, by decide +kernel, by decide +kernel⟩
abbrev N_walk : List Str := ["graph", "down", "first", "to", "ends", "carried", "switch", "port", "end", "other"]
theorem sc_walk : FnScope N_walk ["graph", "down", "first", "to"] (defScope s_walk) := ⟨rfl, rfl, rfl, by decide +kernel, rfl, by decide +kernel, by decide +kernel⟩
abbrev N_side_of : List Str := ["graph", "dead", "switch"]
theorem sc_side_of : FnScope N_side_of ["graph", "dead", "switch"] (defScope s_side_of) := ⟨rfl, rfl, rfl, by decide +kernel, rfl, by decide +kernel, by decide +kernel⟩
abbrev N_cut_right : List Str := ["graph", "down", "first", "to", "dead", "side", "leading_out", "link", "one", "other"]
theorem sc_cut_right : FnScope N_cut_right ["graph", "down", "first", "to", "dead", "side"] (defScope s_cut_right) := ⟨rfl, rfl, rfl, by decide +kernel, rfl, by decide +kernel, by decide +kernel⟩
abbrev N__law_state : List Str := ["script", "seed", "cell"]
theorem sc__law_state : FnScope N__law_state ["script"] (defScope s__law_state) := ⟨rfl, rfl, rfl, by decide +kernel, rfl, by decide +kernel, by decide +kernel⟩
abbrev N__law_draw : List Str := ["state", "many", "cells", "k", "amount", "mixed"]
theorem sc__law_draw : FnScope N__law_draw ["state", "many"] (defScope s__law_draw) := ⟨rfl, rfl, rfl, by decide +kernel, rfl, by decide +kernel, by decide +kernel⟩
abbrev N__law_graph : List Str := ["state", "count", "free", "port", "links", "k", "one", "others", "other", "switch", "end"]
theorem sc__law_graph : FnScope N__law_graph ["state"] (defScope s__law_graph) := ⟨rfl, rfl, rfl, by decide +kernel, rfl, by decide +kernel, by decide +kernel⟩
abbrev N__law_distances : List Str := ["graph", "dead", "to", "found", "turn", "one", "other", "first", "last"]
theorem sc__law_distances : FnScope N__law_distances ["graph", "dead", "to"] (defScope s__law_distances) := ⟨rfl, rfl, rfl, by decide +kernel, rfl, by decide +kernel, by decide +kernel⟩
abbrev N__law_port : List Str := ["graph", "dead", "switch", "to", "found", "ports", "one", "other", "first", "last"]
theorem sc__law_port : FnScope N__law_port ["graph", "dead", "switch", "to"] (defScope s__law_port) := ⟨rfl, rfl, rfl, by decide +kernel, rfl, by decide +kernel, by decide +kernel⟩
abbrev N__law_end : List Str := ["graph", "end", "one", "other"]
theorem sc__law_end : FnScope N__law_end ["graph", "end"] (defScope s__law_end) := ⟨rfl, rfl, rfl, by decide +kernel, rfl, by decide +kernel, by decide +kernel⟩
abbrev N__law_walk : List Str := ["graph", "down", "first", "to", "dead", "ends", "switch", "turn", "port", "other", "link"]
theorem sc__law_walk : FnScope N__law_walk ["graph", "down", "first", "to"] (defScope s__law_walk) := ⟨rfl, rfl, rfl, by decide +kernel, rfl, by decide +kernel, by decide +kernel⟩
abbrev N__law_cut : List Str := ["graph", "down", "first", "to", "dead", "side", "crossing", "link"]
theorem sc__law_cut : FnScope N__law_cut ["graph", "down", "first", "to", "dead", "side"] (defScope s__law_cut) := ⟨rfl, rfl, rfl, by decide +kernel, rfl, by decide +kernel, by decide +kernel⟩
abbrev N_law : List Str := ["script", "state", "graph", "down", "first", "to", "kept", "told", "dead", "side", "turn", "some", "given", "end", "link", "switch"]
theorem sc_law : FnScope N_law ["script"] (defScope s_law) := ⟨rfl, rfl, rfl, by decide +kernel, rfl, by decide +kernel, by decide +kernel⟩
structure Ad where
  link_of : Addr
  fd_link_of : FuncData
  peer : Addr
  fd_peer : FuncData
  reached : Addr
  fd_reached : FuncData
  ends_at : Addr
  fd_ends_at : FuncData
  living : Addr
  fd_living : FuncData
  other_end : Addr
  fd_other_end : FuncData
  distances : Addr
  fd_distances : FuncData
  next_port : Addr
  fd_next_port : FuncData
  walk : Addr
  fd_walk : FuncData
  side_of : Addr
  fd_side_of : FuncData
  cut_right : Addr
  fd_cut_right : FuncData
  _law_state : Addr
  fd__law_state : FuncData
  _law_draw : Addr
  fd__law_draw : FuncData
  _law_graph : Addr
  fd__law_graph : FuncData
  _law_distances : Addr
  fd__law_distances : FuncData
  _law_port : Addr
  fd__law_port : FuncData
  _law_end : Addr
  fd__law_end : FuncData
  _law_walk : Addr
  fd__law_walk : FuncData
  _law_cut : Addr
  fd__law_cut : FuncData
  law : Addr
  fd_law : FuncData
structure Txt (w : World) (K : PySem.W.Frag) (mg : Str → Option Value) (a : Ad) : Prop where
  fn_link_of : Fun K "link_of" "link_of" s_link_of a.link_of a.fd_link_of
  bi_link_of : Binds K a.fd_link_of ["one", "other"] []
  mg_link_of : mg "link_of" = some (.ref a.link_of)
  kp_link_of : PySem.W.keepIn K (.ref a.link_of) = true
  fn_peer : Fun K "peer" "peer" s_peer a.peer a.fd_peer
  bi_peer : Binds K a.fd_peer ["links", "end"] []
  mg_peer : mg "peer" = some (.ref a.peer)
  kp_peer : PySem.W.keepIn K (.ref a.peer) = true
  fn_reached : Fun K "reached" "reached" s_reached a.reached a.fd_reached
  bi_reached : Binds K a.fd_reached ["links", "switch"] []
  mg_reached : mg "reached" = some (.ref a.reached)
  kp_reached : PySem.W.keepIn K (.ref a.reached) = true
  fn_ends_at : Fun K "ends_at" "ends_at" s_ends_at a.ends_at a.fd_ends_at
  bi_ends_at : Binds K a.fd_ends_at ["links", "switch"] []
  mg_ends_at : mg "ends_at" = some (.ref a.ends_at)
  kp_ends_at : PySem.W.keepIn K (.ref a.ends_at) = true
  fn_living : Fun K "living" "living" s_living a.living a.fd_living
  bi_living : Binds K a.fd_living ["graph", "dead"] []
  mg_living : mg "living" = some (.ref a.living)
  kp_living : PySem.W.keepIn K (.ref a.living) = true
  fn_other_end : Fun K "other_end" "other_end" s_other_end a.other_end a.fd_other_end
  bi_other_end : Binds K a.fd_other_end ["graph", "end"] []
  mg_other_end : mg "other_end" = some (.ref a.other_end)
  kp_other_end : PySem.W.keepIn K (.ref a.other_end) = true
  fn_distances : Fun K "distances" "distances" s_distances a.distances a.fd_distances
  bi_distances : Binds K a.fd_distances ["graph", "dead", "to"] []
  mg_distances : mg "distances" = some (.ref a.distances)
  kp_distances : PySem.W.keepIn K (.ref a.distances) = true
  fn_next_port : Fun K "next_port" "next_port" s_next_port a.next_port a.fd_next_port
  bi_next_port : Binds K a.fd_next_port ["graph", "dead", "switch", "to"] []
  mg_next_port : mg "next_port" = some (.ref a.next_port)
  kp_next_port : PySem.W.keepIn K (.ref a.next_port) = true
  fn_walk : Fun K "walk" "walk" s_walk a.walk a.fd_walk
  bi_walk : Binds K a.fd_walk ["graph", "down", "first", "to"] []
  mg_walk : mg "walk" = some (.ref a.walk)
  kp_walk : PySem.W.keepIn K (.ref a.walk) = true
  fn_side_of : Fun K "side_of" "side_of" s_side_of a.side_of a.fd_side_of
  bi_side_of : Binds K a.fd_side_of ["graph", "dead", "switch"] []
  mg_side_of : mg "side_of" = some (.ref a.side_of)
  kp_side_of : PySem.W.keepIn K (.ref a.side_of) = true
  fn_cut_right : Fun K "cut_right" "cut_right" s_cut_right a.cut_right a.fd_cut_right
  bi_cut_right : Binds K a.fd_cut_right ["graph", "down", "first", "to", "dead", "side"] []
  mg_cut_right : mg "cut_right" = some (.ref a.cut_right)
  kp_cut_right : PySem.W.keepIn K (.ref a.cut_right) = true
  fn__law_state : Fun K "_law_state" "_law_state" s__law_state a._law_state a.fd__law_state
  bi__law_state : Binds K a.fd__law_state ["script"] []
  mg__law_state : mg "_law_state" = some (.ref a._law_state)
  kp__law_state : PySem.W.keepIn K (.ref a._law_state) = true
  fn__law_draw : Fun K "_law_draw" "_law_draw" s__law_draw a._law_draw a.fd__law_draw
  bi__law_draw : Binds K a.fd__law_draw ["state", "many"] []
  mg__law_draw : mg "_law_draw" = some (.ref a._law_draw)
  kp__law_draw : PySem.W.keepIn K (.ref a._law_draw) = true
  fn__law_graph : Fun K "_law_graph" "_law_graph" s__law_graph a._law_graph a.fd__law_graph
  bi__law_graph : Binds K a.fd__law_graph ["state"] []
  mg__law_graph : mg "_law_graph" = some (.ref a._law_graph)
  kp__law_graph : PySem.W.keepIn K (.ref a._law_graph) = true
  fn__law_distances : Fun K "_law_distances" "_law_distances" s__law_distances a._law_distances a.fd__law_distances
  bi__law_distances : Binds K a.fd__law_distances ["graph", "dead", "to"] []
  mg__law_distances : mg "_law_distances" = some (.ref a._law_distances)
  kp__law_distances : PySem.W.keepIn K (.ref a._law_distances) = true
  fn__law_port : Fun K "_law_port" "_law_port" s__law_port a._law_port a.fd__law_port
  bi__law_port : Binds K a.fd__law_port ["graph", "dead", "switch", "to"] []
  mg__law_port : mg "_law_port" = some (.ref a._law_port)
  kp__law_port : PySem.W.keepIn K (.ref a._law_port) = true
  fn__law_end : Fun K "_law_end" "_law_end" s__law_end a._law_end a.fd__law_end
  bi__law_end : Binds K a.fd__law_end ["graph", "end"] []
  mg__law_end : mg "_law_end" = some (.ref a._law_end)
  kp__law_end : PySem.W.keepIn K (.ref a._law_end) = true
  fn__law_walk : Fun K "_law_walk" "_law_walk" s__law_walk a._law_walk a.fd__law_walk
  bi__law_walk : Binds K a.fd__law_walk ["graph", "down", "first", "to"] []
  mg__law_walk : mg "_law_walk" = some (.ref a._law_walk)
  kp__law_walk : PySem.W.keepIn K (.ref a._law_walk) = true
  fn__law_cut : Fun K "_law_cut" "_law_cut" s__law_cut a._law_cut a.fd__law_cut
  bi__law_cut : Binds K a.fd__law_cut ["graph", "down", "first", "to", "dead", "side"] []
  mg__law_cut : mg "_law_cut" = some (.ref a._law_cut)
  kp__law_cut : PySem.W.keepIn K (.ref a._law_cut) = true
  fn_law : Fun K "law" "law" s_law a.law a.fd_law
  bi_law : Binds K a.fd_law ["script"] []
  mg_law : mg "law" = some (.ref a.law)
  kp_law : PySem.W.keepIn K (.ref a.law) = true
  mg_sorted : mg "sorted" = none
  mg_min : mg "min" = none
  mg_all : mg "all" = none
  mg_abs : mg "abs" = none
  mg_int : mg "int" = none
  mg_len : mg "len" = none
  mg_range : mg "range" = none
  mg_max : mg "max" = none
  mg_repr : mg "repr" = none
  mg_list : mg "list" = none
  mg_isinstance : mg "isinstance" = none
  mg_tuple : mg "tuple" = none
local macro_rules | `(tactic| walk_at "g") => `(tactic| first | assumption | exact Hs.g0 (by assumption) | exact Hs.g1 (by assumption) | exact Hs.g2 (by assumption) | exact Hs.g3 (by assumption) | exact Hs.g4 (by assumption) | exact Hs.g5 (by assumption) | exact Hs.g6 (by assumption) | exact Hs.g7 (by assumption) | exact Hs.g8 (by assumption) | exact Hs.g9 (by assumption) | exact Hs.g10 (by assumption) | exact Hs.g11 (by assumption) | exact Hs.g12 (by assumption) | exact Hs.g13 (by assumption) | exact Hs.g14 (by assumption) | exact Hs.g15 (by assumption) | exact Hs.old (by assumption) (by assumption))
local macro_rules | `(tactic| walk_at "l") => `(tactic| first | assumption | exact SqL.of (by walk_at "g") | exact Hs.sql (by assumption) (by assumption))
local macro_rules | `(tactic| walk_at "p") => `(tactic| first | exact .here | exact .there .here | exact .there (.there .here) | exact .there (.there (.there .here)) | exact .there (.there (.there (.there .here))) | exact .there (.there (.there (.there (.there .here)))) | exact .there (.there (.there (.there (.there (.there .here))))) | exact .there (.there (.there (.there (.there (.there (.there .here)))))) | exact .there (.there (.there (.there (.there (.there (.there (.there .here))))))) | exact .there (.there (.there (.there (.there (.there (.there (.there (.there .here)))))))) | exact .there (.there (.there (.there (.there (.there (.there (.there (.there (.there .here))))))))) | exact .there (.there (.there (.there (.there (.there (.there (.there (.there (.there (.there .here)))))))))) | exact .there (.there (.there (.there (.there (.there (.there (.there (.there (.there (.there (.there .here))))))))))) | exact .there (.there (.there (.there (.there (.there (.there (.there (.there (.there (.there (.there (.there .here)))))))))))))
local macro_rules | `(tactic| walk_at "f") => `(tactic| first | exact lk0 | exact lk1 (by decide +kernel) lk0 | exact lk1 (by decide +kernel) (lk1 (by decide +kernel) lk0) | exact lk1 (by decide +kernel) (lk1 (by decide +kernel) (lk1 (by decide +kernel) lk0)) | exact lk1 (by decide +kernel) (lk1 (by decide +kernel) (lk1 (by decide +kernel) (lk1 (by decide +kernel) lk0))) | exact lk1 (by decide +kernel) (lk1 (by decide +kernel) (lk1 (by decide +kernel) (lk1 (by decide +kernel) (lk1 (by decide +kernel) lk0)))) | exact lk1 (by decide +kernel) (lk1 (by decide +kernel) (lk1 (by decide +kernel) (lk1 (by decide +kernel) (lk1 (by decide +kernel) (lk1 (by decide +kernel) lk0))))) | exact lk1 (by decide +kernel) (lk1 (by decide +kernel) (lk1 (by decide +kernel) (lk1 (by decide +kernel) (lk1 (by decide +kernel) (lk1 (by decide +kernel) (lk1 (by decide +kernel) lk0)))))) | exact lk1 (by decide +kernel) (lk1 (by decide +kernel) (lk1 (by decide +kernel) (lk1 (by decide +kernel) (lk1 (by decide +kernel) (lk1 (by decide +kernel) (lk1 (by decide +kernel) (lk1 (by decide +kernel) lk0))))))))
local macro_rules | `(tactic| walk_at "fn") => `(tactic| first | exact lke | exact lkn (by decide +kernel) lke | exact lkn (by decide +kernel) (lkn (by decide +kernel) lke) | exact lkn (by decide +kernel) (lkn (by decide +kernel) (lkn (by decide +kernel) lke)) | exact lkn (by decide +kernel) (lkn (by decide +kernel) (lkn (by decide +kernel) (lkn (by decide +kernel) lke))) | exact lkn (by decide +kernel) (lkn (by decide +kernel) (lkn (by decide +kernel) (lkn (by decide +kernel) (lkn (by decide +kernel) lke)))) | exact lkn (by decide +kernel) (lkn (by decide +kernel) (lkn (by decide +kernel) (lkn (by decide +kernel) (lkn (by decide +kernel) (lkn (by decide +kernel) lke))))) | exact lkn (by decide +kernel) (lkn (by decide +kernel) (lkn (by decide +kernel) (lkn (by decide +kernel) (lkn (by decide +kernel) (lkn (by decide +kernel) (lkn (by decide +kernel) lke)))))) | exact lkn (by decide +kernel) (lkn (by decide +kernel) (lkn (by decide +kernel) (lkn (by decide +kernel) (lkn (by decide +kernel) (lkn (by decide +kernel) (lkn (by decide +kernel) (lkn (by decide +kernel) lke))))))))
local macro_rules | `(tactic| walk_at "fp") => `(tactic| first | exact pue | exact pu0 | exact pu2 (by decide +kernel) pue | exact pu2 (by decide +kernel) pu0 | exact pu2 (by decide +kernel) (pu2 (by decide +kernel) pue) | exact pu2 (by decide +kernel) (pu2 (by decide +kernel) pu0) | exact pu2 (by decide +kernel) (pu2 (by decide +kernel) (pu2 (by decide +kernel) pue)) | exact pu2 (by decide +kernel) (pu2 (by decide +kernel) (pu2 (by decide +kernel) pu0)) | exact pu2 (by decide +kernel) (pu2 (by decide +kernel) (pu2 (by decide +kernel) (pu2 (by decide +kernel) pue))) | exact pu2 (by decide +kernel) (pu2 (by decide +kernel) (pu2 (by decide +kernel) (pu2 (by decide +kernel) pu0))) | exact pu2 (by decide +kernel) (pu2 (by decide +kernel) (pu2 (by decide +kernel) (pu2 (by decide +kernel) (pu2 (by decide +kernel) pue)))) | exact pu2 (by decide +kernel) (pu2 (by decide +kernel) (pu2 (by decide +kernel) (pu2 (by decide +kernel) (pu2 (by decide +kernel) pu0)))) | exact pu2 (by decide +kernel) (pu2 (by decide +kernel) (pu2 (by decide +kernel) (pu2 (by decide +kernel) (pu2 (by decide +kernel) (pu2 (by decide +kernel) pue))))) | exact pu2 (by decide +kernel) (pu2 (by decide +kernel) (pu2 (by decide +kernel) (pu2 (by decide +kernel) (pu2 (by decide +kernel) (pu2 (by decide +kernel) pu0))))) | exact pu2 (by decide +kernel) (pu2 (by decide +kernel) (pu2 (by decide +kernel) (pu2 (by decide +kernel) (pu2 (by decide +kernel) (pu2 (by decide +kernel) (pu2 (by decide +kernel) pue)))))) | exact pu2 (by decide +kernel) (pu2 (by decide +kernel) (pu2 (by decide +kernel) (pu2 (by decide +kernel) (pu2 (by decide +kernel) (pu2 (by decide +kernel) (pu2 (by decide +kernel) pu0)))))))
local macro_rules | `(tactic| walk_at "c") => `(tactic| first | assumption | omega | (dsimp only; omega) | (unfold CMul; omega))
local macro_rules | `(tactic| walk_at "z") => `(tactic| first | assumption | (refine sz ?_; first | decide | omega | (simp only [List.length_map, List.length_append] <;> omega) | (simp only [List.length_cons, List.length_nil, List.length_map, List.length_append] <;> omega)) | (refine szl ?_; first | decide | omega | (simp only [List.length_map, List.length_append] <;> omega) | (simp only [List.length_cons, List.length_nil, List.length_map, List.length_append] <;> omega)))
local macro_rules | `(tactic| walk_at "s") => `(tactic| first
  | with_reducible refine w_seq ?_
  | ((with_reducible refine' w_var ?h ?_); case h => exact rfl)
  | with_reducible refine w_c ?_
  | with_reducible refine w_name ?_
  | with_reducible refine w_asg ?_
  | with_reducible refine w_op ?_
  | with_reducible refine w_I0 ?_
  | with_reducible refine w_exb ?_
  | with_reducible refine w_if ?_
  | with_reducible refine w_test ?_
  | with_reducible refine w_fld ?_
  | ((with_reducible refine' w_fl ?h ?hc ?hn ?hl ?_); (case h => walk_at "g"); (case hc => assumption); (case hn => assumption); (case hl => walk_at "f"))
  | with_reducible refine w_nil ?_
  | with_reducible refine w_cons ?_
  | with_reducible refine w_cb ?_
  | with_reducible refine w_call ?_
  | with_reducible refine w_meth ?_
  | with_reducible refine w_make ?_
  | ((with_reducible refine' w_rc ?h ?hl ?_); (case h => walk_at "g"); (case hl => walk_at "fn"))
  | with_reducible refine w_drop ?_
  | with_reducible refine w_ret ?_
  | with_reducible refine w_retN ?_
  | with_reducible refine w_next ?_
  | with_reducible refine w_brk ?_
  | with_reducible refine w_cont ?_
  | with_reducible refine w_eqI ?_
  | with_reducible refine w_neI ?_
  | with_reducible refine w_neB ?_
  | with_reducible refine w_isi ?_
  | ((with_reducible refine' w_len ?h ?_); case h => walk_at "l")
  | ((with_reducible refine' w_ixL ?h ?a ?_); (case h => walk_at "l"); (case a => first | exact at0 | exact at1 | exact at2 | exact at3 | assumption))
  | with_reducible refine w_bm ?_
  | with_reducible refine w_bm0 ?_
  | ((with_reducible refine' w_tyL ?h ?_); case h => walk_at "l")
  | with_reducible refine w_B ?_
  | with_reducible refine w_not ?_
  | with_reducible refine w_and ?_
  | with_reducible refine w_or ?_
  | with_reducible refine w_andV ?_
  | with_reducible refine w_orV ?_
  | with_reducible refine w_notV ?_
  | with_reducible refine w_ifE ?_
  | with_reducible refine w_chain ?_
  | with_reducible refine w_un ?_
  | with_reducible refine w_U ?_
  | with_reducible refine w_int ?_
  | with_reducible refine w_abs ?_
  | with_reducible refine w_tup ?_
  | with_reducible refine w_lst ?_
  | with_reducible refine w_sl ?_
  | with_reducible refine w_noPart ?_
  | with_reducible refine w_part ?_
  | with_reducible refine w_exi ?_
  | ((with_reducible refine' w_newL ?hs ?hl ?_); (case hs => assumption); (case hl => walk_at "z"); intro _ _ _)
  | ((with_reducible refine' w_newT ?hs ?hl ?_); (case hs => assumption); (case hl => walk_at "z"); intro _ _ _)
  | ((with_reducible refine' w_slL ?hs ?h ?_); (case hs => assumption); (case h => walk_at "l"); intro _ _ _)
  | ((with_reducible refine' w_cat ?hs ?ha ?hb ?hl ?_); (case hs => assumption); (case ha => walk_at "g"); (case hb => walk_at "g"); (case hl => walk_at "z"); intro _ _ _)
  | ((with_reducible refine' w_app ?hs ?h ?hl ?_); (case hs => assumption); (case h => walk_at "p"); (case hl => walk_at "z"); intro _ _)
  | ((with_reducible refine' w_clear ?hs ?h ?_); (case hs => assumption); (case h => walk_at "p"); intro _ _)
  | with_reducible refine w_sfld ?_
  | ((with_reducible refine' w_fsP ?hs ?h ?hc ?hn ?hl ?hg ?_); (case hs => assumption); (case h => walk_at "p"); (case hc => assumption); (case hn => assumption); (case hl => exact Nat.lt_of_lt_of_le (by simp only [List.length_cons, List.length_nil]; omega) (Nat.le_refl 1000)); (case hg => walk_at "fp"); intro _ _)
  | with_reducible refine w_lpb ?_
  | with_reducible refine w_yes ?_
  | with_reducible refine w_sub ?_
  | with_reducible refine w_delL0 ?_
  | ((with_reducible refine' w_I ?h ?_); case h => walk_at "c"))
local macro_rules | `(tactic| walk_at "ss") => `(tactic| repeat walk_at "s")

local macro_rules | `(tactic| walk_at "t") => `(tactic| first | assumption | exact SqT.of (by walk_at "g"))
local macro_rules | `(tactic| walk_at "s") => `(tactic| first
  | with_reducible refine iteT ?_
  | with_reducible refine iteF ?_
  | with_reducible refine w_din ?_
  | with_reducible refine w_dni ?_
  | ((with_reducible refine' w_dinI ?h ?_); case h => walk_at "g")
  | ((with_reducible refine' w_dniI ?h ?_); case h => walk_at "g")
  | with_reducible refine w_dput ?_
  | ((with_reducible refine' w_dputI ?hs ?h ?hl ?_); (case hs => assumption); (case h => walk_at "p"); (case hl => walk_at "z"); intro _ _)
  | with_reducible refine w_dpop ?_
  | ((with_reducible refine' w_dpopA ?h ?_); case h => walk_at "g")
  | with_reducible refine w_dnew ?_
  | ((with_reducible refine' w_newD ?hs ?_); (case hs => assumption); intro _ _ _)
  | with_reducible refine w_faug ?_
  | ((with_reducible refine' w_fa1 ?h ?hc ?hn ?hl ?_); (case h => walk_at "g"); (case hc => assumption); (case hn => assumption); (case hl => walk_at "f"))
  | ((with_reducible refine' w_fa2 ?hs ?h ?hl ?hg ?_); (case hs => assumption); (case h => walk_at "p"); (case hl => exact Nat.lt_of_lt_of_le (by simp only [List.length_cons, List.length_nil]; omega) (Nat.le_refl 1000)); (case hg => walk_at "fp"); intro _ _)
  | with_reducible refine w_rAdd ?_
  | with_reducible refine w_rSub ?_
  | with_reducible refine w_max ?_
  | with_reducible refine w_min ?_
  | with_reducible refine w_eqB ?_
  | with_reducible refine w_methQ ?_
  | with_reducible refine w_xf0 ?_
  | ((with_reducible refine' w_xf ?h ?hl ?_); (case h => walk_at "g"); (case hl => walk_at "f"))
  | with_reducible refine w_eqSt ?_
  | with_reducible refine w_isN ?_
  | with_reducible refine w_notN ?_
  | ((with_reducible refine' w_gtup ?h ?hl ?_); (case h => walk_at "t"); (case hl => rfl))
  | with_reducible refine w_gnil ?_
  | with_reducible refine w_gcons ?_
  | with_reducible refine w_par3 ?_
  | with_reducible refine w_ex3 ?_
  | with_reducible refine w_par2 ?_
  | with_reducible refine w_ex2 ?_
  | ((with_reducible refine' w_ixT ?h ?a ?_); (case h => walk_at "t"); (case a => first | exact at0 | exact at1 | exact at2 | exact at3 | assumption))
  | ((with_reducible refine' w_lenT ?h ?_); case h => walk_at "t")
  | ((with_reducible refine' w_set0 ?hs ?h ?_); (case hs => assumption); (case h => walk_at "p"); intro _ _)
  | ((with_reducible refine' w_set1 ?hs ?h ?_); (case hs => assumption); (case h => walk_at "p"); intro _ _)
  | ((with_reducible refine' w_set2 ?hs ?h ?_); (case hs => assumption); (case h => walk_at "p"); intro _ _)
  | ((with_reducible refine' w_set3 ?hs ?h ?_); (case hs => assumption); (case h => walk_at "p"); intro _ _)
  | ((with_reducible refine' w_set4 ?hs ?h ?_); (case hs => assumption); (case h => walk_at "p"); intro _ _)
  | with_reducible refine w_vei ?_
  | with_reducible refine w_ost0 ?_
  | with_reducible refine w_mko ?_
  | with_reducible refine w_raise ?_
  | with_reducible refine w_js ?_
  | with_reducible refine w_js0 ?_
  | with_reducible refine w_fmt ?_)

local macro_rules | `(tactic| walk_at "v") => `(tactic| first | exact v0 | exact v1 | exact v2 | exact v3 | exact v4 | exact v5 | exact v6 | exact v7 | exact v8)
local macro_rules | `(tactic| walk_at "vs") => `(tactic| first | exact st0 | exact st1 | exact st2 | exact st3 | exact st4 | exact st5 | exact st6 | exact st7 | exact st8)
local macro_rules | `(tactic| walk_at "s") => `(tactic| first
  | with_reducible refine w_dget ?_
  | ((with_reducible refine' w_dgetZ ?h ?nd ?hk ?hv ?_); (case h => walk_at "g"); (case nd => walk_at "nd"); (case hk => walk_at "k"); (case hv => walk_at "v"))
  | ((with_reducible refine' w_dputZ ?hs ?h ?nd ?hk ?hv ?hu ?hl ?_); (case hs => assumption); (case h => walk_at "p"); (case nd => walk_at "nd"); (case hk => walk_at "k"); (case hv => walk_at "v"); (case hu => walk_at "vs"); (case hl => decide); intro _ _)
  | with_reducible refine w_gsub ?_
  | with_reducible refine w_setD ?_
  | with_reducible refine w_disp ?_
  | ((with_reducible refine' w_newP ?hs ?_); (case hs => assumption); intro _ _ _)
  | with_reducible refine w_pcons ?_
  | with_reducible refine w_pnil ?_)

local macro_rules | `(tactic| walk_at "s") => `(tactic| first
  | with_reducible refine w_nget ?_
  | with_reducible refine w_nin ?_
  | with_reducible refine w_nnot ?_
  | with_reducible refine w_nput ?_
  | with_reducible refine w_ndel ?_
  | with_reducible refine w_npop ?_
  | ((with_reducible refine' w_nnew ?hs ?_); (case hs => assumption); intro _ _ _))

/-! ## ends and links -/
def EndAt (H : Hp) (v : V) (x : E2) : Prop := ∃ q : Addr, v = .ref q ∧ H q = some (endO x)
theorem EndAt.mono {H H' : Hp} (e : ∀ p xs, H p = some (.tup xs) → H' p = some (.tup xs)) {v : V} {x : E2} (h : EndAt H v x) : EndAt H' v x := by
  obtain ⟨q, h1, h2⟩ := h
  exact ⟨q, h1, e _ _ h2⟩
def OptE (H : Hp) (v : V) : Option E2 → Prop
  | none => v = .non
  | some e => EndAt H v e
theorem OptE.same {H H' : Hp} (e : Same H H') {v : V} : ∀ {o : Option E2}, OptE H v o → OptE H' v o
  | none, h => h
  | some _, h => EndAt.mono (fun _ _ => e _ _) h
abbrev has (x : E2) (l : Lk) : Bool := decide (l.1 = x) || decide (l.2 = x)
abbrev peerM (ls : List Lk) (x : E2) : Option E2 := (ls.find? (has x)).map fun l => if l.1 = x then l.2 else l.1
def isEnd (cnt : Int) (x : E2) : Bool := (decide (1 ≤ x.1) && decide (x.1 ≤ cnt)) && (decide (1 ≤ x.2) && decide (x.2 ≤ 6))
def endK (x : E2) : IK := [.inl x.1, .inl x.2]
theorem kat_end {H : Hp} {p : Addr} {x : E2} (h : H p = some (endO x)) : KAt H p (endK x) := kat_ints (ns := [x.1, x.2]) h
theorem endAt_k {H : Hp} {v : V} {x : E2} (h : EndAt H v x) : KeyAt H v (endK x) := by
  obtain ⟨q, rfl, h2⟩ := h
  exact ⟨q, rfl, kat_end h2⟩
theorem k_endAt {H : Hp} {v : V} {x : E2} (h : KeyAt H v (endK x)) : EndAt H v x := by
  obtain ⟨q, rfl, vs, h1, h2⟩ := h
  refine ⟨q, rfl, ?_⟩
  cases h2 with
  | cons a1 r1 =>
    cases r1 with
    | cons a2 r2 =>
      cases r2
      cases a1
      cases a2
      exact h1
/-- the ends at a switch, sorted -/
def rawEnds (ls : List Lk) (sw : Int) : List E2 := ls.flatMap fun l => [l.1, l.2].filter fun x => decide (x.1 = sw)
def kE : IK → E2
  | [.inl a, .inl b] => (a, b)
  | _ => (0, 0)
def endsM (ls : List Lk) (sw : Int) : List E2 := (srtK ((rawEnds ls sw).map endK)).map kE
theorem find_take {α : Type} {p : α → Bool} : ∀ {ls : List α} {i : Nat} {l : α}, ls[i]? = some l → (ls.take i).find? p = none → p l = true → ls.find? p = some l
  | y :: ys, 0, l, e, _, h => by
    cases e
    rw [List.find?_cons, h]
  | y :: ys, i + 1, l, e, h0, h => by
    rw [List.take_succ_cons, List.find?_cons] at h0
    cases hy : p y with
    | true =>
      rw [hy] at h0
      cases h0
    | false =>
      rw [hy] at h0
      rw [List.find?_cons, hy]
      exact find_take (by simpa using e) h0 h
theorem find_more {α : Type} {p : α → Bool} {ls : List α} {i : Nat} {l : α} (e : ls[i]? = some l) (h0 : (ls.take i).find? p = none) (h : p l = false) : (ls.take (i + 1)).find? p = none := by
  rw [List.take_add_one, e, List.find?_append, h0]
  show List.find? p [l] = none
  rw [List.find?_cons, h]
  rfl
theorem row_map {α β : Type} {R : V → α → Prop} {R' : V → β → Prop} (f : α → β) {us : List V} {xs : List α} (h : ∀ u x, x ∈ xs → R u x → R' u (f x)) (r : Row R us xs) : Row R' us (xs.map f) := by
  refine ⟨by rw [List.length_map]; exact r.1, fun i u y h1 h2 => ?_⟩
  rw [List.getElem?_map] at h2
  obtain ⟨x, hx, rfl⟩ := Option.map_eq_some_iff.mp h2
  exact h u x (List.mem_of_getElem? hx) (r.2 i u x h1 hx)
theorem row_flat {α β : Type} {R : V → β → Prop} {ls : List α} {f : Nat → List V} {g : α → List β} (h : ∀ i l, ls[i]? = some l → Row R (f i) (g l)) : Row R ((List.range ls.length).flatMap f) (ls.flatMap g) := by
  have key : ∀ n, n ≤ ls.length → Row R ((List.range n).flatMap f) ((ls.take n).flatMap g) := fun n => by
    induction n with
    | zero => exact fun _ => Row.nil
    | succ n ih =>
      intro hn
      have hl : ls[n]? = some (ls[n]'(by omega)) := List.getElem?_eq_getElem _
      rw [List.range_succ, List.flatMap_append, List.take_add_one, hl, List.flatMap_append]
      refine (ih (by omega)).app ?_
      have := h n _ hl
      simpa using this
  have := key ls.length (Nat.le_refl _)
  rwa [List.take_length] at this
theorem kE_endK (x : E2) : kE (endK x) = x := rfl
def ltE (x y : E2) : Bool := decide (x.1 < y.1) || (decide (x.1 = y.1) && decide (x.2 < y.2))
theorem lex_end (x y : E2) : lexI [x.1, x.2] [y.1, y.2] = ltE x y := by
  unfold ltE
  by_cases h1 : x.1 < y.1
  · simp [lexI, HT.lexLt, h1]
    exact .inl (by omega)
  · by_cases h2 : x.1 = y.1
    · simp [lexI, HT.lexLt, h2]
      omega
    · simp [lexI, HT.lexLt, h1, h2]
section
variable {P : Program} [IsP P] {w : World} {K : PySem.W.Frag} {mg : Str → Option Value} {base : Heap} {a : Ad}
def sp_peer : Sp := fun vs H Q _ => ∃ (r e : Addr) (us : List V) (ls : List Lk) (x : E2), vs = [.ref r, .ref e] ∧ H r = some (.lst us) ∧ LkL H us ls ∧ H e = some (endO x) ∧ ∀ v, OptE H v (peerM ls x) → Q v H
theorem ok_peer (T : Txt w K mg a) : FnOk P w K mg base CX0 1 a.peer a.fd_peer ["links", "end"] sp_peer := by
  refine T.fn_peer.ok sc_peer (fun vs H Q E h => ?_) (fun cdv A outer s H vs Q E hr h => ?_)
  · obtain ⟨_, _, _, _, _, rfl, _⟩ := h
    rfl
  · obtain ⟨r, e, us, ls, x, rfl, hr0, hL, he, k⟩ := h
    refine ⟨_, (pss_cons (ps_for PassesOwn.never rfl (pi_listK (K := K) (pv 0)) (pg_tupK (K := K) rfl (pgs_cons (pg_name (i := 2) sc_peer.nd rfl (Or.inl rfl)) (pgs_cons (pg_name (i := 3) sc_peer.nd rfl (Or.inl rfl)) pgs_nil)))
  (pss_cons (ps_if (pt_cmpR (op_eqDK (K := K) hr.units) (pv 2) (pv 1) (nomark _))
  (pss_one (ps_ret (pv 3)))
  pss_nil)
  (pss_one (ps_if (pt_cmpR (op_eqDK (K := K) hr.units) (pv 3) (pv 1) (nomark _))
  (pss_one (ps_ret (pv 2)))
  pss_nil))))
  (pss_one (ps_ret pe_non))), ?_⟩
    walk_at "ss"
    refine w_forL (SqL.of hr0) (fun i σ H' => H' = H ∧ ∃ v2 v3, σ = [some (.ref r), some (.ref e), v2, v3] ∧ (ls.take i).find? (has x) = none) (fun Q q => ⟨_, rfl, q⟩) ⟨rfl, none, none, rfl, rfl⟩ (fun i σ H' _ ⟨e, _⟩ => by rw [e]; exact SqL.of hr0) ?_ ?_
    · rintro i y σ H1 hi ⟨rfl, v2, v3, rfl, hf⟩
      obtain ⟨t, l, rfl, hli, hk⟩ := LkL.get hL hi
      obtain ⟨p, q, ht, hp, hq⟩ := nk_link hk
      walk_at "ss"
      refine w_eqE (x := l.1) (y := x) hp he ?_
      refine ⟨_, rfl, ifd (fun h1 => ?_) (fun h1 => ?_)⟩
      · have hh : has x l = true := by
          unfold has
          rw [decide_eq_true h1]
          rfl
        walk_at "ss"
        refine k _ ?_
        unfold peerM
        rw [find_take hli hf hh]
        refine ⟨q, rfl, ?_⟩
        show H1 q = some (endO (if l.1 = x then l.2 else l.1))
        rw [if_pos h1]
        exact hq
      · walk_at "ss"
        refine w_eqE (x := l.2) (y := x) hq he ?_
        refine ⟨_, rfl, ifd (fun h2 => ?_) (fun h2 => ?_)⟩
        · have hh : has x l = true := by
            unfold has
            rw [decide_eq_true h2, Bool.or_true]
          walk_at "ss"
          refine k _ ?_
          unfold peerM
          rw [find_take hli hf hh]
          refine ⟨p, rfl, ?_⟩
          show H1 p = some (endO (if l.1 = x then l.2 else l.1))
          rw [if_neg h1]
          exact hp
        · have hh : has x l = false := by
            unfold has
            rw [decide_eq_false h1, decide_eq_false h2]
            rfl
          walk_at "ss"
          exact ⟨rfl, _, _, rfl, find_more hli hf hh⟩
    · rintro σ H1 ⟨rfl, v2, v3, rfl, hf⟩
      walk_at "ss"
      refine k _ ?_
      rw [LkL.len hL, List.take_length] at hf
      unfold peerM
      rw [hf]
      rfl
def sp_ends_at : Sp := fun vs H Q _ => ∃ (r : Addr) (us : List V) (ls : List Lk) (sw : Int), vs = [.ref r, .int sw] ∧ H r = some (.lst us) ∧ LkL H us ls ∧ us.length ≤ 1000 ∧ ∀ l ys H', Hs H [(l, .lst ys)] H' → Row (EndAt H') ys (endsM ls sw) → Q (.ref l) H'
theorem ok_ends_at (T : Txt w K mg a) : FnOk P w K mg base CX0 1 a.ends_at a.fd_ends_at ["links", "switch"] sp_ends_at := by
  refine T.fn_ends_at.ok sc_ends_at (fun vs H Q E h => ?_) (fun cdv A outer s H vs Q E hr h => ?_)
  · obtain ⟨_, _, _, _, rfl, _⟩ := h
    rfl
  · obtain ⟨r, us, ls, sw, rfl, hr0, hL, hz, k⟩ := h
    refine ⟨_, (pss_one (ps_ret (pe_callB (cr_sortN (K := K) (c := none) (sh := [none]) (r64 hr)) (by rfl) T.mg_sorted (by decide +kernel) (pa_cons (pe_lc2 (own := [("link", 2), ("end", 3)]) (vs1 := [3]) (g := (gName 2)) (g1 := (gName 3)) (tt := tYes) rfl sc_ends_at.nd (pi_listK (K := K) (pv 0)) (blkOk_by (own := [("link", 2), ("end", 3)]) (N := N_ends_at) (sc := defScope s_ends_at) (by decide +kernel)) (by decide) (fun _ _ _ _ _ => by exact (pg_name (i := 2) sc_ends_at.nd rfl (Or.inl rfl))) (fun _ _ _ _ _ => pts_nil) (fun _ _ _ _ _ => by exact (pi_tupK (K := K) (pv 2))) (fun _ _ _ _ _ => by exact (pg_name (i := 3) sc_ends_at.nd rfl (Or.inl rfl))) (fun _ _ _ _ _ => by exact pts_one (pt_cmpR op_eq (pe_ix (ix_tupK (K := K)) (pv 3) pe_int (fun _ _ => rfl)) (pv 1) (nomark _))) (fun _ _ _ _ _ => by exact (pv 3))) pa_nil)))), ?_⟩
    walk_at "ss"
    let it : Nat → List V := fun i => match us[i]? with
      | some (V.ref p) => (match H p with
        | some (HO.tup [V.ref x, V.ref y]) => [V.ref x, V.ref y]
        | _ => [])
      | _ => []
    let kp : Nat → Nat → Bool := fun i k => match ls[i]? with
      | some l => decide ((if k = 0 then l.1 else l.2).1 = sw)
      | none => false
    have row : ∀ i u, us[i]? = some u → ∃ (t p q : Addr) (l : Lk), u = .ref t ∧ ls[i]? = some l ∧ H t = some (.tup [.ref p, .ref q]) ∧ H p = some (endO l.1) ∧ H q = some (endO l.2) ∧ it i = [.ref p, .ref q] := fun i u hu => by
      obtain ⟨t, l, rfl, hli, hk⟩ := LkL.get hL hu
      obtain ⟨p, q, ht, hp, hq⟩ := nk_link hk
      refine ⟨t, p, q, l, rfl, hli, ht, hp, hq, ?_⟩
      show (match us[i]? with
        | some (V.ref p) => (match H p with
          | some (HO.tup [V.ref x, V.ref y]) => [V.ref x, V.ref y]
          | _ => [])
        | _ => ([] : List V)) = _
      rw [hu]
      show (match H t with
          | some (HO.tup [V.ref x, V.ref y]) => [V.ref x, V.ref y]
          | _ => ([] : List V)) = _
      rw [ht]
    refine w_lc2T it kp (SqL.of hr0) (by omega) (fun i => ?_) (fun i u hu => ?_) (fun Q' q => ?_) (fun _ => rfl) (fun v H' Q' q => ?_) (fun _ _ => rfl) (fun i k' p v H' Nx Ap hui hv sm hN hA => ?_) fun D acc H1 hs1 hacc => ?_
    · show (match us[i]? with
        | some (V.ref p) => (match H p with
          | some (HO.tup [V.ref x, V.ref y]) => [V.ref x, V.ref y]
          | _ => [])
        | _ => ([] : List V)).length ≤ 10
      repeat' split
      all_goals simp
    · obtain ⟨t, p, q, l, rfl, hli, ht, hp, hq, hit⟩ := row i u hu
      exact ⟨t, rfl, by rw [hit]; exact ht⟩
    · walk_at "ss"
      exact q
    · walk_at "ss"
      exact q
    · obtain ⟨t, pa, qa, l, e1, hli, ht, hp, hq, hit⟩ := row i _ hui
      cases e1
      rw [hit] at hv
      have hkp : kp i k' = decide ((if k' = 0 then l.1 else l.2).1 = sw) := by
        show (match ls[i]? with
          | some l => decide ((if k' = 0 then l.1 else l.2).1 = sw)
          | none => false) = _
        rw [hli]
      obtain ⟨ve, hve, hvv⟩ : ∃ ve : Addr, v = .ref ve ∧ H ve = some (endO (if k' = 0 then l.1 else l.2)) := by
        match k', hv with
        | 0, hv =>
          cases hv
          exact ⟨pa, rfl, hp⟩
        | 1, hv =>
          cases hv
          exact ⟨qa, rfl, hq⟩
        | k' + 2, hv => cases hv
      subst hve
      generalize (if k' = 0 then l.1 else l.2) = x at hkp hvv
      have hv' : H' ve = some (.tup [.int x.1, .int x.2]) := sm _ _ hvv
      walk_at "ss"
      refine ifd (fun h => ?_) (fun h => ?_)
      · walk_at "ss"
        exact hA (by rw [hkp]; exact decide_eq_true h) _ (Same.refl _)
      · exact hN (by rw [hkp]; exact decide_eq_false h) _ (Same.refl _)
    · have hrow : Row (EndAt H1) acc (rawEnds ls sw) := by
        rw [hacc, LkL.len hL]
        refine row_flat fun i l hli => ?_
        have hi : i < us.length := by
          rw [LkL.len hL]
          exact (List.getElem?_eq_some_iff.mp hli).1
        obtain ⟨t, p, q, l', e1, hli', ht, hp, hq, hit⟩ := row i _ (List.getElem?_eq_getElem hi)
        rw [hli] at hli'
        cases hli'
        have hk : ∀ k', kp i k' = decide ((if k' = 0 then l.1 else l.2).1 = sw) := fun k' => by
          show (match ls[i]? with
            | some l => decide ((if k' = 0 then l.1 else l.2).1 = sw)
            | none => false) = _
          rw [hli]
        have e2 : (List.range (it i).length).filterMap (fun k => if kp i k = true then (it i)[k]? else none) = ([(0 : Nat), 1].filterMap fun k => if kp i k = true then ([V.ref p, V.ref q] : List V)[k]? else none) := by
          rw [hit]
          rfl
        rw [e2]
        have k0 : kp i 0 = decide (l.1.1 = sw) := hk 0
        have k1 : kp i 1 = decide (l.2.1 = sw) := hk 1
        have z1 : EndAt H1 (.ref p) l.1 := ⟨p, rfl, hs1.same _ _ hp⟩
        have z2 : EndAt H1 (.ref q) l.2 := ⟨q, rfl, hs1.same _ _ hq⟩
        simp only [List.filterMap_cons, List.filterMap_nil, List.filter_cons, List.filter_nil, k0, k1]
        cases decide (l.1.1 = sw) with
        | true =>
          cases decide (l.2.1 = sw) with
          | true => exact Row.cons z1 (Row.cons z2 Row.nil)
          | false => exact Row.cons z1 Row.nil
        | false =>
          cases decide (l.2.1 = sw) with
          | true => exact Row.cons z2 Row.nil
          | false => exact Row.nil
      walk_at "ss"
      refine w_sortK hs1 (SqL.of hs1.g0) (row_map endK (fun u x _ h => endAt_k h) hrow) (fun x hx => ?_) fun p ys H2 hs2 hr2 => ?_
      · obtain ⟨z, _, rfl⟩ := List.mem_map.mp hx
        rfl
      · refine k p ys H2 (hs2.sel [0]) (row_map kE (fun u x hx h => ?_) hr2)
        obtain ⟨z, _, rfl⟩ := List.mem_map.mp ((srtK_perm _).mem_iff.mp hx)
        rw [kE_endK]
        exact k_endAt h
def sp_link_of : Sp := fun vs H Q _ => ∃ (p q : Addr) (x y : E2), vs = [.ref p, .ref q] ∧ H p = some (endO x) ∧ H q = some (endO y) ∧ ∀ t H', Hs H [(t, .tup (if ltE x y = true then [.ref p, .ref q] else [.ref q, .ref p]))] H' → Q (.ref t) H'
theorem ok_link_of (T : Txt w K mg a) : FnOk P w K mg base CX0 1 a.link_of a.fd_link_of ["one", "other"] sp_link_of := by
  refine T.fn_link_of.ok sc_link_of (fun vs H Q E h => ?_) (fun cdv A outer s H vs Q E hr h => ?_)
  · obtain ⟨_, _, _, _, rfl, _⟩ := h
    rfl
  · obtain ⟨p, q, x, y, rfl, hp, hq, k⟩ := h
    refine ⟨_, (pss_one (ps_ret (pe_ifExp (pt_cmpR (op_ltT (r0 hr)) (pv 0) (pv 1) (nomark _)) (pe_tup (pa_cons (pv 0) (pa_cons (pv 1) pa_nil))) (pe_tup (pa_cons (pv 1) (pa_cons (pv 0) pa_nil)))))), ?_⟩
    have hs := Hs.start H
    walk_at "ss"
    refine w_ltT (K := K) (ns := [x.1, x.2]) (ms := [y.1, y.2]) hp hq ?_
    have e1 : lexI [x.1, x.2] [y.1, y.2] = ltE x y := lex_end x y
    rw [e1]
    cases h : ltE x y with
    | true =>
      refine ⟨_, rfl, iteT ?_⟩
      rw [h] at k
      walk_at "ss"
      exact k _ _ (by assumption)
    | false =>
      refine ⟨_, rfl, iteF ?_⟩
      rw [h] at k
      walk_at "ss"
      exact k _ _ (by assumption)
end
local macro_rules | `(tactic| walk_at "v") => `(tactic| first | exact v0 | exact v1 | exact v2 | exact v3 | exact v4 | exact v5 | exact v6 | exact v7 | exact v8)
local macro_rules | `(tactic| walk_at "vs") => `(tactic| first | exact st0 | exact st1 | exact st2 | exact st3 | exact st4 | exact st5 | exact st6 | exact st7 | exact st8)
local macro_rules | `(tactic| walk_at "s") => `(tactic| first
  | with_reducible refine w_dget ?_
  | ((with_reducible refine' w_dgetZ ?h ?nd ?hk ?hv ?_); (case h => walk_at "g"); (case nd => walk_at "nd"); (case hk => walk_at "k"); (case hv => walk_at "v"))
  | ((with_reducible refine' w_dputZ ?hs ?h ?nd ?hk ?hv ?hu ?hl ?_); (case hs => assumption); (case h => walk_at "p"); (case nd => walk_at "nd"); (case hk => walk_at "k"); (case hv => walk_at "v"); (case hu => walk_at "vs"); (case hl => decide); intro _ _)
  | with_reducible refine w_gsub ?_
  | with_reducible refine w_setD ?_
  | with_reducible refine w_disp ?_
  | ((with_reducible refine' w_newP ?hs ?_); (case hs => assumption); intro _ _ _)
  | with_reducible refine w_pcons ?_
  | with_reducible refine w_pnil ?_)

local macro_rules | `(tactic| walk_at "s") => `(tactic| first
  | with_reducible refine w_nget ?_
  | with_reducible refine w_nin ?_
  | with_reducible refine w_nnot ?_
  | with_reducible refine w_nput ?_
  | with_reducible refine w_ndel ?_
  | with_reducible refine w_npop ?_
  | ((with_reducible refine' w_nnew ?hs ?_); (case hs => assumption); intro _ _ _))

section
variable {P : Program} [IsP P] {w : World} {K : PySem.W.Frag} {mg : Str → Option Value} {base : Heap} {a : Ad}
/-! ### the draws of the law -/
/-- what a state may be -/
def Good (m : Int) (cells : List Int) : Prop := 0 ≤ m ∧ m < 2147483648 ∧ cells.length ≤ 1000
abbrev sto (c : Addr) (m : Int) : HO := .lst [.ref c, .int m]
abbrev clo (cells : List Int) : HO := .lst (cells.map V.int)
def sp__law_state (K : PySem.W.Frag) : Sp := fun vs H Q _ => ∃ (x : Addr) (ns : List Int), vs = [.ref x] ∧ SqL K H x (ns.map V.int) ∧ ns.length ≤ 1000 ∧ ∀ s c m cells H', Hs H [(s, sto c m), (c, clo cells)] H' → Good m cells → Q (.ref s) H'
def sp__law_draw : Sp := fun vs H Q _ => ∃ (B : Hp) (s c : Addr) (m many : Int) (cells : List Int), vs = [.ref s, .int many] ∧ Hs B [(s, sto c m), (c, clo cells)] H ∧ Good m cells ∧ many < 1000000000 ∧
  ∀ r m' cells' H', Hs B [(s, sto c m'), (c, clo cells')] H' → Good m' cells' → (many < 1 → r = 0) → (1 ≤ many → 0 ≤ r ∧ r < many) → Q (.int r) H'
theorem abs_map (ns : List Int) (i : Nat) {x : V} (h : (ns.map V.int)[i]? = some x) : ∃ n, ns[i]? = some n ∧ x = .int n := by
  rw [List.getElem?_map] at h
  cases e : ns[i]? with
  | none =>
    rw [e] at h
    cases h
  | some n =>
    rw [e] at h
    exact ⟨n, rfl, (Option.some.inj h).symm⟩
theorem ok__law_state (T : Txt w K mg a) : FnOk P w K mg base CX0 1 a._law_state a.fd__law_state ["script"] (sp__law_state K) := by
  refine T.fn__law_state.ok sc__law_state (fun vs H Q E h => ?_) (fun cdv A outer s H vs Q E hr h => ?_)
  · obtain ⟨_, _, rfl, _⟩ := h
    rfl
  · obtain ⟨x, ns, rfl, hx, hl, k⟩ := h
    refine ⟨_, (pss_cons (ps_set (i := 1) sc__law_state.nd rfl (Or.inl rfl) pe_int)
  (pss_cons (ps_for PassesOwn.never rfl (pi_listK (K := K) (pv 0)) (pg_name (i := 2) sc__law_state.nd rfl (Or.inl rfl))
  (pss_one (ps_set (i := 1) sc__law_state.nd rfl (Or.inl rfl) (pe_op op_mod (pe_callTy call_intQ (by rfl) T.mg_int (by decide +kernel) (pa_cons (pe_op op_add (pe_op op_mul (pv 1) pe_int) (pv 2)) pa_nil)) pe_int))))
  (pss_one (ps_ret (pe_lst (pa_cons (pe_lc (own := [("cell", 2)]) (g := (gName 2)) (tt := tYes) rfl sc__law_state.nd (pi_listK (K := K) (pv 0)) (blkOk_by (own := [("cell", 2)]) (N := N__law_state) (sc := defScope s__law_state) (by decide +kernel)) (fun _ _ _ _ _ => by exact (pg_name (i := 2) sc__law_state.nd rfl (Or.inl rfl))) (fun _ _ _ _ _ => pts_nil) (fun _ _ _ _ _ => by exact (pe_callB call_absQ (by rfl) T.mg_abs (by decide +kernel) (pa_cons (pv 2) pa_nil)))) (pa_cons (pe_op op_add (pv 1) pe_int) pa_nil))))))), ?_⟩
    have hs : Hs H [] H := Hs.start H
    walk_at "ss"
    refine w_forL hx (fun i σ H' => ∃ (m : Int) (v : Option V), σ = [some (.ref x), some (.int m), v] ∧ 0 ≤ m ∧ m < 1000003 ∧ Hs H [] H') (fun Q q => ⟨_, rfl, q⟩) ⟨11, none, rfl, by omega, by omega, hs⟩ (fun i σ H' _ ⟨_, _, _, _, _, hs⟩ => hs.sql hx) ?_ ?_
    · rintro i y σ H' hi ⟨m, v, rfl, h0, h1, hs⟩
      obtain ⟨n, _, rfl⟩ := abs_map ns i hi
      walk_at "ss"
      refine ⟨(m * 37 + n) % 1000003, _, rfl, ?_, ?_, hs⟩
      · exact Int.emod_nonneg _ (by decide)
      · exact Int.emod_lt_of_pos _ (by decide)
    · rintro σ H' ⟨m, v, rfl, h0, h1, hs⟩
      walk_at "ss"
      have hx1 : SqL K H' x (ns.map V.int) := Hs.sql (by assumption) hx
      refine w_lc hx1 (fun D i H2 => ∃ acc : List Int, acc.length = i ∧ Hs H [(D, clo acc)] H2) (fun Q q => ⟨_, rfl, q⟩) (fun D hD => ⟨[], rfl, Hs.new (by assumption) hD⟩) (fun D i H2 _ ⟨_, _, hs⟩ => hs.sql hx) ?_ ?_
      · rintro D i y H2 hi ⟨acc, ha, hs⟩
        obtain ⟨n, _, rfl⟩ := abs_map ns i hi
        have hin : i < ns.length := by
          have := (List.getElem?_eq_some_iff.mp hi).1
          rwa [List.length_map] at this
        walk_at "ss"
        refine ⟨rfl, ?_⟩
        walk_at "ss"
        try (with_reducible refine iteT ?_)
        walk_at "ss"
        refine ⟨_, hs.g0, ?_, acc ++ [if n < 0 then -n else n], ?_, ?_⟩
        · refine szl ?_
          rw [List.length_map]
          omega
        · rw [List.length_append, ha]
          rfl
        · have := hs.p0 (.lst ((acc.map V.int) ++ [V.int (if n < 0 then -n else n)]))
          unfold clo
          rw [List.map_append]
          exact this
      · rintro D H2 ⟨acc, ha, hs⟩
        rw [List.length_map] at ha
        walk_at "ss"
        refine k _ D (m + 1) acc _ (by assumption) ⟨by omega, by omega, by omega⟩
theorem ok__law_draw (T : Txt w K mg a) : FnOk P w K mg base CX0 1 a._law_draw a.fd__law_draw ["state", "many"] sp__law_draw := by
  refine T.fn__law_draw.ok sc__law_draw (fun vs H Q E h => ?_) (fun cdv A outer s H vs Q E hr h => ?_)
  · obtain ⟨_, _, _, _, _, _, rfl, _⟩ := h
    rfl
  · obtain ⟨B, s, c, m, many, cells, rfl, hs, ⟨hm0, hm1, hl⟩, hmany, k⟩ := h
    refine ⟨_, (pss_cons (ps_if (pt_cmpR op_lt (pv 1) pe_int (nomark _))
  (pss_one (ps_ret pe_int))
  pss_nil)
  (pss_cons (ps_set (i := 2) sc__law_draw.nd rfl (Or.inl rfl) (pe_ix (ix_listK (K := K)) (pv 0) pe_int (fun _ _ => rfl)))
  (pss_cons (ps_for PassesOwn.never rfl (pi_range1 rfl T.mg_range (pa_cons (pe_callB (call_lenK (K := K)) (by rfl) T.mg_len PySem.boot_len (pa_cons (pv 2) pa_nil)) pa_nil)) (pg_name (i := 3) sc__law_draw.nd rfl (Or.inl rfl))
  (pss_one (ps_if (PW.pt (pw_and (pt_cmpR op_eq (pe_ix (ix_listK (K := K)) (pv 2) pe_int (fun _ _ => rfl)) pe_int (nomark _)) (pw_and1 (pt_cmpR op_gt (pe_callB (call_lenK (K := K)) (by rfl) T.mg_len PySem.boot_len (pa_cons (pv 2) pa_nil)) pe_int (nomark _)))))
  (pss_one (ps_expr (pe_bmK (K := K) PySem.F.plainAttrs_list PySem.F.slot_list_pop PySem.F.type_list_pop mt_popAt (pv 2) (pa_cons pe_int pa_nil))))
  pss_nil)))
  (pss_cons (ps_if (PW.pt (pw_and (pt_cmpR op_gt (pe_callB (call_lenK (K := K)) (by rfl) T.mg_len PySem.boot_len (pa_cons (pv 2) pa_nil)) pe_int (nomark _)) (pw_and1 (pt_cmpR op_gt (pe_ix (ix_listK (K := K)) (pv 2) pe_int (fun _ _ => rfl)) pe_int (nomark _)))))
  (pss_cons (ps_set (i := 4) sc__law_draw.nd rfl (Or.inl rfl) (pe_ix (ix_listK (K := K)) (pv 2) pe_int (fun _ _ => rfl)))
  (pss_cons (ps_asg (pe_op op_fdivW (pv 4) (pv 1)) (pg_sub (pv 2) pe_int set_list))
  (pss_one (ps_ret (pe_op op_mod (pe_callTy call_intQ (by rfl) T.mg_int (by decide +kernel) (pa_cons (pv 4) pa_nil)) (pv 1))))))
  pss_nil)
  (pss_cons (ps_set (i := 5) sc__law_draw.nd rfl (Or.inl rfl) (pe_op op_mod (pe_callTy call_intQ (by rfl) T.mg_int (by decide +kernel) (pa_cons (pe_op op_add (pe_op op_mul (pe_ix (ix_listK (K := K)) (pv 0) pe_int (fun _ _ => rfl)) pe_int) pe_int) pa_nil)) pe_int))
  (pss_cons (ps_asg (pv 5) (pg_sub (pv 0) pe_int set_list))
  (pss_one (ps_ret (pe_op op_mod (pe_callTy call_intQ (by rfl) T.mg_int (by decide +kernel) (pa_cons (pe_op op_fdivW (pv 5) pe_int) pa_nil)) (pv 1)))))))))), ?_⟩
    walk_at "ss"
    refine ifd (fun h => ?_) (fun h => ?_)
    · walk_at "ss"
      exact k 0 m cells _ hs ⟨hm0, hm1, hl⟩ (fun _ => rfl) (fun q => by omega)
    walk_at "ss"
    refine w_for1 ?_
    walk_at "ss"
    rw [List.length_map]
    refine w_forR (n := (cells.length : Int)) (by omega) (fun i σ H' => ∃ (cs : List Int) (v3 : Option V), σ = [some (.ref s), some (.int many), some (.ref c), v3, none, none] ∧ cs.length ≤ 1000 ∧ (0 < cells.length → cs ≠ []) ∧ Hs B [(s, sto c m), (c, clo cs)] H') (fun Q' q => q) (by omega) ⟨cells, none, rfl, hl, fun h => List.length_pos_iff.mp h, hs⟩ ?_ ?_
    · clear hs
      rintro i σ H' hi ⟨cs, v3, rfl, hl2, hne, hs⟩
      have hpos : 0 < cells.length := by omega
      cases cs with
      | nil => exact absurd rfl (hne hpos)
      | cons z cs =>
        rw [List.length_cons] at hl2
        walk_at "ss"
        refine ifd (fun hz => ?_) (fun hz => ?_)
        · walk_at "ss"
          refine ifd (fun h2 => ?_) (fun h2 => ?_)
          · walk_at "ss"
            refine w_popAt (k := 0) hs (by walk_at "p") rfl rfl (by walk_at "z") fun H2 hs2 => ?_
            refine ⟨cs, _, rfl, by omega, fun _ z => ?_, hs2⟩
            subst z
            simp at h2
          · walk_at "ss"
            exact ⟨z :: cs, _, rfl, by rw [List.length_cons]; omega, (fun _ z => by cases z), hs⟩
        · refine iteF ?_
          walk_at "ss"
          exact ⟨z :: cs, _, rfl, by rw [List.length_cons]; omega, (fun _ z => by cases z), hs⟩
    · clear hs
      rintro σ H' ⟨cs, v3, rfl, hl2, hne, hs⟩
      cases cs with
      | nil =>
        walk_at "ss"
        show if decide ((0 : Int) < ((0 : Nat) : Int)) = true then _ else _
        refine iteF ?_
        try (with_reducible refine iteF ?_)
        walk_at "ss"
        rename_i H2 hs2
        clear hs
        have e1 : 0 ≤ (m * 48271 + 12345) % 2147483647 := Int.emod_nonneg _ (by decide)
        have e2 : (m * 48271 + 12345) % 2147483647 < 2147483647 := Int.emod_lt_of_pos _ (by decide)
        generalize (m * 48271 + 12345) % 2147483647 = mm at e1 e2 hs2 ⊢
        refine w_I ⟨by decide, by decide⟩ ?_
        walk_at "ss"
        refine k _ mm [] _ hs2 ⟨e1, by omega, hl2⟩ (fun q => by omega) fun q => ⟨Int.emod_nonneg _ (by omega), Int.emod_lt_of_pos _ (by omega)⟩
      | cons z cs =>
        have hl3 : cs.length + 1 ≤ 1000 := by rw [List.length_cons] at hl2; exact hl2
        walk_at "ss"
        refine ifd (fun _ => ?_) (fun q => absurd (show (0 : Int) < _ from by simp only [List.map_cons, List.length_cons]; omega) q)
        walk_at "ss"
        refine ifd (fun hz => ?_) (fun hz => ?_)
        · walk_at "ss"
          refine w_I ⟨by omega, ?_⟩ ?_
          · refine PySem.Flt.log2_lt_of (by decide) (Nat.lt_of_lt_of_le (show many.natAbs < 2 ^ 30 by omega) (Nat.pow_le_pow_right (by decide) (by decide)))
          walk_at "ss"
          rename_i H2 hs2
          refine k _ m ((z / many) :: cs) _ hs2 ⟨hm0, hm1, by rw [List.length_cons]; omega⟩ (fun q => by omega) fun q => ⟨Int.emod_nonneg _ (by omega), Int.emod_lt_of_pos _ (by omega)⟩
        · walk_at "ss"
          rename_i H2 hs2
          clear hs
          have e1 : 0 ≤ (m * 48271 + 12345) % 2147483647 := Int.emod_nonneg _ (by decide)
          have e2 : (m * 48271 + 12345) % 2147483647 < 2147483647 := Int.emod_lt_of_pos _ (by decide)
          generalize (m * 48271 + 12345) % 2147483647 = mm at e1 e2 hs2 ⊢
          refine w_I ⟨by decide, by decide⟩ ?_
          walk_at "ss"
          refine k _ mm (z :: cs) _ hs2 ⟨e1, by omega, hl2⟩ (fun q => by omega) fun q => ⟨Int.emod_nonneg _ (by omega), Int.emod_lt_of_pos _ (by omega)⟩
theorem w_draw {B H : Hp} {Q : VK} {E : XK} {s c : Addr} {m many : Int} {cells : List Int} {R : List (Addr × HO)} (hs : Hs B ((s, sto c m) :: (c, clo cells) :: R) H) (g : Good m cells) (hm : many < 1000000000)
    (q : ∀ r m' cells' H', Hs B ((s, sto c m') :: (c, clo cells') :: R) H' → Good m' cells' → (many < 1 → r = 0) → (1 ≤ many → 0 ≤ r ∧ r < many) → Q (.int r) H') : sp__law_draw [.ref s, .int many] H Q E := by
  obtain ⟨B', _, h1, back⟩ := hs.frame2
  exact ⟨B', s, c, m, many, cells, rfl, h1, g, hm, fun r m' cells' H' h2 => q r m' cells' H' (back _ _ h2)⟩
end
/-! ## what graphs are -/
def flatE (ls : List Lk) : List E2 := ls.flatMap fun l => [l.1, l.2]
structure Gd (ls : List Lk) : Prop where
  rng : ∀ l ∈ ls, isEnd 6 l.1 = true ∧ isEnd 6 l.2 = true
  dif : ∀ l ∈ ls, l.1.1 < l.2.1
  nd : (flatE ls).Nodup
theorem isEnd_iff {cnt : Int} {x : E2} : isEnd cnt x = true ↔ (1 ≤ x.1 ∧ x.1 ≤ cnt) ∧ 1 ≤ x.2 ∧ x.2 ≤ 6 := by
  unfold isEnd
  simp
theorem mem_flatE {ls : List Lk} {e : E2} : e ∈ flatE ls ↔ ∃ l ∈ ls, l.1 = e ∨ l.2 = e := by
  unfold flatE
  rw [List.mem_flatMap]
  constructor
  · rintro ⟨l, hl, h⟩
    refine ⟨l, hl, ?_⟩
    simp at h
    rcases h with h | h
    · exact .inl h.symm
    · exact .inr h.symm
  · rintro ⟨l, hl, h⟩
    refine ⟨l, hl, ?_⟩
    simp
    rcases h with h | h
    · exact .inl h.symm
    · exact .inr h.symm
theorem flat_sub {ls ms : List Lk} (h : ms.Sublist ls) : (flatE ms).Sublist (flatE ls) := by
  unfold flatE
  induction h with
  | slnil => exact List.Sublist.refl _
  | cons a _ ih =>
    rw [List.flatMap_cons]
    exact ih.trans (List.sublist_append_right _ _)
  | cons_cons a _ ih =>
    rw [List.flatMap_cons, List.flatMap_cons]
    exact (List.Sublist.refl _).append ih
theorem Gd.sub {ls ms : List Lk} (g : Gd ls) (h : ms.Sublist ls) : Gd ms :=
  ⟨fun l hl => g.rng l (h.subset hl), fun l hl => g.dif l (h.subset hl), g.nd.sublist (flat_sub h)⟩
theorem has_iff {x : E2} {l : Lk} : has x l = true ↔ l.1 = x ∨ l.2 = x := by
  unfold has
  simp
theorem has_uniq : ∀ {ls : List Lk}, (flatE ls).Nodup → ∀ {l m : Lk} {e : E2}, l ∈ ls → m ∈ ls → has e l = true → has e m = true → l = m
  | [], _, _, _, _, h, _, _, _ => nomatch h
  | x :: ls, nd, l, m, e, hl, hm, h1, h2 => by
    have e1 : flatE (x :: ls) = [x.1, x.2] ++ flatE ls := rfl
    rw [e1, List.nodup_append] at nd
    have dis : ∀ y : Lk, y ∈ ls → has e y = true → has e x = true → False := fun y hy k1 k2 => by
      have a : e ∈ [x.1, x.2] := by
        rcases has_iff.mp k2 with z | z
        · rw [← z]; simp
        · rw [← z]; simp
      exact nd.2.2 _ a _ (mem_flatE.mpr ⟨y, hy, has_iff.mp k1⟩) rfl
    rcases List.mem_cons.mp hl with e3 | h3
    · rcases List.mem_cons.mp hm with e4 | h4
      · rw [e3, e4]
      · rw [e3] at h1
        exact (dis m h4 h2 h1).elim
    · rcases List.mem_cons.mp hm with e4 | h4
      · rw [e4] at h2
        exact (dis l h3 h1 h2).elim
      · exact has_uniq nd.2.1 h3 h4 h1 h2
theorem peer_of {ls : List Lk} {e o : E2} (h : peerM ls e = some o) : ∃ l ∈ ls, (l.1 = e ∧ l.2 = o) ∨ (l.2 = e ∧ l.1 = o) := by
  obtain ⟨l, hl, rfl⟩ := Option.map_eq_some_iff.mp h
  refine ⟨l, List.mem_of_find?_eq_some hl, ?_⟩
  have := has_iff.mp (List.find?_some hl)
  by_cases h1 : l.1 = e
  · exact .inl ⟨h1, (if_pos h1).symm⟩
  · exact .inr ⟨this.resolve_left h1, (if_neg h1).symm⟩
theorem peer_none {ls : List Lk} {e : E2} : peerM ls e = none ↔ ∀ l ∈ ls, has e l = false := by
  unfold peerM
  rw [Option.map_eq_none_iff, List.find?_eq_none]
  simp
theorem peer_l {ls : List Lk} (g : Gd ls) {l : Lk} (hl : l ∈ ls) : peerM ls l.1 = some l.2 ∧ peerM ls l.2 = some l.1 := by
  have key : ∀ e, has e l = true → peerM ls e = some (if l.1 = e then l.2 else l.1) := fun e he => by
    cases hf : ls.find? (has e) with
    | none => exact absurd (List.find?_eq_none.mp hf l hl) (by rw [he]; simp)
    | some m =>
      have : m = l := has_uniq g.nd (List.mem_of_find?_eq_some hf) hl (List.find?_some hf) he
      subst this
      unfold peerM
      rw [hf]
      rfl
  have hne : l.1 ≠ l.2 := fun h => by
    have := g.dif l hl
    rw [h] at this
    omega
  refine ⟨?_, ?_⟩
  · rw [key _ (has_iff.mpr (.inl rfl)), if_pos rfl]
  · rw [key _ (has_iff.mpr (.inr rfl)), if_neg hne]
/-! ## what is joined -/
def adj (ls : List Lk) (s t : Int) : Prop := ∃ l ∈ ls, (l.1.1 = s ∧ l.2.1 = t) ∨ (l.2.1 = s ∧ l.1.1 = t)
inductive Rch (ls : List Lk) (s : Int) : Int → Prop
  | refl : Rch ls s s
  | step {t u : Int} : Rch ls s t → adj ls t u → Rch ls s u
theorem adj.symm {ls : List Lk} {s t : Int} (h : adj ls s t) : adj ls t s := by
  obtain ⟨l, hl, h⟩ := h
  exact ⟨l, hl, h.elim (fun z => .inr ⟨z.2, z.1⟩) fun z => .inl ⟨z.2, z.1⟩⟩
theorem Rch.cons {ls : List Lk} {s t u : Int} (h : adj ls s t) (r : Rch ls t u) : Rch ls s u := by
  induction r with
  | refl => exact .step .refl h
  | step _ a ih => exact .step ih a
theorem Rch.symm {ls : List Lk} {s t : Int} (r : Rch ls s t) : Rch ls t s := by
  induction r with
  | refl => exact .refl
  | step _ a ih => exact Rch.cons a.symm ih
/-- nothing that is next to f lies outside -/
def okL (f : List Int) (l : Lk) : Prop := l.1.1 ∈ f ↔ l.2.1 ∈ f
def closedF (ls : List Lk) (f : List Int) : Prop := ∀ l ∈ ls, okL f l
theorem closed_all {ls : List Lk} {f : List Int} (c : closedF ls f) {s t : Int} (hs : s ∈ f) (r : Rch ls s t) : t ∈ f := by
  induction r with
  | refl => exact hs
  | step _ a ih =>
    obtain ⟨l, hl, ⟨h1, h2⟩ | ⟨h1, h2⟩⟩ := a
    · rw [← h2]; exact (c l hl).mp (h1 ▸ ih)
    · rw [← h2]; exact (c l hl).mpr (h1 ▸ ih)
theorem adj_rng {ls : List Lk} (g : Gd ls) {s t : Int} (h : adj ls s t) : 1 ≤ t ∧ t ≤ 6 := by
  obtain ⟨l, hl, h⟩ := h
  have := g.rng l hl
  have a := (isEnd_iff.mp this.1).1
  have b := (isEnd_iff.mp this.2).1
  rcases h with ⟨_, h⟩ | ⟨_, h⟩ <;> rw [← h] <;> assumption
theorem rch_rng {ls : List Lk} (g : Gd ls) {s t : Int} (hs : 1 ≤ s ∧ s ≤ 6) (r : Rch ls s t) : 1 ≤ t ∧ t ≤ 6 := by
  cases r with
  | refl => exact hs
  | step _ a => exact adj_rng g a
theorem few {f : List Int} (nd : f.Nodup) (h : ∀ x ∈ f, 1 ≤ x ∧ x ≤ 6) : f.length ≤ 6 := by
  have key : ∀ (k : Nat) (f : List Int), f.Nodup → (∀ x ∈ f, 1 ≤ x ∧ x ≤ (k : Int)) → f.length ≤ k := fun k => by
    induction k with
    | zero =>
      intro f _ h
      cases f with
      | nil => exact Nat.le_refl _
      | cons x f =>
        have := h x List.mem_cons_self
        omega
    | succ k ih =>
      intro f nd h
      have h1 := ih (f.erase ((k : Int) + 1)) (nd.erase _) fun x hx => by
        have h2 := (nd.mem_erase_iff).mp hx
        have := h x h2.2
        have := h2.1
        omega
      have h3 : f.length ≤ (f.erase ((k : Int) + 1)).length + 1 := by
        rw [List.length_erase]
        split <;> omega
      omega
  exact key 6 f nd h
/-- the two ways of finding: sets of the switches that are reached -/
structure Near (ls : List Lk) (s : Int) (f : List Int) : Prop where
  nd : f.Nodup
  me : s ∈ f
  sub : ∀ x ∈ f, Rch ls s x
theorem Near.one (ls : List Lk) (s : Int) : Near ls s [s] := ⟨(by simp), List.mem_singleton.mpr rfl, fun x h => by rw [List.mem_singleton.mp h]; exact .refl⟩
theorem Near.add {ls : List Lk} {s : Int} {f : List Int} (h : Near ls s f) {a b : Int} (ha : a ∈ f) (hb : b ∉ f) (hab : adj ls a b) : Near ls s (f ++ [b]) := by
  refine ⟨List.nodup_append.mpr ⟨h.nd, (by simp), fun x hx y hy e => ?_⟩, List.mem_append_left _ h.me, fun x hx => ?_⟩
  · rw [List.mem_singleton.mp hy] at e
    exact hb (e ▸ hx)
  · rcases List.mem_append.mp hx with hx | hx
    · exact h.sub x hx
    · rw [List.mem_singleton.mp hx]
      exact .step (h.sub a ha) hab
theorem Near.all {ls : List Lk} {s : Int} {f : List Int} (h : Near ls s f) (c : closedF ls f) {x : Int} : x ∈ f ↔ Rch ls s x := ⟨h.sub x, closed_all c h.me⟩
theorem Near.few {ls : List Lk} (g : Gd ls) {s : Int} (hs : 1 ≤ s ∧ s ≤ 6) {f : List Int} (h : Near ls s f) : f.length ≤ 6 := K46.few h.nd fun x hx => rch_rng g hs (h.sub x hx)
theorem sorted_uniq : ∀ {l m : List Int}, l.Pairwise (· < ·) → m.Pairwise (· < ·) → (∀ x, x ∈ l ↔ x ∈ m) → l = m
  | [], [], _, _, _ => rfl
  | [], y :: m, _, _, h => nomatch (h y).mpr List.mem_cons_self
  | x :: l, [], _, _, h => nomatch (h x).mp List.mem_cons_self
  | x :: l, y :: m, hl, hm, h => by
    have a := List.pairwise_cons.mp hl
    have b := List.pairwise_cons.mp hm
    have e : x = y := by
      rcases List.mem_cons.mp ((h x).mp List.mem_cons_self) with e | h1
      · exact e
      · rcases List.mem_cons.mp ((h y).mpr List.mem_cons_self) with e | h2
        · exact e.symm
        · have := b.1 x h1
          have := a.1 y h2
          omega
    subst e
    rw [sorted_uniq a.2 b.2 fun z => ⟨fun hz => ?_, fun hz => ?_⟩]
    · rcases List.mem_cons.mp ((h z).mp (List.mem_cons_of_mem _ hz)) with rfl | h1
      · exact absurd (a.1 z hz) (by omega)
      · exact h1
    · rcases List.mem_cons.mp ((h z).mpr (List.mem_cons_of_mem _ hz)) with rfl | h1
      · exact absurd (b.1 z hz) (by omega)
      · exact h1
/-! ## the tree -/
abbrev Par := List (Int × E2)
abbrev TSt := List Int × Par
def tstep (ls : List Lk) (st : TSt) (e : E2) : TSt := match peerM ls e with
  | none => st
  | some o => if o.1 ∈ st.1 then st else (st.1 ++ [o.1], st.2 ++ [(o.1, e)])
def six (s : Int) : List E2 := [(s, 1), (s, 2), (s, 3), (s, 4), (s, 5), (s, 6)]
def tout (ls : List Lk) (st : TSt) (i : Nat) : TSt := match st.1[i]? with
  | none => st
  | some s => (six s).foldl (tstep ls) st
def trow (ls : List Lk) : Nat → TSt
  | 0 => ([1], [])
  | n + 1 => tout ls (trow ls n) n
def treeM (ls : List Lk) : TSt := trow ls 8
structure TI (ls : List Lk) (st : TSt) : Prop where
  hd : st.1 = 1 :: st.2.map (·.1)
  nd : st.1.Nodup
  par : ∀ (j : Nat) (t : Int) (e : E2), st.2[j]? = some (t, e) → (∃ i, i ≤ j ∧ st.1[i]? = some e.1) ∧ ∃ o, peerM ls e = some o ∧ o.1 = t
theorem TI.step {ls : List Lk} {st : TSt} (h : TI ls st) {e : E2} (he : e.1 ∈ st.1) : TI ls (tstep ls st e) := by
  unfold tstep
  cases hp : peerM ls e with
  | none => exact h
  | some o =>
    show TI ls (if o.1 ∈ st.1 then st else _)
    by_cases hm : o.1 ∈ st.1
    · rw [if_pos hm]; exact h
    · rw [if_neg hm]
      refine ⟨?_, List.nodup_append.mpr ⟨h.nd, (by simp), fun x hx y hy e => hm ?_⟩, fun j t e' hj => ?_⟩
      · show st.1 ++ [o.1] = 1 :: (st.2 ++ [(o.1, e)]).map (·.1)
        rw [h.hd, List.map_append]
        rfl
      · rw [List.mem_singleton.mp hy] at e
        exact e ▸ hx
      · have hlen : st.1.length = st.2.length + 1 := by
          rw [h.hd, List.length_cons, List.length_map]
        have hj' : (st.2 ++ [(o.1, e)])[j]? = some (t, e') := hj
        by_cases hlt : j < st.2.length
        · rw [List.getElem?_append_left hlt] at hj'
          obtain ⟨⟨i, h1, h2⟩, h3⟩ := h.par j t e' hj'
          refine ⟨⟨i, h1, ?_⟩, h3⟩
          show (st.1 ++ [o.1])[i]? = _
          rw [List.getElem?_append_left (by omega)]
          exact h2
        · rw [List.getElem?_append_right (by omega)] at hj'
          have hz : j - st.2.length = 0 := by
            cases q : j - st.2.length with
            | zero => rfl
            | succ n => rw [q] at hj'; simp at hj'
          rw [hz] at hj'
          simp at hj'
          obtain ⟨rfl, rfl⟩ := hj'
          obtain ⟨i, hi, hie⟩ := List.getElem_of_mem he
          refine ⟨⟨i, by omega, ?_⟩, o, hp, rfl⟩
          show (st.1 ++ [o.1])[i]? = _
          rw [List.getElem?_append_left hi, List.getElem?_eq_getElem hi, hie]
theorem tstep_pre (ls : List Lk) (st : TSt) (e : E2) : st.1 <+: (tstep ls st e).1 := by
  unfold tstep
  cases peerM ls e with
  | none => exact List.prefix_refl _
  | some o =>
    show st.1 <+: (if o.1 ∈ st.1 then st else _).1
    by_cases hm : o.1 ∈ st.1
    · rw [if_pos hm]; exact List.prefix_refl _
    · rw [if_neg hm]; exact List.prefix_append _ _
theorem fold_pre (ls : List Lk) : ∀ (es : List E2) (st : TSt), st.1 <+: (es.foldl (tstep ls) st).1
  | [], _ => List.prefix_refl _
  | e :: es, st => (tstep_pre ls st e).trans (fold_pre ls es _)
theorem TI.fold {ls : List Lk} {s : Int} : ∀ {es : List E2} {st : TSt}, TI ls st → s ∈ st.1 → (∀ e ∈ es, e.1 = s) → TI ls (es.foldl (tstep ls) st)
  | [], _, h, _, _ => h
  | e :: es, st, h, hs, he => TI.fold (es := es) (st := tstep ls st e) (h.step (by rw [he e List.mem_cons_self]; exact hs)) ((tstep_pre ls st e).subset hs) fun x hx => he x (List.mem_cons_of_mem _ hx)
theorem six_fst {s : Int} : ∀ e ∈ six s, e.1 = s := by
  intro e he
  unfold six at he
  simp at he
  rcases he with h | h | h | h | h | h <;> rw [h]
theorem TI.out {ls : List Lk} {st : TSt} (h : TI ls st) (i : Nat) : TI ls (tout ls st i) := by
  unfold tout
  cases hi : st.1[i]? with
  | none => exact h
  | some s => exact h.fold (List.mem_of_getElem? hi) six_fst
theorem tout_pre (ls : List Lk) (st : TSt) (i : Nat) : st.1 <+: (tout ls st i).1 := by
  unfold tout
  cases st.1[i]? with
  | none => exact List.prefix_refl _
  | some s => exact fold_pre ls _ _
theorem TI.row (ls : List Lk) : ∀ n, TI ls (trow ls n)
  | 0 => ⟨rfl, by unfold trow; exact (by simp), fun j t e h => by unfold trow at h; simp at h⟩
  | n + 1 => (TI.row ls n).out n
theorem TI.mem1 {ls : List Lk} {st : TSt} (h : TI ls st) : (1 : Int) ∈ st.1 := by
  rw [h.hd]
  exact List.mem_cons_self
theorem TI.mem {ls : List Lk} {st : TSt} (h : TI ls st) {x : Int} : x ∈ st.1 ↔ x = 1 ∨ ∃ e, (x, e) ∈ st.2 := by
  rw [h.hd, List.mem_cons, List.mem_map]
  refine or_congr Iff.rfl ⟨fun ⟨p, hp, e⟩ => ⟨p.2, by rw [← e]; exact hp⟩, fun ⟨e, he⟩ => ⟨_, he, rfl⟩⟩
theorem adj_peer {ls : List Lk} {e o : E2} (h : peerM ls e = some o) : adj ls e.1 o.1 := by
  obtain ⟨l, hl, ⟨h1, h2⟩ | ⟨h1, h2⟩⟩ := peer_of h
  · exact ⟨l, hl, .inl ⟨by rw [h1], by rw [h2]⟩⟩
  · exact ⟨l, hl, .inr ⟨by rw [h1], by rw [h2]⟩⟩
theorem TI.rch {ls : List Lk} {st : TSt} (h : TI ls st) : ∀ (i : Nat) (x : Int), st.1[i]? = some x → Rch ls 1 x := by
  intro i
  induction i using Nat.strongRecOn with
  | ind i ih =>
    intro x hx
    have hx' := hx
    rw [h.hd] at hx
    cases i with
    | zero =>
      cases hx
      exact .refl
    | succ j =>
      rw [List.getElem?_cons_succ, List.getElem?_map] at hx
      obtain ⟨⟨t, e⟩, hj, rfl⟩ := Option.map_eq_some_iff.mp hx
      obtain ⟨⟨k, hk, hke⟩, o, ho, hot⟩ := h.par j t e hj
      refine Rch.step (ih k (by omega) _ hke) ?_
      have := adj_peer ho
      rw [hot] at this
      exact this
theorem TI.rng {ls : List Lk} (g : Gd ls) {st : TSt} (h : TI ls st) : ∀ x ∈ st.1, 1 ≤ x ∧ x ≤ 6 := fun x hx => by
  obtain ⟨i, hi⟩ := List.mem_iff_getElem?.mp hx
  exact rch_rng g (by omega) (h.rch i x hi)
theorem TI.few {ls : List Lk} (g : Gd ls) {st : TSt} (h : TI ls st) : st.1.length ≤ 6 := K46.few h.nd (h.rng g)
theorem tout_end {ls : List Lk} {st : TSt} {i : Nat} (h : st.1.length ≤ i) : tout ls st i = st := by
  unfold tout
  rw [List.getElem?_eq_none h]
theorem trow_end {ls : List Lk} {n : Nat} (h : (trow ls n).1.length ≤ n) : ∀ m, n ≤ m → trow ls m = trow ls n := by
  intro m hm
  induction m with
  | zero =>
    have : n = 0 := by omega
    subst this
    rfl
  | succ m ih =>
    by_cases hnm : n = m + 1
    · rw [hnm]
    · have e := ih (by omega)
      show tout ls (trow ls m) m = _
      rw [e]
      exact tout_end (by omega)
theorem tree_end {ls : List Lk} {n : Nat} (h : (trow ls n).1.length ≤ n) (h8 : n ≤ 8) : trow ls n = treeM ls := (trow_end h 8 h8).symm
/-- behind a switch's turn its peers are found -/
theorem tstep_has {ls : List Lk} {st : TSt} {e o : E2} (h : peerM ls e = some o) : o.1 ∈ (tstep ls st e).1 := by
  unfold tstep
  rw [h]
  show o.1 ∈ (if o.1 ∈ st.1 then st else _).1
  by_cases hm : o.1 ∈ st.1
  · rw [if_pos hm]; exact hm
  · rw [if_neg hm]; exact List.mem_append_right _ (List.mem_singleton.mpr rfl)
theorem fold_has {ls : List Lk} {e o : E2} (h : peerM ls e = some o) : ∀ {es : List E2} {st : TSt}, e ∈ es → o.1 ∈ (es.foldl (tstep ls) st).1
  | x :: es, st, he => by
    rcases List.mem_cons.mp he with rfl | he
    · exact (fold_pre ls es _).subset (tstep_has h)
    · exact fold_has h (es := es) he
theorem six_of {e : E2} (h : 1 ≤ e.2 ∧ e.2 ≤ 6) : e ∈ six e.1 := by
  obtain ⟨a, b⟩ := e
  obtain ⟨h1, h2⟩ := h
  unfold six
  have : b = 1 ∨ b = 2 ∨ b = 3 ∨ b = 4 ∨ b = 5 ∨ b = 6 := by
    have h1 : 1 ≤ b := h1
    have h2 : b ≤ 6 := h2
    omega
  rcases this with rfl | rfl | rfl | rfl | rfl | rfl <;> simp
theorem trow_has {ls : List Lk} : ∀ (n i : Nat), i < n → ∀ {s : Int} {e o : E2}, (trow ls n).1[i]? = some s → e.1 = s → 1 ≤ e.2 ∧ e.2 ≤ 6 → peerM ls e = some o → o.1 ∈ (trow ls n).1
  | n + 1, i, hi, s, e, o, hs, he, hr, hp => by
    have pre := tout_pre ls (trow ls n) n
    show o.1 ∈ (tout ls (trow ls n) n).1
    by_cases hin : i < (trow ls n).1.length
    · have hs0 : (trow ls n).1[i]? = some s := by
        obtain ⟨t, ht⟩ := pre
        have : (tout ls (trow ls n) n).1[i]? = some s := hs
        rw [← ht, List.getElem?_append_left hin] at this
        exact this
      by_cases h2 : i = n
      · subst h2
        unfold tout
        rw [hs0]
        exact fold_has hp (by rw [← he]; exact six_of hr)
      · exact pre.subset (trow_has n i (by omega) hs0 he hr hp)
    · have : tout ls (trow ls n) n = trow ls n := tout_end (by omega)
      have hs' : (tout ls (trow ls n) n).1[i]? = some s := hs
      rw [this, List.getElem?_eq_none (by omega)] at hs'
      cases hs'
theorem tree_closed {ls : List Lk} (g : Gd ls) : closedF ls (treeM ls).1 := by
  have hi := TI.row ls 8
  have hf := hi.few g
  have key : ∀ l ∈ ls, ∀ e o : E2, has e l = true → peerM ls e = some o → 1 ≤ e.2 ∧ e.2 ≤ 6 → e.1 ∈ (treeM ls).1 → o.1 ∈ (treeM ls).1 := fun l hl e o he ho hr hm => by
    obtain ⟨i, hi⟩ := List.mem_iff_getElem?.mp hm
    have := (List.getElem?_eq_some_iff.mp hi).1
    exact trow_has 8 i (by unfold treeM at this; omega) hi rfl hr ho
  intro l hl
  have p := peer_l g hl
  have r := g.rng l hl
  have r1 := (isEnd_iff.mp r.1).2
  have r2 := (isEnd_iff.mp r.2).2
  exact ⟨fun h => key l hl l.1 l.2 (has_iff.mpr (.inl rfl)) p.1 r1 h, fun h => key l hl l.2 l.1 (has_iff.mpr (.inr rfl)) p.2 r2 h⟩
theorem tree_rch {ls : List Lk} (g : Gd ls) {x : Int} : x ∈ (treeM ls).1 ↔ Rch ls 1 x := by
  refine ⟨fun h => ?_, closed_all (tree_closed g) (TI.row ls 8).mem1⟩
  obtain ⟨i, hi⟩ := List.mem_iff_getElem?.mp h
  exact (TI.row ls 8).rch i x hi
/-! ## ends at a switch: what is to be asked -/
def ltE' (x y : E2) : Prop := x.1 < y.1 ∨ (x.1 = y.1 ∧ x.2 < y.2)
instance (x y : E2) : Decidable (ltE' x y) := inferInstanceAs (Decidable (_ ∨ _))
theorem raw_eq (ls : List Lk) (s : Int) : rawEnds ls s = (flatE ls).filter fun x => decide (x.1 = s) := by
  unfold rawEnds flatE
  induction ls with
  | nil => rfl
  | cons l ls ih => rw [List.flatMap_cons, List.flatMap_cons, List.filter_append, ih]
theorem mem_raw {ls : List Lk} {s : Int} {e : E2} : e ∈ rawEnds ls s ↔ e.1 = s ∧ peerM ls e ≠ none := by
  rw [raw_eq, List.mem_filter, mem_flatE]
  constructor
  · rintro ⟨⟨l, hl, h⟩, hs⟩
    refine ⟨of_decide_eq_true hs, fun hn => ?_⟩
    have := peer_none.mp hn l hl
    rw [has_iff.mpr h] at this
    cases this
  · rintro ⟨hs, hn⟩
    refine ⟨?_, decide_eq_true hs⟩
    cases hp : peerM ls e with
    | none => exact absurd hp hn
    | some o =>
      obtain ⟨l, hl, ⟨h1, _⟩ | ⟨h1, _⟩⟩ := peer_of hp
      · exact ⟨l, hl, .inl h1⟩
      · exact ⟨l, hl, .inr h1⟩
theorem ltE_uniq : ∀ {l m : List E2}, l.Pairwise ltE' → m.Pairwise ltE' → (∀ x, x ∈ l ↔ x ∈ m) → l = m
  | [], [], _, _, _ => rfl
  | [], y :: m, _, _, h => nomatch (h y).mpr List.mem_cons_self
  | x :: l, [], _, _, h => nomatch (h x).mp List.mem_cons_self
  | x :: l, y :: m, hl, hm, h => by
    have a := List.pairwise_cons.mp hl
    have b := List.pairwise_cons.mp hm
    have e : x = y := by
      rcases List.mem_cons.mp ((h x).mp List.mem_cons_self) with e | h1
      · exact e
      · rcases List.mem_cons.mp ((h y).mpr List.mem_cons_self) with e | h2
        · exact e.symm
        · have p := b.1 x h1
          have q := a.1 y h2
          unfold ltE' at p q
          omega
    subst e
    rw [ltE_uniq a.2 b.2 fun z => ⟨fun hz => ?_, fun hz => ?_⟩]
    · rcases List.mem_cons.mp ((h z).mp (List.mem_cons_of_mem _ hz)) with e | h1
      · subst e
        have p := a.1 z hz
        unfold ltE' at p
        omega
      · exact h1
    · rcases List.mem_cons.mp ((h z).mpr (List.mem_cons_of_mem _ hz)) with e | h1
      · subst e
        have p := b.1 z hz
        unfold ltE' at p
        omega
      · exact h1
theorem six_sorted (s : Int) : (six s).Pairwise ltE' := by
  unfold six ltE'
  simp
def asked (ls : List Lk) (s : Int) : List E2 := (six s).filter fun e => (peerM ls e).isSome
theorem asked_uniq {ls : List Lk} (g : Gd ls) {s : Int} {es : List E2} (p : es.Perm (rawEnds ls s)) (h : es.Pairwise ltE') : es = asked ls s := by
  refine ltE_uniq h ((six_sorted s).filter _) fun e => ?_
  rw [p.mem_iff, mem_raw]
  unfold asked
  rw [List.mem_filter]
  constructor
  · rintro ⟨h1, h2⟩
    cases hp : peerM ls e with
    | none => exact absurd hp h2
    | some o =>
      refine ⟨?_, rfl⟩
      obtain ⟨l, hl, hh⟩ := peer_of hp
      have r := g.rng l hl
      have : 1 ≤ e.2 ∧ e.2 ≤ 6 := by
        rcases hh with ⟨h3, _⟩ | ⟨h3, _⟩
        · rw [← h3]; exact (isEnd_iff.mp r.1).2
        · rw [← h3]; exact (isEnd_iff.mp r.2).2
      rw [← h1]
      exact six_of this
  · rintro ⟨h1, h2⟩
    refine ⟨six_fst e h1, fun hn => ?_⟩
    rw [hn] at h2
    cases h2
theorem raw_nd {ls : List Lk} (g : Gd ls) (s : Int) : (rawEnds ls s).Nodup := by
  rw [raw_eq]
  exact g.nd.filter _
theorem fold_asked (ls : List Lk) : ∀ (es : List E2) (st : TSt), (es.filter fun e => (peerM ls e).isSome).foldl (tstep ls) st = es.foldl (tstep ls) st
  | [], _ => rfl
  | e :: es, st => by
    rw [List.filter_cons]
    cases hp : peerM ls e with
    | none =>
      have : tstep ls st e = st := by
        unfold tstep
        rw [hp]
      rw [List.foldl_cons, this]
      exact fold_asked ls es st
    | some o => exact fold_asked ls es _
/-! ## ways and what hangs -/
def getP (par : Par) (t : Int) : Option E2 := par.lookup t
theorem TI.get {ls : List Lk} {st : TSt} (h : TI ls st) {t : Int} {e : E2} : getP st.2 t = some e ↔ (t, e) ∈ st.2 := by
  have nd : (st.2.map (·.1)).Nodup := by
    have := h.nd
    rw [h.hd] at this
    exact (List.nodup_cons.mp this).2
  unfold getP
  generalize st.2 = l at nd
  induction l with
  | nil => simp
  | cons x l ih =>
    obtain ⟨k, v⟩ := x
    rw [List.map_cons, List.nodup_cons] at nd
    rw [List.lookup_cons]
    by_cases hk : t = k
    · subst hk
      simp
      constructor
      · rintro rfl
        exact .inl rfl
      · rintro (h | h)
        · exact h.symm
        · exact absurd (List.mem_map_of_mem (f := (·.1)) h) nd.1
    · have : (t == k) = false := by simpa using hk
      rw [this]
      simp [hk]
      exact ih nd.2
theorem nd_ix {f : List Int} (nd : f.Nodup) {i k : Nat} {x : Int} (h1 : f[i]? = some x) (h2 : f[k]? = some x) : i = k :=
  (List.getElem?_inj (List.getElem?_eq_some_iff.mp h1).1 nd).mp (h1.trans h2.symm)
def at_ (st : TSt) (x : Int) (i : Nat) : Prop := st.1[i]? = some x
theorem TI.up {ls : List Lk} {st : TSt} (h : TI ls st) {x : Int} {i : Nat} (hx : at_ st x i) : (i = 0 ∧ x = 1) ∨ (x ≠ 1 ∧ ∃ e k, getP st.2 x = some e ∧ k < i ∧ at_ st e.1 k) := by
  have hx0 := hx
  unfold at_ at hx
  rw [h.hd] at hx
  cases i with
  | zero =>
    cases hx
    exact .inl ⟨rfl, rfl⟩
  | succ j =>
    refine .inr ⟨fun hx1 => ?_, ?_⟩
    · have h0 : st.1[0]? = some 1 := by rw [h.hd]; rfl
      have h1 : st.1[j + 1]? = some 1 := hx1 ▸ hx0
      have := nd_ix h.nd h0 h1
      omega
    · rw [List.getElem?_cons_succ, List.getElem?_map] at hx
      obtain ⟨⟨t, e⟩, hj, rfl⟩ := Option.map_eq_some_iff.mp hx
      obtain ⟨⟨k, hk, hke⟩, _⟩ := h.par j t e hj
      exact ⟨e, k, h.get.mpr (List.mem_of_getElem? hj), by omega, hke⟩
theorem TI.ix {ls : List Lk} {st : TSt} (h : TI ls st) {x : Int} (hx : x ∈ st.1) : ∃ i, at_ st x i := List.mem_iff_getElem?.mp hx
theorem TI.ixU {ls : List Lk} {st : TSt} (h : TI ls st) {x : Int} {i k : Nat} (h1 : at_ st x i) (h2 : at_ st x k) : i = k := nd_ix h.nd h1 h2
def wayN (par : Par) : Nat → Int → List E2
  | 0, _ => []
  | n + 1, t => if t = 1 then [] else match getP par t with
    | none => []
    | some e => wayN par n e.1 ++ [e]
theorem wayN_s (par : Par) (n : Nat) (t : Int) : wayN par (n + 1) t = if t = 1 then [] else match getP par t with
    | none => []
    | some e => wayN par n e.1 ++ [e] := rfl
def wayM (par : Par) (t : Int) : List E2 := wayN par 9 t
theorem wayN_st {ls : List Lk} {st : TSt} (h : TI ls st) : ∀ (n m i : Nat) (t : Int), at_ st t i → i ≤ n → i ≤ m → wayN st.2 n t = wayN st.2 m t := by
  have one : ∀ n, wayN st.2 n 1 = [] := fun n => by
    cases n with
    | zero => rfl
    | succ n => exact if_pos rfl
  intro n
  induction n with
  | zero =>
    intro m i t hi h1 h2
    rcases h.up hi with ⟨_, rfl⟩ | ⟨_, _, k, _, hk, _⟩
    · rw [one, one]
    · omega
  | succ n ih =>
    intro m i t hi h1 h2
    rcases h.up hi with ⟨_, rfl⟩ | ⟨ht, e, k, he, hk, hke⟩
    · rw [one, one]
    · cases m with
      | zero => omega
      | succ m =>
        rw [wayN_s, wayN_s, if_neg ht, if_neg ht, he]
        show wayN st.2 n e.1 ++ [e] = wayN st.2 m e.1 ++ [e]
        rw [ih m k e.1 hke (by omega) (by omega)]
theorem way_one (par : Par) : wayM par 1 = [] := (wayN_s par 8 1).trans (if_pos rfl)
theorem way_up {ls : List Lk} (g : Gd ls) {st : TSt} (h : TI ls st) {t : Int} (ht : t ∈ st.1) (h1 : t ≠ 1) : ∃ e, getP st.2 t = some e ∧ e.1 ∈ st.1 ∧ wayM st.2 t = wayM st.2 e.1 ++ [e] := by
  obtain ⟨i, hi⟩ := h.ix ht
  rcases h.up hi with ⟨_, rfl⟩ | ⟨_, e, k, he, hk, hke⟩
  · exact absurd rfl h1
  · refine ⟨e, he, List.mem_of_getElem? hke, ?_⟩
    have hf := h.few g
    have hil := (List.getElem?_eq_some_iff.mp hi).1
    have e1 : wayM st.2 t = wayN st.2 8 e.1 ++ [e] := by
      unfold wayM
      rw [wayN_s, if_neg h1, he]
    rw [e1, wayN_st h 8 9 k e.1 hke (by omega) (by omega)]
    rfl
theorem way_some {ls : List Lk} {st : TSt} (h : TI ls st) : ∀ (n : Nat) (t : Int) (e : E2), e ∈ wayN st.2 n t → ∃ o, peerM ls e = some o ∧ e.1 ∈ st.1
  | n + 1, t, e, he => by
    unfold wayN at he
    by_cases h1 : t = 1
    · rw [if_pos h1] at he
      cases he
    · rw [if_neg h1] at he
      cases hg : getP st.2 t with
      | none =>
        rw [hg] at he
        cases he
      | some x =>
        rw [hg] at he
        rcases List.mem_append.mp he with he | he
        · exact way_some h n _ e he
        · rw [List.mem_singleton.mp he]
          obtain ⟨j, hj⟩ := List.mem_iff_getElem?.mp (h.get.mp hg)
          obtain ⟨⟨i, _, hi⟩, o, ho, _⟩ := h.par j t x hj
          exact ⟨o, ho, List.mem_of_getElem? hi⟩
/-- what hangs on s -/
def hang (par : Par) (s t : Int) : Prop := s ∈ (wayM par t).map (·.1) ++ [t]
instance (par : Par) (s t : Int) : Decidable (hang par s t) := inferInstanceAs (Decidable (_ ∈ _))
theorem hang_self (par : Par) (s : Int) : hang par s s := List.mem_append_right _ (List.mem_singleton.mpr rfl)
theorem hang_one {par : Par} {s : Int} : hang par s 1 ↔ s = 1 := by
  unfold hang
  rw [way_one]
  simp
theorem hang_up {ls : List Lk} (g : Gd ls) {st : TSt} (h : TI ls st) {s t : Int} (ht : t ∈ st.1) (h1 : t ≠ 1) {e : E2} (he : getP st.2 t = some e) : hang st.2 s t ↔ s = t ∨ hang st.2 s e.1 := by
  obtain ⟨e', he', _, hw⟩ := way_up g h ht h1
  rw [he] at he'
  cases he'
  unfold hang
  rw [hw, List.map_append, List.mem_append, List.mem_singleton]
  exact or_comm
theorem hang_ix {ls : List Lk} (g : Gd ls) {st : TSt} (h : TI ls st) {s : Int} : ∀ (i : Nat) (t : Int), at_ st t i → hang st.2 s t → ∃ k, k ≤ i ∧ at_ st s k := by
  intro i
  induction i using Nat.strongRecOn with
  | ind i ih =>
    intro t ht hh
    rcases h.up ht with ⟨_, rfl⟩ | ⟨h1, e, k, he, hk, hke⟩
    · rw [hang_one] at hh
      subst hh
      exact ⟨i, Nat.le_refl _, ht⟩
    · rcases (hang_up g h (List.mem_of_getElem? ht) h1 he).mp hh with rfl | hh
      · exact ⟨i, Nat.le_refl _, ht⟩
      · obtain ⟨k2, h2, h3⟩ := ih k hk e.1 hke hh
        exact ⟨k2, by omega, h3⟩
/-- the list of those that hang, while it is made: the first n have their turn behind them -/
structure BI (st : TSt) (s : Int) (f : List Int) (n : Nat) : Prop where
  nd : f.Nodup
  me : s ∈ f
  sub : ∀ x ∈ f, x ∈ st.1 ∧ hang st.2 s x
  src : ∀ x ∈ f, x = s ∨ ∃ i e, i < n ∧ getP st.2 x = some e ∧ f[i]? = some e.1
  cls : ∀ (i : Nat) (x t : Int) (e : E2), i < n → f[i]? = some x → getP st.2 t = some e → e.1 = x → t ∈ f
theorem BI.zero {st : TSt} {s : Int} (hs : s ∈ st.1) : BI st s [s] 0 := by
  refine ⟨by simp, List.mem_singleton.mpr rfl, fun x hx => ?_, fun x hx => .inl (List.mem_singleton.mp hx), fun i _ _ _ h => absurd h (Nat.not_lt_zero _)⟩
  rw [List.mem_singleton.mp hx]
  exact ⟨hs, hang_self _ _⟩
def kids (par : Par) (x : Int) : List Int := (par.map (·.1)).filter fun t => decide ((getP par t).map (·.1) = some x)
theorem TI.keys {ls : List Lk} {st : TSt} (h : TI ls st) : (st.2.map (·.1)).Nodup := by
  have := h.nd
  rw [h.hd] at this
  exact (List.nodup_cons.mp this).2
theorem TI.key1 {ls : List Lk} {st : TSt} (h : TI ls st) : (1 : Int) ∉ st.2.map (·.1) := by
  have := h.nd
  rw [h.hd] at this
  exact (List.nodup_cons.mp this).1
theorem mem_kids {ls : List Lk} {st : TSt} (h : TI ls st) {x t : Int} : t ∈ kids st.2 x ↔ ∃ e, getP st.2 t = some e ∧ e.1 = x := by
  unfold kids
  rw [List.mem_filter]
  constructor
  · rintro ⟨_, h2⟩
    obtain ⟨e, he, h3⟩ := Option.map_eq_some_iff.mp (of_decide_eq_true h2)
    exact ⟨e, he, h3⟩
  · rintro ⟨e, he, h3⟩
    exact ⟨List.mem_map.mpr ⟨_, h.get.mp he, rfl⟩, decide_eq_true (by rw [he]; exact congrArg some h3)⟩
theorem BI.next {ls : List Lk} (g : Gd ls) {st : TSt} (h : TI ls st) {s : Int} {f : List Int} {n : Nat} {x : Int} (b : BI st s f n) (hx : f[n]? = some x) : BI st s (f ++ kids st.2 x) (n + 1) := by
  have hxm := List.mem_of_getElem? hx
  have hn := (List.getElem?_eq_some_iff.mp hx).1
  have kid : ∀ t, t ∈ kids st.2 x → t ∈ st.1 ∧ t ≠ 1 ∧ ∃ e, getP st.2 t = some e ∧ e.1 = x := fun t ht => by
    obtain ⟨e, he, hex⟩ := (mem_kids h).mp ht
    have hm := h.get.mp he
    refine ⟨h.mem.mpr (.inr ⟨e, hm⟩), fun h1 => ?_, e, he, hex⟩
    subst h1
    exact h.key1 (List.mem_map.mpr ⟨_, hm, rfl⟩)
  have new : ∀ t, t ∈ kids st.2 x → t ∉ f := fun t ht hf => by
    obtain ⟨hm, h1, e, he, hex⟩ := kid t ht
    rcases b.src t hf with rfl | ⟨i, e', hi, he', hfi⟩
    · -- the switch itself is no kid of one that hangs on it
      obtain ⟨hxs, hhx⟩ := b.sub x hxm
      obtain ⟨ix, hix⟩ := h.ix hxs
      obtain ⟨k, hk, hks⟩ := hang_ix g h ix x hix hhx
      rcases h.up hks with ⟨_, h2⟩ | ⟨_, e2, k2, he2, hk2, hke2⟩
      · exact h1 h2
      · rw [he] at he2
        cases he2
        rw [hex] at hke2
        have := h.ixU hix hke2
        omega
    · rw [he] at he'
      cases he'
      rw [hex] at hfi
      have := nd_ix b.nd hx hfi
      omega
  refine ⟨List.nodup_append.mpr ⟨b.nd, h.keys.filter _, fun y hy z hz e => new z hz (e ▸ hy)⟩, List.mem_append_left _ b.me, fun y hy => ?_, fun y hy => ?_, fun i y t e hi hfi he hey => ?_⟩
  · rcases List.mem_append.mp hy with hy | hy
    · exact b.sub y hy
    · obtain ⟨hm, h1, e, he, hex⟩ := kid y hy
      exact ⟨hm, (hang_up g h hm h1 he).mpr (.inr (hex ▸ (b.sub x hxm).2))⟩
  · rcases List.mem_append.mp hy with hy | hy
    · rcases b.src y hy with h1 | ⟨i, e, hi, he, hfi⟩
      · exact .inl h1
      · exact .inr ⟨i, e, by omega, he, by rw [List.getElem?_append_left (by omega)]; exact hfi⟩
    · obtain ⟨hm, h1, e, he, hex⟩ := kid y hy
      exact .inr ⟨n, e, by omega, he, by rw [List.getElem?_append_left hn, hex]; exact hx⟩
  · by_cases hin : i < n
    · rw [List.getElem?_append_left (by omega)] at hfi
      exact List.mem_append_left _ (b.cls i y t e hin hfi he hey)
    · have : i = n := by omega
      subst this
      rw [List.getElem?_append_left hn, hx] at hfi
      cases hfi
      exact List.mem_append_right _ ((mem_kids h).mpr ⟨e, he, hey⟩)
theorem BI.all {ls : List Lk} (g : Gd ls) {st : TSt} (h : TI ls st) {s : Int} {f : List Int} {n : Nat} (b : BI st s f n) (hn : f.length ≤ n) {t : Int} (ht : t ∈ st.1) : t ∈ f ↔ hang st.2 s t := by
  refine ⟨fun hf => (b.sub t hf).2, ?_⟩
  obtain ⟨i, hi⟩ := h.ix ht
  clear ht
  induction i using Nat.strongRecOn generalizing t with
  | ind i ih =>
    intro hh
    rcases h.up hi with ⟨_, rfl⟩ | ⟨h1, e, k, he, hk, hke⟩
    · rw [hang_one] at hh
      rw [← hh]
      exact b.me
    · rcases (hang_up g h (List.mem_of_getElem? hi) h1 he).mp hh with rfl | hh
      · exact b.me
      · obtain ⟨j, hj⟩ := List.mem_iff_getElem?.mp (ih k hk hke hh)
        have := (List.getElem?_eq_some_iff.mp hj).1
        exact b.cls j e.1 t e (by omega) hj he rfl
theorem BI.few {ls : List Lk} (g : Gd ls) {st : TSt} (h : TI ls st) {s : Int} {f : List Int} {n : Nat} (b : BI st s f n) : f.length ≤ 6 := K46.few b.nd fun x hx => h.rng g x (b.sub x hx).1
/-- both have the same in order -/
def belowM (st : TSt) (s : Int) (ys : List Int) : Prop := ys.Pairwise (· < ·) ∧ ∀ t, t ∈ ys ↔ (t ∈ st.1 ∧ hang st.2 s t)
theorem below_uniq {st : TSt} {s : Int} {ys zs : List Int} (h1 : belowM st s ys) (h2 : belowM st s zs) : ys = zs := sorted_uniq h1.1 h2.1 fun x => (h1.2 x).trans (h2.2 x).symm
/-! ## two ways -/
def lkM (e o : E2) : Lk := if ltE' e o then (e, o) else (o, e)
def pe (ls : List Lk) (e : E2) : E2 := (peerM ls e).getD (0, 0)
def goneM (ls : List Lk) (es : List E2) : List Lk := es.map fun e => lkM e (pe ls e)
def usedM (ls : List Lk) (es : List E2) : List E2 := es ++ es.map (pe ls)
theorem lk_link {ls : List Lk} (g : Gd ls) {e o : E2} (h : peerM ls e = some o) : ∃ m ∈ ls, lkM e o = m ∧ has e m = true ∧ has o m = true := by
  obtain ⟨m, hm, ⟨h1, h2⟩ | ⟨h1, h2⟩⟩ := peer_of h
  · have d := g.dif m hm
    refine ⟨m, hm, ?_, has_iff.mpr (.inl h1), has_iff.mpr (.inr h2)⟩
    subst h1 h2
    exact if_pos (.inl d)
  · have d := g.dif m hm
    refine ⟨m, hm, ?_, has_iff.mpr (.inr h1), has_iff.mpr (.inl h2)⟩
    subst h1 h2
    refine if_neg fun z => ?_
    unfold ltE' at z
    omega
theorem gone_used {ls : List Lk} (g : Gd ls) {es : List E2} (hs : ∀ e ∈ es, ∃ o, peerM ls e = some o) {l : Lk} (hl : l ∈ ls) : l ∈ goneM ls es ↔ l.1 ∈ usedM ls es := by
  unfold goneM usedM
  rw [List.mem_append, List.mem_map, List.mem_map]
  constructor
  · rintro ⟨e, he, h⟩
    obtain ⟨o, ho⟩ := hs e he
    have hp : pe ls e = o := by unfold pe; rw [ho]; rfl
    rw [hp] at h
    unfold lkM at h
    by_cases hlt : ltE' e o
    · rw [if_pos hlt] at h
      exact .inl (h ▸ he)
    · rw [if_neg hlt] at h
      exact .inr ⟨e, he, by rw [hp, ← h]⟩
  · rintro (h | ⟨e, he, h⟩)
    · refine ⟨l.1, h, ?_⟩
      have := (peer_l g hl).1
      obtain ⟨m, hm, h1, h2, _⟩ := lk_link g this
      have hp : pe ls l.1 = l.2 := by unfold pe; rw [this]; rfl
      rw [hp, h1]
      exact has_uniq g.nd hm hl h2 (has_iff.mpr (.inl rfl))
    · refine ⟨e, he, ?_⟩
      obtain ⟨o, ho⟩ := hs e he
      have hp : pe ls e = o := by unfold pe; rw [ho]; rfl
      rw [hp] at h ⊢
      obtain ⟨m, hm, h1, _, h2⟩ := lk_link g ho
      rw [h1]
      exact has_uniq g.nd hm hl h2 (has_iff.mpr (.inl h.symm))
def restM (ls : List Lk) (es : List E2) : List Lk := ls.filter fun l => decide (l.1 ∉ usedM ls es)
theorem rest_eq {ls : List Lk} (g : Gd ls) {es : List E2} (hs : ∀ e ∈ es, ∃ o, peerM ls e = some o) : (ls.filter fun l => decide (l ∉ goneM ls es)) = restM ls es := by
  unfold restM
  refine List.filter_congr fun l hl => ?_
  rw [decide_eq_decide]
  exact not_congr (gone_used g hs hl)
/-- the ways by a tree, none or one -/
def waysM (ls : List Lk) (to : Int) : List (List E2) := if to ∈ (treeM ls).1 then [wayM (treeM ls).2 to] else []
def twoM (ls : List Lk) (to : Int) : List (List E2) := if to ∈ (treeM ls).1 then [wayM (treeM ls).2 to] ++ waysM (restM ls (wayM (treeM ls).2 to)) to else []
theorem Gd.rest {ls : List Lk} (g : Gd ls) (es : List E2) : Gd (restM ls es) := g.sub List.filter_sublist
theorem tree_ti (ls : List Lk) : TI ls (treeM ls) := TI.row ls 8
theorem way_peers {ls : List Lk} {to : Int} : ∀ e ∈ wayM (treeM ls).2 to, ∃ o, peerM ls e = some o := fun e he => by
  obtain ⟨o, ho, _⟩ := way_some (tree_ti ls) 9 to e he
  exact ⟨o, ho⟩
theorem wayN_len (par : Par) : ∀ (n : Nat) (t : Int), (wayN par n t).length ≤ n
  | 0, _ => Nat.le_refl _
  | n + 1, t => by
    rw [wayN_s]
    split
    · exact Nat.zero_le _
    · cases getP par t with
      | none => exact Nat.zero_le _
      | some e =>
        show (wayN par n e.1 ++ [e]).length ≤ _
        rw [List.length_append]
        have := wayN_len par n e.1
        simp
        omega
local macro_rules | `(tactic| walk_at "v") => `(tactic| first | exact v0 | exact v1 | exact v2 | exact v3 | exact v4 | exact v5 | exact v6 | exact v7 | exact v8)
local macro_rules | `(tactic| walk_at "vs") => `(tactic| first | exact st0 | exact st1 | exact st2 | exact st3 | exact st4 | exact st5 | exact st6 | exact st7 | exact st8)
local macro_rules | `(tactic| walk_at "s") => `(tactic| first
  | with_reducible refine w_dget ?_
  | ((with_reducible refine' w_dgetZ ?h ?nd ?hk ?hv ?_); (case h => walk_at "g"); (case nd => walk_at "nd"); (case hk => walk_at "k"); (case hv => walk_at "v"))
  | ((with_reducible refine' w_dputZ ?hs ?h ?nd ?hk ?hv ?hu ?hl ?_); (case hs => assumption); (case h => walk_at "p"); (case nd => walk_at "nd"); (case hk => walk_at "k"); (case hv => walk_at "v"); (case hu => walk_at "vs"); (case hl => decide); intro _ _)
  | with_reducible refine w_gsub ?_
  | with_reducible refine w_setD ?_
  | with_reducible refine w_disp ?_
  | ((with_reducible refine' w_newP ?hs ?_); (case hs => assumption); intro _ _ _)
  | with_reducible refine w_pcons ?_
  | with_reducible refine w_pnil ?_)

local macro_rules | `(tactic| walk_at "s") => `(tactic| first
  | with_reducible refine w_nget ?_
  | with_reducible refine w_nin ?_
  | with_reducible refine w_nnot ?_
  | with_reducible refine w_nput ?_
  | with_reducible refine w_ndel ?_
  | with_reducible refine w_npop ?_
  | ((with_reducible refine' w_nnew ?hs ?_); (case hs => assumption); intro _ _ _))

/-! ## dicts whose keys are switches -/
def ins (f : List Int) (n : Int) : List Int := if n ∈ f then f else f ++ [n]
theorem valV_mem {n : Int} : ∀ {kvs : List (Key × V)} {f : List Int}, kvs.map (·.1) = f.map Sum.inl → (valV kvs (Sum.inl n)).isSome = decide (n ∈ f)
  | [], [], _ => by simp [valV]
  | [], _ :: _, h => by cases h
  | _ :: _, [], h => by cases h
  | kv :: kvs, x :: f, h => by
    rw [List.map_cons, List.map_cons] at h
    injection h with h1 h2
    have ih := valV_mem (n := n) h2
    unfold valV at ih ⊢
    rw [List.find?_cons]
    by_cases hx : x = n
    · subst hx
      have e1 : decide (kv.1 = Sum.inl x) = true := decide_eq_true h1
      rw [e1]
      simp
    · have e1 : decide (kv.1 = Sum.inl n) = false := decide_eq_false fun z => hx (Sum.inl.inj (h1.symm.trans z))
      rw [e1]
      show (Option.map _ (List.find? _ kvs)).isSome = _
      rw [ih, decide_eq_decide]
      simp [Ne.symm hx]
theorem put_keys {n : Int} {v : V} {kvs : List (Key × V)} {f : List Int} (h : kvs.map (·.1) = f.map Sum.inl) : (putK kvs (Sum.inl n) v).map (·.1) = (ins f n).map Sum.inl := by
  have hm := valV_mem (n := n) h
  unfold ins
  by_cases hn : n ∈ f
  · rw [if_pos hn]
    rw [decide_eq_true hn] at hm
    have ha : (kvs.any fun kv => decide (kv.1 = (Sum.inl n : Key))) = true := by
      unfold valV at hm
      rw [Option.isSome_map, List.find?_isSome] at hm
      obtain ⟨x, hx, hxx⟩ := hm
      exact List.any_eq_true.mpr ⟨x, hx, hxx⟩
    unfold putK
    rw [if_pos ha, List.map_map, ← h]
    refine List.map_congr_left fun kv _ => ?_
    show (if kv.1 = Sum.inl n then (kv.1, v) else kv).1 = kv.1
    split <;> rfl
  · rw [if_neg hn]
    rw [decide_eq_false hn] at hm
    rw [putK_new v (Option.not_isSome_iff_eq_none.mp (by rw [hm]; decide)), List.map_append, List.map_append, h]
    rfl
theorem Near.link {ls : List Lk} {s : Int} {f : List Int} (h : Near ls s f) {l : Lk} (hl : l ∈ ls) (hx : ¬ decide (l.1.1 ∈ f) = decide (l.2.1 ∈ f)) : Near ls s (ins (ins f l.1.1) l.2.1) ∧ (ins (ins f l.1.1) l.2.1).length = f.length + 1 := by
  by_cases h1 : l.1.1 ∈ f
  · have h2 : l.2.1 ∉ f := fun z => hx (by rw [decide_eq_true h1, decide_eq_true z])
    have e : ins (ins f l.1.1) l.2.1 = f ++ [l.2.1] := by
      unfold ins
      rw [if_pos h1, if_neg h2]
    rw [e]
    exact ⟨h.add h1 h2 ⟨l, hl, .inl ⟨rfl, rfl⟩⟩, by simp⟩
  · have h2 : l.2.1 ∈ f := by
      by_cases z : l.2.1 ∈ f
      · exact z
      · exact absurd (by rw [decide_eq_false h1, decide_eq_false z]) hx
    have e : ins (ins f l.1.1) l.2.1 = f ++ [l.1.1] := by
      unfold ins
      rw [if_neg h1, if_pos (List.mem_append_left _ h2)]
    rw [e]
    exact ⟨h.add h2 h1 ⟨l, hl, .inr ⟨rfl, rfl⟩⟩, by simp⟩
theorem pw_lt {ys : List Int} (nd : ys.Nodup) (h : ys.Pairwise (· ≤ ·)) : ys.Pairwise (· < ·) := by
  refine List.Pairwise.imp₂ (R := (· ≤ ·)) (S := (· ≠ ·)) (fun x y h1 h2 => ?_) h nd
  omega
section
variable {P : Program} [IsP P] {w : World} {K : PySem.W.Frag} {mg : Str → Option Value} {base : Heap} {a : Ad}
def nearP (ls : List Lk) (s : Int) (ys : List Int) : Prop := ys.Pairwise (· < ·) ∧ ∀ x, x ∈ ys ↔ Rch ls s x
theorem near_uniq {ls : List Lk} {s : Int} {ys zs : List Int} (h1 : nearP ls s ys) (h2 : nearP ls s zs) : ys = zs := K46.sorted_uniq h1.1 h2.1 fun x => (h1.2 x).trans (h2.2 x).symm
def spN : Sp := fun vs H Q _ => ∃ (r : Addr) (us : List V) (ls : List Lk) (s : Int), vs = [.ref r, .int s] ∧ H r = some (.lst us) ∧ LkL H us ls ∧ Gd ls ∧ (1 ≤ s ∧ s ≤ 6) ∧ ∀ l ys H', Hs H [(l, .lst (ys.map V.int))] H' → nearP ls s ys → Q (.ref l) H'
theorem ok_reached (T : Txt w K mg a) : FnOk P w K mg base CX0 1 a.reached a.fd_reached ["links", "switch"] spN := by
  refine T.fn_reached.ok sc_reached (fun vs H Q E h => ?_) (fun cdv A outer s H vs Q E hr h => ?_)
  · obtain ⟨_, _, _, _, rfl, _⟩ := h
    rfl
  · obtain ⟨r, us, ls, s0, rfl, hr0, hL, gd, hs0, k⟩ := h
    have hu := hu_of hr
    refine ⟨_, (pss_cons (ps_set (i := 2) sc_reached.nd rfl (Or.inl rfl) (pe_disp (pps_cons (pv 1) pe_bl pps_nil) (by rfl) (by rfl) (fun z => by cases z) (by decide)))
  (pss_cons (ps_set (i := 3) sc_reached.nd rfl (Or.inl rfl) pe_bl)
  (pss_cons (ps_while PassesOwn.never (pt_val (pv 3))
  (pss_cons (ps_set (i := 3) sc_reached.nd rfl (Or.inl rfl) pe_bl)
  (pss_one (ps_for PassesOwn.never rfl (pi_listK (K := K) (pv 0)) (pg_tupK (K := K) rfl (pgs_cons (pg_name (i := 4) sc_reached.nd rfl (Or.inl rfl)) (pgs_cons (pg_name (i := 5) sc_reached.nd rfl (Or.inl rfl)) pgs_nil)))
  (pss_one (ps_if (pt_cmpR op_ne (pe_cmp (pc_din hu (pe_ix (ix_tupK (K := K)) (pv 4) pe_int (fun _ _ => rfl)) (pv 2)) rfl) (pe_cmp (pc_din hu (pe_ix (ix_tupK (K := K)) (pv 5) pe_int (fun _ _ => rfl)) (pv 2)) rfl) (nomark _))
  (pss_cons (ps_dput hu (pv 2) (pe_ix (ix_tupK (K := K)) (pv 4) pe_int (fun _ _ => rfl)) pe_bl rfl)
  (pss_cons (ps_dput hu (pv 2) (pe_ix (ix_tupK (K := K)) (pv 5) pe_int (fun _ _ => rfl)) pe_bl rfl)
  (pss_one (ps_set (i := 3) sc_reached.nd rfl (Or.inl rfl) pe_bl))))
  pss_nil))))))
  (pss_one (ps_ret (pe_callB (call_sortedDI rfl) (by rfl) T.mg_sorted (by decide +kernel) (pa_cons (pv 2) pa_nil))))))), ?_⟩
    have hs := Hs.start H
    walk_at "ss"
    rename_i dd H1 hs1
    refine ⟨hs1.g0, [(Sum.inl s0, .bl true)], rfl, by simp, ?_⟩
    have hs2 : Hs H [(dd, .dK [(Sum.inl s0, .bl true)])] (upd H1 dd (.dK (mergeK [] [(Sum.inl s0, .bl true)]))) := hs1.p0 _
    generalize (upd H1 dd (.dK (mergeK [] [(Sum.inl s0, .bl true)]))) = H2 at hs2 ⊢
    clear hs hs1
    walk_at "ss"
    refine w_while (fun m σ H' => ∃ (f : List Int) (kvs : List (Key × V)) (gr : Bool) (v4 v5 : Option V), σ = [some (.ref r), some (.int s0), some (.ref dd), some (.bl gr), v4, v5] ∧ kvs.map (·.1) = f.map Sum.inl ∧ Near ls s0 f ∧ Hs H [(dd, .dK kvs)] H' ∧ (gr = false → closedF ls f) ∧ m = 2 * (7 - f.length) + (if gr then 1 else 0)) _ ⟨[s0], _, true, none, none, rfl, rfl, Near.one ls s0, hs2, (fun z => nomatch z), rfl⟩ ?_
    clear hs2 H2
    rintro m σ H2 ⟨f, kvs, gr, v4, v5, rfl, hk, nr, hs2, hc, rfl⟩
    walk_at "ss"
    cases gr with
    | false =>
      refine iteF ?_
      walk_at "ss"
      have hkz : kvs.length = f.length := by
        have := congrArg List.length hk
        simpa using this
      have hf6 := nr.few gd hs0
      refine ⟨dd, kvs, f, rfl, .inl hs2.g0, hk, by omega, fun ys p hp ho hn => ?_⟩
      refine k p ys _ ((hs2.new hn).sel [0]) ⟨pw_lt (hp.nodup_iff.mpr nr.nd) ho, fun x => ?_⟩
      rw [hp.mem_iff]
      exact nr.all (hc rfl)
    | true =>
      refine iteT ?_
      walk_at "ss"
      show tFor (iList K (tVar 0)) _ _ _ [some (.ref r), some (.int s0), some (.ref dd), some (.bl false), v4, v5] _
      refine w_forL (SqL.of (hs2.old hr0)) (fun i σ H' => ∃ (f' : List Int) (kvs : List (Key × V)) (gr : Bool) (v4 v5 : Option V), σ = [some (.ref r), some (.int s0), some (.ref dd), some (.bl gr), v4, v5] ∧ kvs.map (·.1) = f'.map Sum.inl ∧ Near ls s0 f' ∧ Hs H [(dd, .dK kvs)] H' ∧
          ((gr = false ∧ f' = f ∧ ∀ l ∈ ls.take i, okL f l) ∨ (gr = true ∧ f.length < f'.length))) (fun Q q => ⟨_, rfl, q⟩) ⟨f, kvs, false, v4, v5, rfl, hk, nr, hs2, .inl ⟨rfl, rfl, fun _ z => nomatch z⟩⟩ (fun i σ H' _ ⟨_, _, _, _, _, _, _, _, hs, _⟩ => SqL.of (hs.old hr0)) ?_ ?_
      · clear hs2 hk v4 v5 kvs
        rintro i y σ H3 hi ⟨f', kvs, gr, v4, v5, rfl, hk, nr', hs3, hcase⟩
        obtain ⟨t, l, rfl, hli, hnk⟩ := LkL.get hL hi
        obtain ⟨p, q, ht, hp, hq⟩ := nk_link hnk
        have hlm : l ∈ ls := List.mem_of_getElem? hli
        have ht' := hs3.old ht
        have hp' : H3 p = some (.tup [.int l.1.1, .int l.1.2]) := hs3.old hp
        have hq' : H3 q = some (.tup [.int l.2.1, .int l.2.2]) := hs3.old hq
        have hkz : kvs.length = f'.length := by
          have := congrArg List.length hk
          simpa using this
        have hf6 := nr'.few gd hs0
        walk_at "ss"
        rw [valV_mem hk, valV_mem hk]
        by_cases he : decide (l.1.1 ∈ f') = decide (l.2.1 ∈ f')
        · rw [decide_eq_true he, Bool.not_true]
          refine iteF ?_
          walk_at "ss"
          refine ⟨f', kvs, gr, _, _, rfl, hk, nr', hs3, ?_⟩
          refine hcase.imp (fun ⟨h1, h2, h3⟩ => ⟨h1, h2, fun l' hl' => ?_⟩) fun z => z
          rw [List.take_add_one, hli] at hl'
          rcases List.mem_append.mp hl' with hl' | hl'
          · exact h3 l' hl'
          · rw [Option.toList_some, List.mem_singleton] at hl'
            subst hl' h2
            exact decide_eq_decide.mp he
        · rw [decide_eq_false he, Bool.not_false]
          refine iteT ?_
          walk_at "ss"
          rename_i H4 hs4
          have hk4 := put_keys (n := l.1.1) (v := .bl true) hk
          have hp4 : H4 q = some (.tup [.int l.2.1, .int l.2.2]) := hs4.old hq
          walk_at "ss"
          have hkz4 := congrArg List.length hk4
          rw [List.length_map, List.length_map] at hkz4
          have hinsz : (ins f' l.1.1).length ≤ f'.length + 1 := by
            unfold ins
            split
            · omega
            · simp
          refine w_dputI (kvs := putK kvs (Sum.inl l.1.1) (.bl true)) hs4 .here (szl (by omega)) fun H5 hs5 => ?_
          walk_at "ss"
          obtain ⟨nr5, hlen⟩ := nr'.link hlm he
          refine ⟨_, _, true, _, _, rfl, put_keys hk4, nr5, hs5, .inr ⟨rfl, ?_⟩⟩
          rw [hlen]
          rcases hcase with ⟨_, rfl, _⟩ | ⟨_, h⟩
          · omega
          · omega
      · clear hs2 hk v4 v5 kvs
        rintro σ H3 ⟨f', kvs, gr, v4, v5, rfl, hk, nr', hs3, hcase⟩
        have h6 := nr'.few gd hs0
        rcases hcase with ⟨rfl, rfl, hall⟩ | ⟨rfl, hlt⟩
        · refine ⟨_, ?_, f', kvs, false, v4, v5, rfl, hk, nr', hs3, fun _ => ?_, rfl⟩
          · simp
          · rw [LkL.len hL, List.take_length] at hall
            exact hall
        · refine ⟨_, ?_, f', kvs, true, v4, v5, rfl, hk, nr', hs3, (fun z => nomatch z), rfl⟩
          have h6' := nr.few gd hs0
          simp
          omega
end
local macro_rules | `(tactic| walk_at "v") => `(tactic| first | exact v0 | exact v1 | exact v2 | exact v3 | exact v4 | exact v5 | exact v6 | exact v7 | exact v8)
local macro_rules | `(tactic| walk_at "vs") => `(tactic| first | exact st0 | exact st1 | exact st2 | exact st3 | exact st4 | exact st5 | exact st6 | exact st7 | exact st8)
local macro_rules | `(tactic| walk_at "s") => `(tactic| first
  | with_reducible refine w_dget ?_
  | ((with_reducible refine' w_dgetZ ?h ?nd ?hk ?hv ?_); (case h => walk_at "g"); (case nd => walk_at "nd"); (case hk => walk_at "k"); (case hv => walk_at "v"))
  | ((with_reducible refine' w_dputZ ?hs ?h ?nd ?hk ?hv ?hu ?hl ?_); (case hs => assumption); (case h => walk_at "p"); (case nd => walk_at "nd"); (case hk => walk_at "k"); (case hv => walk_at "v"); (case hu => walk_at "vs"); (case hl => decide); intro _ _)
  | with_reducible refine w_gsub ?_
  | with_reducible refine w_setD ?_
  | with_reducible refine w_disp ?_
  | ((with_reducible refine' w_newP ?hs ?_); (case hs => assumption); intro _ _ _)
  | with_reducible refine w_pcons ?_
  | with_reducible refine w_pnil ?_)

local macro_rules | `(tactic| walk_at "s") => `(tactic| first
  | with_reducible refine w_nget ?_
  | with_reducible refine w_nin ?_
  | with_reducible refine w_nnot ?_
  | with_reducible refine w_nput ?_
  | with_reducible refine w_ndel ?_
  | with_reducible refine w_npop ?_
  | ((with_reducible refine' w_nnew ?hs ?_); (case hs => assumption); intro _ _ _))

/-! ## distances -/
inductive PathN (ls : List Lk) (s : Int) : Nat → Int → Prop
  | zero : PathN ls s 0 s
  | succ {n : Nat} {t u : Int} : PathN ls s n t → adj ls t u → PathN ls s (n + 1) u
/-- the least number of links -/
def Dst (ls : List Lk) (s : Int) (n : Nat) (t : Int) : Prop := PathN ls s n t ∧ ∀ m, PathN ls s m t → n ≤ m
theorem Dst.uniq {ls : List Lk} {s t : Int} {n m : Nat} (h1 : Dst ls s n t) (h2 : Dst ls s m t) : n = m := Nat.le_antisymm (h1.2 m h2.1) (h2.2 n h1.1)
theorem path_rch {ls : List Lk} {s t : Int} {n : Nat} (h : PathN ls s n t) : Rch ls s t := by
  induction h with
  | zero => exact .refl
  | succ _ a ih => exact .step ih a
theorem rch_path {ls : List Lk} {s t : Int} (h : Rch ls s t) : ∃ n, PathN ls s n t := by
  induction h with
  | refl => exact ⟨0, .zero⟩
  | step _ a ih =>
    obtain ⟨n, h⟩ := ih
    exact ⟨n + 1, h.succ a⟩
theorem rch_dst {ls : List Lk} {s t : Int} (h : Rch ls s t) : ∃ n, Dst ls s n t := by
  obtain ⟨n, hn⟩ := rch_path h
  induction n using Nat.strongRecOn with
  | ind n ih =>
    by_cases hm : ∃ m, m < n ∧ PathN ls s m t
    · obtain ⟨m, h1, h2⟩ := hm
      exact ih m h1 h2
    · refine ⟨n, hn, fun m h2 => ?_⟩
      by_cases h1 : n ≤ m
      · exact h1
      · exact absurd ⟨m, by omega, h2⟩ hm
theorem dst_self (ls : List Lk) (s : Int) : Dst ls s 0 s := ⟨.zero, fun _ _ => Nat.zero_le _⟩
theorem dst_adj {ls : List Lk} {s t u : Int} {n m : Nat} (h1 : Dst ls s n t) (h2 : Dst ls s m u) (a : adj ls t u) : m ≤ n + 1 := h2.2 _ (h1.1.succ a)
theorem dst_pred {ls : List Lk} {s t : Int} {n : Nat} (h : Dst ls s n t) (hn : t ≠ s) : ∃ u m, Dst ls s m u ∧ adj ls u t ∧ n = m + 1 := by
  obtain ⟨h1, h2⟩ := h
  cases h1 with
  | zero => exact absurd rfl hn
  | succ hp a =>
    rename_i k u
    obtain ⟨m, hm⟩ := rch_dst (path_rch hp)
    refine ⟨u, m, hm, a, ?_⟩
    have h3 := hm.2 _ hp
    have h4 := h2 _ (hm.1.succ a)
    omega
/-- a dict of distances: what it tells -/
abbrev FM := List (Int × Int)
def FMk (fm : FM) : List Int := fm.map (·.1)
structure DI (ls : List Lk) (s : Int) (fm : FM) : Prop where
  nd : (FMk fm).Nodup
  ze : (s, (0 : Int)) ∈ fm
  pa : ∀ x ∈ fm, ∃ k : Nat, x.2 = (k : Int) ∧ PathN ls s k x.1 ∧ k < fm.length
theorem DI.rch {ls : List Lk} {s : Int} {fm : FM} (h : DI ls s fm) {t : Int} (ht : t ∈ FMk fm) : Rch ls s t := by
  obtain ⟨x, hx, rfl⟩ := List.mem_map.mp ht
  obtain ⟨k, _, h2, _⟩ := h.pa x hx
  exact path_rch h2
theorem DI.one (ls : List Lk) (s : Int) : DI ls s [(s, 0)] := ⟨by simp [FMk], by simp, fun x hx => by
  rw [List.mem_singleton.mp hx]
  exact ⟨0, rfl, .zero, Nat.zero_lt_one⟩⟩
theorem fm_uniq {fm : FM} (nd : (FMk fm).Nodup) {t n m : Int} (h1 : (t, n) ∈ fm) (h2 : (t, m) ∈ fm) : n = m := by
  induction fm with
  | nil => cases h1
  | cons x fm ih =>
    have nd' : x.1 ∉ FMk fm ∧ (FMk fm).Nodup := List.nodup_cons.mp nd
    rcases List.mem_cons.mp h1 with e1 | h1
    · rcases List.mem_cons.mp h2 with e2 | h2
      · rw [← e1] at e2
        exact (congrArg Prod.snd e2).symm
      · exact absurd (List.mem_map.mpr ⟨_, h2, by rw [← e1]⟩) nd'.1
    · rcases List.mem_cons.mp h2 with e2 | h2
      · exact absurd (List.mem_map.mpr ⟨_, h1, by rw [← e2]⟩) nd'.1
      · exact ih nd'.2 h1 h2
theorem DI.add {ls : List Lk} {s : Int} {fm : FM} (h : DI ls s fm) {t u : Int} {d : Nat} (ht : (t, (d : Int)) ∈ fm) (hu : u ∉ FMk fm) (a : adj ls t u) : DI ls s (fm ++ [(u, (d : Int) + 1)]) := by
  have hlen : (fm ++ [(u, (d : Int) + 1)]).length = fm.length + 1 := by simp
  obtain ⟨k, hk, hp, hl⟩ := h.pa _ ht
  have hkd : k = d := by
    have : (d : Int) = (k : Int) := hk
    omega
  subst hkd
  refine ⟨?_, List.mem_append_left _ h.ze, fun x hx => ?_⟩
  · unfold FMk
    rw [List.map_append]
    refine List.nodup_append.mpr ⟨h.nd, by simp, fun x hx y hy e => hu ?_⟩
    have : y = u := by simpa using hy
    rw [this] at e
    exact e ▸ hx
  · rw [hlen]
    rcases List.mem_append.mp hx with hx | hx
    · obtain ⟨j, h1, h2, h3⟩ := h.pa x hx
      exact ⟨j, h1, h2, by omega⟩
    · rw [List.mem_singleton.mp hx]
      exact ⟨k + 1, rfl, hp.succ a, by omega⟩
/-- closed up to a distance -/
def Cl (ls : List Lk) (fm : FM) (d : Nat) : Prop := ∀ (t : Int) (k : Nat), (t, (k : Int)) ∈ fm → k < d → ∀ u, adj ls t u → ∃ m : Nat, (u, (m : Int)) ∈ fm ∧ m ≤ k + 1
theorem DI.all {ls : List Lk} {s : Int} {fm : FM} (h : DI ls s fm) {d : Nat} (c : Cl ls fm d) (hd : ∀ t (k : Nat), (t, (k : Int)) ∈ fm → k < d) : ∀ (n : Nat) (t : Int), PathN ls s n t → ∃ m : Nat, (t, (m : Int)) ∈ fm ∧ m ≤ n := by
  intro n t hp
  induction hp with
  | zero => exact ⟨0, h.ze, Nat.le_refl _⟩
  | succ _ a ih =>
    obtain ⟨m, h1, h2⟩ := ih
    obtain ⟨m', h3, h4⟩ := c _ m h1 (hd _ m h1) _ a
    exact ⟨m', h3, by omega⟩
/-- what both come to -/
def IsD (ls : List Lk) (s : Int) (fm : FM) : Prop := (FMk fm).Nodup ∧ ∀ t n, (t, n) ∈ fm ↔ ∃ k : Nat, n = (k : Int) ∧ Dst ls s k t
theorem DI.isD {ls : List Lk} {s : Int} {fm : FM} (h : DI ls s fm) {d : Nat} (c : Cl ls fm d) (hd : ∀ t (k : Nat), (t, (k : Int)) ∈ fm → k < d) : IsD ls s fm := by
  refine ⟨h.nd, fun t n => ⟨fun hm => ?_, fun ⟨k, hk, hdst⟩ => ?_⟩⟩
  · obtain ⟨k, h1, h2, _⟩ := h.pa _ hm
    refine ⟨k, h1, h2, fun m hp => ?_⟩
    obtain ⟨m', h3, h4⟩ := h.all c hd m t hp
    have := fm_uniq h.nd hm h3
    have h1' : n = (k : Int) := h1
    omega
  · obtain ⟨m, h3, h4⟩ := h.all c hd k t hdst.1
    obtain ⟨j, h1, h2, _⟩ := h.pa _ h3
    have h1' : (m : Int) = (j : Int) := h1
    have := hdst.2 j h2
    have e : m = k := by omega
    rw [hk, ← e]
    exact h3
theorem IsD.keys {ls : List Lk} {s : Int} {fm : FM} (h : IsD ls s fm) {t : Int} : t ∈ FMk fm ↔ Rch ls s t := by
  constructor
  · intro ht
    obtain ⟨x, hx, rfl⟩ := List.mem_map.mp ht
    obtain ⟨k, _, hk⟩ := (h.2 x.1 x.2).mp hx
    exact path_rch hk.1
  · intro hr
    obtain ⟨n, hn⟩ := rch_dst hr
    exact List.mem_map.mpr ⟨_, (h.2 t n).mpr ⟨n, rfl, hn⟩, rfl⟩
theorem IsD.len {ls : List Lk} {s : Int} {fm gm : FM} (h : IsD ls s fm) (g : IsD ls s gm) : fm.length = gm.length := by
  have h1 : (FMk fm).Perm (FMk gm) := (List.perm_ext_iff_of_nodup h.1 g.1).mpr fun t => h.keys.trans g.keys.symm
  have := h1.length_eq
  simpa [FMk] using this
/-! ### one pass of the program -/
structure BJ (ls : List Lk) (s : Int) (d : Nat) (fm0 fm : FM) (fr : List Int) : Prop where
  di : DI ls s fm
  old : ∀ x ∈ fm0, x ∈ fm
  new : ∀ x ∈ fm, x ∈ fm0 ∨ x.2 = (d : Int) + 1
  fr : ∀ t, t ∈ fr ↔ (t, (d : Int) + 1) ∈ fm
def bstep (ls : List Lk) (d : Int) (st : FM × List Int) (e : E2) : FM × List Int := match peerM ls e with
  | none => st
  | some o => if o.1 ∈ FMk st.1 then st else (st.1 ++ [(o.1, d + 1)], st.2 ++ [o.1])
theorem BJ.step {ls : List Lk} {s : Int} {d : Nat} {fm0 : FM} {st : FM × List Int} (b : BJ ls s d fm0 st.1 st.2) {e : E2} (he : (e.1, (d : Int)) ∈ fm0) : BJ ls s d fm0 (bstep ls d st e).1 (bstep ls d st e).2 := by
  unfold bstep
  cases hp : peerM ls e with
  | none => exact b
  | some o =>
    show BJ ls s d fm0 (if o.1 ∈ FMk st.1 then st else _).1 (if o.1 ∈ FMk st.1 then st else _).2
    by_cases hm : o.1 ∈ FMk st.1
    · rw [if_pos hm]; exact b
    · rw [if_neg hm]
      refine ⟨b.di.add (b.old _ he) hm (adj_peer hp), fun x hx => List.mem_append_left _ (b.old x hx), fun x hx => ?_, fun t => ?_⟩
      · rcases List.mem_append.mp hx with hx | hx
        · exact b.new x hx
        · rw [List.mem_singleton.mp hx]
          exact .inr rfl
      · show t ∈ st.2 ++ [o.1] ↔ (t, (d : Int) + 1) ∈ st.1 ++ [(o.1, (d : Int) + 1)]
        rw [List.mem_append, List.mem_append, b.fr, List.mem_singleton, List.mem_singleton]
        refine or_congr Iff.rfl ⟨fun z => by rw [z], fun z => congrArg Prod.fst z⟩
theorem bstep_has {ls : List Lk} {d : Int} {st : FM × List Int} {e o : E2} (h : peerM ls e = some o) : o.1 ∈ FMk (bstep ls d st e).1 := by
  unfold bstep
  rw [h]
  show o.1 ∈ FMk (if o.1 ∈ FMk st.1 then st else _).1
  by_cases hm : o.1 ∈ FMk st.1
  · rw [if_pos hm]; exact hm
  · rw [if_neg hm]
    unfold FMk
    rw [List.map_append]
    exact List.mem_append_right _ (by simp)
theorem bstep_keep {ls : List Lk} {d : Int} {st : FM × List Int} {e : E2} {t : Int} (h : t ∈ FMk st.1) : t ∈ FMk (bstep ls d st e).1 := by
  unfold bstep
  cases hp : peerM ls e with
  | none => exact h
  | some o =>
    show t ∈ FMk (if o.1 ∈ FMk st.1 then st else _).1
    by_cases hm : o.1 ∈ FMk st.1
    · rw [if_pos hm]; exact h
    · rw [if_neg hm]
      unfold FMk
      rw [List.map_append]
      exact List.mem_append_left _ h
/-- all that is asked at one switch -/
theorem asked_all {ls : List Lk} (g : Gd ls) {t u : Int} (a : adj ls t u) : ∃ e ∈ asked ls t, ∃ o, peerM ls e = some o ∧ o.1 = u := by
  obtain ⟨l, hl, h⟩ := a
  have p := peer_l g hl
  have r := g.rng l hl
  have mk : ∀ e o : E2, peerM ls e = some o → e.1 = t → o.1 = u → isEnd 6 e = true → ∃ e ∈ asked ls t, ∃ o, peerM ls e = some o ∧ o.1 = u := fun e o h1 h2 h3 h4 => by
    refine ⟨e, ?_, o, h1, h3⟩
    unfold asked
    rw [List.mem_filter]
    refine ⟨?_, by rw [h1]; rfl⟩
    rw [← h2]
    exact six_of (isEnd_iff.mp h4).2
  rcases h with ⟨h1, h2⟩ | ⟨h1, h2⟩
  · exact mk l.1 l.2 p.1 h1 h2 r.1
  · exact mk l.2 l.1 p.2 h1 h2 r.2
theorem pass_next {ls : List Lk} {s : Int} {d : Nat} {fm0 fm : FM} (di : DI ls s fm) (old : ∀ x ∈ fm0, x ∈ fm) (new : ∀ x ∈ fm, x ∈ fm0 ∨ x.2 = (d : Int) + 1) (h0 : Cl ls fm0 d) (hle : ∀ t (k : Nat), (t, (k : Int)) ∈ fm0 → k ≤ d) (hdone : ∀ t, (t, (d : Int)) ∈ fm0 → ∀ u, adj ls t u → u ∈ FMk fm) : Cl ls fm (d + 1) ∧ ∀ t (k : Nat), (t, (k : Int)) ∈ fm → k ≤ d + 1 := by
  have hle1 : ∀ t (k : Nat), (t, (k : Int)) ∈ fm → k ≤ d + 1 := fun t k hk => by
    rcases new _ hk with h | h
    · have := hle t k h
      omega
    · have : (k : Int) = (d : Int) + 1 := h
      omega
  refine ⟨fun t k hk hkd u a => ?_, hle1⟩
  rcases new _ hk with h | h
  · by_cases hkd2 : k < d
    · obtain ⟨m, h1, h2⟩ := h0 t k h hkd2 u a
      exact ⟨m, old _ h1, h2⟩
    · have e : k = d := by omega
      subst e
      obtain ⟨x, hx, hxu⟩ := List.mem_map.mp (hdone t h u a)
      obtain ⟨j, h1, _, _⟩ := di.pa x hx
      have hxm : (u, (j : Int)) ∈ fm := by
        rw [← hxu, ← h1]
        exact hx
      exact ⟨j, hxm, hle1 u j hxm⟩
  · have : (k : Int) = (d : Int) + 1 := h
    omega
theorem few_n {f : List Int} (n : Nat) (nd : f.Nodup) (h : ∀ x ∈ f, 1 ≤ x ∧ x ≤ (n : Int)) : f.length ≤ n := by
  induction n generalizing f with
  | zero =>
    cases f with
    | nil => exact Nat.le_refl _
    | cons x f =>
      have := h x List.mem_cons_self
      omega
  | succ k ih =>
    have h1 := ih (f := f.erase ((k : Int) + 1)) (nd.erase _) fun x hx => by
      have h2 := (nd.mem_erase_iff).mp hx
      have := h x h2.2
      have := h2.1
      omega
    have h3 : f.length ≤ (f.erase ((k : Int) + 1)).length + 1 := by
      rw [List.length_erase]
      split <;> omega
    omega
/-! ## the next port -/
def InC (cnt : Int) (ls : List Lk) : Prop := ∀ l ∈ ls, (1 ≤ l.1.1 ∧ l.1.1 ≤ cnt) ∧ 1 ≤ l.2.1 ∧ l.2.1 ≤ cnt
theorem rch_in {cnt : Int} {ls : List Lk} (h : InC cnt ls) {s t : Int} (hs : 1 ≤ s ∧ s ≤ cnt) (r : Rch ls s t) : 1 ≤ t ∧ t ≤ cnt := by
  cases r with
  | refl => exact hs
  | step _ a =>
    obtain ⟨l, hl, h1⟩ := a
    have := h l hl
    rcases h1 with ⟨_, h1⟩ | ⟨_, h1⟩ <;> rw [← h1]
    · exact this.2
    · exact this.1
theorem DI.lt {cnt : Int} {ls : List Lk} (hc : InC cnt ls) {s : Int} (hs : 1 ≤ s ∧ s ≤ cnt) {fm : FM} (h : DI ls s fm) {t : Int} {k : Nat} (hk : (t, (k : Int)) ∈ fm) : (k : Int) < cnt := by
  obtain ⟨j, h1, _, h3⟩ := h.pa _ hk
  have h1' : (k : Int) = (j : Int) := h1
  have := few_n cnt.toNat h.nd fun x hx => by
    have := rch_in hc hs (h.rch hx)
    omega
  have e : (FMk fm).length = fm.length := List.length_map _
  omega
theorem dst_lt {cnt : Int} {ls : List Lk} (hc : InC cnt ls) {s t : Int} (hs : 1 ≤ s ∧ s ≤ cnt) {n : Nat} (h : Dst ls s n t) : (n : Int) < cnt := by
  -- the switches on a shortest way are different
  have key : ∀ (n : Nat) (t : Int), Dst ls s n t → ∃ f : List Int, f.Nodup ∧ f.length = n + 1 ∧ ∀ x ∈ f, ∃ k, k ≤ n ∧ Dst ls s k x := fun n => by
    induction n with
    | zero =>
      intro t ht
      exact ⟨[t], by simp, rfl, fun x hx => by rw [List.mem_singleton.mp hx]; exact ⟨0, Nat.le_refl _, ht⟩⟩
    | succ n ih =>
      intro t ht
      have hne : t ≠ s := fun e => by
        subst e
        have := ht.uniq (dst_self ls t)
        omega
      obtain ⟨u, m, hm, _, e⟩ := dst_pred ht hne
      have e' : m = n := by omega
      subst e'
      obtain ⟨f, h1, h2, h3⟩ := ih u hm
      refine ⟨t :: f, List.nodup_cons.mpr ⟨fun z => ?_, h1⟩, by rw [List.length_cons, h2], fun x hx => ?_⟩
      · obtain ⟨k, hk, hd⟩ := h3 t z
        have := hd.uniq ht
        omega
      · rcases List.mem_cons.mp hx with rfl | hx
        · exact ⟨_, Nat.le_refl _, ht⟩
        · obtain ⟨k, hk, hd⟩ := h3 x hx
          exact ⟨k, by omega, hd⟩
  obtain ⟨f, h1, h2, h3⟩ := key n t h
  have := few_n cnt.toNat h1 fun x hx => by
    obtain ⟨k, _, hd⟩ := h3 x hx
    have := rch_in hc hs (path_rch hd.1)
    omega
  omega
/-- a port with which a shortest way begins -/
def goodPt (ls : List Lk) (to sw p : Int) : Prop := ∃ o m n, peerM ls (sw, p) = some o ∧ Dst ls to m o.1 ∧ Dst ls to n sw ∧ m < n
def PortP (ls : List Lk) (to sw : Int) : Option Int → Prop
  | none => sw = to ∨ ¬ Rch ls to sw
  | some p => sw ≠ to ∧ Rch ls to sw ∧ goodPt ls to sw p ∧ ∀ q, goodPt ls to sw q → p ≤ q
theorem PortP.uniq {ls : List Lk} {to sw : Int} : ∀ {a b : Option Int}, PortP ls to sw a → PortP ls to sw b → a = b
  | none, none, _, _ => rfl
  | none, some _, h, g => by
    rcases h with h | h
    · exact absurd h g.1
    · exact absurd g.2.1 h
  | some _, none, h, g => by
    rcases g with g | g
    · exact absurd g h.1
    · exact absurd h.2.1 g
  | some p, some q, h, g => by
    have h1 := h.2.2.2 q g.2.2.1
    have h2 := g.2.2.2 p h.2.2.1
    exact congrArg some (by omega)
theorem good_some {ls : List Lk} (g : Gd ls) {to sw : Int} (h1 : sw ≠ to) (h2 : Rch ls to sw) : ∃ e ∈ asked ls sw, ∃ o m n, peerM ls e = some o ∧ Dst ls to m o.1 ∧ Dst ls to n sw ∧ m < n ∧ n = m + 1 := by
  obtain ⟨n, hn⟩ := rch_dst h2
  obtain ⟨u, m, hm, a, e⟩ := dst_pred hn h1
  obtain ⟨x, hx, o, ho, hou⟩ := asked_all g a.symm
  exact ⟨x, hx, o, m, n, ho, by rw [hou]; exact hm, hn, by omega, e⟩
theorem good_lt {ls : List Lk} {to sw : Int} {o : E2} {p : Int} {m n : Nat} (h : peerM ls (sw, p) = some o) (h1 : Dst ls to m o.1) (h2 : Dst ls to n sw) : m < n ↔ n = m + 1 := by
  have := dst_adj h1 h2 (adj_peer h).symm
  omega
noncomputable def portC (ls : List Lk) (to sw : Int) : Option Int := open Classical in if h : ∃ p, PortP ls to sw (some p) then some h.choose else none
theorem port_eq {ls : List Lk} {to sw : Int} {o : Option Int} (h : PortP ls to sw o) : portC ls to sw = o := by
  unfold portC
  by_cases hp : ∃ p, PortP ls to sw (some p)
  · rw [dif_pos hp]
    exact hp.choose_spec.uniq h
  · rw [dif_neg hp]
    cases o with
    | none => rfl
    | some p => exact absurd ⟨p, h⟩ hp
theorem port_ok {ls : List Lk} (g : Gd ls) (to sw : Int) : PortP ls to sw (portC ls to sw) := by
  open Classical in
  by_cases h1 : sw = to ∨ ¬ Rch ls to sw
  · have h : PortP ls to sw none := h1
    rw [port_eq h]
    exact h
  · have h2 : sw ≠ to := fun z => h1 (.inl z)
    have h3 : Rch ls to sw := Classical.byContradiction fun z => h1 (.inr z)
    obtain ⟨e, he, o, m, n, ho, hm, hn, hlt, _⟩ := good_some g h2 h3
    have hes : e.1 = sw := by
      unfold asked at he
      exact six_fst e (List.mem_filter.mp he).1
    have hex : ∃ p, goodPt ls to sw p := ⟨e.2, o, m, n, by rw [← hes]; exact ho, hm, hn, hlt⟩
    have low : ∀ q, goodPt ls to sw q → 1 ≤ q := fun q ⟨o, m, n, ho, _⟩ => by
      obtain ⟨l, hl, hh⟩ := peer_of ho
      have r := g.rng l hl
      rcases hh with ⟨h, _⟩ | ⟨h, _⟩
      · have := (isEnd_iff.mp r.1).2
        rw [h] at this
        exact this.1
      · have := (isEnd_iff.mp r.2).2
        rw [h] at this
        exact this.1
    have least : ∀ (k : Nat) (p : Int), goodPt ls to sw p → p ≤ (k : Int) → ∃ p, goodPt ls to sw p ∧ ∀ q, goodPt ls to sw q → p ≤ q := fun k => by
      induction k with
      | zero =>
        intro p hp hk
        have := low p hp
        omega
      | succ k ih =>
        intro p hp hk
        by_cases hq : ∃ q, goodPt ls to sw q ∧ q < p
        · obtain ⟨q, hq1, hq2⟩ := hq
          exact ih q hq1 (by omega)
        · exact ⟨p, hp, fun q hq1 => by
            by_cases h : p ≤ q
            · exact h
            · exact absurd ⟨q, hq1, by omega⟩ hq⟩
    obtain ⟨p, hp⟩ := hex
    obtain ⟨p, hp1, hp2⟩ := least p.toNat p hp (by have := low p hp; omega)
    have h : PortP ls to sw (some p) := ⟨h2, h3, hp1, hp2⟩
    rw [port_eq h]
    exact h
/-! ## the walk -/
structure WS where
  ends : List E2
  car : List Lk
  sw : Int
def liv (ls dead : List Lk) : List Lk := ls.filter fun l => decide (l ∉ dead)
theorem Gd.liv {ls : List Lk} (g : Gd ls) (dead : List Lk) : Gd (liv ls dead) := g.sub List.filter_sublist
theorem InC.liv {cnt : Int} {ls : List Lk} (h : InC cnt ls) (dead : List Lk) : InC cnt (liv ls dead) := fun l hl => h l (List.mem_filter.mp hl).1
theorem mem_liv {ls dead : List Lk} {l : Lk} : l ∈ liv ls dead ↔ l ∈ ls ∧ l ∉ dead := by
  unfold K46.liv
  rw [List.mem_filter, decide_eq_true_iff]
noncomputable def wnext (ls down : List Lk) (st : WS) (p : Int) : WS :=
  if lkM (st.sw, p) (pe ls (st.sw, p)) ∈ down then ⟨st.ends, st.car ++ [lkM (st.sw, p) (pe ls (st.sw, p))], st.sw⟩ else ⟨st.ends ++ [(st.sw, p)], st.car, (pe ls (st.sw, p)).1⟩
noncomputable def wstep (ls down : List Lk) (to : Int) (st : WS) : WS := match portC (liv ls st.car) to st.sw with
  | none => st
  | some p => wnext ls down st p
noncomputable def wrun (ls down : List Lk) (to first : Int) : Nat → WS
  | 0 => ⟨[], [], first⟩
  | n + 1 => wstep ls down to (wrun ls down to first n)
theorem wrun_end {ls down : List Lk} {to first : Int} {n : Nat} (h : portC (liv ls (wrun ls down to first n).car) to (wrun ls down to first n).sw = none) : ∀ m, n ≤ m → wrun ls down to first m = wrun ls down to first n := by
  intro m hm
  induction m with
  | zero =>
    have : n = 0 := by omega
    subst this
    rfl
  | succ m ih =>
    by_cases e : n = m + 1
    · rw [e]
    · have := ih (by omega)
      show wstep ls down to (wrun ls down to first m) = _
      rw [this]
      unfold wstep
      rw [h]
/-- what holds all the way -/
structure WI (ls down : List Lk) (cnt to first : Int) (st : WS) : Prop where
  nd : st.car.Nodup
  sub : ∀ l ∈ st.car, l ∈ ls ∧ l ∈ down
  rch : Rch (liv ls down) first st.sw
  inn : 1 ≤ st.sw ∧ st.sw ≤ cnt
  len : ∀ n, Dst (liv ls st.car) to n st.sw → (st.ends.length : Int) + n ≤ (cnt - 1) * (st.car.length + 1)
  le : (st.ends.length : Int) ≤ (cnt - 1) * (st.car.length + 1)
theorem peer_sub {ls : List Lk} (g : Gd ls) {dead : List Lk} {e o : E2} (h : peerM (liv ls dead) e = some o) : peerM ls e = some o ∧ lkM e o ∈ liv ls dead := by
  obtain ⟨m, hm, e1, h1, h2⟩ := lk_link (g.liv dead) h
  refine ⟨?_, by rw [e1]; exact hm⟩
  obtain ⟨l, hl, hh⟩ := peer_of h
  have p := peer_l g (mem_liv.mp hl).1
  rcases hh with ⟨h3, h4⟩ | ⟨h3, h4⟩
  · rw [← h3, ← h4]; exact p.1
  · rw [← h3, ← h4]; exact p.2
theorem WI.step {ls down : List Lk} {cnt to first : Int} (g : Gd ls) (hc : InC cnt ls) (hto : 1 ≤ to ∧ to ≤ cnt) {st : WS} (h : WI ls down cnt to first st) {p : Int} (hp : portC (liv ls st.car) to st.sw = some p) : WI ls down cnt to first (wnext ls down st p) ∧ ∃ o, peerM ls (st.sw, p) = some o ∧ pe ls (st.sw, p) = o ∧ (isEnd cnt o = true ∨ (1 ≤ o.1 ∧ o.1 ≤ cnt)) ∧
    ((lkM (st.sw, p) o ∈ down ∧ (wnext ls down st p).car.length = st.car.length + 1 ∧ st.car.length < ls.length) ∨ (lkM (st.sw, p) o ∉ down ∧ (wnext ls down st p).car = st.car ∧ ∃ n, Dst (liv ls st.car) to (n + 1) st.sw ∧ Dst (liv ls st.car) to n o.1)) := by
  have hP := port_ok (g.liv st.car) to st.sw
  rw [hp] at hP
  obtain ⟨hne, hr, ⟨o, m, n, ho, hm, hn, hlt⟩, _⟩ := hP
  obtain ⟨ho2, hlk⟩ := peer_sub g ho
  have hpo : pe ls (st.sw, p) = o := by unfold pe; rw [ho2]; rfl
  obtain ⟨hlk1, hlk2⟩ := mem_liv.mp hlk
  have hnm : n = m + 1 := (good_lt ho hm hn).mp hlt
  have hoc := rch_in (hc.liv st.car) hto (path_rch hm.1)
  have hcn : (0 : Int) ≤ cnt - 1 := by omega
  have wn : wnext ls down st p = if lkM (st.sw, p) o ∈ down then ⟨st.ends, st.car ++ [lkM (st.sw, p) o], st.sw⟩ else ⟨st.ends ++ [(st.sw, p)], st.car, o.1⟩ := by
    unfold wnext
    rw [hpo]
  rw [wn]
  by_cases hd : lkM (st.sw, p) o ∈ down
  · rw [if_pos hd]
    have e1 : (((st.car ++ [lkM (st.sw, p) o]).length : Nat) : Int) = (st.car.length : Int) + 1 := by simp
    have e2 : (cnt - 1) * ((st.car.length : Int) + 1 + 1) = (cnt - 1) * ((st.car.length : Int) + 1) + (cnt - 1) := by rw [Int.mul_add (cnt - 1) ((st.car.length : Int) + 1) 1, Int.mul_one]
    have nd2 : (st.car ++ [lkM (st.sw, p) o]).Nodup := List.nodup_append.mpr ⟨h.nd, by simp, fun x hx y hy e => hlk2 (by rw [List.mem_singleton.mp hy] at e; exact e ▸ hx)⟩
    have sub2 : ∀ l ∈ st.car ++ [lkM (st.sw, p) o], l ∈ ls ∧ l ∈ down := fun l hl => by
      rcases List.mem_append.mp hl with hl | hl
      · exact h.sub l hl
      · rw [List.mem_singleton.mp hl]
        exact ⟨hlk1, hd⟩
    have hle : (st.car ++ [lkM (st.sw, p) o]).length ≤ ls.length := nd2.length_le_of_subset fun l hl => (sub2 l hl).1
    refine ⟨⟨nd2, sub2, h.rch, h.inn, fun k hk => ?_, ?_⟩, o, ho2, hpo, .inr hoc, .inl ⟨hd, by simp, by rw [List.length_append] at hle; simp at hle; omega⟩⟩
    · have := dst_lt (hc.liv _) hto hk
      have := h.le
      show (st.ends.length : Int) + k ≤ (cnt - 1) * ((((st.car ++ [lkM (st.sw, p) o]).length : Nat) : Int) + 1)
      rw [e1, e2]
      omega
    · have := h.le
      show (st.ends.length : Int) ≤ (cnt - 1) * ((((st.car ++ [lkM (st.sw, p) o]).length : Nat) : Int) + 1)
      rw [e1, e2]
      omega
  · rw [if_neg hd]
    have e1 : (((st.ends ++ [(st.sw, p)]).length : Nat) : Int) = (st.ends.length : Int) + 1 := by simp
    have h1 := h.len n hn
    have ha : adj (liv ls down) st.sw o.1 := by
      obtain ⟨l, hl, hh⟩ := peer_of ho
      have hl2 : lkM (st.sw, p) o = l := by
        obtain ⟨m', hm', e', h1', h2'⟩ := lk_link (g.liv st.car) ho
        rw [e']
        refine has_uniq (g.liv st.car).nd hm' hl h1' ?_
        rcases hh with ⟨z, _⟩ | ⟨z, _⟩
        · exact has_iff.mpr (.inl z)
        · exact has_iff.mpr (.inr z)
      refine ⟨l, mem_liv.mpr ⟨(mem_liv.mp hl).1, hl2 ▸ hd⟩, ?_⟩
      rcases hh with ⟨z1, z2⟩ | ⟨z1, z2⟩
      · exact .inl ⟨by rw [z1], by rw [z2]⟩
      · exact .inr ⟨by rw [z1], by rw [z2]⟩
    refine ⟨⟨h.nd, h.sub, h.rch.step ha, hoc, fun k hk => ?_, ?_⟩, o, ho2, hpo, .inr hoc, .inr ⟨hd, rfl, m, by rw [← hnm]; exact hn, hm⟩⟩
    · have e3 : k = m := Dst.uniq hk hm
      show (((st.ends ++ [(st.sw, p)]).length : Nat) : Int) + k ≤ _
      rw [e1]
      show (st.ends.length : Int) + 1 + k ≤ (cnt - 1) * ((st.car.length : Int) + 1)
      omega
    · show (((st.ends ++ [(st.sw, p)]).length : Nat) : Int) ≤ (cnt - 1) * ((st.car.length : Int) + 1)
      rw [e1]
      omega
local macro_rules | `(tactic| walk_at "v") => `(tactic| first | exact v0 | exact v1 | exact v2 | exact v3 | exact v4 | exact v5 | exact v6 | exact v7 | exact v8)
local macro_rules | `(tactic| walk_at "vs") => `(tactic| first | exact st0 | exact st1 | exact st2 | exact st3 | exact st4 | exact st5 | exact st6 | exact st7 | exact st8)
local macro_rules | `(tactic| walk_at "s") => `(tactic| first
  | with_reducible refine w_dget ?_
  | ((with_reducible refine' w_dgetZ ?h ?nd ?hk ?hv ?_); (case h => walk_at "g"); (case nd => walk_at "nd"); (case hk => walk_at "k"); (case hv => walk_at "v"))
  | ((with_reducible refine' w_dputZ ?hs ?h ?nd ?hk ?hv ?hu ?hl ?_); (case hs => assumption); (case h => walk_at "p"); (case nd => walk_at "nd"); (case hk => walk_at "k"); (case hv => walk_at "v"); (case hu => walk_at "vs"); (case hl => decide); intro _ _)
  | with_reducible refine w_gsub ?_
  | with_reducible refine w_setD ?_
  | with_reducible refine w_disp ?_
  | ((with_reducible refine' w_newP ?hs ?_); (case hs => assumption); intro _ _ _)
  | with_reducible refine w_pcons ?_
  | with_reducible refine w_pnil ?_)

local macro_rules | `(tactic| walk_at "s") => `(tactic| first
  | with_reducible refine w_nget ?_
  | with_reducible refine w_nin ?_
  | with_reducible refine w_nnot ?_
  | with_reducible refine w_nput ?_
  | with_reducible refine w_ndel ?_
  | with_reducible refine w_npop ?_
  | ((with_reducible refine' w_nnew ?hs ?_); (case hs => assumption); intro _ _ _))

/-! ## graphs -/
def GrAt (H : Hp) (v : V) (cnt : Int) (ls : List Lk) : Prop := ∃ (p lr : Addr) (us : List V), v = .ref p ∧ H p = some (.tup [.str "graph", .int cnt, .ref lr]) ∧ H lr = some (.lst us) ∧ LkL H us ls ∧ ls.length ≤ 100
theorem GrAt.same {H H' : Hp} (s : Same H H') {v : V} {cnt : Int} {ls : List Lk} (h : GrAt H v cnt ls) : GrAt H' v cnt ls := by
  obtain ⟨p, lr, us, h1, h2, h3, h4, h5⟩ := h
  exact ⟨p, lr, us, h1, s _ _ h2, s _ _ h3, h4.same s, h5⟩
theorem eqv_links : ∀ ls ms : List Lk, PyData.eqvAll (ls.map fun l => (lkK l).data) (ms.map fun l => (lkK l).data) = decide (ls = ms)
  | [], [] => by simp [PyData.eqvAll]
  | [], y :: ms => by simp [PyData.eqvAll]
  | x :: ls, [] => by simp [PyData.eqvAll]
  | x :: ls, y :: ms => by
    have ih := eqv_links ls ms
    rw [List.map_cons, List.map_cons]
    have e : PyData.eqvAll ((lkK x).data :: ls.map fun l => (lkK l).data) ((lkK y).data :: ms.map fun l => (lkK l).data) = (PyData.eqv (lkK x).data (lkK y).data && PyData.eqvAll (ls.map fun l => (lkK l).data) (ms.map fun l => (lkK l).data)) := by simp only [PyData.eqvAll]
    rw [e, ih, eqv_link]
    by_cases h1 : x = y
    · by_cases h2 : ls = ms
      · simp [h1, h2]
      · simp [h1, h2]
    · simp [h1]
theorem w_eqLk {K : PySem.W.Frag} {H : Hp} {Q : VK} {p q : Addr} {us ws : List V} {ls ms : List Lk} (hp : H p = some (.lst us)) (hq : H q = some (.lst ws)) (h1 : LkL H us ls) (h2 : LkL H ws ms) (k : Q (.bl (decide (ls = ms))) H) : rEqD K (.ref p) (.ref q) H Q := by
  refine w_eqD (.lst (SqL.of hp) h1.ima.dp) (.lst (SqL.of hq) h2.ima.dp) (shp_list lk_ok) (shp_list lk_ok) ?_
  have e : PyData.eqv (.list (ls.map fun l => (lkK l).data)) (.list (ms.map fun l => (lkK l).data)) = PyData.eqvAll (ls.map fun l => (lkK l).data) (ms.map fun l => (lkK l).data) := by simp only [PyData.eqv]
  rw [e, eqv_links]
  exact k
theorem w_sortL {K : PySem.W.Frag} {B H : Hp} {L : List (Addr × HO)} {Q : VK} {a : Addr} {us : List V} {ls : List Lk} (hs : Hs B L H) (h : SqL K H a us) (hL : LkL H us ls)
    (q : ∀ p ys H', ys.length = us.length → Hs B ((p, .lst ys) :: L) H' → LkL H' ys (srt ls) → Q (.ref p) H') : rSortN K (some 2) [some 2] [.ref a] H Q := by
  refine ⟨a, us, itK H, rfl, h, fun x hx => ?_, fun ys p h1 h2 hp => ?_⟩
  · obtain ⟨i, hi⟩ := List.mem_iff_getElem?.mp hx
    obtain ⟨t, l, rfl, hl, hk⟩ := LkL.get hL hi
    have e := itK_eq hk
    rw [e]
    exact ⟨⟨t, rfl⟩, hk, rfl⟩
  · obtain ⟨ms, h3, h4⟩ := paired_perm h2.perm hL
    have e : ms = srt ls := srt_uniq h3 (srtd_links h4 h1)
    subst e
    exact q p ys _ h2.perm.length_eq (hs.new hp) (LkL.mono (fun b xs e => by rw [upd_ne (ne_of_none e hp)]; exact e) h4)
theorem w_niL {K : PySem.W.Frag} {H : Hp} {Q : VK} {r t : Addr} {us : List V} {ls : List Lk} {l : Lk} (hr : H r = some (.lst us)) (hL : LkL H us ls) (hk : NK H (lkK l) (.ref t)) (k : Q (.bl (decide (l ∉ ls))) H) : rInDL K true (.ref t) (.ref r) H Q := by
  have h2 : Im K H (.ref t) (lkK l).data := hk.im
  refine ⟨(lkK l).data, ls.map fun l => (lkK l).data, h2.dp, .lst (SqL.of hr) hL.ima.dp, ?_, shp_list lk_ok, ?_⟩
  · rw [lk_data]
    simp [SeqAt.shaped, PyData.canLay0, PyData.canLayAll0, PyData.depth, PyData.depthAll]
  · have e : ((ls.map fun l => (lkK l).data).any fun z => PyData.eqv z (lkK l).data) = decide (l ∈ ls) := by
      rw [List.any_map]
      have e2 : ((fun z => PyData.eqv z (lkK l).data) ∘ fun l => (lkK l).data) = fun m => decide (m = l) := funext fun m => eqv_link
      rw [e2]
      by_cases hm : l ∈ ls
      · rw [decide_eq_true hm]
        exact List.any_eq_true.mpr ⟨l, hm, decide_eq_true rfl⟩
      · rw [decide_eq_false hm]
        cases q : ls.any fun m => decide (m = l) with
        | false => rfl
        | true =>
          obtain ⟨m, h3, h4⟩ := List.any_eq_true.mp q
          rw [of_decide_eq_true h4] at h3
          exact absurd h3 hm
    rw [e]
    have e3 : (!decide (l ∈ ls)) = decide (l ∉ ls) := by rw [← decide_not]
    show Q (.bl (if true then !decide (l ∈ ls) else decide (l ∈ ls))) H
    rw [if_pos rfl, e3]
    exact k
theorem ends_perm (ls : List Lk) (s : Int) : (endsM ls s).Perm (rawEnds ls s) := by
  unfold endsM
  have h := (srtK_perm ((rawEnds ls s).map endK)).map kE
  rw [List.map_map] at h
  have e : (kE ∘ endK) = id := funext fun x => rfl
  rw [e, List.map_id] at h
  exact h
theorem ltE_iff {x y : E2} : ltE x y = true ↔ ltE' x y := by
  unfold ltE ltE'
  simp
theorem ends_asked {ls : List Lk} (g : Gd ls) (s : Int) : endsM ls s = asked ls s := by
  refine asked_uniq g (ends_perm ls s) ?_
  have nd : (endsM ls s).Nodup := (ends_perm ls s).nodup_iff.mpr (raw_nd g s)
  unfold endsM at nd ⊢
  have h := srtK_sorted ((rawEnds ls s).map endK)
  have hm : ∀ k ∈ srtK ((rawEnds ls s).map endK), k = endK (kE k) := fun k hk => by
    obtain ⟨z, _, rfl⟩ := List.mem_map.mp ((srtK_perm _).mem_iff.mp hk)
    rfl
  unfold List.Nodup at nd
  rw [List.pairwise_map] at nd ⊢
  unfold SortedK at h
  refine List.Pairwise.imp_of_mem (fun {x y} hx hy hxy => ?_) (h.and nd)
  have h1 := hxy.1
  have h2 := hxy.2
  have e1 := hm x hx
  have e2 := hm y hy
  rw [e1, e2] at h1
  have h3 : ltE (kE y) (kE x) = false := by
    rw [← lex_end]
    exact h1
  have h4 : ¬ ltE' (kE y) (kE x) := fun z => by
    rw [ltE_iff.mpr z] at h3
    cases h3
  have h5 : ¬ (kE x).1 = (kE y).1 ∨ ¬ (kE x).2 = (kE y).2 := by
    by_cases z : (kE x).1 = (kE y).1
    · right
      intro z2
      exact h2 (Prod.ext z z2)
    · exact .inl z
  unfold ltE' at h4 ⊢
  omega
theorem keys_none {kvs : List (Key × V)} {f : List Int} (h : kvs.map (·.1) = f.map Sum.inl) {n : Int} (hn : n ∉ f) : valV kvs (Sum.inl n) = none := by
  have := valV_mem (n := n) h
  rw [decide_eq_false hn] at this
  exact Option.not_isSome_iff_eq_none.mp (by rw [this]; decide)
theorem lk_at {H : Hp} {t p q : Addr} {x y : E2} (h : H t = some (.tup (if ltE x y = true then [.ref p, .ref q] else [.ref q, .ref p]))) (hp : H p = some (endO x)) (hq : H q = some (endO y)) : NK H (lkK (lkM x y)) (.ref t) := by
  unfold lkM
  by_cases hl : ltE' x y
  · rw [if_pos (ltE_iff.mpr hl)] at h
    rw [if_pos hl]
    exact nk_mk (l := (x, y)) h hp hq
  · rw [if_neg fun z => hl (ltE_iff.mp z)] at h
    rw [if_neg hl]
    exact nk_mk (l := (y, x)) h hq hp
theorem lkL_row {H : Hp} : ∀ {us : List V} {ls : List Lk}, Row (fun v l => ∃ a, v = V.ref a ∧ NK H (lkK l) (.ref a)) us ls → LkL H us ls
  | [], [], _ => .nil
  | [], _ :: _, h => by cases h.1
  | _ :: _, [], h => by cases h.1
  | u :: us, l :: ls, h => .cons (h.2 0 u l rfl rfl) (lkL_row ⟨Nat.succ.inj h.1, fun i y z h1 h2 => h.2 (i + 1) y z (by simpa using h1) (by simpa using h2)⟩)
theorem w_inL {K : PySem.W.Frag} {H : Hp} {Q : VK} {e t : Addr} {x : E2} {l : Lk} (he : H e = some (endO x)) (hk : NK H (lkK l) (.ref t)) (k : Q (.bl (has x l)) H) : rInDT K false (.ref e) (.ref t) H Q := by
  have h2 : Im K H (.ref t) (lkK l).data := hk.im
  rw [lk_data] at h2
  refine ⟨_, _, dp_end he, h2.dp, shp_end x, by simp [SeqAt.shaped, PyData.canLay0, PyData.canLayAll0, PyData.depth, PyData.depthAll], ?_⟩
  have e1 : (([PyData.tuple [.int l.1.1, .int l.1.2], .tuple [.int l.2.1, .int l.2.2]] : List PyData).any fun z => PyData.eqv z (.tuple [.int x.1, .int x.2])) = has x l := by
    rw [List.any_cons, List.any_cons, List.any_nil, eqv_end, eqv_end, Bool.or_false]
  rw [e1]
  exact k
theorem w_inLk {K : PySem.W.Frag} {H : Hp} {Q : VK} {r t : Addr} {us : List V} {ls : List Lk} {l : Lk} (hr : H r = some (.lst us)) (hL : LkL H us ls) (hk : NK H (lkK l) (.ref t)) (k : Q (.bl (decide (l ∈ ls))) H) : rInDL K false (.ref t) (.ref r) H Q := by
  have h := w_niL (K := K) (Q := fun v H => ∃ b, v = .bl b ∧ Q (.bl (!b)) H) hr hL hk ⟨_, rfl, by
    rw [decide_not, Bool.not_not]
    exact k⟩
  obtain ⟨d, ds, h1, h2, h3, h4, b, h5, h6⟩ := h
  refine ⟨d, ds, h1, h2, h3, h4, ?_⟩
  rw [if_pos rfl] at h5
  have h7 : (!(ds.any fun z => PyData.eqv z d)) = b := by
    injection h5
  rw [← h7, Bool.not_not] at h6
  exact h6
section
variable {P : Program} [IsP P] {w : World} {K : PySem.W.Frag} {mg : Str → Option Value} {base : Heap} {a : Ad}
def sp_living : Sp := fun vs H Q _ => ∃ (g : V) (dd : Addr) (dus : List V) (cnt : Int) (ls dead : List Lk), vs = [g, .ref dd] ∧ GrAt H g cnt ls ∧ H dd = some (.lst dus) ∧ LkL H dus dead ∧ ∀ l ys H', Hs H [(l, .lst ys)] H' → LkL H ys (liv ls dead) → Q (.ref l) H'
theorem ok_living (T : Txt w K mg a) : FnOk P w K mg base CX0 1 a.living a.fd_living ["graph", "dead"] sp_living := by
  refine T.fn_living.ok sc_living (fun vs H Q E h => ?_) (fun cdv A outer s H vs Q E hr h => ?_)
  · obtain ⟨_, _, _, _, _, _, rfl, _⟩ := h
    rfl
  · obtain ⟨_, dd, dus, cnt, ls, dead, rfl, ⟨g, lr, us, rfl, hg, hl, hL, hz⟩, hd, hD, k⟩ := h
    refine ⟨_, (pss_one (ps_ret (pe_lc (own := [("link", 2)]) (g := (gName 2)) rfl sc_living.nd (pi_listK (K := K) (pe_ix (ix_tupK (K := K)) (pv 0) pe_int (fun _ _ => rfl))) (blkOk_by (own := [("link", 2)]) (N := N_living) (sc := defScope s_living) (by decide +kernel)) (fun _ _ _ _ _ => by exact (pg_name (i := 2) sc_living.nd rfl (Or.inl rfl))) (fun _ _ _ _ _ => by exact pts_one (pt_cmpR (op_niDL (K := K) (r65 hr)) (pv 2) (pv 1) (by rfl))) (fun _ _ _ _ _ => by exact (pv 2))))), ?_⟩
    walk_at "ss"
    refine w_lcF (fun l => decide (l ∉ dead)) (SqL.of hl) hL (by rw [LkL.len hL]; omega) (fun Q q => ?_) (fun _ => rfl) (fun _ => rfl) (fun t l H' hlm hk sm R hR => ?_) fun D acc H' hs hacc => ?_
    · walk_at "ss"
      exact q
    · walk_at "ss"
      refine w_niL (sm _ _ hd) (hD.same sm) (hk.mono fun _ _ => sm _ _) ?_
      exact ⟨_, rfl, hR _ (Same.refl _)⟩
    · exact k D acc H' hs hacc
def sp_other_end : Sp := fun vs H Q _ => ∃ (g : V) (e : Addr) (cnt : Int) (ls : List Lk) (x : E2), vs = [g, .ref e] ∧ GrAt H g cnt ls ∧ H e = some (endO x) ∧ ∀ v, OptE H v (peerM ls x) → Q v H
theorem ok_other_end (T : Txt w K mg a) : FnOk P w K mg base CX0 2 a.other_end a.fd_other_end ["graph", "end"] sp_other_end := by
  have G_peer := ok_peer (P := P) (w := w) (base := base) T
  refine T.fn_other_end.ok sc_other_end (fun vs H Q E h => ?_) (fun cdv A outer s H vs Q E hr h => ?_)
  · obtain ⟨_, _, _, _, _, rfl, _⟩ := h
    rfl
  · obtain ⟨_, e, cnt, ls, x, rfl, ⟨g, lr, us, rfl, hg, hl, hL, hz⟩, he, k⟩ := h
    refine ⟨_, (pss_one (ps_ret (pe_call G_peer (hr.mono (by first | decide | omega)) rfl T.mg_peer T.kp_peer T.bi_peer .nil pass0 (pa_cons (pe_ix (ix_tupK (K := K)) (pv 0) pe_int (fun _ _ => rfl)) (pa_cons (pv 1) pa_nil))))), ?_⟩
    walk_at "ss"
    exact ⟨lr, e, us, ls, x, rfl, hl, hL, he, k⟩
def sp__law_end : Sp := fun vs H Q _ => ∃ (g : V) (e : Addr) (cnt : Int) (ls : List Lk) (x : E2), vs = [g, .ref e] ∧ GrAt H g cnt ls ∧ H e = some (endO x) ∧ ∀ v H', Same H H' → OptE H v (peerM ls x) → Q v H'
theorem ok__law_end (T : Txt w K mg a) : FnOk P w K mg base CX0 1 a._law_end a.fd__law_end ["graph", "end"] sp__law_end := by
  refine T.fn__law_end.ok sc__law_end (fun vs H Q E h => ?_) (fun cdv A outer s H vs Q E hr h => ?_)
  · obtain ⟨_, _, _, _, _, rfl, _⟩ := h
    rfl
  · obtain ⟨_, e, cnt, ls, x, rfl, ⟨g, lr, us, rfl, hg, hl, hL, hz⟩, he, k⟩ := h
    refine ⟨_, (pss_cons (ps_for PassesOwn.never rfl (pi_listK (K := K) (pe_ix (ix_tupK (K := K)) (pv 0) pe_int (fun _ _ => rfl))) (pg_tupK (K := K) rfl (pgs_cons (pg_name (i := 2) sc__law_end.nd rfl (Or.inl rfl)) (pgs_cons (pg_name (i := 3) sc__law_end.nd rfl (Or.inl rfl)) pgs_nil)))
  (pss_one (ps_if (pt_cmpR (op_inDT (K := K) (r65 hr)) (pv 1) (pe_tup (pa_cons (pv 2) (pa_cons (pv 3) pa_nil))) (by rfl))
  (pss_one (ps_ret (pe_ifExp (pt_cmpR (op_eqDK (K := K) hr.units) (pv 1) (pv 2) (nomark _)) (pv 3) (pv 2))))
  pss_nil)))
  (pss_one (ps_ret pe_non))), ?_⟩
    walk_at "ss"
    refine w_forL (SqL.of hl) (fun i σ H' => Hs H [] H' ∧ ∃ v2 v3, σ = [some (.ref g), some (.ref e), v2, v3] ∧ (ls.take i).find? (has x) = none) (fun Q q => ?_) ⟨Hs.start H, none, none, rfl, rfl⟩ (fun i σ H' _ ⟨e, _⟩ => SqL.of (e.old hl)) ?_ ?_
    · walk_at "ss"
      exact q
    · rintro i y σ H1 hi ⟨hs1, v2, v3, rfl, hf⟩
      obtain ⟨t, l, rfl, hli, hk⟩ := LkL.get hL hi
      obtain ⟨p, q, ht, hp, hq⟩ := nk_link hk
      have ht1 := hs1.old ht
      walk_at "ss"
      rename_i tt H2 hs2
      refine w_inL (hs2.old he) (nk_mk (l := l) hs2.g0 (hs2.old hp) (hs2.old hq)) ?_
      refine ⟨_, rfl, ?_⟩
      cases hh : has x l with
      | true =>
        refine iteT ?_
        walk_at "ss"
        refine w_eqE (x := x) (y := l.1) (hs2.old he) (hs2.old hp) ?_
        refine ⟨_, rfl, ifd (fun h1 => ?_) (fun h1 => ?_)⟩
        · walk_at "ss"
          refine k _ _ hs2.same ?_
          unfold peerM
          rw [find_take hli hf hh]
          refine ⟨q, rfl, ?_⟩
          show H q = some (endO (if l.1 = x then l.2 else l.1))
          rw [if_pos h1.symm]
          exact hq
        · walk_at "ss"
          refine k _ _ hs2.same ?_
          unfold peerM
          rw [find_take hli hf hh]
          refine ⟨p, rfl, ?_⟩
          show H p = some (endO (if l.1 = x then l.2 else l.1))
          rw [if_neg (Ne.symm h1)]
          exact hp
      | false =>
        refine iteF ?_
        walk_at "ss"
        exact ⟨hs2.tl, _, _, rfl, find_more hli hf hh⟩
    · rintro σ H1 ⟨hs1, v2, v3, rfl, hf⟩
      walk_at "ss"
      refine k _ _ hs1.same ?_
      rw [LkL.len hL, List.take_length] at hf
      unfold peerM
      rw [hf]
      rfl
end
local macro_rules | `(tactic| walk_at "v") => `(tactic| first | exact v0 | exact v1 | exact v2 | exact v3 | exact v4 | exact v5 | exact v6 | exact v7 | exact v8)
local macro_rules | `(tactic| walk_at "vs") => `(tactic| first | exact st0 | exact st1 | exact st2 | exact st3 | exact st4 | exact st5 | exact st6 | exact st7 | exact st8)
local macro_rules | `(tactic| walk_at "s") => `(tactic| first
  | with_reducible refine w_dget ?_
  | ((with_reducible refine' w_dgetZ ?h ?nd ?hk ?hv ?_); (case h => walk_at "g"); (case nd => walk_at "nd"); (case hk => walk_at "k"); (case hv => walk_at "v"))
  | ((with_reducible refine' w_dputZ ?hs ?h ?nd ?hk ?hv ?hu ?hl ?_); (case hs => assumption); (case h => walk_at "p"); (case nd => walk_at "nd"); (case hk => walk_at "k"); (case hv => walk_at "v"); (case hu => walk_at "vs"); (case hl => decide); intro _ _)
  | with_reducible refine w_gsub ?_
  | with_reducible refine w_setD ?_
  | with_reducible refine w_disp ?_
  | ((with_reducible refine' w_newP ?hs ?_); (case hs => assumption); intro _ _ _)
  | with_reducible refine w_pcons ?_
  | with_reducible refine w_pnil ?_)

local macro_rules | `(tactic| walk_at "s") => `(tactic| first
  | with_reducible refine w_nget ?_
  | with_reducible refine w_nin ?_
  | with_reducible refine w_nnot ?_
  | with_reducible refine w_nput ?_
  | with_reducible refine w_ndel ?_
  | with_reducible refine w_npop ?_
  | ((with_reducible refine' w_nnew ?hs ?_); (case hs => assumption); intro _ _ _))

/-! ## distances: the program's -/
def kvF (fm : FM) : List (Key × V) := fm.map fun x => (Sum.inl x.1, V.int x.2)
theorem kvF_keys (fm : FM) : (kvF fm).map (·.1) = (FMk fm).map Sum.inl := by
  unfold kvF FMk
  rw [List.map_map, List.map_map]
  rfl
theorem kvF_len (fm : FM) : (kvF fm).length = fm.length := List.length_map _
theorem kvF_val {fm : FM} (nd : (FMk fm).Nodup) {t n : Int} (h : (t, n) ∈ fm) : valV (kvF fm) (Sum.inl t) = some (.int n) := by
  induction fm with
  | nil => cases h
  | cons x fm ih =>
    have nd' : x.1 ∉ FMk fm ∧ (FMk fm).Nodup := List.nodup_cons.mp nd
    unfold valV kvF
    rw [List.map_cons, List.find?_cons]
    by_cases hx : x.1 = t
    · rw [decide_eq_true (show (Sum.inl x.1 : Key) = Sum.inl t from congrArg Sum.inl hx)]
      have : x = (t, n) := by
        rcases List.mem_cons.mp h with e | h
        · exact e.symm
        · exact absurd (List.mem_map.mpr ⟨_, h, hx.symm⟩) nd'.1
      rw [this]
      rfl
    · rw [decide_eq_false (show ¬ (Sum.inl x.1 : Key) = Sum.inl t from fun z => hx (Sum.inl.inj z))]
      refine ih nd'.2 ?_
      rcases List.mem_cons.mp h with e | h
      · exact absurd (congrArg Prod.fst e).symm hx
      · exact h
theorem kvF_mem (fm : FM) (t : Int) : (valV (kvF fm) (Sum.inl t)).isSome = decide (t ∈ FMk fm) := valV_mem (kvF_keys fm)
theorem kvF_put {fm : FM} {t n : Int} (h : t ∉ FMk fm) : putK (kvF fm) (Sum.inl t) (.int n) = kvF (fm ++ [(t, n)]) := by
  rw [putK_new _ (keys_none (kvF_keys fm) h)]
  unfold kvF
  rw [List.map_append]
  rfl
theorem DI.few {ls : List Lk} (g : Gd ls) {s : Int} (hs : 1 ≤ s ∧ s ≤ 6) {fm : FM} (h : DI ls s fm) : fm.length ≤ 6 := by
  have := K46.few h.nd fun x hx => rch_rng g hs (h.rch hx)
  have e : (FMk fm).length = fm.length := List.length_map _
  omega
section
variable {P : Program} [IsP P] {w : World} {K : PySem.W.Frag} {mg : Str → Option Value} {base : Heap} {a : Ad}
def sp_dist : Sp := fun vs H Q _ => ∃ (g : V) (dd : Addr) (dus : List V) (cnt to : Int) (ls dead : List Lk), vs = [g, .ref dd, .int to] ∧ GrAt H g cnt ls ∧ H dd = some (.lst dus) ∧ LkL H dus dead ∧ Gd ls ∧ InC cnt ls ∧ (1 ≤ to ∧ to ≤ cnt) ∧ cnt ≤ 6 ∧ ∀ d fm H', Hs H [(d, .dK (kvF fm))] H' → IsD (liv ls dead) to fm → Q (.ref d) H'
theorem ok_distances (T : Txt w K mg a) : FnOk P w K mg base CX0 2 a.distances a.fd_distances ["graph", "dead", "to"] sp_dist := by
  have G_living := ok_living (P := P) (w := w) (base := base) T
  have G_ends_at := ok_ends_at (P := P) (w := w) (base := base) T
  have G_peer := ok_peer (P := P) (w := w) (base := base) T
  refine T.fn_distances.ok sc_distances (fun vs H Q E h => ?_) (fun cdv A outer s H vs Q E hr h => ?_)
  · obtain ⟨_, _, _, _, _, _, _, rfl, _⟩ := h
    rfl
  · obtain ⟨g, dd, dus, cnt, to, ls, dead, rfl, hgr, hd, hD, gd0, hc, hto, hc6, k⟩ := h
    have hu := hu_of hr
    refine ⟨_, (pss_cons (ps_set (i := 3) sc_distances.nd rfl (Or.inl rfl) (pe_call G_living (hr.mono (by first | decide | omega)) rfl T.mg_living T.kp_living T.bi_living .nil pass0 (pa_cons (pv 0) (pa_cons (pv 1) pa_nil))))
  (pss_cons (ps_set (i := 4) sc_distances.nd rfl (Or.inl rfl) (pe_disp (pps_cons (pv 2) pe_int pps_nil) (by rfl) (by rfl) (fun z => by cases z) (by decide)))
  (pss_cons (ps_set (i := 5) sc_distances.nd rfl (Or.inl rfl) (pe_lst (pa_cons (pv 2) pa_nil)))
  (pss_cons (ps_while PassesOwn.never (pt_truthK (K := K) (pv 5))
  (pss_cons (ps_set (i := 6) sc_distances.nd rfl (Or.inl rfl) (pe_lst pa_nil))
  (pss_cons (ps_for PassesOwn.never rfl (pi_listK (K := K) (pv 5)) (pg_name (i := 7) sc_distances.nd rfl (Or.inl rfl))
  (pss_one (ps_for PassesOwn.never rfl (pi_listK (K := K) (pe_call G_ends_at (hr.mono (by first | decide | omega)) rfl T.mg_ends_at T.kp_ends_at T.bi_ends_at .nil pass0 (pa_cons (pv 3) (pa_cons (pv 7) pa_nil)))) (pg_name (i := 8) sc_distances.nd rfl (Or.inl rfl))
  (pss_cons (ps_set (i := 9) sc_distances.nd rfl (Or.inl rfl) (pe_ix (ix_tupK (K := K)) (pe_call G_peer (hr.mono (by first | decide | omega)) rfl T.mg_peer T.kp_peer T.bi_peer .nil pass0 (pa_cons (pv 3) (pa_cons (pv 8) pa_nil))) pe_int (fun _ _ => rfl)))
  (pss_one (ps_if (pt_cmp (pc_dnotin hu (pv 9) (pv 4)))
  (pss_cons (ps_dput hu (pv 4) (pv 9) (pe_op op_add (pe_dget hu (pv 4) (pv 7) (fun _ _ => rfl)) pe_int) rfl)
  (pss_one (ps_expr (pe_bmK (K := K) PySem.F.plainAttrs_list PySem.F.slot_list_append PySem.F.type_list_append mt_append (pv 6) (pa_cons (pv 9) pa_nil)))))
  pss_nil))))))
  (pss_one (ps_set (i := 5) sc_distances.nd rfl (Or.inl rfl) (pv 6))))))
  (pss_one (ps_ret (pv 4))))))), ?_⟩
    have hto6 : 1 ≤ to ∧ to ≤ 6 := ⟨hto.1, by omega⟩
    have gd := gd0.liv dead
    walk_at "ss"
    refine ⟨g, dd, dus, cnt, ls, dead, rfl, hgr, hd, hD, fun ll lys H1 hs1 hL0 => ?_⟩
    have hz : lys.length ≤ 1000 := by
      rw [LkL.len hL0]
      obtain ⟨_, _, _, _, _, _, _, h5⟩ := hgr
      exact Nat.le_trans (List.length_filter_le _ _) (by omega)
    obtain ⟨B0, sB0, hll, hs1a⟩ := frz_hs hs1
    have hL := hL0.same sB0
    clear hs1 hL0 hgr hd hD
    generalize liv ls dead = lv at gd hL k
    walk_at "ss"
    rename_i fd H2 hs2
    refine ⟨hs2.g0, [(Sum.inl to, .int 0)], rfl, by simp, ?_⟩
    have hs3 : Hs B0 [(fd, .dK (kvF [(to, 0)]))] (upd H2 fd (.dK (mergeK [] [(Sum.inl to, .int 0)]))) := hs2.p0 _
    generalize (upd H2 fd (.dK (mergeK [] [(Sum.inl to, .int 0)]))) = H3 at hs3 ⊢
    clear hs2 hs1a
    walk_at "ss"
    rename_i rl H4 hs4
    clear hs3
    refine w_while (fun m σ H' => ∃ (d : Nat) (fm : FM) (row : List Int) (rl : Addr) (v6 v7 v8 v9 : Option V), σ = [some g, some (.ref dd), some (.int to), some (.ref ll), some (.ref fd), some (.ref rl), v6, v7, v8, v9] ∧ Hs B0 [(rl, .lst (row.map V.int)), (fd, .dK (kvF fm))] H' ∧ DI lv to fm ∧ Cl lv fm d ∧ (∀ t (k : Nat), (t, (k : Int)) ∈ fm → k ≤ d) ∧ (∀ t, t ∈ row ↔ (t, (d : Int)) ∈ fm) ∧ row.length ≤ 6 ∧ m = 2 * (7 - fm.length) + (if row = [] then 0 else 1)) _
      ⟨0, [(to, 0)], [to], rl, _, _, _, _, rfl, hs4, DI.one lv to, fun _ _ _ h => absurd h (Nat.not_lt_zero _), fun t k h => by
        have := congrArg Prod.snd (List.mem_singleton.mp h)
        have : (k : Int) = 0 := this
        omega, fun t => by
        rw [List.mem_singleton, List.mem_singleton]
        exact ⟨fun z => by rw [z]; rfl, fun z => congrArg Prod.fst z⟩, by simp, rfl⟩ ?_
    clear hs4 H4 H3 H2 rl
    rintro m σ H2 ⟨d, fm0, row, rl, v6, v7, v8, v9, rfl, hs2, di0, hcl, hle, hrow, hrz, rfl⟩
    have h6 := di0.few gd hto6
    walk_at "ss"
    refine w_truL (SqL.of hs2.g0) ?_
    by_cases hre : row = []
    · subst hre
      refine iteF ?_
      walk_at "ss"
      have hlt : ∀ t (k : Nat), (t, (k : Int)) ∈ fm0 → k < d := fun t k hk => by
        have h1 := hle t k hk
        by_cases h2 : k = d
        · subst h2
          cases (hrow t).mpr hk
        · omega
      exact k fd fm0 _ ((hs2.sel [1]).down sB0) (di0.isD hcl hlt)
    · have hne : (row.map V.int).isEmpty = false := by
        cases row with
        | nil => exact absurd rfl hre
        | cons _ _ => rfl
      rw [hne]
      refine iteT ?_
      walk_at "ss"
      rename_i fl H3 hs3
      have hs4 : Hs B0 [(fl, .lst ([].map V.int)), (rl, .lst (row.map V.int)), (fd, .dK (kvF fm0))] H3 := hs3
      clear hs3
      refine w_forL (SqL.of hs4.g1) (fun i σ H' => ∃ (B : Hp) (fm : FM) (fr : List Int) (v7 v8 v9 : Option V), σ = [some g, some (.ref dd), some (.int to), some (.ref ll), some (.ref fd), some (.ref rl), some (.ref fl), v7, v8, v9] ∧ Same B0 B ∧ Hs B [(fl, .lst (fr.map V.int)), (rl, .lst (row.map V.int)), (fd, .dK (kvF fm))] H' ∧ BJ lv to d fm0 fm fr ∧ fm.length = fm0.length + fr.length ∧ ∀ t ∈ row.take i, ∀ u, adj lv t u → u ∈ FMk fm)
        (fun Q q => ⟨_, rfl, q⟩) ⟨B0, fm0, [], v7, v8, v9, rfl, Same.refl _, hs4, ⟨di0, fun _ h => h, fun _ h => .inl h, fun t => ⟨(fun z => nomatch z), fun z => by
          have := hle t (d + 1) z
          omega⟩⟩, rfl, fun _ z => nomatch z⟩ (fun i σ H' _ ⟨_, _, _, _, _, _, _, _, hs, _⟩ => SqL.of hs.g1) ?_ ?_
      · clear hs4 hs2 v7 v8 v9
        rintro i y σ H4 hi ⟨B, fm, fr, v7, v8, v9, rfl, sB, hs4, bj, hlen, hdone⟩
        obtain ⟨sw, hsw, rfl⟩ := abs_map row i hi
        have hswd : (sw, (d : Int)) ∈ fm0 := (hrow sw).mp (List.mem_of_getElem? hsw)
        walk_at "ss"
        refine w_forS ?_
        walk_at "ss"
        have hllB := sB _ _ hll
        have hLB := hL.same sB
        refine ⟨ll, lys, lv, sw, rfl, hs4.old hllB, hLB.same hs4.same, hz, fun el ys H5 hs5 hrw => ?_⟩
        rw [ends_asked gd] at hrw
        have hs6z := hs4.add hs5
        obtain ⟨B1, sB1, hs6, tb⟩ := hs6z.ground rfl
        replace hrw := hrw.mono (fun _ _ z => EndAt.mono tb z)
        have hll1 := sB1 _ _ hllB
        have hL1 := hLB.same sB1
        replace sB := sB.trans sB1
        clear hs6z hs5 hs4 tb hllB hLB sB1
        have hask : ∀ e ∈ asked lv sw, e.1 = sw ∧ ∃ o, peerM lv e = some o := fun e he => by
          unfold asked at he
          rw [List.mem_filter] at he
          refine ⟨six_fst e he.1, ?_⟩
          cases hp : peerM lv e with
          | none =>
            rw [hp] at he
            cases he.2
          | some o => exact ⟨o, rfl⟩
        refine w_forL (SqL.of hs6.g0) (fun j σ H' => ∃ (fm : FM) (fr : List Int) (v8 v9 : Option V), σ = [some g, some (.ref dd), some (.int to), some (.ref ll), some (.ref fd), some (.ref rl), some (.ref fl), some (.int sw), v8, v9] ∧ Hs B1 [(el, .lst ys), (fl, .lst (fr.map V.int)), (rl, .lst (row.map V.int)), (fd, .dK (kvF fm))] H' ∧ BJ lv to d fm0 fm fr ∧ fm.length = fm0.length + fr.length ∧ (∀ t ∈ row.take i, ∀ u, adj lv t u → u ∈ FMk fm) ∧ ∀ e ∈ (asked lv sw).take j, ∀ o, peerM lv e = some o → o.1 ∈ FMk fm)
          (fun Q q => q) ⟨fm, fr, v8, v9, rfl, hs6, bj, hlen, hdone, fun _ z => nomatch z⟩ (fun i σ H' _ ⟨_, _, _, _, _, hs, _⟩ => SqL.of hs.g0) ?_ ?_
        · clear hs6 bj hlen hdone fm fr v8 v9
          rintro j y σ H6 hj ⟨fm, fr, v8, v9, rfl, hs6, bj, hlen, hdone, hpre⟩
          obtain ⟨e, hej, q, rfl, hq⟩ := hrw.get hj
          obtain ⟨hes, o, ho⟩ := hask e (List.mem_of_getElem? hej)
          have hf6 := bj.di.few gd hto6
          have he0 : (e.1, (d : Int)) ∈ fm0 := by rw [hes]; exact hswd
          have hb := BJ.step (st := (fm, fr)) bj he0
          have hb2 : ∀ t, t ∈ FMk fm → t ∈ FMk (bstep lv d (fm, fr) e).1 := fun t z => bstep_keep (st := (fm, fr)) z
          have hb3 : o.1 ∈ FMk (bstep lv d (fm, fr) e).1 := bstep_has ho
          have hpre' : ∀ e' ∈ (asked lv sw).take (j + 1), ∀ o, peerM lv e' = some o → o.1 ∈ FMk (bstep lv d (fm, fr) e).1 := fun e' he' o' ho' => by
            rw [List.take_add_one, hej] at he'
            rcases List.mem_append.mp he' with he' | he'
            · exact hb2 _ (hpre e' he' o' ho')
            · rw [Option.toList_some, List.mem_singleton] at he'
              subst he'
              rw [ho] at ho'
              cases ho'
              exact hb3
          have hdone' : ∀ t ∈ row.take i, ∀ u, adj lv t u → u ∈ FMk (bstep lv d (fm, fr) e).1 := fun t ht u a => hb2 _ (hdone t ht u a)
          have est : bstep lv d (fm, fr) e = if o.1 ∈ FMk fm then (fm, fr) else (fm ++ [(o.1, (d : Int) + 1)], fr ++ [o.1]) := by
            unfold bstep
            rw [ho]
          have hfd : valV (kvF fm) (Sum.inl sw) = some (.int d) := kvF_val bj.di.nd (bj.old _ hswd)
          walk_at "ss"
          refine ⟨ll, q, lys, lv, e, rfl, hs6.old hll1, hL1.same hs6.same, hs6.old hq, fun v hv => ?_⟩
          rw [ho] at hv
          obtain ⟨v, rfl, hv⟩ := hv
          have hv' : H6 v = some (.tup [.int o.1, .int o.2]) := hv
          walk_at "ss"
          rw [kvF_mem]
          by_cases hm : o.1 ∈ FMk fm
          · rw [if_pos hm] at est
            rw [est] at hb hpre' hdone'
            rw [decide_eq_true hm, Bool.not_true]
            refine iteF ?_
            walk_at "ss"
            exact ⟨fm, fr, _, _, rfl, hs6, hb, hlen, hdone', hpre'⟩
          · rw [if_neg hm] at est
            rw [est] at hb hpre' hdone'
            rw [decide_eq_false hm, Bool.not_false]
            refine iteT ?_
            have hkz : (kvF fm).length < sizeLine := szl (by rw [kvF_len]; omega)
            have hfz : (fr.map V.int).length < sizeLine := szl (by rw [List.length_map]; omega)
            walk_at "ss"
            refine w_dgetI hs6.g3 hfd ?_
            walk_at "ss"
            rename_i H7 hs7 H8 hs8
            rw [kvF_put hm] at hs8
            refine ⟨fm ++ [(o.1, (d : Int) + 1)], fr ++ [o.1], _, _, rfl, ?_, hb, ?_, hdone', hpre'⟩
            · rw [List.map_append]
              exact hs8
            · rw [List.length_append, List.length_append, hlen]
              rfl
        · clear hs6 bj hlen hdone fm fr v8 v9
          rintro σ H6 ⟨fm, fr, v8, v9, rfl, hs6, bj, hlen, hdone, hpre⟩
          rw [hrw.1, List.take_length] at hpre
          refine ⟨B1, fm, fr, _, _, _, rfl, sB, hs6.sel [1, 2, 3], bj, hlen, fun t ht u a => ?_⟩
          rw [List.take_add_one, hsw] at ht
          rcases List.mem_append.mp ht with ht | ht
          · exact hdone t ht u a
          · rw [Option.toList_some, List.mem_singleton] at ht
            subst ht
            obtain ⟨e, he, o, ho, hou⟩ := asked_all gd a
            rw [← hou]
            exact hpre e he o ho
      · clear hs4 hs2 v7 v8 v9
        rintro σ H4 ⟨B, fm, fr, v7, v8, v9, rfl, sB, hs4, bj, hlen, hdone⟩
        rw [List.length_map, List.take_length] at hdone
        walk_at "ss"
        have hf6 := bj.di.few gd hto6
        obtain ⟨c1, c2⟩ := pass_next bj.di bj.old bj.new hcl hle fun t ht u a => hdone t ((hrow t).mpr ht) u a
        refine ⟨2 * (7 - fm.length) + (if fr = [] then 0 else 1), ?_, d + 1, fm, fr, fl, _, _, _, _, rfl, (hs4.sel [0, 2]).down sB, bj.di, c1, c2, fun t => ?_, by omega, rfl⟩
        · rw [if_neg hre]
          by_cases hfe : fr = []
          · rw [if_pos hfe]
            omega
          · rw [if_neg hfe]
            have : 0 < fr.length := List.length_pos_iff.mpr hfe
            omega
        · rw [bj.fr t]
          exact Iff.rfl
end
local macro_rules | `(tactic| walk_at "v") => `(tactic| first | exact v0 | exact v1 | exact v2 | exact v3 | exact v4 | exact v5 | exact v6 | exact v7 | exact v8)
local macro_rules | `(tactic| walk_at "vs") => `(tactic| first | exact st0 | exact st1 | exact st2 | exact st3 | exact st4 | exact st5 | exact st6 | exact st7 | exact st8)
local macro_rules | `(tactic| walk_at "s") => `(tactic| first
  | with_reducible refine w_dget ?_
  | ((with_reducible refine' w_dgetZ ?h ?nd ?hk ?hv ?_); (case h => walk_at "g"); (case nd => walk_at "nd"); (case hk => walk_at "k"); (case hv => walk_at "v"))
  | ((with_reducible refine' w_dputZ ?hs ?h ?nd ?hk ?hv ?hu ?hl ?_); (case hs => assumption); (case h => walk_at "p"); (case nd => walk_at "nd"); (case hk => walk_at "k"); (case hv => walk_at "v"); (case hu => walk_at "vs"); (case hl => decide); intro _ _)
  | with_reducible refine w_gsub ?_
  | with_reducible refine w_setD ?_
  | with_reducible refine w_disp ?_
  | ((with_reducible refine' w_newP ?hs ?_); (case hs => assumption); intro _ _ _)
  | with_reducible refine w_pcons ?_
  | with_reducible refine w_pnil ?_)

local macro_rules | `(tactic| walk_at "s") => `(tactic| first
  | with_reducible refine w_nget ?_
  | with_reducible refine w_nin ?_
  | with_reducible refine w_nnot ?_
  | with_reducible refine w_nput ?_
  | with_reducible refine w_ndel ?_
  | with_reducible refine w_npop ?_
  | ((with_reducible refine' w_nnew ?hs ?_); (case hs => assumption); intro _ _ _))

/-! ## distances: the law's -/
theorem mem_take1 {ls : List Lk} {i : Nat} {l : Lk} (h : ls[i]? = some l) {p : Lk → Prop} (h1 : ∀ x ∈ ls.take i, p x) (h2 : p l) : ∀ x ∈ ls.take (i + 1), p x := fun x hx => by
  rw [List.take_add_one, h] at hx
  rcases List.mem_append.mp hx with hx | hx
  · exact h1 x hx
  · rw [Option.toList_some, List.mem_singleton] at hx
    rw [hx]
    exact h2
section
variable {P : Program} [IsP P] {w : World} {K : PySem.W.Frag} {mg : Str → Option Value} {base : Heap} {a : Ad}
theorem ok__law_distances (T : Txt w K mg a) : FnOk P w K mg base CX0 1 a._law_distances a.fd__law_distances ["graph", "dead", "to"] sp_dist := by
  refine T.fn__law_distances.ok sc__law_distances (fun vs H Q E h => ?_) (fun cdv A outer s H vs Q E hr h => ?_)
  · obtain ⟨_, _, _, _, _, _, _, rfl, _⟩ := h
    rfl
  · obtain ⟨g, dd, dus, cnt, to, ls, dead, rfl, hgr, hd, hD, gd0, hc0, hto, hc6, k⟩ := h
    obtain ⟨gp, lr, us, rfl, hg, hl, hL, hzl⟩ := hgr
    have hu := hu_of hr
    refine ⟨_, (pss_cons (ps_set (i := 3) sc__law_distances.nd rfl (Or.inl rfl) (pe_disp (pps_cons (pv 2) pe_int pps_nil) (by rfl) (by rfl) (fun z => by cases z) (by decide)))
  (pss_cons (ps_for PassesOwn.never rfl (pi_range1 rfl T.mg_range (pa_cons (pe_ix (ix_tupK (K := K)) (pv 0) pe_int (fun _ _ => rfl)) pa_nil)) (pg_name (i := 4) sc__law_distances.nd rfl (Or.inl rfl))
  (pss_one (ps_for PassesOwn.never rfl (pi_listK (K := K) (pe_ix (ix_tupK (K := K)) (pv 0) pe_int (fun _ _ => rfl))) (pg_tupK (K := K) rfl (pgs_cons (pg_name (i := 5) sc__law_distances.nd rfl (Or.inl rfl)) (pgs_cons (pg_name (i := 6) sc__law_distances.nd rfl (Or.inl rfl)) pgs_nil)))
  (pss_one (ps_for PassesOwn.never rfl (pi_tupK (K := K) (pe_tup (pa_cons (pe_tup (pa_cons (pe_ix (ix_tupK (K := K)) (pv 5) pe_int (fun _ _ => rfl)) (pa_cons (pe_ix (ix_tupK (K := K)) (pv 6) pe_int (fun _ _ => rfl)) pa_nil))) (pa_cons (pe_tup (pa_cons (pe_ix (ix_tupK (K := K)) (pv 6) pe_int (fun _ _ => rfl)) (pa_cons (pe_ix (ix_tupK (K := K)) (pv 5) pe_int (fun _ _ => rfl)) pa_nil))) pa_nil)))) (pg_tupK (K := K) rfl (pgs_cons (pg_name (i := 7) sc__law_distances.nd rfl (Or.inl rfl)) (pgs_cons (pg_name (i := 8) sc__law_distances.nd rfl (Or.inl rfl)) pgs_nil)))
  (pss_one (ps_if (PW.pt (pw_and (pt_cmpR (op_niDL (K := K) (r65 hr)) (pe_tup (pa_cons (pv 5) (pa_cons (pv 6) pa_nil))) (pv 1) (by rfl)) (pw_and (pt_cmp (pc_din hu (pv 7) (pv 3))) (pw_and (pt_cmpR op_eq (pe_dget hu (pv 3) (pv 7) (fun _ _ => rfl)) (pv 4) (nomark _)) (pw_and1 (pt_cmp (pc_dnotin hu (pv 8) (pv 3))))))))
  (pss_one (ps_dput hu (pv 3) (pv 8) (pe_op op_add (pv 4) pe_int) rfl))
  pss_nil)))))))
  (pss_one (ps_ret (pv 3))))), ?_⟩
    have hto6 : 1 ≤ to ∧ to ≤ 6 := ⟨hto.1, by omega⟩
    have gd := gd0.liv dead
    have hc := hc0.liv dead
    have hs := Hs.start H
    walk_at "ss"
    rename_i fd H2 hs2
    refine ⟨hs2.g0, [(Sum.inl to, .int 0)], rfl, by simp, ?_⟩
    have hs3 : Hs H [(fd, .dK (kvF [(to, 0)]))] (upd H2 fd (.dK (mergeK [] [(Sum.inl to, .int 0)]))) := hs2.p0 _
    generalize (upd H2 fd (.dK (mergeK [] [(Sum.inl to, .int 0)]))) = H3 at hs3 ⊢
    clear hs hs2
    have hg3 := hs3.old hg
    walk_at "ss"
    generalize hgv : V.ref gp = g at hg3 ⊢
    refine w_forR (n := cnt) (by omega) (fun T σ H' => ∃ (fm : FM) (v4 v5 v6 v7 v8 : Option V), σ = [some g, some (.ref dd), some (.int to), some (.ref fd), v4, v5, v6, v7, v8] ∧ Hs H [(fd, .dK (kvF fm))] H' ∧ DI (liv ls dead) to fm ∧ Cl (liv ls dead) fm T ∧ (∀ t (k : Nat), (t, (k : Int)) ∈ fm → k ≤ T))
      (fun Q' q => ?_) (by omega) ⟨[(to, 0)], _, _, _, _, _, rfl, hs3, DI.one _ to, fun _ _ _ h => absurd h (Nat.not_lt_zero _), fun t k h => by
        have := congrArg Prod.snd (List.mem_singleton.mp h)
        have : (k : Int) = 0 := this
        omega⟩ ?_ ?_
    · subst hgv
      walk_at "ss"
      exact q
    · clear hs3 hg3
      rintro T σ H4 hT ⟨fm0, v4, v5, v6, v7, v8, rfl, hs4, di0, hcl, hle⟩
      have hg4 := hs4.old hg
      subst hgv
      walk_at "ss"
      generalize hgv : V.ref gp = g
      refine w_forL (SqL.of (hs4.old hl)) (fun i σ H' => ∃ (fm : FM) (v5 v6 v7 v8 : Option V), σ = [some g, some (.ref dd), some (.int to), some (.ref fd), some (.int (T : Int)), v5, v6, v7, v8] ∧ Hs H [(fd, .dK (kvF fm))] H' ∧ DI (liv ls dead) to fm ∧ (∀ x ∈ fm0, x ∈ fm) ∧ (∀ x ∈ fm, x ∈ fm0 ∨ x.2 = (T : Int) + 1) ∧
          ∀ l ∈ ls.take i, (l ∉ dead → (l.1.1, (T : Int)) ∈ fm0 → l.2.1 ∈ FMk fm) ∧ (l ∉ dead → (l.2.1, (T : Int)) ∈ fm0 → l.1.1 ∈ FMk fm))
        (fun Q' q => ?_) ⟨fm0, v5, v6, v7, v8, rfl, hs4, di0, fun _ z => z, fun _ z => .inl z, fun _ z => nomatch z⟩ (fun i σ H' _ ⟨_, _, _, _, _, _, hs, _⟩ => SqL.of (hs.old hl)) ?_ ?_
      · subst hgv
        walk_at "ss"
        exact q
      · clear hs4 hg4 v5 v6 v7 v8
        rintro i y σ H5 hi ⟨fm, v5, v6, v7, v8, rfl, hs5, di, old, new, hdone⟩
        obtain ⟨t, l, rfl, hli, hnk⟩ := LkL.get hL hi
        obtain ⟨p, q, ht, hp, hq⟩ := nk_link hnk
        have hlm := List.mem_of_getElem? hli
        have ht5 := hs5.old ht
        have hp5 : H5 p = some (.tup [.int l.1.1, .int l.1.2]) := hs5.old hp
        have hq5 : H5 q = some (.tup [.int l.2.1, .int l.2.2]) := hs5.old hq
        have hadj0 : l ∉ dead → adj (liv ls dead) l.1.1 l.2.1 := fun z => ⟨l, mem_liv.mpr ⟨hlm, z⟩, .inl ⟨rfl, rfl⟩⟩
        have hadj1 : l ∉ dead → adj (liv ls dead) l.2.1 l.1.1 := fun z => ⟨l, mem_liv.mpr ⟨hlm, z⟩, .inr ⟨rfl, rfl⟩⟩
        walk_at "ss"
        refine w_forTF ?_
        walk_at "ss"
        rename_i t1 _ _ t2 _ _ t3 H6 hs6
        refine w_tupR (SqT.of hs6.g0) ?_
        have fm1def : ∃ fm1 : FM, fm1 = fm := ⟨fm, rfl⟩
        obtain ⟨fm1, rfl⟩ := fm1def
        refine for_tupR (fun m σ H' => ∃ (fm : FM) (v7 v8 : Option V), σ = [some g, some (.ref dd), some (.int to), some (.ref fd), some (.int (T : Int)), some (.ref p), some (.ref q), v7, v8] ∧ Hs H [(t3, .tup [.ref t1, .ref t2]), (t2, .tup [.int l.2.1, .int l.1.1]), (t1, .tup [.int l.1.1, .int l.2.1]), (fd, .dK (kvF fm))] H' ∧ DI (liv ls dead) to fm ∧ (∀ x ∈ fm0, x ∈ fm) ∧ (∀ x ∈ fm, x ∈ fm0 ∨ x.2 = (T : Int) + 1) ∧
            (1 ≤ m → (l ∉ dead → (l.1.1, (T : Int)) ∈ fm0 → l.2.1 ∈ FMk fm)) ∧ (2 ≤ m → (l ∉ dead → (l.2.1, (T : Int)) ∈ fm0 → l.1.1 ∈ FMk fm)) ∧ ∀ x, x ∈ FMk fm1 → x ∈ FMk fm)
          ⟨fm1, v7, v8, rfl, hs6, di, old, new, fun z => absurd z (by decide), fun z => absurd z (by decide), fun _ z => z⟩ (fun k σ H' _ ⟨_, _, _, _, hs, _⟩ => SqT.of hs.g0) ?_ ?_
        · clear hs6 ht5 hp5 hq5 hs5 di old new hdone
          rintro m x σ H6 hk ⟨fm, v7, v8, rfl, hs6, di, old, new, hd1, hd2, hA⟩
          have hf6 := di.few gd hto6
          match m, hk with
          | 0, hk =>
            cases hk
            walk_at "ss"
            rename_i tt H7 hs7
            have hs8 := hs7.sel [1, 2, 3, 4]
            refine w_niL (hs7.old hd) (hD.same hs7.same) (nk_mk (l := l) hs7.g0 (hs7.old hp) (hs7.old hq)) ?_
            refine ⟨_, rfl, ?_⟩
            by_cases hdl : l ∈ dead
            · rw [decide_eq_false (fun z => z hdl)]
              refine iteF ?_
              try (with_reducible refine iteF ?_)
              walk_at "ss"
              exact ⟨fm, _, _, rfl, hs8, di, old, new, fun _ => fun z => absurd hdl z, fun z => absurd z (by decide), hA⟩
            · rw [decide_eq_true hdl]
              refine iteT ?_
              walk_at "ss"
              rw [kvF_mem]
              by_cases ha : l.1.1 ∈ FMk fm
              · rw [decide_eq_true ha]
                refine iteT ?_
                obtain ⟨⟨a0, n⟩, hx, hxa⟩ := List.mem_map.mp ha
                have hxa' : a0 = l.1.1 := hxa
                subst hxa'
                walk_at "ss"
                refine w_dgetI hs7.g4 (kvF_val di.nd hx) ?_
                walk_at "ss"
                by_cases hn : n = (T : Int)
                · subst hn
                  rw [decide_eq_true rfl]
                  refine iteT ?_
                  walk_at "ss"
                  rw [kvF_mem]
                  by_cases hb : l.2.1 ∈ FMk fm
                  · rw [decide_eq_true hb, Bool.not_true]
                    refine iteF ?_
                    walk_at "ss"
                    exact ⟨fm, _, _, rfl, hs8, di, old, new, fun _ => fun _ _ => hb, fun z => absurd z (by decide), hA⟩
                  · rw [decide_eq_false hb, Bool.not_false]
                    refine iteT ?_
                    have hkz : (kvF fm).length < sizeLine := szl (by rw [kvF_len]; omega)
                    walk_at "ss"
                    rename_i H8 hs9
                    rw [kvF_put hb] at hs9
                    have sub : ∀ t, t ∈ FMk fm → t ∈ FMk (fm ++ [(l.2.1, (T : Int) + 1)]) := fun t z => by
                      unfold FMk
                      rw [List.map_append]
                      exact List.mem_append_left _ z
                    have hbm : l.2.1 ∈ FMk (fm ++ [(l.2.1, (T : Int) + 1)]) := by
                      unfold FMk
                      rw [List.map_append]
                      exact List.mem_append_right _ (by simp)
                    have new' : ∀ x ∈ fm ++ [(l.2.1, (T : Int) + 1)], x ∈ fm0 ∨ x.2 = (T : Int) + 1 := fun x hx => by
                      rcases List.mem_append.mp hx with hx | hx
                      · exact new x hx
                      · rw [List.mem_singleton.mp hx]
                        exact .inr rfl
                    exact ⟨fm ++ [(l.2.1, (T : Int) + 1)], _, _, rfl, hs9.sel [0, 1, 2, 3], di.add hx hb (hadj0 hdl), fun x hx => List.mem_append_left _ (old x hx), new', fun _ => fun _ _ => hbm, fun z => absurd z (by decide), fun x z => sub _ (hA x z)⟩
                · rw [decide_eq_false hn]
                  refine iteF ?_
                  try (with_reducible refine iteF ?_)
                  walk_at "ss"
                  exact ⟨fm, _, _, rfl, hs8, di, old, new, fun _ => fun _ z => absurd (fm_uniq di.nd hx (old _ z)) hn, fun z => absurd z (by decide), hA⟩
              · rw [decide_eq_false ha]
                refine iteF ?_
                try (with_reducible refine iteF ?_)
                walk_at "ss"
                exact ⟨fm, _, _, rfl, hs8, di, old, new, fun _ => fun _ z => absurd (List.mem_map.mpr ⟨_, old _ z, rfl⟩) ha, fun z => absurd z (by decide), hA⟩
          | 1, hk =>
            cases hk
            walk_at "ss"
            rename_i tt H7 hs7
            have hs8 := hs7.sel [1, 2, 3, 4]
            refine w_niL (hs7.old hd) (hD.same hs7.same) (nk_mk (l := l) hs7.g0 (hs7.old hp) (hs7.old hq)) ?_
            refine ⟨_, rfl, ?_⟩
            by_cases hdl : l ∈ dead
            · rw [decide_eq_false (fun z => z hdl)]
              refine iteF ?_
              try (with_reducible refine iteF ?_)
              walk_at "ss"
              exact ⟨fm, _, _, rfl, hs8, di, old, new, fun _ => hd1 (by decide), fun _ => fun z => absurd hdl z, hA⟩
            · rw [decide_eq_true hdl]
              refine iteT ?_
              walk_at "ss"
              rw [kvF_mem]
              by_cases ha : l.2.1 ∈ FMk fm
              · rw [decide_eq_true ha]
                refine iteT ?_
                obtain ⟨⟨a0, n⟩, hx, hxa⟩ := List.mem_map.mp ha
                have hxa' : a0 = l.2.1 := hxa
                subst hxa'
                walk_at "ss"
                refine w_dgetI hs7.g4 (kvF_val di.nd hx) ?_
                walk_at "ss"
                by_cases hn : n = (T : Int)
                · subst hn
                  rw [decide_eq_true rfl]
                  refine iteT ?_
                  walk_at "ss"
                  rw [kvF_mem]
                  by_cases hb : l.1.1 ∈ FMk fm
                  · rw [decide_eq_true hb, Bool.not_true]
                    refine iteF ?_
                    walk_at "ss"
                    exact ⟨fm, _, _, rfl, hs8, di, old, new, fun _ => hd1 (by decide), fun _ => fun _ _ => hb, hA⟩
                  · rw [decide_eq_false hb, Bool.not_false]
                    refine iteT ?_
                    have hkz : (kvF fm).length < sizeLine := szl (by rw [kvF_len]; omega)
                    walk_at "ss"
                    rename_i H8 hs9
                    rw [kvF_put hb] at hs9
                    have sub : ∀ t, t ∈ FMk fm → t ∈ FMk (fm ++ [(l.1.1, (T : Int) + 1)]) := fun t z => by
                      unfold FMk
                      rw [List.map_append]
                      exact List.mem_append_left _ z
                    have hbm : l.1.1 ∈ FMk (fm ++ [(l.1.1, (T : Int) + 1)]) := by
                      unfold FMk
                      rw [List.map_append]
                      exact List.mem_append_right _ (by simp)
                    have new' : ∀ x ∈ fm ++ [(l.1.1, (T : Int) + 1)], x ∈ fm0 ∨ x.2 = (T : Int) + 1 := fun x hx => by
                      rcases List.mem_append.mp hx with hx | hx
                      · exact new x hx
                      · rw [List.mem_singleton.mp hx]
                        exact .inr rfl
                    exact ⟨fm ++ [(l.1.1, (T : Int) + 1)], _, _, rfl, hs9.sel [0, 1, 2, 3], di.add hx hb (hadj1 hdl), fun x hx => List.mem_append_left _ (old x hx), new', fun _ => fun z1 z2 => sub _ (hd1 (by decide) z1 z2), fun _ => fun _ _ => hbm, fun x z => sub _ (hA x z)⟩
                · rw [decide_eq_false hn]
                  refine iteF ?_
                  try (with_reducible refine iteF ?_)
                  walk_at "ss"
                  exact ⟨fm, _, _, rfl, hs8, di, old, new, fun _ => hd1 (by decide), fun _ => fun _ z => absurd (fm_uniq di.nd hx (old _ z)) hn, hA⟩
              · rw [decide_eq_false ha]
                refine iteF ?_
                try (with_reducible refine iteF ?_)
                walk_at "ss"
                exact ⟨fm, _, _, rfl, hs8, di, old, new, fun _ => hd1 (by decide), fun _ => fun _ z => absurd (List.mem_map.mpr ⟨_, old _ z, rfl⟩) ha, hA⟩
          | m + 2, hk => simp at hk
        · rintro σ H7 ⟨fm2, v7', v8', rfl, hs7, di2, old2, new2, hd1, hd2, hA⟩
          refine ⟨fm2, _, _, _, _, rfl, hs7.sel [3], di2, old2, new2, mem_take1 hli (fun l' hl' => ?_) ⟨hd1 (show 1 ≤ 2 by decide), hd2 (show 2 ≤ 2 by decide)⟩⟩
          have := hdone l' hl'
          exact ⟨fun z1 z2 => hA _ (this.1 z1 z2), fun z1 z2 => hA _ (this.2 z1 z2)⟩
      · rintro σ H5 ⟨fm, v5', v6', v7', v8', rfl, hs5, di, old, new, hdone⟩
        rw [LkL.len hL, List.take_length] at hdone
        obtain ⟨c1, c2⟩ := pass_next di old new hcl hle fun t ht u a => by
          obtain ⟨l, hl, ⟨h1, h2⟩ | ⟨h1, h2⟩⟩ := a
          · obtain ⟨z1, z2⟩ := mem_liv.mp hl
            rw [← h2]
            exact (hdone l z1).1 z2 (by rw [h1]; exact ht)
          · obtain ⟨z1, z2⟩ := mem_liv.mp hl
            rw [← h2]
            exact (hdone l z1).2 z2 (by rw [h1]; exact ht)
        exact ⟨fm, _, _, _, _, _, rfl, hs5, di, c1, c2⟩
    · clear hs3 hg3
      rintro σ H4 ⟨fm, v4, v5, v6, v7, v8, rfl, hs4, di, hcl, hle⟩
      walk_at "ss"
      refine k fd fm _ hs4 (di.isD hcl fun t n hn => ?_)
      have := di.lt hc hto hn
      omega
end
local macro_rules | `(tactic| walk_at "v") => `(tactic| first | exact v0 | exact v1 | exact v2 | exact v3 | exact v4 | exact v5 | exact v6 | exact v7 | exact v8)
local macro_rules | `(tactic| walk_at "vs") => `(tactic| first | exact st0 | exact st1 | exact st2 | exact st3 | exact st4 | exact st5 | exact st6 | exact st7 | exact st8)
local macro_rules | `(tactic| walk_at "s") => `(tactic| first
  | with_reducible refine w_dget ?_
  | ((with_reducible refine' w_dgetZ ?h ?nd ?hk ?hv ?_); (case h => walk_at "g"); (case nd => walk_at "nd"); (case hk => walk_at "k"); (case hv => walk_at "v"))
  | ((with_reducible refine' w_dputZ ?hs ?h ?nd ?hk ?hv ?hu ?hl ?_); (case hs => assumption); (case h => walk_at "p"); (case nd => walk_at "nd"); (case hk => walk_at "k"); (case hv => walk_at "v"); (case hu => walk_at "vs"); (case hl => decide); intro _ _)
  | with_reducible refine w_gsub ?_
  | with_reducible refine w_setD ?_
  | with_reducible refine w_disp ?_
  | ((with_reducible refine' w_newP ?hs ?_); (case hs => assumption); intro _ _ _)
  | with_reducible refine w_pcons ?_
  | with_reducible refine w_pnil ?_)

local macro_rules | `(tactic| walk_at "s") => `(tactic| first
  | with_reducible refine w_nget ?_
  | with_reducible refine w_nin ?_
  | with_reducible refine w_nnot ?_
  | with_reducible refine w_nput ?_
  | with_reducible refine w_ndel ?_
  | with_reducible refine w_npop ?_
  | ((with_reducible refine' w_nnew ?hs ?_); (case hs => assumption); intro _ _ _))

/-! ## the next port -/
def optV : Option Int → V
  | none => .non
  | some p => .int p
section
variable {P : Program} [IsP P] {w : World} {K : PySem.W.Frag} {mg : Str → Option Value} {base : Heap} {a : Ad}
def sp_port : Sp := fun vs H Q _ => ∃ (g : V) (dd : Addr) (dus : List V) (cnt sw to : Int) (ls dead : List Lk), vs = [g, .ref dd, .int sw, .int to] ∧ GrAt H g cnt ls ∧ H dd = some (.lst dus) ∧ LkL H dus dead ∧ Gd ls ∧ InC cnt ls ∧ (1 ≤ to ∧ to ≤ cnt) ∧ cnt ≤ 6 ∧ ∀ o H', Same H H' → PortP (liv ls dead) to sw o → Q (optV o) H'
theorem ok_next_port (T : Txt w K mg a) : FnOk P w K mg base CX0 3 a.next_port a.fd_next_port ["graph", "dead", "switch", "to"] sp_port := by
  have G_living := ok_living (P := P) (w := w) (base := base) T
  have G_distances := ok_distances (P := P) (w := w) (base := base) T
  have G_ends_at := ok_ends_at (P := P) (w := w) (base := base) T
  have G_peer := ok_peer (P := P) (w := w) (base := base) T
  refine T.fn_next_port.ok sc_next_port (fun vs H Q E h => ?_) (fun cdv A outer s H vs Q E hr h => ?_)
  · obtain ⟨_, _, _, _, _, _, _, _, rfl, _⟩ := h
    rfl
  · obtain ⟨g, dd, dus, cnt, sw, to, ls, dead, rfl, hgr, hd, hD, gd0, hc0, hto, hc6, k⟩ := h
    have hu := hu_of hr
    refine ⟨_, (pss_cons (ps_set (i := 4) sc_next_port.nd rfl (Or.inr rfl) (pe_call G_living (hr.mono (by first | decide | omega)) rfl T.mg_living T.kp_living T.bi_living .nil pass0 (pa_cons (pv 0) (pa_cons (pv 1) pa_nil))))
  (pss_cons (ps_set (i := 5) sc_next_port.nd rfl (Or.inr rfl) (pe_call G_distances (hr.mono (by first | decide | omega)) rfl T.mg_distances T.kp_distances T.bi_distances .nil pass0 (pa_cons (pv 0) (pa_cons (pv 1) (pa_cons (pv 3) pa_nil)))))
  (pss_cons (ps_if (PW.pt (pw_or (pt_cmpR op_eq (pv 2) (pv 3) (nomark _)) (pw_or1 (pt_cmp (pc_dnotin hu (pv 2) (pv 5))))))
  (pss_one (ps_ret pe_non))
  pss_nil)
  (pss_one (ps_ret (pe_callB (cr_minK (K := K) rfl) (by rfl) T.mg_min (by decide +kernel) (pa_cons (pe_lc (own := [("_", 6), ("port", 7)]) (g := (gTup K 2 (gCons (gName 6) (gCons (gName 7) gNil)))) rfl sc_next_port.nd (pi_listK (K := K) (pe_call G_ends_at (hr.mono (by first | decide | omega)) rfl T.mg_ends_at T.kp_ends_at T.bi_ends_at .nil pass0 (pa_cons (pv 4) (pa_cons (pv 2) pa_nil)))) (blkOk_by (own := [("_", 6), ("port", 7)]) (N := N_next_port) (sc := defScope s_next_port) (by decide +kernel)) (fun _ _ _ _ _ => by exact (pg_tupK (K := K) rfl (pgs_cons (pg_name (i := 6) sc_next_port.nd rfl (Or.inl rfl)) (pgs_cons (pg_name (i := 7) sc_next_port.nd rfl (Or.inl rfl)) pgs_nil)))) (fun _ _ _ _ _ => by exact pts_one (pt_cmpR op_lt (pe_dget hu (pv 5) (pe_ix (ix_tupK (K := K)) (pe_call G_peer (hr.mono (by first | decide | omega)) rfl T.mg_peer T.kp_peer T.bi_peer .nil pass0 (pa_cons (pv 4) (pa_cons (pe_tup (pa_cons (pv 2) (pa_cons (pv 7) pa_nil))) pa_nil))) pe_int (fun _ _ => rfl)) (fun _ _ => rfl)) (pe_dget hu (pv 5) (pv 2) (fun _ _ => rfl)) (nomark _))) (fun _ _ _ _ _ => by exact (pv 7))) pa_nil))))))), ?_⟩
    have gd := gd0.liv dead
    walk_at "ss"
    refine ⟨g, dd, dus, cnt, ls, dead, rfl, hgr, hd, hD, fun ll lys H1 hs1 hL0 => ?_⟩
    have hz : lys.length ≤ 1000 := by
      rw [LkL.len hL0]
      obtain ⟨_, _, _, _, _, _, _, h5⟩ := hgr
      exact Nat.le_trans (List.length_filter_le _ _) (by omega)
    walk_at "ss"
    refine ⟨g, dd, dus, cnt, to, ls, dead, rfl, hgr.same hs1.same, hs1.old hd, hD.same hs1.same, gd0, hc0, hto, hc6, fun fd fm H2 hs2 hI => ?_⟩
    have s2 := hs1.same.trans hs2.same
    have hll := hs2.old hs1.g0
    have hL := hL0.same s2
    have hfd := hs2.g0
    clear hs1 hs2 hgr hd hD hL0 gd0 hc0
    generalize liv ls dead = lv at gd hI hL k
    walk_at "ss"
    by_cases h1 : sw = to
    · rw [decide_eq_true h1]
      refine iteT (iteT ?_)
      walk_at "ss"
      exact k none _ s2 (.inl h1)
    · rw [decide_eq_false h1]
      refine iteF ?_
      walk_at "ss"
      rw [kvF_mem]
      by_cases h2 : sw ∈ FMk fm
      · rw [decide_eq_true h2, Bool.not_true]
        refine iteF ?_
        have hrs := hI.keys.mp h2
        obtain ⟨⟨sw', n⟩, hxn, e1⟩ := List.mem_map.mp h2
        have e1' : sw' = sw := e1
        subst e1'
        have hfsw : valV (kvF fm) (Sum.inl sw') = some (.int n) := kvF_val hI.1 hxn
        walk_at "ss"
        refine w_lcS ?_
        walk_at "ss"
        refine ⟨ll, lys, lv, sw', rfl, hll, hL, hz, fun el ys H3 hs3 hrw => ?_⟩
        rw [ends_asked gd] at hrw
        have s3 := hs3.same
        have hyz : ys.length ≤ 6 := by
          rw [hrw.1]
          exact List.length_filter_le _ _
        have hll3 := s3 _ _ hll
        have hL3 := hL.same s3
        have hfd3 := s3 _ _ hfd
        have hd0 : ∃ k : Nat, n = (k : Int) ∧ Dst lv to k sw' := (hI.2 _ _).mp hxn
        obtain ⟨nk, hnk, hdst⟩ := hd0
        refine w_lc (SqL.of hs3.g0) (fun D j H' => ∃ ps : List Int, Hs H3 [(D, .lst (ps.map V.int))] H' ∧ ps.length ≤ j ∧ ∀ p, p ∈ ps ↔ ∃ e ∈ (asked lv sw').take j, e.2 = p ∧ goodPt lv to sw' p) (fun Q q => q) (fun D hD => ⟨[], (Hs.start H3).new hD, Nat.le_refl _, fun p => ⟨(fun z => nomatch z), fun ⟨_, z, _⟩ => nomatch z⟩⟩) (fun D j H' _ ⟨_, h, _⟩ => SqL.of (h.old hs3.g0)) ?_ ?_
        · rintro D j y H4 hj ⟨ps, hs4, hpz, hps⟩
          obtain ⟨e, hej, q, rfl, hq⟩ := hrw.get hj
          have hem := List.mem_of_getElem? hej
          have hask : e.1 = sw' ∧ ∃ o, peerM lv e = some o := by
            unfold asked at hem
            rw [List.mem_filter] at hem
            refine ⟨six_fst e hem.1, ?_⟩
            cases hp : peerM lv e with
            | none =>
              rw [hp] at hem
              cases hem.2
            | some o => exact ⟨o, rfl⟩
          obtain ⟨hes, o, ho⟩ := hask
          obtain ⟨ea, eb⟩ := e
          have hes' : ea = sw' := hes
          subst hes'
          have hjz := (List.getElem?_eq_some_iff.mp hj).1
          have ha := adj_peer ho
          have hor : Rch lv to o.1 := hrs.step ha
          obtain ⟨⟨o1, m⟩, hxm, e3⟩ := List.mem_map.mp (hI.keys.mpr hor)
          have e3' : o1 = o.1 := e3
          subst e3'
          obtain ⟨mk, hmk, hdm⟩ := (hI.2 _ _).mp hxm
          have hfo : valV (kvF fm) (Sum.inl o.1) = some (.int m) := kvF_val hI.1 hxm
          have hgood : goodPt lv to ea eb ↔ m < n := by
            constructor
            · rintro ⟨o', m', n', h1, h2, h3, h4⟩
              rw [ho] at h1
              cases h1
              have := hdm.uniq h2
              have := hdst.uniq h3
              omega
            · intro h
              exact ⟨o, mk, nk, ho, hdm, hdst, by omega⟩
          have hq4 : H4 q = some (.tup [.int ea, .int eb]) := hs4.old hq
          have hfd4 := hs4.old hfd3
          walk_at "ss"
          refine ⟨rfl, ?_⟩
          walk_at "ss"
          rename_i tt H5 hs5
          refine ⟨ll, tt, lys, lv, (ea, eb), rfl, hs5.old hll3, hL3.same hs5.same, hs5.g0, fun v hv => ?_⟩
          rw [ho] at hv
          obtain ⟨v, rfl, hv⟩ := hv
          have hv' : H5 v = some (.tup [.int o.1, .int o.2]) := hv
          have hfd5 := hs5.old hfd3
          walk_at "ss"
          refine w_dgetI hfd5 hfo ?_
          walk_at "ss"
          refine w_dgetI hfd5 hfsw ?_
          walk_at "ss"
          have hst : ∀ p, (∃ e ∈ (asked lv ea).take (j + 1), e.2 = p ∧ goodPt lv to ea p) ↔ (p ∈ ps ∨ (p = eb ∧ goodPt lv to ea p)) := fun p => by
            rw [hps p, List.take_add_one, hej]
            constructor
            · rintro ⟨e, he, h1, h2⟩
              rcases List.mem_append.mp he with he | he
              · exact .inl ⟨e, he, h1, h2⟩
              · rw [Option.toList_some, List.mem_singleton] at he
                exact .inr ⟨by rw [← h1, he], h2⟩
            · rintro (⟨e, he, h1, h2⟩ | ⟨h1, h2⟩)
              · exact ⟨e, List.mem_append_left _ he, h1, h2⟩
              · exact ⟨(ea, eb), List.mem_append_right _ (by simp), h1.symm, h2⟩
          refine ifd (fun hlt => ?_) (fun hlt => ?_)
          · walk_at "ss"
            refine ⟨_, hs5.g1, szl (by rw [List.length_map]; omega), ps ++ [eb], ?_, by simp; omega, fun p => ?_⟩
            · rw [List.map_append]
              exact hs5.tl.p0 _
            · rw [hst p, List.mem_append, List.mem_singleton]
              exact or_congr Iff.rfl ⟨fun z => ⟨z, by rw [z]; exact hgood.mpr hlt⟩, And.left⟩
          · refine ⟨ps, hs5.tl, by omega, fun p => ?_⟩
            rw [hst p]
            exact ⟨.inl, fun z => z.elim id fun ⟨z1, z2⟩ => absurd (hgood.mp (z1 ▸ z2)) hlt⟩
        · rintro D H4 ⟨ps, hs4, hpz, hps⟩
          rw [hrw.1, List.take_length] at hps
          walk_at "ss"
          have hgs : ∀ p, p ∈ ps ↔ goodPt lv to sw' p := fun p => by
            rw [hps p]
            constructor
            · rintro ⟨_, _, _, h⟩
              exact h
            · intro h
              obtain ⟨o, m, n', ho, _⟩ := h
              have ho' := ho
              refine ⟨(sw', p), ?_, rfl, ⟨o, m, n', ho', by assumption⟩⟩
              unfold asked
              rw [List.mem_filter]
              refine ⟨?_, by rw [ho']; rfl⟩
              obtain ⟨l, hl, hh⟩ := peer_of ho'
              have r := gd.rng l hl
              refine six_of (e := (sw', p)) ?_
              rcases hh with ⟨h3, _⟩ | ⟨h3, _⟩
              · rw [← h3]; exact (isEnd_iff.mp r.1).2
              · rw [← h3]; exact (isEnd_iff.mp r.2).2
          have hne : 0 < ps.length := by
            obtain ⟨e, he, o, m, n', ho, hm, hn, hlt, _⟩ := good_some gd h1 hrs
            have hes : e.1 = sw' := by
              unfold asked at he
              exact six_fst e (List.mem_filter.mp he).1
            have : e.2 ∈ ps := (hgs e.2).mpr ⟨o, m, n', by rw [← hes]; exact ho, hm, hn, hlt⟩
            exact List.length_pos_of_mem this
          refine ⟨D, ps, rfl, SqL.of hs4.g0, hne, fun p hp hmin => ?_⟩
          exact k (some p) _ ((s2.trans s3).trans hs4.same) ⟨h1, hrs, (hgs p).mp hp, fun q hq => hmin q ((hgs q).mpr hq)⟩
      · rw [decide_eq_false h2, Bool.not_false]
        refine iteT ?_
        walk_at "ss"
        exact k none _ s2 (.inr fun z => h2 (hI.keys.mpr z))
end
local macro_rules | `(tactic| walk_at "v") => `(tactic| first | exact v0 | exact v1 | exact v2 | exact v3 | exact v4 | exact v5 | exact v6 | exact v7 | exact v8)
local macro_rules | `(tactic| walk_at "vs") => `(tactic| first | exact st0 | exact st1 | exact st2 | exact st3 | exact st4 | exact st5 | exact st6 | exact st7 | exact st8)
local macro_rules | `(tactic| walk_at "s") => `(tactic| first
  | with_reducible refine w_dget ?_
  | ((with_reducible refine' w_dgetZ ?h ?nd ?hk ?hv ?_); (case h => walk_at "g"); (case nd => walk_at "nd"); (case hk => walk_at "k"); (case hv => walk_at "v"))
  | ((with_reducible refine' w_dputZ ?hs ?h ?nd ?hk ?hv ?hu ?hl ?_); (case hs => assumption); (case h => walk_at "p"); (case nd => walk_at "nd"); (case hk => walk_at "k"); (case hv => walk_at "v"); (case hu => walk_at "vs"); (case hl => decide); intro _ _)
  | with_reducible refine w_gsub ?_
  | with_reducible refine w_setD ?_
  | with_reducible refine w_disp ?_
  | ((with_reducible refine' w_newP ?hs ?_); (case hs => assumption); intro _ _ _)
  | with_reducible refine w_pcons ?_
  | with_reducible refine w_pnil ?_)

local macro_rules | `(tactic| walk_at "s") => `(tactic| first
  | with_reducible refine w_nget ?_
  | with_reducible refine w_nin ?_
  | with_reducible refine w_nnot ?_
  | with_reducible refine w_nput ?_
  | with_reducible refine w_ndel ?_
  | with_reducible refine w_npop ?_
  | ((with_reducible refine' w_nnew ?hs ?_); (case hs => assumption); intro _ _ _))

/-! ## the law's port -/
section
variable {P : Program} [IsP P] {w : World} {K : PySem.W.Frag} {mg : Str → Option Value} {base : Heap} {a : Ad}
theorem ok__law_port (T : Txt w K mg a) : FnOk P w K mg base CX0 2 a._law_port a.fd__law_port ["graph", "dead", "switch", "to"] sp_port := by
  have G__law_distances := ok__law_distances (P := P) (w := w) (base := base) T
  refine T.fn__law_port.ok sc__law_port (fun vs H Q E h => ?_) (fun cdv A outer s H vs Q E hr h => ?_)
  · obtain ⟨_, _, _, _, _, _, _, _, rfl, _⟩ := h
    rfl
  · obtain ⟨g, dd, dus, cnt, sw, to, ls, dead, rfl, hgr, hd, hD, gd0, hc0, hto, hc6, k⟩ := h
    have hu := hu_of hr
    refine ⟨_, (pss_cons (ps_set (i := 4) sc__law_port.nd rfl (Or.inl rfl) (pe_call G__law_distances (hr.mono (by first | decide | omega)) rfl T.mg__law_distances T.kp__law_distances T.bi__law_distances .nil pass0 (pa_cons (pv 0) (pa_cons (pv 1) (pa_cons (pv 3) pa_nil)))))
  (pss_cons (ps_if (PW.pt (pw_or (pt_cmpR op_eq (pv 2) (pv 3) (nomark _)) (pw_or1 (pt_cmp (pc_dnotin hu (pv 2) (pv 4))))))
  (pss_one (ps_ret pe_non))
  pss_nil)
  (pss_cons (ps_set (i := 5) sc__law_port.nd rfl (Or.inl rfl) (pe_lst pa_nil))
  (pss_cons (ps_for PassesOwn.never rfl (pi_listK (K := K) (pe_ix (ix_tupK (K := K)) (pv 0) pe_int (fun _ _ => rfl))) (pg_tupK (K := K) rfl (pgs_cons (pg_name (i := 6) sc__law_port.nd rfl (Or.inl rfl)) (pgs_cons (pg_name (i := 7) sc__law_port.nd rfl (Or.inl rfl)) pgs_nil)))
  (pss_one (ps_for PassesOwn.never rfl (pi_tupK (K := K) (pe_tup (pa_cons (pe_tup (pa_cons (pv 6) (pa_cons (pv 7) pa_nil))) (pa_cons (pe_tup (pa_cons (pv 7) (pa_cons (pv 6) pa_nil))) pa_nil)))) (pg_tupK (K := K) rfl (pgs_cons (pg_name (i := 8) sc__law_port.nd rfl (Or.inl rfl)) (pgs_cons (pg_name (i := 9) sc__law_port.nd rfl (Or.inl rfl)) pgs_nil)))
  (pss_one (ps_if (PW.pt (pw_and (pt_cmpR (op_niDL (K := K) (r65 hr)) (pe_tup (pa_cons (pv 6) (pa_cons (pv 7) pa_nil))) (pv 1) (by rfl)) (pw_and (pt_cmpR op_eq (pe_ix (ix_tupK (K := K)) (pv 8) pe_int (fun _ _ => rfl)) (pv 2) (nomark _)) (pw_and1 (pt_cmpR op_eq (pe_dget hu (pv 4) (pe_ix (ix_tupK (K := K)) (pv 9) pe_int (fun _ _ => rfl)) (fun _ _ => rfl)) (pe_op op_sub (pe_dget hu (pv 4) (pv 2) (fun _ _ => rfl)) pe_int) (nomark _))))))
  (pss_one (ps_expr (pe_bmK (K := K) PySem.F.plainAttrs_list PySem.F.slot_list_append PySem.F.type_list_append mt_append (pv 5) (pa_cons (pe_ix (ix_tupK (K := K)) (pv 8) pe_int (fun _ _ => rfl)) pa_nil))))
  pss_nil)))))
  (pss_one (ps_ret (pe_callB (cr_minK (K := K) rfl) (by rfl) T.mg_min (by decide +kernel) (pa_cons (pv 5) pa_nil)))))))), ?_⟩
    have gd := gd0.liv dead
    walk_at "ss"
    refine ⟨g, dd, dus, cnt, to, ls, dead, rfl, hgr, hd, hD, gd0, hc0, hto, hc6, fun fd fm H2 hs2 hI => ?_⟩
    have s2 := hs2.same
    obtain ⟨gp, lr, us, rfl, hg0, hl0, hL0, hzl⟩ := hgr
    have hg := s2 _ _ hg0
    have hl := s2 _ _ hl0
    have hL := hL0.same s2
    have hd2 := s2 _ _ hd
    have hD2 := hD.same s2
    have hfd := hs2.g0
    clear hs2 hg0 hl0 hL0 hd hD hc0
    walk_at "ss"
    by_cases h1 : sw = to
    · rw [decide_eq_true h1]
      refine iteT (iteT ?_)
      walk_at "ss"
      exact k none _ s2 (.inl h1)
    · rw [decide_eq_false h1]
      refine iteF ?_
      walk_at "ss"
      rw [kvF_mem]
      by_cases h2 : sw ∈ FMk fm
      · rw [decide_eq_true h2, Bool.not_true]
        refine iteF ?_
        have hrs := hI.keys.mp h2
        obtain ⟨⟨sw', n⟩, hxn, e1⟩ := List.mem_map.mp h2
        have e1' : sw = sw' := e1.symm
        subst e1'
        have hfsw : valV (kvF fm) (Sum.inl sw) = some (.int n) := kvF_val hI.1 hxn
        obtain ⟨nk, hnk, hdst⟩ := (hI.2 _ _).mp hxn
        clear e1
        have hs := Hs.start H2
        walk_at "ss"
        rename_i pl H3 hs3
        clear hs
        refine w_forL (SqL.of (hs3.old hl)) (fun i σ H' => ∃ (ps : List Int) (v6 v7 v8 v9 : Option V), σ = [some (.ref gp), some (.ref dd), some (.int sw), some (.int to), some (.ref fd), some (.ref pl), v6, v7, v8, v9] ∧ Hs H2 [(pl, .lst (ps.map V.int))] H' ∧ ps.length ≤ 2 * i ∧ ∀ x, x ∈ ps ↔ ∃ l ∈ ls.take i, l ∉ dead ∧ goodPt (liv ls dead) to sw x ∧ (l.1 = (sw, x) ∨ l.2 = (sw, x)))
          (fun Q' q => ?_) ⟨[], _, _, _, _, rfl, hs3, Nat.le_refl _, fun x => ⟨(fun z => nomatch z), fun ⟨_, z, _⟩ => nomatch z⟩⟩ (fun i σ H' _ ⟨_, _, _, _, _, _, hs, _⟩ => SqL.of (hs.old hl)) ?_ ?_
        · walk_at "ss"
          exact q
        · clear hs3
          rintro i y σ H4 hi ⟨ps0, v6, v7, v8, v9, rfl, hs4, hpz0, hps0⟩
          obtain ⟨t, l, rfl, hli, hnk2⟩ := LkL.get hL hi
          obtain ⟨p, q, ht, hp2, hq2⟩ := nk_link hnk2
          have hlm := List.mem_of_getElem? hli
          have hiz : i < 100 := by
            have := (List.getElem?_eq_some_iff.mp hli).1
            omega
          have ht4 := hs4.old ht
          walk_at "ss"
          refine w_forTF ?_
          walk_at "ss"
          rename_i t1 _ _ t2 _ _ t3 H6 hs6
          refine w_tupR (SqT.of hs6.g0) ?_
          refine for_tupR (fun m σ H' => ∃ (ps : List Int) (v8 v9 : Option V), σ = [some (.ref gp), some (.ref dd), some (.int sw), some (.int to), some (.ref fd), some (.ref pl), some (.ref p), some (.ref q), v8, v9] ∧ Hs H2 [(t3, .tup [.ref t1, .ref t2]), (t2, .tup [.ref q, .ref p]), (t1, .tup [.ref p, .ref q]), (pl, .lst (ps.map V.int))] H' ∧ ps.length ≤ 2 * i + m ∧ ∀ x, x ∈ ps ↔ (x ∈ ps0 ∨ (1 ≤ m ∧ l ∉ dead ∧ goodPt (liv ls dead) to sw x ∧ l.1 = (sw, x)) ∨ (2 ≤ m ∧ l ∉ dead ∧ goodPt (liv ls dead) to sw x ∧ l.2 = (sw, x))))
            ⟨ps0, v8, v9, rfl, hs6, hpz0, fun x => ⟨.inl, fun z => z.elim id fun z => z.elim (fun z => absurd z.1 (by decide)) fun z => absurd z.1 (by decide)⟩⟩ (fun k σ H' _ ⟨_, _, _, _, hs, _⟩ => SqT.of hs.g0) ?_ ?_
          · clear hs6 ht4 hs4
            rintro m x σ H6 hk ⟨ps, v8, v9, rfl, hs6, hpz, hps⟩
            match m, hk with
            | 0, hk =>
              cases hk
              walk_at "ss"
              rename_i tt H7 hs7
              have hs8 := hs7.sel [1, 2, 3, 4]
              refine w_niL (hs7.old hd2) (hD2.same hs7.same) (nk_mk (l := l) hs7.g0 (hs7.old hp2) (hs7.old hq2)) ?_
              refine ⟨_, rfl, ?_⟩
              by_cases hdl : l ∈ dead
              · rw [decide_eq_false (fun z => z hdl)]
                refine iteF ?_
                try (with_reducible refine iteF ?_)
                walk_at "ss"
                exact ⟨ps, _, _, rfl, hs8, by omega, fun x => ⟨fun z => ((hps x).mp z).elim .inl (fun z => z.elim (fun z => absurd z.1 (by decide)) fun z => absurd z.1 (by decide)), fun z => (hps x).mpr (z.elim .inl fun z => z.elim (fun ⟨_, z1, z2, z3⟩ => ((fun z1 _ _ => z1 hdl : l ∉ dead → goodPt (liv ls dead) to sw x → l.1 = (sw, x) → False) z1 z2 z3).elim) fun z => absurd z.1 (by decide))⟩⟩
              · rw [decide_eq_true hdl]
                refine iteT ?_
                have hpA : H7 p = some (.tup [.int l.1.1, .int l.1.2]) := hs7.old hp2
                have hpB : H7 q = some (.tup [.int l.2.1, .int l.2.2]) := hs7.old hq2
                walk_at "ss"
                by_cases ha : l.1.1 = sw
                · rw [decide_eq_true ha]
                  refine iteT ?_
                  have hpe : peerM (liv ls dead) l.1 = some l.2 := (peer_l gd (mem_liv.mpr ⟨hlm, hdl⟩)).1
                  have hA2 : l.1 = (sw, l.1.2) := Prod.ext ha rfl
                  have hor : Rch (liv ls dead) to l.2.1 := hrs.step (ha ▸ adj_peer hpe)
                  obtain ⟨⟨o1, m⟩, hxm, e3⟩ := List.mem_map.mp (hI.keys.mpr hor)
                  have e3' : o1 = l.2.1 := e3
                  subst e3'
                  obtain ⟨mk, hmk, hdm⟩ := (hI.2 _ _).mp hxm
                  have hfo : valV (kvF fm) (Sum.inl l.2.1) = some (.int m) := kvF_val hI.1 hxm
                  have hpe' : peerM (liv ls dead) (sw, l.1.2) = some l.2 := hA2 ▸ hpe
                  have hgood : goodPt (liv ls dead) to sw l.1.2 ↔ m = n - 1 := by
                    constructor
                    · rintro ⟨o', m', n', h1, h2, h3, h4⟩
                      have h5 := (good_lt h1 h2 h3).mp h4
                      rw [hpe'] at h1
                      cases h1
                      have := hdm.uniq h2
                      have := hdst.uniq h3
                      omega
                    · intro h
                      exact ⟨l.2, mk, nk, hpe', hdm, hdst, by omega⟩
                  have hfd7 := hs7.old hfd
                  walk_at "ss"
                  refine w_dgetI hfd7 hfo ?_
                  walk_at "ss"
                  refine w_dgetI hfd7 hfsw ?_
                  walk_at "ss"
                  by_cases hn : m = n - 1
                  · rw [decide_eq_true hn]
                    refine iteT ?_
                    have hgd := hgood.mpr hn
                    have hkz : (ps.map V.int).length < sizeLine := szl (by rw [List.length_map]; omega)
                    walk_at "ss"
                    rename_i H8 hs9
                    have hs10 := hs9.sel [0, 1, 2, 3]
                    refine ⟨ps ++ [l.1.2], _, _, rfl, ?_, by simp; omega, fun x => ?_⟩
                    · rw [List.map_append]
                      exact hs10
                    · rw [List.mem_append, List.mem_singleton]
                      exact ⟨fun z => z.elim (fun z => ((hps x).mp z).elim .inl (fun z => z.elim (fun z => absurd z.1 (by decide)) fun z => absurd z.1 (by decide))) fun z => .inr (.inl ⟨by decide, hdl, by rw [z]; exact hgd, by rw [z]; exact hA2⟩), fun z => z.elim (fun z => .inl ((hps x).mpr (.inl z))) fun z => z.elim (fun ⟨_, _, _, z3⟩ => .inr (by rw [z3])) fun z => absurd z.1 (by decide)⟩
                  · rw [decide_eq_false hn]
                    refine iteF ?_
                    walk_at "ss"
                    exact ⟨ps, _, _, rfl, hs8, by omega, fun x => ⟨fun z => ((hps x).mp z).elim .inl (fun z => z.elim (fun z => absurd z.1 (by decide)) fun z => absurd z.1 (by decide)), fun z => (hps x).mpr (z.elim .inl fun z => z.elim (fun ⟨_, z1, z2, z3⟩ => ((fun _ z2 z3 => hn (hgood.mp (by rw [z3]; exact z2)) : l ∉ dead → goodPt (liv ls dead) to sw x → l.1 = (sw, x) → False) z1 z2 z3).elim) fun z => absurd z.1 (by decide))⟩⟩
                · rw [decide_eq_false ha]
                  refine iteF ?_
                  try (with_reducible refine iteF ?_)
                  walk_at "ss"
                  exact ⟨ps, _, _, rfl, hs8, by omega, fun x => ⟨fun z => ((hps x).mp z).elim .inl (fun z => z.elim (fun z => absurd z.1 (by decide)) fun z => absurd z.1 (by decide)), fun z => (hps x).mpr (z.elim .inl fun z => z.elim (fun ⟨_, z1, z2, z3⟩ => ((fun _ _ z3 => ha (congrArg Prod.fst z3) : l ∉ dead → goodPt (liv ls dead) to sw x → l.1 = (sw, x) → False) z1 z2 z3).elim) fun z => absurd z.1 (by decide))⟩⟩
            | 1, hk =>
              cases hk
              walk_at "ss"
              rename_i tt H7 hs7
              have hs8 := hs7.sel [1, 2, 3, 4]
              refine w_niL (hs7.old hd2) (hD2.same hs7.same) (nk_mk (l := l) hs7.g0 (hs7.old hp2) (hs7.old hq2)) ?_
              refine ⟨_, rfl, ?_⟩
              by_cases hdl : l ∈ dead
              · rw [decide_eq_false (fun z => z hdl)]
                refine iteF ?_
                try (with_reducible refine iteF ?_)
                walk_at "ss"
                exact ⟨ps, _, _, rfl, hs8, by omega, fun x => ⟨fun z => ((hps x).mp z).elim .inl (fun z => z.elim (fun z => .inr (.inl ⟨by decide, z.2⟩)) fun z => absurd z.1 (by decide)), fun z => (hps x).mpr (z.elim .inl fun z => z.elim (fun z => .inr (.inl ⟨by decide, z.2⟩)) fun ⟨_, z1, z2, z3⟩ => ((fun z1 _ _ => z1 hdl : l ∉ dead → goodPt (liv ls dead) to sw x → l.2 = (sw, x) → False) z1 z2 z3).elim)⟩⟩
              · rw [decide_eq_true hdl]
                refine iteT ?_
                have hpA : H7 q = some (.tup [.int l.2.1, .int l.2.2]) := hs7.old hq2
                have hpB : H7 p = some (.tup [.int l.1.1, .int l.1.2]) := hs7.old hp2
                walk_at "ss"
                by_cases ha : l.2.1 = sw
                · rw [decide_eq_true ha]
                  refine iteT ?_
                  have hpe : peerM (liv ls dead) l.2 = some l.1 := (peer_l gd (mem_liv.mpr ⟨hlm, hdl⟩)).2
                  have hA2 : l.2 = (sw, l.2.2) := Prod.ext ha rfl
                  have hor : Rch (liv ls dead) to l.1.1 := hrs.step (ha ▸ adj_peer hpe)
                  obtain ⟨⟨o1, m⟩, hxm, e3⟩ := List.mem_map.mp (hI.keys.mpr hor)
                  have e3' : o1 = l.1.1 := e3
                  subst e3'
                  obtain ⟨mk, hmk, hdm⟩ := (hI.2 _ _).mp hxm
                  have hfo : valV (kvF fm) (Sum.inl l.1.1) = some (.int m) := kvF_val hI.1 hxm
                  have hpe' : peerM (liv ls dead) (sw, l.2.2) = some l.1 := hA2 ▸ hpe
                  have hgood : goodPt (liv ls dead) to sw l.2.2 ↔ m = n - 1 := by
                    constructor
                    · rintro ⟨o', m', n', h1, h2, h3, h4⟩
                      have h5 := (good_lt h1 h2 h3).mp h4
                      rw [hpe'] at h1
                      cases h1
                      have := hdm.uniq h2
                      have := hdst.uniq h3
                      omega
                    · intro h
                      exact ⟨l.1, mk, nk, hpe', hdm, hdst, by omega⟩
                  have hfd7 := hs7.old hfd
                  walk_at "ss"
                  refine w_dgetI hfd7 hfo ?_
                  walk_at "ss"
                  refine w_dgetI hfd7 hfsw ?_
                  walk_at "ss"
                  by_cases hn : m = n - 1
                  · rw [decide_eq_true hn]
                    refine iteT ?_
                    have hgd := hgood.mpr hn
                    have hkz : (ps.map V.int).length < sizeLine := szl (by rw [List.length_map]; omega)
                    walk_at "ss"
                    rename_i H8 hs9
                    have hs10 := hs9.sel [0, 1, 2, 3]
                    refine ⟨ps ++ [l.2.2], _, _, rfl, ?_, by simp; omega, fun x => ?_⟩
                    · rw [List.map_append]
                      exact hs10
                    · rw [List.mem_append, List.mem_singleton]
                      exact ⟨fun z => z.elim (fun z => ((hps x).mp z).elim .inl (fun z => z.elim (fun z => .inr (.inl ⟨by decide, z.2⟩)) fun z => absurd z.1 (by decide))) fun z => .inr (.inr ⟨by decide, hdl, by rw [z]; exact hgd, by rw [z]; exact hA2⟩), fun z => z.elim (fun z => .inl ((hps x).mpr (.inl z))) fun z => z.elim (fun z => .inl ((hps x).mpr (.inr (.inl ⟨by decide, z.2⟩)))) fun ⟨_, _, _, z3⟩ => .inr (by rw [z3])⟩
                  · rw [decide_eq_false hn]
                    refine iteF ?_
                    walk_at "ss"
                    exact ⟨ps, _, _, rfl, hs8, by omega, fun x => ⟨fun z => ((hps x).mp z).elim .inl (fun z => z.elim (fun z => .inr (.inl ⟨by decide, z.2⟩)) fun z => absurd z.1 (by decide)), fun z => (hps x).mpr (z.elim .inl fun z => z.elim (fun z => .inr (.inl ⟨by decide, z.2⟩)) fun ⟨_, z1, z2, z3⟩ => ((fun _ z2 z3 => hn (hgood.mp (by rw [z3]; exact z2)) : l ∉ dead → goodPt (liv ls dead) to sw x → l.2 = (sw, x) → False) z1 z2 z3).elim)⟩⟩
                · rw [decide_eq_false ha]
                  refine iteF ?_
                  try (with_reducible refine iteF ?_)
                  walk_at "ss"
                  exact ⟨ps, _, _, rfl, hs8, by omega, fun x => ⟨fun z => ((hps x).mp z).elim .inl (fun z => z.elim (fun z => .inr (.inl ⟨by decide, z.2⟩)) fun z => absurd z.1 (by decide)), fun z => (hps x).mpr (z.elim .inl fun z => z.elim (fun z => .inr (.inl ⟨by decide, z.2⟩)) fun ⟨_, z1, z2, z3⟩ => ((fun _ _ z3 => ha (congrArg Prod.fst z3) : l ∉ dead → goodPt (liv ls dead) to sw x → l.2 = (sw, x) → False) z1 z2 z3).elim)⟩⟩
            | m + 2, hk => simp at hk
          · rintro σ H7 ⟨ps, v8', v9', rfl, hs7, hpz, hps⟩
            refine ⟨ps, _, _, _, _, rfl, hs7.sel [3], hpz, fun x => ?_⟩
            rw [hps x, hps0 x, List.take_add_one, hli]
            constructor
            · rintro (⟨l', h3, h4⟩ | ⟨_, h3, h4, h5⟩ | ⟨_, h3, h4, h5⟩)
              · exact ⟨l', List.mem_append_left _ h3, h4⟩
              · exact ⟨l, List.mem_append_right _ (by simp), h3, h4, .inl h5⟩
              · exact ⟨l, List.mem_append_right _ (by simp), h3, h4, .inr h5⟩
            · rintro ⟨l', h3, h4, h5, h6⟩
              rcases List.mem_append.mp h3 with h3 | h3
              · exact .inl ⟨l', h3, h4, h5, h6⟩
              · rw [Option.toList_some, List.mem_singleton] at h3
                subst h3
                rcases h6 with h6 | h6
                · exact .inr (.inl ⟨show 1 ≤ 2 by decide, h4, h5, h6⟩)
                · exact .inr (.inr ⟨show 2 ≤ 2 by decide, h4, h5, h6⟩)
        · clear hs3
          rintro σ H4 ⟨ps, v6, v7, v8, v9, rfl, hs4, hpz, hps⟩
          rw [LkL.len hL, List.take_length] at hps
          have hgs : ∀ x, x ∈ ps ↔ goodPt (liv ls dead) to sw x := fun x => by
            rw [hps x]
            constructor
            · rintro ⟨_, _, _, h, _⟩
              exact h
            · intro h
              obtain ⟨o, _, _, ho, _⟩ := id h
              obtain ⟨l, hl, hh⟩ := peer_of ho
              refine ⟨l, (mem_liv.mp hl).1, (mem_liv.mp hl).2, h, ?_⟩
              exact hh.elim (fun z => .inl z.1) fun z => .inr z.1
          have hne : 0 < ps.length := by
            obtain ⟨e, he, o, m, n', ho, hm, hn, hlt, _⟩ := good_some gd h1 hrs
            have hes : e.1 = sw := by
              unfold asked at he
              exact six_fst e (List.mem_filter.mp he).1
            have : e.2 ∈ ps := (hgs e.2).mpr ⟨o, m, n', by rw [← hes]; exact ho, hm, hn, hlt⟩
            exact List.length_pos_of_mem this
          walk_at "ss"
          refine ⟨pl, ps, rfl, SqL.of hs4.g0, hne, fun p hp hmin => ?_⟩
          exact k (some p) _ (s2.trans hs4.same) ⟨h1, hrs, (hgs p).mp hp, fun q hq => hmin q ((hgs q).mpr hq)⟩
      · rw [decide_eq_false h2, Bool.not_false]
        refine iteT ?_
        walk_at "ss"
        exact k none _ s2 (.inr fun z => h2 (hI.keys.mpr z))
end
local macro_rules | `(tactic| walk_at "v") => `(tactic| first | exact v0 | exact v1 | exact v2 | exact v3 | exact v4 | exact v5 | exact v6 | exact v7 | exact v8)
local macro_rules | `(tactic| walk_at "vs") => `(tactic| first | exact st0 | exact st1 | exact st2 | exact st3 | exact st4 | exact st5 | exact st6 | exact st7 | exact st8)
local macro_rules | `(tactic| walk_at "s") => `(tactic| first
  | with_reducible refine w_dget ?_
  | ((with_reducible refine' w_dgetZ ?h ?nd ?hk ?hv ?_); (case h => walk_at "g"); (case nd => walk_at "nd"); (case hk => walk_at "k"); (case hv => walk_at "v"))
  | ((with_reducible refine' w_dputZ ?hs ?h ?nd ?hk ?hv ?hu ?hl ?_); (case hs => assumption); (case h => walk_at "p"); (case nd => walk_at "nd"); (case hk => walk_at "k"); (case hv => walk_at "v"); (case hu => walk_at "vs"); (case hl => decide); intro _ _)
  | with_reducible refine w_gsub ?_
  | with_reducible refine w_setD ?_
  | with_reducible refine w_disp ?_
  | ((with_reducible refine' w_newP ?hs ?_); (case hs => assumption); intro _ _ _)
  | with_reducible refine w_pcons ?_
  | with_reducible refine w_pnil ?_)

local macro_rules | `(tactic| walk_at "s") => `(tactic| first
  | with_reducible refine w_nget ?_
  | with_reducible refine w_nin ?_
  | with_reducible refine w_nnot ?_
  | with_reducible refine w_nput ?_
  | with_reducible refine w_ndel ?_
  | with_reducible refine w_npop ?_
  | ((with_reducible refine' w_nnew ?hs ?_); (case hs => assumption); intro _ _ _))

/-! ## the walk ends -/
noncomputable def dstC (ls : List Lk) (to sw : Int) : Nat := open Classical in if h : ∃ n, Dst ls to n sw then h.choose + 1 else 0
theorem dstC_some {ls : List Lk} {to sw : Int} {n : Nat} (h : Dst ls to n sw) : dstC ls to sw = n + 1 := by
  unfold dstC
  rw [dif_pos ⟨n, h⟩]
  have := (Classical.choose_spec (⟨n, h⟩ : ∃ n, Dst ls to n sw)).uniq h
  show Classical.choose _ + 1 = n + 1
  rw [this]
theorem dstC_le {cnt : Int} {ls : List Lk} (hc : InC cnt ls) {to sw : Int} (hto : 1 ≤ to ∧ to ≤ cnt) (h6 : cnt ≤ 6) : dstC ls to sw ≤ 6 := by
  by_cases h : ∃ n, Dst ls to n sw
  · obtain ⟨n, h⟩ := h
    rw [dstC_some h]
    have := dst_lt hc hto h
    omega
  · unfold dstC
    rw [dif_neg h]
    exact Nat.zero_le _
noncomputable def mu (ls : List Lk) (to : Int) (st : WS) : Nat := (ls.length - st.car.length) * 7 + dstC (liv ls st.car) to st.sw
theorem mu_step {ls down : List Lk} {cnt to first : Int} (g : Gd ls) (hc : InC cnt ls) (hto : 1 ≤ to ∧ to ≤ cnt) (h6 : cnt ≤ 6) {st : WS} (h : WI ls down cnt to first st) {p : Int} (hp : portC (liv ls st.car) to st.sw = some p) : mu ls to (wnext ls down st p) < mu ls to st := by
  obtain ⟨_, o, ho, hpo, _, hcase⟩ := h.step g hc hto hp
  have hP := port_ok (g.liv st.car) to st.sw
  rw [hp] at hP
  obtain ⟨n0, hn0⟩ := rch_dst hP.2.1
  have e0 := dstC_some hn0
  rcases hcase with ⟨hd, hl, hlt⟩ | ⟨hd, hl, n, hn, hm⟩
  · have e1 := dstC_le (hc.liv (wnext ls down st p).car) hto h6 (sw := (wnext ls down st p).sw)
    unfold mu
    rw [hl, e0]
    have : ls.length - st.car.length = (ls.length - (st.car.length + 1)) + 1 := by omega
    rw [this, Nat.add_mul]
    omega
  · have hsw : (wnext ls down st p).sw = o.1 := by
      unfold wnext
      rw [hpo, if_neg hd]
    unfold mu
    rw [hl, hsw, dstC_some hm, dstC_some hn]
    omega
theorem WI.zero {ls down : List Lk} {cnt to first : Int} (hc : InC cnt ls) (hto : 1 ≤ to ∧ to ≤ cnt) (hf : 1 ≤ first ∧ first ≤ cnt) : WI ls down cnt to first ⟨[], [], first⟩ := by
  refine ⟨List.Pairwise.nil, (fun _ z => nomatch z), .refl, hf, fun n hn => ?_, ?_⟩
  · have := dst_lt (hc.liv []) hto hn
    show (0 : Int) + n ≤ (cnt - 1) * (0 + 1)
    omega
  · show (0 : Int) ≤ (cnt - 1) * (0 + 1)
    omega
theorem run_WI {ls down : List Lk} {cnt to first : Int} (g : Gd ls) (hc : InC cnt ls) (hto : 1 ≤ to ∧ to ≤ cnt) (hf : 1 ≤ first ∧ first ≤ cnt) : ∀ n, WI ls down cnt to first (wrun ls down to first n)
  | 0 => WI.zero hc hto hf
  | n + 1 => by
    have ih := run_WI (down := down) g hc hto hf n
    show WI ls down cnt to first (wstep ls down to (wrun ls down to first n))
    unfold wstep
    cases hp : portC (liv ls (wrun ls down to first n).car) to (wrun ls down to first n).sw with
    | none => exact ih
    | some p => exact (ih.step g hc hto hp).1
def ended (ls : List Lk) (to : Int) (st : WS) : Prop := portC (liv ls st.car) to st.sw = none
theorem run_mu {ls down : List Lk} {cnt to first : Int} (g : Gd ls) (hc : InC cnt ls) (hto : 1 ≤ to ∧ to ≤ cnt) (h6 : cnt ≤ 6) (hf : 1 ≤ first ∧ first ≤ cnt) : ∀ n, ended ls to (wrun ls down to first n) ∨ mu ls to (wrun ls down to first n) + n ≤ mu ls to ⟨[], [], first⟩
  | 0 => .inr (Nat.le_refl _)
  | n + 1 => by
    have w := run_WI (down := down) g hc hto hf n
    have es : wrun ls down to first (n + 1) = wstep ls down to (wrun ls down to first n) := rfl
    rcases run_mu (down := down) g hc hto h6 hf n with h | h
    · left
      have : wrun ls down to first (n + 1) = wrun ls down to first n := wrun_end h (n + 1) (by omega)
      rw [this]
      exact h
    · cases hp : portC (liv ls (wrun ls down to first n).car) to (wrun ls down to first n).sw with
      | none =>
        left
        have : wrun ls down to first (n + 1) = wrun ls down to first n := wrun_end hp (n + 1) (by omega)
        rw [this]
        exact hp
      | some p =>
        right
        have e : wrun ls down to first (n + 1) = wnext ls down (wrun ls down to first n) p := by
          rw [es]
          unfold wstep
          rw [hp]
        rw [e]
        have := mu_step g hc hto h6 w hp
        omega
noncomputable def fin (ls down : List Lk) (to first : Int) : WS := wrun ls down to first 200
theorem fin_end {ls down : List Lk} {cnt to first : Int} (g : Gd ls) (hc : InC cnt ls) (hto : 1 ≤ to ∧ to ≤ cnt) (h6 : cnt ≤ 6) (hf : 1 ≤ first ∧ first ≤ cnt) (hl : ls.length ≤ 9) : ended ls to (fin ls down to first) := by
  rcases run_mu (down := down) g hc hto h6 hf 200 with h | h
  · exact h
  · exfalso
    have h1 : mu ls to ⟨[], [], first⟩ ≤ 69 := by
      unfold mu
      have := dstC_le (hc.liv []) hto h6 (sw := first)
      show (ls.length - 0) * 7 + dstC (liv ls []) to first ≤ 69
      omega
    omega
theorem fin_of {ls down : List Lk} {cnt to first : Int} (g : Gd ls) (hc : InC cnt ls) (hto : 1 ≤ to ∧ to ≤ cnt) (h6 : cnt ≤ 6) (hf : 1 ≤ first ∧ first ≤ cnt) (hl : ls.length ≤ 9) {n : Nat} (h : ended ls to (wrun ls down to first n)) : wrun ls down to first n = fin ls down to first := by
  by_cases hn : n ≤ 200
  · exact (wrun_end h 200 hn).symm
  · exact wrun_end (fin_end g hc hto h6 hf hl) n (by omega)
theorem rch_mono {ls ms : List Lk} (h : ∀ l ∈ ls, l ∈ ms) {s t : Int} (r : Rch ls s t) : Rch ms s t := by
  induction r with
  | refl => exact .refl
  | step _ a ih =>
    obtain ⟨l, hl, hh⟩ := a
    exact ih.step ⟨l, h l hl, hh⟩
theorem Rch.trans' {ls : List Lk} {s t u : Int} (r : Rch ls s t) (q : Rch ls t u) : Rch ls s u := by
  induction q with
  | refl => exact r
  | step _ a ih => exact ih.step a
theorem liv_anti {ls d1 d2 : List Lk} (h : ∀ l ∈ d1, l ∈ d2) : ∀ l ∈ liv ls d2, l ∈ liv ls d1 := fun l hl => mem_liv.mpr ⟨(mem_liv.mp hl).1, fun z => (mem_liv.mp hl).2 (h l z)⟩
/-- it arrives exactly if they are joined -/
theorem fin_there {ls down : List Lk} {cnt to first : Int} (g : Gd ls) (hc : InC cnt ls) (hto : 1 ≤ to ∧ to ≤ cnt) (h6 : cnt ≤ 6) (hf : 1 ≤ first ∧ first ≤ cnt) (hl : ls.length ≤ 9) : (fin ls down to first).sw = to ↔ Rch (liv ls down) to first := by
  have w := run_WI (down := down) g hc hto hf 200
  have e := fin_end (down := down) g hc hto h6 hf hl
  constructor
  · intro h
    have r := w.rch
    have h' : (wrun ls down to first 200).sw = to := h
    rw [h'] at r
    exact r.symm
  · intro r
    have r2 : Rch (liv ls down) to (fin ls down to first).sw := r.trans' w.rch
    have r3 := rch_mono (liv_anti (ls := ls) fun l hl => (w.sub l hl).2) r2
    have hP := port_ok (g.liv (fin ls down to first).car) to (fin ls down to first).sw
    unfold ended at e
    rw [e] at hP
    rcases hP with h | h
    · exact h
    · exact absurd r3 h
/-! ## sides -/
structure CutP (ls down : List Lk) (first to : Int) (dead : List Lk) (side : List Int) : Prop where
  a : first ∈ side
  b : to ∉ side
  c : ∀ l ∈ dead, l ∈ down
  d : ∀ l ∈ ls, ¬ (decide (l.1.1 ∈ side) = decide (l.2.1 ∈ side)) → l ∈ dead
theorem CutP.sep {ls down : List Lk} {first to : Int} {dead : List Lk} {side : List Int} (h : CutP ls down first to dead side) : ¬ Rch (liv ls down) to first := fun r => by
  have cl : closedF (liv ls down) side := fun l hl => by
    obtain ⟨h1, h2⟩ := mem_liv.mp hl
    by_cases e : decide (l.1.1 ∈ side) = decide (l.2.1 ∈ side)
    · exact decide_eq_decide.mp e
    · exact absurd (h.c l (h.d l h1 e)) h2
  exact h.b (closed_all cl h.a r.symm)
theorem fin_cut {ls down : List Lk} {cnt to first : Int} (g : Gd ls) (hc : InC cnt ls) (hto : 1 ≤ to ∧ to ≤ cnt) (h6 : cnt ≤ 6) (hf : 1 ≤ first ∧ first ≤ cnt) (hl : ls.length ≤ 9) (hn : (fin ls down to first).sw ≠ to) {dead : List Lk} (hd : ∀ l, l ∈ dead ↔ l ∈ (fin ls down to first).car) {side : List Int} (hs : nearP (liv ls dead) first side) : CutP ls down first to dead side := by
  have w := run_WI (down := down) g hc hto hf 200
  have e := fin_end (down := down) g hc hto h6 hf hl
  have sub : ∀ l ∈ dead, l ∈ ls ∧ l ∈ down := fun l z => w.sub l ((hd l).mp z)
  refine ⟨(hs.2 first).mpr .refl, fun z => ?_, fun l z => (sub l z).2, fun l hl hne => ?_⟩
  · have r1 : Rch (liv ls dead) first to := (hs.2 to).mp z
    have r2 : Rch (liv ls dead) first (fin ls down to first).sw := rch_mono (liv_anti fun l z => (sub l z).2) w.rch
    have r3 : Rch (liv ls dead) to (fin ls down to first).sw := r1.symm.trans' r2
    have r4 : Rch (liv ls (fin ls down to first).car) to (fin ls down to first).sw := rch_mono (liv_anti fun l z => (hd l).mpr z) r3
    have hP := port_ok (g.liv (fin ls down to first).car) to (fin ls down to first).sw
    unfold ended at e
    rw [e] at hP
    rcases hP with h | h
    · exact hn h
    · exact h r4
  · by_cases hld : l ∈ dead
    · exact hld
    · exfalso
      have hm : l ∈ liv ls dead := mem_liv.mpr ⟨hl, hld⟩
      refine hne (decide_eq_decide.mpr ?_)
      rw [hs.2, hs.2]
      exact ⟨fun r => r.step ⟨l, hm, .inl ⟨rfl, rfl⟩⟩, fun r => r.step ⟨l, hm, .inr ⟨rfl, rfl⟩⟩⟩
local macro_rules | `(tactic| walk_at "v") => `(tactic| first | exact v0 | exact v1 | exact v2 | exact v3 | exact v4 | exact v5 | exact v6 | exact v7 | exact v8)
local macro_rules | `(tactic| walk_at "vs") => `(tactic| first | exact st0 | exact st1 | exact st2 | exact st3 | exact st4 | exact st5 | exact st6 | exact st7 | exact st8)
local macro_rules | `(tactic| walk_at "s") => `(tactic| first
  | with_reducible refine w_dget ?_
  | ((with_reducible refine' w_dgetZ ?h ?nd ?hk ?hv ?_); (case h => walk_at "g"); (case nd => walk_at "nd"); (case hk => walk_at "k"); (case hv => walk_at "v"))
  | ((with_reducible refine' w_dputZ ?hs ?h ?nd ?hk ?hv ?hu ?hl ?_); (case hs => assumption); (case h => walk_at "p"); (case nd => walk_at "nd"); (case hk => walk_at "k"); (case hv => walk_at "v"); (case hu => walk_at "vs"); (case hl => decide); intro _ _)
  | with_reducible refine w_gsub ?_
  | with_reducible refine w_setD ?_
  | with_reducible refine w_disp ?_
  | ((with_reducible refine' w_newP ?hs ?_); (case hs => assumption); intro _ _ _)
  | with_reducible refine w_pcons ?_
  | with_reducible refine w_pnil ?_)

local macro_rules | `(tactic| walk_at "s") => `(tactic| first
  | with_reducible refine w_nget ?_
  | with_reducible refine w_nin ?_
  | with_reducible refine w_nnot ?_
  | with_reducible refine w_nput ?_
  | with_reducible refine w_ndel ?_
  | with_reducible refine w_npop ?_
  | ((with_reducible refine' w_nnew ?hs ?_); (case hs => assumption); intro _ _ _))

theorem wrun_next {ls down : List Lk} {to first : Int} {n : Nat} {p : Int} (h : portC (liv ls (wrun ls down to first n).car) to (wrun ls down to first n).sw = some p) : wrun ls down to first (n + 1) = wnext ls down (wrun ls down to first n) p := by
  show wstep ls down to (wrun ls down to first n) = _
  unfold wstep
  rw [h]
def WalkAt (H0 H : Hp) (v : V) (th : Bool) (ends : List E2) (car : List Lk) : Prop := ∃ (t el sl : Addr) (eus sus : List V), v = .ref t ∧ H t = some (.tup [.str (if th = true then "there" else "cut"), .ref el, .ref sl]) ∧ H el = some (.lst eus) ∧ Row (EndAt H) eus ends ∧ H sl = some (.lst sus) ∧ LkL H sus car ∧ H0 el = none ∧ H0 sl = none
theorem WalkAt.same {H0 H H' : Hp} (e : Same H H') {v : V} {th : Bool} {ends : List E2} {car : List Lk} (h : WalkAt H0 H v th ends car) : WalkAt H0 H' v th ends car := by
  obtain ⟨t, el, sl, eus, sus, h1, h2, h3, h4, h5, h6, h7⟩ := h
  exact ⟨t, el, sl, eus, sus, h1, e _ _ h2, e _ _ h3, h4.mono fun _ _ => EndAt.mono fun _ _ => e _ _, e _ _ h5, h6.same e, h7⟩
section
variable {P : Program} [IsP P] {w : World} {K : PySem.W.Frag} {mg : Str → Option Value} {base : Heap} {a : Ad}
def sp_walk : Sp := fun vs H Q _ => ∃ (g : V) (dd : Addr) (dus : List V) (cnt first to : Int) (ls down : List Lk), vs = [g, .ref dd, .int first, .int to] ∧ GrAt H g cnt ls ∧ H dd = some (.lst dus) ∧ LkL H dus down ∧ Gd ls ∧ InC cnt ls ∧ (1 ≤ to ∧ to ≤ cnt) ∧ cnt ≤ 6 ∧ (1 ≤ first ∧ first ≤ cnt) ∧ ls.length ≤ 9 ∧
  ∀ v H', Same H H' → WalkAt H H' v (decide ((fin ls down to first).sw = to)) (fin ls down to first).ends (srt (fin ls down to first).car) → Q v H'
theorem ok_walk (T : Txt w K mg a) : FnOk P w K mg base CX0 4 a.walk a.fd_walk ["graph", "down", "first", "to"] sp_walk := by
  have G_next_port := ok_next_port (P := P) (w := w) (base := base) T
  have G_other_end := ok_other_end (P := P) (w := w) (base := base) T
  have G_link_of := ok_link_of (P := P) (w := w) (base := base) T
  refine T.fn_walk.ok sc_walk (fun vs H Q E h => ?_) (fun cdv A outer s H vs Q E hr h => ?_)
  · obtain ⟨_, _, _, _, _, _, _, _, rfl, _⟩ := h
    rfl
  · obtain ⟨g, dd, dus, cnt, first, to, ls, down, rfl, hgr, hd, hD, gd, hc, hto, hc6, hf, hlz, k⟩ := h
    refine ⟨_, (pss_cons (ps_set (i := 4) sc_walk.nd rfl (Or.inl rfl) (pe_lst pa_nil))
  (pss_cons (ps_set (i := 5) sc_walk.nd rfl (Or.inl rfl) (pe_lst pa_nil))
  (pss_cons (ps_set (i := 6) sc_walk.nd rfl (Or.inl rfl) (pv 2))
  (pss_cons (ps_set (i := 7) sc_walk.nd rfl (Or.inl rfl) (pe_call G_next_port (hr.mono (by first | decide | omega)) rfl T.mg_next_port T.kp_next_port T.bi_next_port .nil pass0 (pa_cons (pv 0) (pa_cons (pv 5) (pa_cons (pv 6) (pa_cons (pv 3) pa_nil))))))
  (pss_cons (ps_while PassesOwn.never (pt_cmpR op_notNQ (pv 7) pe_non (nomark _))
  (pss_cons (ps_set (i := 8) sc_walk.nd rfl (Or.inl rfl) (pe_tup (pa_cons (pv 6) (pa_cons (pv 7) pa_nil))))
  (pss_cons (ps_set (i := 9) sc_walk.nd rfl (Or.inl rfl) (pe_call G_other_end (hr.mono (by first | decide | omega)) rfl T.mg_other_end T.kp_other_end T.bi_other_end .nil pass0 (pa_cons (pv 0) (pa_cons (pv 8) pa_nil))))
  (C8.pss_cut (ps_if (pt_cmpR (op_inDL (K := K) (r65 hr)) (pe_call G_link_of (hr.mono (by first | decide | omega)) rfl T.mg_link_of T.kp_link_of T.bi_link_of .nil pass0 (pa_cons (pv 8) (pa_cons (pv 9) pa_nil))) (pv 1) (by rfl))
  (pss_one (ps_expr (pe_bmK (K := K) PySem.F.plainAttrs_list PySem.F.slot_list_append PySem.F.type_list_append mt_append (pv 5) (pa_cons (pe_call G_link_of (hr.mono (by first | decide | omega)) rfl T.mg_link_of T.kp_link_of T.bi_link_of .nil pass0 (pa_cons (pv 8) (pa_cons (pv 9) pa_nil))) pa_nil))))
  (pss_cons (ps_expr (pe_bmK (K := K) PySem.F.plainAttrs_list PySem.F.slot_list_append PySem.F.type_list_append mt_append (pv 4) (pa_cons (pv 8) pa_nil)))
  (pss_one (ps_set (i := 6) sc_walk.nd rfl (Or.inl rfl) (pe_ix (ix_tupK (K := K)) (pv 9) pe_int (fun _ _ => rfl))))))
  (pss_one (ps_set (i := 7) sc_walk.nd rfl (Or.inl rfl) (pe_call G_next_port (hr.mono (by first | decide | omega)) rfl T.mg_next_port T.kp_next_port T.bi_next_port .nil pass0 (pa_cons (pv 0) (pa_cons (pv 5) (pa_cons (pv 6) (pa_cons (pv 3) pa_nil)))))))))))
  (pss_one (ps_ret (pe_tup (pa_cons (pe_ifExp (pt_cmpR op_eq (pv 6) (pv 3) (nomark _)) pe_str pe_str) (pa_cons (pv 4) (pa_cons (pe_callB (cr_sortN (K := K) (c := some 2) (sh := [some 2]) (r64 hr)) (by rfl) T.mg_sorted (by decide +kernel) (pa_cons (pv 5) pa_nil)) pa_nil))))))))))), ?_⟩
    have hs := Hs.start H
    walk_at "ss"
    rename_i el H1 _ cl H2 hs2
    have hL0 : LkL H2 [] ([] : List Lk) := .nil
    refine ⟨g, cl, [], cnt, first, to, ls, [], rfl, hgr.same hs2.same, hs2.g0, hL0, gd, hc, hto, hc6, fun o H3 s3 ho => ?_⟩
    have hs3 := hs2.keep s3
    have epo : portC (liv ls (wrun ls down to first 0).car) to (wrun ls down to first 0).sw = o := port_eq ho
    clear hs hs2 hL0 s3 ho
    walk_at "ss"
    refine w_while (fun m σ H' => ∃ (n : Nat) (B : Hp) (eus cus : List V) (v8 v9 : Option V), σ = [some g, some (.ref dd), some (.int first), some (.int to), some (.ref el), some (.ref cl), some (.int (wrun ls down to first n).sw), some (optV (portC (liv ls (wrun ls down to first n).car) to (wrun ls down to first n).sw)), v8, v9] ∧ Same H B ∧ Hs B [(cl, .lst cus), (el, .lst eus)] H' ∧ Row (EndAt B) eus (wrun ls down to first n).ends ∧ LkL B cus (wrun ls down to first n).car ∧ m = mu ls to (wrun ls down to first n)) _
      ⟨0, H, [], [], _, _, by rw [epo]; rfl, Same.refl _, hs3, Row.nil, .nil, rfl⟩ ?_
    clear hs3 epo H3 H2 o
    rintro m σ H2 ⟨n, B, eus, cus, v8, v9, rfl, sB, hs2, hE, hL, rfl⟩
    have wi := run_WI (down := down) gd hc hto hf n
    cases hp : portC (liv ls (wrun ls down to first n).car) to (wrun ls down to first n).sw with
    | none =>
      have hfin := fin_of (down := down) gd hc hto hc6 hf hlz (n := n) hp
      rw [hfin] at hE hL
      walk_at "ss"
      have e1 : (!decide (optV none = V.non)) = false := by rw [decide_eq_true (show optV none = V.non from rfl)]; rfl
      rw [e1]
      refine iteF ?_
      have hsw0 : (wrun ls down to first n).sw = (fin ls down to first).sw := by rw [hfin]
      have hz9 : (fin ls down to first).car.length ≤ 9 := by
        have := hfin ▸ wi
        exact Nat.le_trans (this.nd.length_le_of_subset fun l hl => (this.sub l hl).1) hlz
      rw [hsw0]
      walk_at "ss"
      refine ifd (fun hth => ?_) (fun hth => ?_)
      · walk_at "ss"
        refine w_sortL hs2 (SqL.of hs2.g0) (hL.same hs2.same) fun sl sus H3 _ hs3 hL3 => ?_
        obtain ⟨B3, sB3, hs3a, tb⟩ := hs3.ground rfl
        have hL3 := LkL.mono tb hL3
        clear hs2 hs3
        walk_at "ss"
        rename_i t H4 hs4
        refine k (.ref t) H4 ((sB.trans sB3).trans hs4.same) ⟨t, el, sl, eus, sus, rfl, ?_, hs4.g3, hE.mono fun _ _ => EndAt.mono fun _ _ z => hs4.old (sB3 _ _ z), hs4.g1, hL3.same hs4.same, (sB.trans sB3).free (hs4.out (el, .lst eus) (by simp)), (sB.trans sB3).free (hs4.out (sl, .lst sus) (by simp))⟩
        rw [decide_eq_true hth, if_pos rfl]
        exact hs4.g0
      · walk_at "ss"
        refine w_sortL hs2 (SqL.of hs2.g0) (hL.same hs2.same) fun sl sus H3 _ hs3 hL3 => ?_
        obtain ⟨B3, sB3, hs3a, tb⟩ := hs3.ground rfl
        have hL3 := LkL.mono tb hL3
        clear hs2 hs3
        walk_at "ss"
        rename_i t H4 hs4
        refine k (.ref t) H4 ((sB.trans sB3).trans hs4.same) ⟨t, el, sl, eus, sus, rfl, ?_, hs4.g3, hE.mono fun _ _ => EndAt.mono fun _ _ z => hs4.old (sB3 _ _ z), hs4.g1, hL3.same hs4.same, (sB.trans sB3).free (hs4.out (el, .lst eus) (by simp)), (sB.trans sB3).free (hs4.out (sl, .lst sus) (by simp))⟩
        rw [decide_eq_false hth, if_neg (by decide)]
        exact hs4.g0
    | some p =>
      obtain ⟨wi', o, ho, hpo, hoc, hcase⟩ := wi.step gd hc hto hp
      have hmu := mu_step gd hc hto hc6 wi hp
      have enx := wrun_next hp
      rw [show optV (some p) = V.int p from rfl]
      walk_at "ss"
      have e1 : (!decide (V.int p = V.non)) = true := by rw [decide_eq_false (by intro z; cases z)]; rfl
      rw [e1]
      refine iteT (w_lpb ?_)
      show tSeq _ _ _ [some g, some (.ref dd), some (.int first), some (.int to), some (.ref el), some (.ref cl), some (.int (wrun ls down to first n).sw), some (.int p), v8, v9] _
      walk_at "ss"
      rename_i te H3 hs3
      generalize hst : wrun ls down to first n = st at *
      refine ⟨g, te, cnt, ls, (st.sw, p), rfl, hgr.same (sB.trans hs3.same), hs3.g0, fun v hv => ?_⟩
      rw [ho] at hv
      obtain ⟨vq, rfl, hv⟩ := hv
      obtain ⟨B1, sB1, hte, hs4⟩ := frz_hs hs3
      obtain ⟨B2, sB2, hs5, tb⟩ := hs4.ground rfl
      have hte2 := sB2 _ _ hte
      have hvq2 : B2 vq = some (endO o) := tb _ _ hv
      have sB12 := sB1.trans sB2
      replace hE := hE.mono fun _ _ => EndAt.mono fun _ _ => sB12 _ _
      replace hL := hL.same sB12
      replace sB := sB.trans sB12
      clear hs3 hs4 hs2 tb hte hv sB1 sB2 sB12
      have hcz : st.car.length ≤ 9 := Nat.le_trans (wi.nd.length_le_of_subset fun l hl => (wi.sub l hl).1) hlz
      have hez : st.ends.length ≤ 50 := by
        have h1 := wi.le
        have h2 : (cnt - 1) * ((st.car.length : Int) + 1) ≤ 5 * 10 := Int.mul_le_mul (by omega) (by omega) (by omega) (by omega)
        omega
      have hcu : cus.length ≤ 9 := by rw [LkL.len hL]; exact hcz
      have heu : eus.length ≤ 50 := by rw [hE.1]; exact hez
      have wn : wrun ls down to first (n + 1) = if lkM (st.sw, p) o ∈ down then ⟨st.ends, st.car ++ [lkM (st.sw, p) o], st.sw⟩ else ⟨st.ends ++ [(st.sw, p)], st.car, o.1⟩ := by
        rw [enx]
        unfold wnext
        rw [hpo]
      walk_at "ss"
      refine w_cut (fun σ' H' => ∃ (B : Hp) (eus cus : List V) (v7 v8 v9 : Option V), σ' = [some g, some (.ref dd), some (.int first), some (.int to), some (.ref el), some (.ref cl), some (.int (wrun ls down to first (n + 1)).sw), v7, v8, v9] ∧ Same H B ∧ Hs B [(cl, .lst cus), (el, .lst eus)] H' ∧ Row (EndAt B) eus (wrun ls down to first (n + 1)).ends ∧ LkL B cus (wrun ls down to first (n + 1)).car) ?_ ?_
      · rw [wn]
        walk_at "ss"
        refine ⟨te, vq, (st.sw, p), o, rfl, hs5.old hte2, hs5.old hvq2, fun t H4 hs6 => ?_⟩
        have hs7 := hs5.keep hs6.same
        have hk1 := lk_at hs6.g0 (hs6.old (hs5.old hte2)) (hs6.old (hs5.old hvq2))
        walk_at "ss"
        refine w_inLk (hs7.old (sB _ _ hd)) (hD.same (sB.trans hs7.same)) hk1 ?_
        refine ⟨_, rfl, ?_⟩
        by_cases hdn : lkM (st.sw, p) o ∈ down
        · rw [if_pos hdn, decide_eq_true hdn]
          refine iteT ?_
          clear hs5 hs6
          walk_at "ss"
          refine ⟨te, vq, (st.sw, p), o, rfl, hs7.old hte2, hs7.old hvq2, fun t2 H5 hs8 => ?_⟩
          have hs9 := hs7.add hs8
          have hk2 := lk_at hs8.g0 (hs8.old (hs7.old hte2)) (hs8.old (hs7.old hvq2))
          have hcu2 : cus.length < sizeLine := szl (by omega)
          clear hs7 hs8
          obtain ⟨B3, sB3, ht2, hs10⟩ := frz_hs hs9
          have hk3 : NK B3 (lkK (lkM (st.sw, p) o)) (.ref t2) := lk_at ht2 (sB3 _ _ hte2) (sB3 _ _ hvq2)
          clear hs9
          walk_at "ss"
          rename_i H6 hs11
          exact ⟨B3, eus, cus ++ [.ref t2], _, _, _, rfl, sB.trans sB3, hs11, hE.mono fun _ _ => EndAt.mono fun _ _ => sB3 _ _, (hL.same sB3).snoc hk3⟩
        · rw [if_neg hdn, decide_eq_false hdn]
          refine iteF ?_
          clear hs5 hs6
          have heu2 : eus.length < sizeLine := szl (by omega)
          have hvq7 : H4 vq = some (.tup [.int o.1, .int o.2]) := hs7.old hvq2
          walk_at "ss"
          rename_i H6 hs11
          have hvq6 : H6 vq = some (.tup [.int o.1, .int o.2]) := hs11.old hvq2
          walk_at "ss"
          exact ⟨B2, eus ++ [.ref te], cus, _, _, _, rfl, sB, hs11, hE.snoc ⟨te, rfl, hte2⟩, hL⟩
      · rintro σ' H4 ⟨B3, eus, cus, v7, v8', v9', rfl, sB3, hs6, hE2, hL2⟩
        walk_at "ss"
        refine ⟨g, cl, cus, cnt, (wrun ls down to first (n + 1)).sw, to, ls, (wrun ls down to first (n + 1)).car, rfl, hgr.same (sB3.trans hs6.same), hs6.g0, hL2.same hs6.same, gd, hc, hto, hc6, fun o' H5 s5 ho' => ?_⟩
        have epo := port_eq ho'
        walk_at "ss"
        refine ⟨mu ls to (wrun ls down to first (n + 1)), ?_, n + 1, B3, eus, cus, v8', v9', ?_, sB3, hs6.keep s5, hE2, hL2, rfl⟩
        · rw [enx]
          exact hmu
        · rw [epo]
          rfl
end
local macro_rules | `(tactic| walk_at "v") => `(tactic| first | exact v0 | exact v1 | exact v2 | exact v3 | exact v4 | exact v5 | exact v6 | exact v7 | exact v8)
local macro_rules | `(tactic| walk_at "vs") => `(tactic| first | exact st0 | exact st1 | exact st2 | exact st3 | exact st4 | exact st5 | exact st6 | exact st7 | exact st8)
local macro_rules | `(tactic| walk_at "s") => `(tactic| first
  | with_reducible refine w_dget ?_
  | ((with_reducible refine' w_dgetZ ?h ?nd ?hk ?hv ?_); (case h => walk_at "g"); (case nd => walk_at "nd"); (case hk => walk_at "k"); (case hv => walk_at "v"))
  | ((with_reducible refine' w_dputZ ?hs ?h ?nd ?hk ?hv ?hu ?hl ?_); (case hs => assumption); (case h => walk_at "p"); (case nd => walk_at "nd"); (case hk => walk_at "k"); (case hv => walk_at "v"); (case hu => walk_at "vs"); (case hl => decide); intro _ _)
  | with_reducible refine w_gsub ?_
  | with_reducible refine w_setD ?_
  | with_reducible refine w_disp ?_
  | ((with_reducible refine' w_newP ?hs ?_); (case hs => assumption); intro _ _ _)
  | with_reducible refine w_pcons ?_
  | with_reducible refine w_pnil ?_)

local macro_rules | `(tactic| walk_at "s") => `(tactic| first
  | with_reducible refine w_nget ?_
  | with_reducible refine w_nin ?_
  | with_reducible refine w_nnot ?_
  | with_reducible refine w_nput ?_
  | with_reducible refine w_ndel ?_
  | with_reducible refine w_npop ?_
  | ((with_reducible refine' w_nnew ?hs ?_); (case hs => assumption); intro _ _ _))

section
variable {x y : E2} {H : Hp} {Q : VK}
theorem w_minT {p q : Addr} (h1 : H p = some (endO x)) (h2 : H q = some (endO y)) (k : Q (.ref (if lexI [y.1, y.2] [x.1, x.2] = true then q else p)) H) : rMinT false [.ref p, .ref q] H Q := ⟨p, q, [x.1, x.2], [y.1, y.2], rfl, h1, h2, rfl, k⟩
theorem w_maxT {p q : Addr} (h1 : H p = some (endO x)) (h2 : H q = some (endO y)) (k : Q (.ref (if lexI [x.1, x.2] [y.1, y.2] = true then q else p)) H) : rMinT true [.ref p, .ref q] H Q := ⟨p, q, [x.1, x.2], [y.1, y.2], rfl, h1, h2, rfl, k⟩
theorem nk_mm {t p2 p3 q : Addr} (ht : H t = some (.tup [.ref (if lexI [y.1, y.2] [x.1, x.2] = true then q else p2), .ref (if lexI [x.1, x.2] [y.1, y.2] = true then q else p3)])) (h2 : H p2 = some (endO x)) (h3 : H p3 = some (endO x)) (hq : H q = some (endO y)) (h0 : x.1 ≠ y.1) : NK H (lkK (lkM x y)) (.ref t) := by
  rw [lexI_ne h0, lexI_ne (fun z => h0 z.symm)] at ht
  unfold lkM
  by_cases hc : x.1 < y.1
  · rw [if_neg (by rw [decide_eq_true_eq]; omega), if_pos (decide_eq_true hc)] at ht
    rw [if_pos (show ltE' x y from Or.inl hc)]
    exact nk_mk (l := (x, y)) ht h2 hq
  · rw [if_pos (by rw [decide_eq_true_eq]; omega), if_neg (by rw [decide_eq_true_eq]; exact hc)] at ht
    rw [if_neg (show ¬ ltE' x y by unfold ltE'; omega)]
    exact nk_mk (l := (y, x)) ht hq h3
end
section
variable {P : Program} [IsP P] {w : World} {K : PySem.W.Frag} {mg : Str → Option Value} {base : Heap} {a : Ad}
theorem ok__law_walk (T : Txt w K mg a) : FnOk P w K mg base CX0 3 a._law_walk a.fd__law_walk ["graph", "down", "first", "to"] sp_walk := by
  have G__law_port := ok__law_port (P := P) (w := w) (base := base) T
  have G__law_end := ok__law_end (P := P) (w := w) (base := base) T
  refine T.fn__law_walk.ok sc__law_walk (fun vs H Q E h => ?_) (fun cdv A outer s H vs Q E hr h => ?_)
  · obtain ⟨_, _, _, _, _, _, _, _, rfl, _⟩ := h
    rfl
  · obtain ⟨g, dd, dus, cnt, first, to, ls, down, rfl, hgr, hd, hD, gd, hc, hto, hc6, hf, hlz, k⟩ := h
    refine ⟨_, (pss_cons (ps_set (i := 4) sc__law_walk.nd rfl (Or.inl rfl) (pe_lst pa_nil))
  (pss_cons (ps_set (i := 5) sc__law_walk.nd rfl (Or.inl rfl) (pe_lst pa_nil))
  (pss_cons (ps_set (i := 6) sc__law_walk.nd rfl (Or.inl rfl) (pv 2))
  (pss_cons (ps_for PassesOwn.never rfl (pi_range1 rfl T.mg_range (pa_cons pe_int pa_nil)) (pg_name (i := 7) sc__law_walk.nd rfl (Or.inl rfl))
  (pss_cons (ps_set (i := 8) sc__law_walk.nd rfl (Or.inl rfl) (pe_call G__law_port (hr.mono (by first | decide | omega)) rfl T.mg__law_port T.kp__law_port T.bi__law_port .nil pass0 (pa_cons (pv 0) (pa_cons (pv 4) (pa_cons (pv 6) (pa_cons (pv 3) pa_nil))))))
  (pss_cons (ps_if (pt_cmpR op_isNQ (pv 8) pe_non (nomark _))
  (pss_one ps_break)
  pss_nil)
  (pss_cons (ps_set (i := 9) sc__law_walk.nd rfl (Or.inl rfl) (pe_call G__law_end (hr.mono (by first | decide | omega)) rfl T.mg__law_end T.kp__law_end T.bi__law_end .nil pass0 (pa_cons (pv 0) (pa_cons (pe_tup (pa_cons (pv 6) (pa_cons (pv 8) pa_nil))) pa_nil))))
  (pss_cons (ps_set (i := 10) sc__law_walk.nd rfl (Or.inl rfl) (pe_tup (pa_cons (pe_callB (call_minT rfl (r64 hr)) (by rfl) T.mg_min (by decide +kernel) (pa_cons (pe_tup (pa_cons (pv 6) (pa_cons (pv 8) pa_nil))) (pa_cons (pv 9) pa_nil))) (pa_cons (pe_callB (call_maxT rfl (r64 hr)) (by rfl) T.mg_max (by decide +kernel) (pa_cons (pe_tup (pa_cons (pv 6) (pa_cons (pv 8) pa_nil))) (pa_cons (pv 9) pa_nil))) pa_nil))))
  (pss_one (ps_if (pt_cmpR (op_inDL (K := K) (r65 hr)) (pv 10) (pv 1) (by rfl))
  (pss_one (ps_expr (pe_bmK (K := K) PySem.F.plainAttrs_list PySem.F.slot_list_append PySem.F.type_list_append mt_append (pv 4) (pa_cons (pv 10) pa_nil))))
  (pss_cons (ps_expr (pe_bmK (K := K) PySem.F.plainAttrs_list PySem.F.slot_list_append PySem.F.type_list_append mt_append (pv 5) (pa_cons (pe_tup (pa_cons (pv 6) (pa_cons (pv 8) pa_nil))) pa_nil)))
  (pss_one (ps_set (i := 6) sc__law_walk.nd rfl (Or.inl rfl) (pe_ix (ix_tupK (K := K)) (pv 9) pe_int (fun _ _ => rfl))))))))))))
  (pss_one (ps_ret (pe_tup (pa_cons (pe_ifExp (pt_cmpR op_eq (pv 6) (pv 3) (nomark _)) pe_str pe_str) (pa_cons (pv 5) (pa_cons (pe_callB (cr_sortN (K := K) (c := some 2) (sh := [some 2]) (r64 hr)) (by rfl) T.mg_sorted (by decide +kernel) (pa_cons (pv 4) pa_nil)) pa_nil)))))))))), ?_⟩
    have hs := Hs.start H
    walk_at "ss"
    rename_i cl H1 _ el H2 hs2
    clear hs
    refine w_forR (n := 200) (by decide) (fun n σ H' => ∃ (B : Hp) (eus cus : List V) (v7 v8 v9 v10 : Option V), σ = [some g, some (.ref dd), some (.int first), some (.int to), some (.ref cl), some (.ref el), some (.int (wrun ls down to first n).sw), v7, v8, v9, v10] ∧ Same H B ∧ Hs B [(el, .lst eus), (cl, .lst cus)] H' ∧ Row (EndAt B) eus (wrun ls down to first n).ends ∧ LkL B cus (wrun ls down to first n).car)
      (fun Q' q => q) (by decide) ⟨H, [], [], _, _, _, _, rfl, Same.refl _, hs2, Row.nil, .nil⟩ ?_ ?_
    · clear hs2
      rintro n σ H2 hn ⟨B, eus, cus, v7, v8, v9, v10, rfl, sB, hs2, hE, hL⟩
      have wi := run_WI (down := down) gd hc hto hf n
      walk_at "ss"
      refine ⟨g, cl, cus, cnt, (wrun ls down to first n).sw, to, ls, (wrun ls down to first n).car, rfl, hgr.same (sB.trans hs2.same), hs2.g1, hL.same hs2.same, gd, hc, hto, hc6, fun o' H3 s3 ho' => ?_⟩
      have epo := port_eq ho'
      replace hs2 := hs2.keep s3
      walk_at "ss"
      cases o' with
      | none =>
        have e1 : decide (optV none = V.non) = true := decide_eq_true (show optV none = V.non from rfl)
        rw [e1]
        refine iteT ?_
        walk_at "ss"
        have hfin := fin_of (down := down) gd hc hto hc6 hf hlz (n := n) epo
        have hsw0 : (wrun ls down to first n).sw = (fin ls down to first).sw := by rw [hfin]
        rw [hsw0]
        rw [hfin] at hE hL
        walk_at "ss"
        refine ifd (fun hth => ?_) (fun hth => ?_)
        · walk_at "ss"
          refine w_sortL hs2 (SqL.of hs2.g1) (hL.same hs2.same) fun sl sus H3 _ hs3 hL3 => ?_
          obtain ⟨B3, sB3, hs3a, tb⟩ := hs3.ground rfl
          have hL3 := LkL.mono tb hL3
          clear hs2 hs3
          walk_at "ss"
          rename_i t H4 hs4
          refine k (.ref t) H4 ((sB.trans sB3).trans hs4.same) ⟨t, el, sl, eus, sus, rfl, ?_, hs4.g2, hE.mono fun _ _ => EndAt.mono fun _ _ z => hs4.old (sB3 _ _ z), hs4.g1, hL3.same hs4.same, (sB.trans sB3).free (hs4.out (el, .lst eus) (by simp)), (sB.trans sB3).free (hs4.out (sl, .lst sus) (by simp))⟩
          rw [decide_eq_true hth, if_pos rfl]
          exact hs4.g0
        · walk_at "ss"
          refine w_sortL hs2 (SqL.of hs2.g1) (hL.same hs2.same) fun sl sus H3 _ hs3 hL3 => ?_
          obtain ⟨B3, sB3, hs3a, tb⟩ := hs3.ground rfl
          have hL3 := LkL.mono tb hL3
          clear hs2 hs3
          walk_at "ss"
          rename_i t H4 hs4
          refine k (.ref t) H4 ((sB.trans sB3).trans hs4.same) ⟨t, el, sl, eus, sus, rfl, ?_, hs4.g2, hE.mono fun _ _ => EndAt.mono fun _ _ z => hs4.old (sB3 _ _ z), hs4.g1, hL3.same hs4.same, (sB.trans sB3).free (hs4.out (el, .lst eus) (by simp)), (sB.trans sB3).free (hs4.out (sl, .lst sus) (by simp))⟩
          rw [decide_eq_false hth, if_neg (by decide)]
          exact hs4.g0
      | some p =>
        obtain ⟨wi', o, ho, hpo, hoc, hcase⟩ := wi.step gd hc hto epo
        have enx := wrun_next epo
        rw [show optV (some p) = V.int p from rfl]
        have e1 : decide (V.int p = V.non) = false := decide_eq_false (by intro z; cases z)
        rw [e1]
        refine iteF ?_
        generalize hst : wrun ls down to first n = st at *
        walk_at "ss"
        rename_i te H4 hs4
        refine ⟨g, te, cnt, ls, (st.sw, p), rfl, hgr.same (sB.trans hs4.same), hs4.g0, fun v H5 s5 hv => ?_⟩
        rw [ho] at hv
        obtain ⟨vq, rfl, hv⟩ := hv
        obtain ⟨B1, sB1, hte, hs4a⟩ := frz_hs hs4
        obtain ⟨B2, sB2, hs5, tb⟩ := hs4a.ground rfl
        have hvq2 : B2 vq = some (endO o) := tb _ _ hv
        have sB12 := sB1.trans sB2
        replace hs5 := hs5.keep s5
        replace hE := hE.mono fun _ _ => EndAt.mono fun _ _ => sB12 _ _
        replace hL := hL.same sB12
        replace sB := sB.trans sB12
        clear hs4 hs4a hs2 tb hte hv sB1 sB2 sB12 s5
        have hcz : st.car.length ≤ 9 := Nat.le_trans (wi.nd.length_le_of_subset fun l hl => (wi.sub l hl).1) hlz
        have hez : st.ends.length ≤ 50 := by
          have h1 := wi.le
          have h2 : (cnt - 1) * ((st.car.length : Int) + 1) ≤ 5 * 10 := Int.mul_le_mul (by omega) (by omega) (by omega) (by omega)
          omega
        have hcu : cus.length ≤ 9 := by rw [LkL.len hL]; exact hcz
        have heu : eus.length ≤ 50 := by rw [hE.1]; exact hez
        have h0 : st.sw ≠ o.1 := by
          obtain ⟨l, hl, hh⟩ := peer_of ho
          have d := gd.dif l hl
          rcases hh with ⟨z1, z2⟩ | ⟨z1, z2⟩
          · rw [z1, z2] at d
            have d' : st.sw < o.1 := d
            omega
          · rw [z1, z2] at d
            have d' : o.1 < st.sw := d
            omega
        have wn : wrun ls down to first (n + 1) = if lkM (st.sw, p) o ∈ down then ⟨st.ends, st.car ++ [lkM (st.sw, p) o], st.sw⟩ else ⟨st.ends ++ [(st.sw, p)], st.car, o.1⟩ := by
          rw [enx]
          unfold wnext
          rw [hpo]
        rw [wn]
        walk_at "ss"
        rename_i t2 H6 hs6
        refine w_minT (x := (st.sw, p)) (y := o) hs6.g0 (hs6.old hvq2) ?_
        walk_at "ss"
        rename_i t3 H7 hs7
        refine w_maxT (x := (st.sw, p)) (y := o) hs7.g0 (hs7.old hvq2) ?_
        walk_at "ss"
        rename_i tk H8 hs8
        obtain ⟨B3, sB3, hs9, al⟩ := Hs.rest [(el, .lst eus), (cl, .lst cus)] (hs8.sel [3, 4, 0, 1, 2])
        have ht3 : B3 t3 = some (endO (st.sw, p)) := al (t3, _) (by simp)
        have ht2 : B3 t2 = some (endO (st.sw, p)) := al (t2, _) (by simp)
        have htk : B3 tk = some (.tup [.ref (if lexI [o.1, o.2] [st.sw, p] = true then vq else t2), .ref (if lexI [st.sw, p] [o.1, o.2] = true then vq else t3)]) := al (tk, _) (by simp)
        have hk := nk_mm (x := (st.sw, p)) (y := o) htk ht2 ht3 (sB3 _ _ hvq2) h0
        replace hE := hE.mono fun _ _ => EndAt.mono fun _ _ => sB3 _ _
        replace hL := hL.same sB3
        replace sB := sB.trans sB3
        have hvq3 := sB3 _ _ hvq2
        clear hs5 hs6 hs7 hs8 al htk sB3
        refine w_inLk (hs9.old (sB _ _ hd)) (hD.same (sB.trans hs9.same)) (hk.mono fun _ _ => hs9.same _ _) ?_
        refine ⟨_, rfl, ?_⟩
        by_cases hdn : lkM (st.sw, p) o ∈ down
        · rw [if_pos hdn, decide_eq_true hdn]
          refine iteT ?_
          have hcu2 : cus.length < sizeLine := szl (by omega)
          walk_at "ss"
          rename_i H10 hs10
          exact ⟨B3, eus, cus ++ [.ref tk], _, _, _, _, rfl, sB, hs10, hE, hL.snoc hk⟩
        · rw [if_neg hdn, decide_eq_false hdn]
          refine iteF ?_
          have heu2 : eus.length < sizeLine := szl (by omega)
          have hvq9 : H8 vq = some (.tup [.int o.1, .int o.2]) := hs9.old hvq3
          walk_at "ss"
          rename_i t4 H9 _ H10 hs10
          obtain ⟨B4, sB4, ht4, hs11⟩ := frz_hs hs10
          exact ⟨B4, eus ++ [.ref t4], cus, _, _, _, _, rfl, sB.trans sB4, hs11, (hE.mono fun _ _ => EndAt.mono fun _ _ => sB4 _ _).snoc ⟨t4, rfl, ht4⟩, hL.same sB4⟩
    · clear hs2
      rintro σ H2 ⟨B, eus, cus, v7, v8, v9, v10, rfl, sB, hs2, hE, hL⟩
      have hfin : wrun ls down to first (200 : Int).toNat = fin ls down to first := rfl
      generalize hn : (200 : Int).toNat = n at *
      have hsw0 : (wrun ls down to first n).sw = (fin ls down to first).sw := by rw [hfin]
      rw [hsw0]
      rw [hfin] at hE hL
      walk_at "ss"
      refine ifd (fun hth => ?_) (fun hth => ?_)
      · walk_at "ss"
        refine w_sortL hs2 (SqL.of hs2.g1) (hL.same hs2.same) fun sl sus H3 _ hs3 hL3 => ?_
        obtain ⟨B3, sB3, hs3a, tb⟩ := hs3.ground rfl
        have hL3 := LkL.mono tb hL3
        clear hs2 hs3
        walk_at "ss"
        rename_i t H4 hs4
        refine k (.ref t) H4 ((sB.trans sB3).trans hs4.same) ⟨t, el, sl, eus, sus, rfl, ?_, hs4.g2, hE.mono fun _ _ => EndAt.mono fun _ _ z => hs4.old (sB3 _ _ z), hs4.g1, hL3.same hs4.same, (sB.trans sB3).free (hs4.out (el, .lst eus) (by simp)), (sB.trans sB3).free (hs4.out (sl, .lst sus) (by simp))⟩
        rw [decide_eq_true hth, if_pos rfl]
        exact hs4.g0
      · walk_at "ss"
        refine w_sortL hs2 (SqL.of hs2.g1) (hL.same hs2.same) fun sl sus H3 _ hs3 hL3 => ?_
        obtain ⟨B3, sB3, hs3a, tb⟩ := hs3.ground rfl
        have hL3 := LkL.mono tb hL3
        clear hs2 hs3
        walk_at "ss"
        rename_i t H4 hs4
        refine k (.ref t) H4 ((sB.trans sB3).trans hs4.same) ⟨t, el, sl, eus, sus, rfl, ?_, hs4.g2, hE.mono fun _ _ => EndAt.mono fun _ _ z => hs4.old (sB3 _ _ z), hs4.g1, hL3.same hs4.same, (sB.trans sB3).free (hs4.out (el, .lst eus) (by simp)), (sB.trans sB3).free (hs4.out (sl, .lst sus) (by simp))⟩
        rw [decide_eq_false hth, if_neg (by decide)]
        exact hs4.g0
end
local macro_rules | `(tactic| walk_at "v") => `(tactic| first | exact v0 | exact v1 | exact v2 | exact v3 | exact v4 | exact v5 | exact v6 | exact v7 | exact v8)
local macro_rules | `(tactic| walk_at "vs") => `(tactic| first | exact st0 | exact st1 | exact st2 | exact st3 | exact st4 | exact st5 | exact st6 | exact st7 | exact st8)
local macro_rules | `(tactic| walk_at "s") => `(tactic| first
  | with_reducible refine w_dget ?_
  | ((with_reducible refine' w_dgetZ ?h ?nd ?hk ?hv ?_); (case h => walk_at "g"); (case nd => walk_at "nd"); (case hk => walk_at "k"); (case hv => walk_at "v"))
  | ((with_reducible refine' w_dputZ ?hs ?h ?nd ?hk ?hv ?hu ?hl ?_); (case hs => assumption); (case h => walk_at "p"); (case nd => walk_at "nd"); (case hk => walk_at "k"); (case hv => walk_at "v"); (case hu => walk_at "vs"); (case hl => decide); intro _ _)
  | with_reducible refine w_gsub ?_
  | with_reducible refine w_setD ?_
  | with_reducible refine w_disp ?_
  | ((with_reducible refine' w_newP ?hs ?_); (case hs => assumption); intro _ _ _)
  | with_reducible refine w_pcons ?_
  | with_reducible refine w_pnil ?_)

local macro_rules | `(tactic| walk_at "s") => `(tactic| first
  | with_reducible refine w_nget ?_
  | with_reducible refine w_nin ?_
  | with_reducible refine w_nnot ?_
  | with_reducible refine w_nput ?_
  | with_reducible refine w_ndel ?_
  | with_reducible refine w_npop ?_
  | ((with_reducible refine' w_nnew ?hs ?_); (case hs => assumption); intro _ _ _))

theorem rows_bls {α : Type} {f : α → Bool} : ∀ {us : List V} {xs : List α}, Row (fun v x => v = V.bl (f x)) us xs → us = (xs.map f).map V.bl
  | [], [], _ => rfl
  | [], _ :: _, h => by cases h.1
  | _ :: _, [], h => by cases h.1
  | u :: us, x :: xs, h => by
    have h1 : u = V.bl (f x) := h.2 0 u x rfl rfl
    rw [h1, rows_bls (us := us) (xs := xs) ⟨Nat.succ.inj h.1, fun i y z h1 h2 => h.2 (i + 1) y z (by simpa using h1) (by simpa using h2)⟩]
    rfl
theorem w_inI0 {K : PySem.W.Frag} {H : Hp} {Q : VK} {n : Int} {ns : List Int} {p : Addr} (h : SqL K H p (ns.map V.int)) (q : Q (.bl (decide (n ∈ ns))) H) : rIn K false (.int n) (.ref p) H Q := w_inIs h q
theorem w_inI1 {K : PySem.W.Frag} {H : Hp} {Q : VK} {n : Int} {ns : List Int} {p : Addr} (h : SqL K H p (ns.map V.int)) (q : Q (.bl (!decide (n ∈ ns))) H) : rIn K true (.int n) (.ref p) H Q := w_inIs h q
def crs (side : List Int) (l : Lk) : Bool := !decide (decide (l.1.1 ∈ side) = decide (l.2.1 ∈ side))
theorem crs_iff {side : List Int} {l : Lk} : crs side l = true ↔ ¬ decide (l.1.1 ∈ side) = decide (l.2.1 ∈ side) := by
  unfold crs
  rw [Bool.not_eq_true', decide_eq_false_iff_not]
theorem all_map {α : Type} {f : α → Bool} {xs : List α} : (xs.map f).all id = true ↔ ∀ x ∈ xs, f x = true := by
  rw [List.all_map, List.all_eq_true]
  exact Iff.rfl
section
variable {P : Program} [IsP P] {w : World} {K : PySem.W.Frag} {mg : Str → Option Value} {base : Heap} {a : Ad}
def sp_side : Sp := fun vs H Q _ => ∃ (g : V) (dd : Addr) (dus : List V) (cnt sw : Int) (ls dead : List Lk), vs = [g, .ref dd, .int sw] ∧ GrAt H g cnt ls ∧ H dd = some (.lst dus) ∧ LkL H dus dead ∧ Gd ls ∧ (1 ≤ sw ∧ sw ≤ 6) ∧ ∀ l ys H', Hs H [(l, .lst (ys.map V.int))] H' → nearP (liv ls dead) sw ys → Q (.ref l) H'
theorem ok_side_of (T : Txt w K mg a) : FnOk P w K mg base CX0 2 a.side_of a.fd_side_of ["graph", "dead", "switch"] sp_side := by
  have G_living := ok_living (P := P) (w := w) (base := base) T
  have G_reached := ok_reached (P := P) (w := w) (base := base) T
  refine T.fn_side_of.ok sc_side_of (fun vs H Q E h => ?_) (fun cdv A outer s H vs Q E hr h => ?_)
  · obtain ⟨_, _, _, _, _, _, _, rfl, _⟩ := h
    rfl
  · obtain ⟨g, dd, dus, cnt, sw, ls, dead, rfl, hgr, hd, hD, gd, hsw, k⟩ := h
    refine ⟨_, (pss_one (ps_ret (pe_call G_reached (hr.mono (by first | decide | omega)) rfl T.mg_reached T.kp_reached T.bi_reached .nil pass0 (pa_cons (pe_call G_living (hr.mono (by first | decide | omega)) rfl T.mg_living T.kp_living T.bi_living .nil pass0 (pa_cons (pv 0) (pa_cons (pv 1) pa_nil))) (pa_cons (pv 2) pa_nil))))), ?_⟩
    walk_at "ss"
    refine ⟨g, dd, dus, cnt, ls, dead, rfl, hgr, hd, hD, fun ll lys H1 hs1 hL => ?_⟩
    walk_at "ss"
    exact ⟨ll, lys, liv ls dead, sw, rfl, hs1.g0, hL.same hs1.same, gd.liv dead, hsw, fun l ys H' hs2 hn => k l ys H' ((hs1.add hs2).sel [0]) hn⟩
def sp_cut : Sp := fun vs H Q _ => ∃ (g : V) (dn dd sd : Addr) (nus dus : List V) (cnt first to : Int) (ls down dead : List Lk) (side : List Int), vs = [g, .ref dn, .int first, .int to, .ref dd, .ref sd] ∧ GrAt H g cnt ls ∧ H dn = some (.lst nus) ∧ LkL H nus down ∧ H dd = some (.lst dus) ∧ LkL H dus dead ∧ dead.length ≤ 100 ∧ H sd = some (.lst (side.map V.int)) ∧ ∀ b H', Same H H' → (b = true ↔ CutP ls down first to dead side) → Q (.bl b) H'
theorem ok_cut_right (T : Txt w K mg a) : FnOk P w K mg base CX0 1 a.cut_right a.fd_cut_right ["graph", "down", "first", "to", "dead", "side"] sp_cut := by
  refine T.fn_cut_right.ok sc_cut_right (fun vs H Q E h => ?_) (fun cdv A outer s H vs Q E hr h => ?_)
  · obtain ⟨_, _, _, _, _, _, _, _, _, _, _, _, _, rfl, _⟩ := h
    rfl
  · obtain ⟨_, dn, dd, sd, nus, dus, cnt, first, to, ls, down, dead, side, rfl, ⟨gp, lr, us, rfl, hg, hl, hL, hlz⟩, hn, hN, hd, hD, hdz, hsd, k⟩ := h
    refine ⟨_, (pss_cons (ps_if (PW.pt (pw_or (pt_cmpR (op_niK (K := K)) (pv 2) (pv 5) (by rfl)) (pw_or1 (pt_cmpR (op_inK (K := K)) (pv 3) (pv 5) (by rfl)))))
  (pss_one (ps_ret pe_bl))
  pss_nil)
  (pss_cons (ps_if (pt_not (pt_val (pe_callB (cr_allK (K := K) rfl) (by rfl) T.mg_all (by decide +kernel) (pa_cons (pe_lc (own := [("link", 7)]) (g := (gName 7)) (tt := tYes) rfl sc_cut_right.nd (pi_listK (K := K) (pv 4)) (blkOk_by (own := [("link", 7)]) (N := N_cut_right) (sc := defScope s_cut_right) (by decide +kernel)) (fun _ _ _ _ _ => by exact (pg_name (i := 7) sc_cut_right.nd rfl (Or.inl rfl))) (fun _ _ _ _ _ => pts_nil) (fun _ _ _ _ _ => by exact (pe_cmpR (op_inDL (K := K) (r65 hr)) (pv 7) (pv 1) (by rfl)))) pa_nil))))
  (pss_one (ps_ret pe_bl))
  pss_nil)
  (pss_cons (ps_setLc (i := 6) (own := [("one", 8), ("other", 9)]) (g := (gTup K 2 (gCons (gName 8) (gCons (gName 9) gNil)))) rfl sc_cut_right.nd rfl rfl (sw_true rfl rfl rfl (by decide +kernel)) (pi_listK (K := K) (pe_ix (ix_tupK (K := K)) (pv 0) pe_int (fun _ _ => rfl))) (blkOk_by (own := [("one", 8), ("other", 9)]) (N := N_cut_right) (sc := defScope s_cut_right) (by decide +kernel)) (fun _ _ _ _ _ => by exact (pg_tupK (K := K) rfl (pgs_cons (pg_name (i := 8) sc_cut_right.nd rfl (Or.inl rfl)) (pgs_cons (pg_name (i := 9) sc_cut_right.nd rfl (Or.inl rfl)) pgs_nil)))) (fun _ _ _ _ _ => by exact pts_one (pt_cmpR op_ne (pe_cmpR (op_inK (K := K)) (pe_ix (ix_tupK (K := K)) (pv 8) pe_int (fun _ _ => rfl)) (pv 5) (by rfl)) (pe_cmpR (op_inK (K := K)) (pe_ix (ix_tupK (K := K)) (pv 9) pe_int (fun _ _ => rfl)) (pv 5) (by rfl)) (nomark _))) (fun _ _ _ _ _ => by exact (pe_tup (pa_cons (pv 8) (pa_cons (pv 9) pa_nil)))))
  (pss_one (ps_ret (pe_callB (cr_allK (K := K) rfl) (by rfl) T.mg_all (by decide +kernel) (pa_cons (pe_lc (own := [("link", 7)]) (g := (gName 7)) (tt := tYes) rfl sc_cut_right.nd (pi_listK (K := K) (pv 6)) (blkOk_by (own := [("link", 7)]) (N := N_cut_right) (sc := defScope s_cut_right) (by decide +kernel)) (fun _ _ _ _ _ => by exact (pg_name (i := 7) sc_cut_right.nd rfl (Or.inl rfl))) (fun _ _ _ _ _ => pts_nil) (fun _ _ _ _ _ => by exact (pe_cmpR (op_inDL (K := K) (r65 hr)) (pv 7) (pv 4) (by rfl)))) pa_nil))))))), ?_⟩
    have bad : ∀ H', Same H H' → ¬ CutP ls down first to dead side → Q (.bl false) H' := fun H' s n => k false H' s ⟨(fun z => nomatch z), fun z => absurd z n⟩
    walk_at "ss"
    refine w_inI1 (SqL.of hsd) ?_
    refine ⟨_, rfl, ?_⟩
    by_cases h1 : first ∈ side
    · rw [decide_eq_true h1, Bool.not_true]
      refine iteF ?_
      walk_at "ss"
      refine w_inI0 (SqL.of hsd) ?_
      refine ⟨_, rfl, ?_⟩
      by_cases h2 : to ∈ side
      · rw [decide_eq_true h2]
        refine iteT ?_
        walk_at "ss"
        exact bad _ (Same.refl _) fun z => z.b h2
      · rw [decide_eq_false h2]
        refine iteF ?_
        walk_at "ss"
        have hrowD : Row (fun v l => ∃ a, v = V.ref a ∧ NK H (lkK l) (.ref a)) dus dead := ⟨LkL.len hD, fun i u l h3 h4 => by
          obtain ⟨a, l', e1, e2, e3⟩ := LkL.get hD h3
          rw [h4] at e2
          cases e2
          exact ⟨a, e1, e3⟩⟩
        refine w_lcRow (fun _ v (l : Lk) => v = V.bl (decide (l ∈ down))) (fun _ _ _ _ _ z => z) (SqL.of hd) (by rw [LkL.len hD]; omega) dead (LkL.len hD) (fun Q q => ⟨_, rfl, q⟩) (fun _ => rfl) (fun i u l H' Q' hu hli s' hq => ?_) fun D acc H1 hs1 hr1 => ?_
        · obtain ⟨t, rfl, hk⟩ := hrowD.2 i u l hu hli
          walk_at "ss"
          exact w_inLk (s' _ _ hn) (hN.same s') (hk.mono fun _ _ => s' _ _) (hq _ _ (Same.refl _) rfl)
        · rw [rows_bls hr1] at hs1
          walk_at "ss"
          refine ⟨D, _, rfl, SqL.of hs1.g0, ?_⟩
          refine ⟨_, rfl, ?_⟩
          by_cases h3 : (dead.map fun l => decide (l ∈ down)).all id = true
          · have hdn : ∀ l ∈ dead, l ∈ down := fun l hl => of_decide_eq_true (all_map.mp h3 l hl)
            rw [h3]
            refine iteF ?_
            have hg1 := hs1.old hg
            have hl1 := hs1.old hl
            walk_at "ss"
            refine w_lc (SqL.of hl1) (fun D i H' => ∃ (B : Hp) (acc : List V), Same H1 B ∧ Hs B [(D, .lst acc)] H' ∧ LkL B acc ((ls.take i).filter (crs side))) (fun Q' q => ?_) (fun D hD => ⟨H1, [], Same.refl _, (Hs.start H1).new hD, .nil⟩) (fun D i H' _ ⟨B, _, sB, h, _⟩ => SqL.of (h.old (sB _ _ hl1))) ?_ ?_
            · walk_at "ss"
              exact q
            · rintro D i y H2 hi ⟨B, acc, sB, hs2, hacc⟩
              obtain ⟨t, l, rfl, hli, hnk⟩ := LkL.get hL hi
              obtain ⟨p, q, ht, hp, hq⟩ := nk_link hnk
              have s2 := (hs1.same.trans sB).trans hs2.same
              have ht2 := s2 _ _ ht
              have hp2 : H2 p = some (.tup [.int l.1.1, .int l.1.2]) := s2 _ _ hp
              have hq2 : H2 q = some (.tup [.int l.2.1, .int l.2.2]) := s2 _ _ hq
              have haz : acc.length ≤ 100 := by
                rw [LkL.len hacc]
                refine Nat.le_trans (List.length_filter_le _ _) ?_
                rw [List.length_take]
                omega
              have hst := take_filter (p := crs side) hli
              walk_at "ss"
              refine ⟨rfl, ?_⟩
              walk_at "ss"
              refine w_inI0 (SqL.of (s2 _ _ hsd)) ?_
              walk_at "ss"
              refine w_inI0 (SqL.of (s2 _ _ hsd)) ?_
              walk_at "ss"
              show if crs side l = true then _ else _
              by_cases hc : crs side l = true
              · rw [hc] at hst ⊢
                refine iteT ?_
                walk_at "ss"
                rename_i tn H3 hs3
                obtain ⟨B2, sB2, htn, hs4⟩ := frz_hs hs3
                refine ⟨acc, hs4.g0, szl (by omega), B2, acc ++ [.ref tn], sB.trans sB2, hs4.p0 _, ?_⟩
                rw [hst]
                have sHB := (hs1.same.trans sB).trans sB2
                exact (hacc.same sB2).snoc (nk_mk (l := l) htn (sHB _ _ hp) (sHB _ _ hq))
              · rw [Bool.not_eq_true] at hc
                rw [hc] at hst ⊢
                refine iteF ?_
                refine ⟨B, acc, sB, hs2, ?_⟩
                rw [hst, if_neg (by decide), List.append_nil]
                exact hacc
            · rintro D2 H2 ⟨B, acc, sB, hs2, hacc⟩
              rw [LkL.len hL, List.take_length] at hacc
              have s2 := (hs1.same.trans sB).trans hs2.same
              have haz : acc.length ≤ 100 := by
                rw [LkL.len hacc]
                exact Nat.le_trans (List.length_filter_le _ _) hlz
              have hrowA : ∀ i u l, acc[i]? = some u → (ls.filter (crs side))[i]? = some l → ∃ a, u = V.ref a ∧ NK B (lkK l) (.ref a) := fun i u l h3 h4 => by
                obtain ⟨a, l', e1, e2, e3⟩ := LkL.get hacc h3
                rw [h4] at e2
                cases e2
                exact ⟨a, e1, e3⟩
              walk_at "ss"
              refine w_lcRow (fun _ v (l : Lk) => v = V.bl (decide (l ∈ dead))) (fun _ _ _ _ _ z => z) (SqL.of hs2.g0) (by omega) (ls.filter (crs side)) (LkL.len hacc) (fun Q q => ⟨_, rfl, q⟩) (fun _ => rfl) (fun i u l H' Q' hu hli s' hq => ?_) fun D3 acc3 H3 hs3 hr3 => ?_
              · obtain ⟨t, rfl, hk⟩ := hrowA i u l hu hli
                have s3 := s2.trans s'
                walk_at "ss"
                exact w_inLk (s3 _ _ hd) (hD.same s3) (hk.mono fun _ _ z => s' _ _ (hs2.old z)) (hq _ _ (Same.refl _) rfl)
              · rw [rows_bls hr3] at hs3
                walk_at "ss"
                refine ⟨D3, _, rfl, SqL.of hs3.g0, ?_⟩
                refine k _ _ (s2.trans hs3.same) ?_
                rw [all_map]
                constructor
                · intro z
                  exact ⟨h1, h2, hdn, fun l hl hne => of_decide_eq_true (z l (List.mem_filter.mpr ⟨hl, crs_iff.mpr hne⟩))⟩
                · intro z l hl
                  obtain ⟨y1, y2⟩ := List.mem_filter.mp hl
                  exact decide_eq_true (z.d l y1 (crs_iff.mp y2))
          · rw [Bool.not_eq_true] at h3
            rw [h3]
            refine iteT ?_
            walk_at "ss"
            exact bad _ hs1.same fun z => by
              have : (dead.map fun l => decide (l ∈ down)).all id = true := all_map.mpr fun l hl => decide_eq_true (z.c l hl)
              rw [h3] at this
              cases this
    · rw [decide_eq_false h1, Bool.not_false]
      refine iteT ?_
      walk_at "ss"
      exact bad _ (Same.refl _) fun z => h1 z.a
end
local macro_rules | `(tactic| walk_at "v") => `(tactic| first | exact v0 | exact v1 | exact v2 | exact v3 | exact v4 | exact v5 | exact v6 | exact v7 | exact v8)
local macro_rules | `(tactic| walk_at "vs") => `(tactic| first | exact st0 | exact st1 | exact st2 | exact st3 | exact st4 | exact st5 | exact st6 | exact st7 | exact st8)
local macro_rules | `(tactic| walk_at "s") => `(tactic| first
  | with_reducible refine w_dget ?_
  | ((with_reducible refine' w_dgetZ ?h ?nd ?hk ?hv ?_); (case h => walk_at "g"); (case nd => walk_at "nd"); (case hk => walk_at "k"); (case hv => walk_at "v"))
  | ((with_reducible refine' w_dputZ ?hs ?h ?nd ?hk ?hv ?hu ?hl ?_); (case hs => assumption); (case h => walk_at "p"); (case nd => walk_at "nd"); (case hk => walk_at "k"); (case hv => walk_at "v"); (case hu => walk_at "vs"); (case hl => decide); intro _ _)
  | with_reducible refine w_gsub ?_
  | with_reducible refine w_setD ?_
  | with_reducible refine w_disp ?_
  | ((with_reducible refine' w_newP ?hs ?_); (case hs => assumption); intro _ _ _)
  | with_reducible refine w_pcons ?_
  | with_reducible refine w_pnil ?_)

local macro_rules | `(tactic| walk_at "s") => `(tactic| first
  | with_reducible refine w_nget ?_
  | with_reducible refine w_nin ?_
  | with_reducible refine w_nnot ?_
  | with_reducible refine w_nput ?_
  | with_reducible refine w_ndel ?_
  | with_reducible refine w_npop ?_
  | ((with_reducible refine' w_nnew ?hs ?_); (case hs => assumption); intro _ _ _))

section
variable {P : Program} [IsP P] {w : World} {K : PySem.W.Frag} {mg : Str → Option Value} {base : Heap} {a : Ad}
theorem ok__law_cut (T : Txt w K mg a) : FnOk P w K mg base CX0 1 a._law_cut a.fd__law_cut ["graph", "down", "first", "to", "dead", "side"] sp_cut := by
  refine T.fn__law_cut.ok sc__law_cut (fun vs H Q E h => ?_) (fun cdv A outer s H vs Q E hr h => ?_)
  · obtain ⟨_, _, _, _, _, _, _, _, _, _, _, _, _, rfl, _⟩ := h
    rfl
  · obtain ⟨_, dn, dd, sd, nus, dus, cnt, first, to, ls, down, dead, side, rfl, ⟨gp, lr, us, rfl, hg, hl, hL, hlz⟩, hn, hN, hd, hD, hdz, hsd, k⟩ := h
    refine ⟨_, (pss_cons (ps_if (PW.pt (pw_or (pt_cmpR (op_niK (K := K)) (pv 2) (pv 5) (by rfl)) (pw_or (pt_cmpR (op_inK (K := K)) (pv 3) (pv 5) (by rfl)) (pw_or1 (pt_cmpR op_gt (pe_callB (call_lenK (K := K)) (by rfl) T.mg_len PySem.boot_len (pa_cons (pe_lc (own := [("link", 7)]) (g := (gName 7)) rfl sc__law_cut.nd (pi_listK (K := K) (pv 4)) (blkOk_by (own := [("link", 7)]) (N := N__law_cut) (sc := defScope s__law_cut) (by decide +kernel)) (fun _ _ _ _ _ => by exact (pg_name (i := 7) sc__law_cut.nd rfl (Or.inl rfl))) (fun _ _ _ _ _ => by exact pts_one (pt_cmpR (op_niDL (K := K) (r65 hr)) (pv 7) (pv 1) (by rfl))) (fun _ _ _ _ _ => by exact (pv 7))) pa_nil)) pe_int (nomark _))))))
  (pss_one (ps_ret pe_bl))
  pss_nil)
  (pss_cons (ps_setLc (i := 6) (own := [("link", 7)]) (g := (gName 7)) rfl sc__law_cut.nd rfl rfl (sw_true rfl rfl rfl (by decide +kernel)) (pi_listK (K := K) (pe_ix (ix_tupK (K := K)) (pv 0) pe_int (fun _ _ => rfl))) (blkOk_by (own := [("link", 7)]) (N := N__law_cut) (sc := defScope s__law_cut) (by decide +kernel)) (fun _ _ _ _ _ => by exact (pg_name (i := 7) sc__law_cut.nd rfl (Or.inl rfl))) (fun _ _ _ _ _ => by exact pts_one (pt_cmpR op_ne (pe_cmpR (op_inK (K := K)) (pe_ix (ix_tupK (K := K)) (pe_ix (ix_tupK (K := K)) (pv 7) pe_int (fun _ _ => rfl)) pe_int (fun _ _ => rfl)) (pv 5) (by rfl)) (pe_cmpR (op_inK (K := K)) (pe_ix (ix_tupK (K := K)) (pe_ix (ix_tupK (K := K)) (pv 7) pe_int (fun _ _ => rfl)) pe_int (fun _ _ => rfl)) (pv 5) (by rfl)) (nomark _))) (fun _ _ _ _ _ => by exact (pv 7)))
  (pss_one (ps_ret (pe_cmpR op_eq (pe_callB (call_lenK (K := K)) (by rfl) T.mg_len PySem.boot_len (pa_cons (pe_lc (own := [("link", 7)]) (g := (gName 7)) rfl sc__law_cut.nd (pi_listK (K := K) (pv 6)) (blkOk_by (own := [("link", 7)]) (N := N__law_cut) (sc := defScope s__law_cut) (by decide +kernel)) (fun _ _ _ _ _ => by exact (pg_name (i := 7) sc__law_cut.nd rfl (Or.inl rfl))) (fun _ _ _ _ _ => by exact pts_one (pt_cmpR (op_niDL (K := K) (r65 hr)) (pv 7) (pv 4) (by rfl))) (fun _ _ _ _ _ => by exact (pv 7))) pa_nil)) pe_int (nomark _)))))), ?_⟩
    have bad : ∀ H', Same H H' → ¬ CutP ls down first to dead side → Q (.bl false) H' := fun H' s n => k false H' s ⟨(fun z => nomatch z), fun z => absurd z n⟩
    have hduz : dus.length ≤ 100 := by rw [LkL.len hD]; exact hdz
    walk_at "ss"
    refine w_inI1 (SqL.of hsd) ?_
    refine ⟨_, rfl, ?_⟩
    by_cases h1 : first ∈ side
    · rw [decide_eq_true h1, Bool.not_true]
      refine iteF ?_
      walk_at "ss"
      refine w_inI0 (SqL.of hsd) ?_
      refine ⟨_, rfl, ?_⟩
      by_cases h2 : to ∈ side
      · rw [decide_eq_true h2]
        refine iteT ?_
        walk_at "ss"
        exact bad _ (Same.refl _) fun z => z.b h2
      · rw [decide_eq_false h2]
        refine iteF ?_
        walk_at "ss"
        refine w_lcF (fun l => decide (l ∉ down)) (SqL.of hd) hD (by omega) (fun Q q => ⟨_, rfl, q⟩) (fun _ => rfl) (fun _ => rfl) (fun t l H' hlm hk sm R hR => ?_) fun D acc H1 hs1 hacc => ?_
        · walk_at "ss"
          refine w_niL (sm _ _ hn) (hN.same sm) (hk.mono fun _ _ => sm _ _) ?_
          exact ⟨_, rfl, hR _ (Same.refl _)⟩
        · have hlen := LkL.len hacc
          walk_at "ss"
          refine ifd (fun h3 => ?_) (fun h3 => ?_)
          · walk_at "ss"
            exact bad _ hs1.same fun z => by
              have : (dead.filter fun l => decide (l ∉ down)) = [] := List.filter_eq_nil_iff.mpr fun l hl => by
                rw [decide_eq_true_eq]
                exact fun q => q (z.c l hl)
              rw [this] at hlen
              have : acc.length = 0 := hlen
              omega
          · have hdn : ∀ l ∈ dead, l ∈ down := fun l hl => by
              have h0 : acc.length = 0 := by omega
              rw [h0] at hlen
              have := List.eq_nil_of_length_eq_zero hlen.symm
              have := List.filter_eq_nil_iff.mp this l hl
              rw [decide_eq_true_eq] at this
              exact Classical.byContradiction this
            have hg1 := hs1.old hg
            have hl1 := hs1.old hl
            have s1 := hs1.same
            clear hs1 hacc hlen h3
            walk_at "ss"
            refine w_lcF (crs side) (SqL.of hl1) (hL.same s1) (by rw [LkL.len hL]; omega) (fun Q q => ?_) (fun _ => rfl) (fun _ => rfl) (fun t l H' hlm hk sm R hR => ?_) fun D2 acc2 H2 hs2 hacc2 => ?_
            · walk_at "ss"
              exact q
            · obtain ⟨p, q, ht, hp, hq⟩ := nk_link hk
              have ht' := sm _ _ ht
              have hp' : H' p = some (.tup [.int l.1.1, .int l.1.2]) := sm _ _ hp
              have hq' : H' q = some (.tup [.int l.2.1, .int l.2.2]) := sm _ _ hq
              have s2 := s1.trans sm
              walk_at "ss"
              refine w_inI0 (SqL.of (s2 _ _ hsd)) ?_
              walk_at "ss"
              refine w_inI0 (SqL.of (s2 _ _ hsd)) ?_
              walk_at "ss"
              exact hR _ (Same.refl _)
            · have s2 := s1.trans hs2.same
              have haz : acc2.length ≤ 100 := by
                rw [LkL.len hacc2]
                exact Nat.le_trans (List.length_filter_le _ _) hlz
              walk_at "ss"
              refine w_lcF (fun l => decide (l ∉ dead)) (SqL.of hs2.g0) (hacc2.same hs2.same) (by omega) (fun Q q => ⟨_, rfl, q⟩) (fun _ => rfl) (fun _ => rfl) (fun t l H' hlm hk sm R hR => ?_) fun D3 acc3 H3 hs3 hacc3 => ?_
              · have s3 := s2.trans sm
                walk_at "ss"
                refine w_niL (s3 _ _ hd) (hD.same s3) (hk.mono fun _ _ => sm _ _) ?_
                exact ⟨_, rfl, hR _ (Same.refl _)⟩
              · have hlen := LkL.len hacc3
                walk_at "ss"
                refine k _ _ (s2.trans hs3.same) ?_
                rw [decide_eq_true_iff]
                constructor
                · intro z
                  have h0 : acc3.length = 0 := by omega
                  rw [h0] at hlen
                  have h4 := List.filter_eq_nil_iff.mp (List.eq_nil_of_length_eq_zero hlen.symm)
                  refine ⟨h1, h2, hdn, fun l hl hne => ?_⟩
                  have := h4 l (List.mem_filter.mpr ⟨hl, crs_iff.mpr hne⟩)
                  rw [decide_eq_true_eq] at this
                  exact Classical.byContradiction this
                · intro z
                  have : ((ls.filter (crs side)).filter fun l => decide (l ∉ dead)) = [] := List.filter_eq_nil_iff.mpr fun l hl => by
                    obtain ⟨y1, y2⟩ := List.mem_filter.mp hl
                    rw [decide_eq_true_eq]
                    exact fun q => q (z.d l y1 (crs_iff.mp y2))
                  rw [this] at hlen
                  have : acc3.length = 0 := hlen
                  omega
    · rw [decide_eq_false h1, Bool.not_false]
      refine iteT ?_
      walk_at "ss"
      exact bad _ (Same.refl _) fun z => h1 z.a
end
local macro_rules | `(tactic| walk_at "v") => `(tactic| first | exact v0 | exact v1 | exact v2 | exact v3 | exact v4 | exact v5 | exact v6 | exact v7 | exact v8)
local macro_rules | `(tactic| walk_at "vs") => `(tactic| first | exact st0 | exact st1 | exact st2 | exact st3 | exact st4 | exact st5 | exact st6 | exact st7 | exact st8)
local macro_rules | `(tactic| walk_at "s") => `(tactic| first
  | with_reducible refine w_dget ?_
  | ((with_reducible refine' w_dgetZ ?h ?nd ?hk ?hv ?_); (case h => walk_at "g"); (case nd => walk_at "nd"); (case hk => walk_at "k"); (case hv => walk_at "v"))
  | ((with_reducible refine' w_dputZ ?hs ?h ?nd ?hk ?hv ?hu ?hl ?_); (case hs => assumption); (case h => walk_at "p"); (case nd => walk_at "nd"); (case hk => walk_at "k"); (case hv => walk_at "v"); (case hu => walk_at "vs"); (case hl => decide); intro _ _)
  | with_reducible refine w_gsub ?_
  | with_reducible refine w_setD ?_
  | with_reducible refine w_disp ?_
  | ((with_reducible refine' w_newP ?hs ?_); (case hs => assumption); intro _ _ _)
  | with_reducible refine w_pcons ?_
  | with_reducible refine w_pnil ?_)

local macro_rules | `(tactic| walk_at "s") => `(tactic| first
  | with_reducible refine w_nget ?_
  | with_reducible refine w_nin ?_
  | with_reducible refine w_nnot ?_
  | with_reducible refine w_nput ?_
  | with_reducible refine w_ndel ?_
  | with_reducible refine w_npop ?_
  | ((with_reducible refine' w_nnew ?hs ?_); (case hs => assumption); intro _ _ _))

/-! ## graphs that are drawn -/
theorem Gd.add {ls : List Lk} (g : Gd ls) {l : Lk} (h1 : isEnd 6 l.1 = true) (h2 : isEnd 6 l.2 = true) (h3 : l.1.1 < l.2.1) (n1 : l.1 ∉ flatE ls) (n2 : l.2 ∉ flatE ls) : Gd (ls ++ [l]) := by
  have mem : ∀ x ∈ ls ++ [l], x ∈ ls ∨ x = l := fun x hx => by
    rcases List.mem_append.mp hx with hx | hx
    · exact .inl hx
    · exact .inr (List.mem_singleton.mp hx)
  refine ⟨fun x hx => ?_, fun x hx => ?_, ?_⟩
  · rcases mem x hx with hx | rfl
    · exact g.rng x hx
    · exact ⟨h1, h2⟩
  · rcases mem x hx with hx | rfl
    · exact g.dif x hx
    · exact h3
  · have e : flatE (ls ++ [l]) = flatE ls ++ [l.1, l.2] := by
      unfold flatE
      rw [List.flatMap_append]
      rfl
    rw [e]
    have hne : l.1 ≠ l.2 := fun z => by rw [z] at h3; omega
    refine List.nodup_append.mpr ⟨g.nd, by simp [hne], fun a ha b hb e => ?_⟩
    subst e
    simp at hb
    rcases hb with rfl | rfl
    · exact n1 ha
    · exact n2 ha
theorem Gd.perm {ls ms : List Lk} (g : Gd ls) (p : ms.Perm ls) : Gd ms :=
  ⟨fun l hl => g.rng l (p.mem_iff.mp hl), fun l hl => g.dif l (p.mem_iff.mp hl), (p.flatMap_right _).nodup_iff.mpr g.nd⟩
theorem Gd.nil : Gd [] := ⟨(fun _ z => nomatch z), (fun _ z => nomatch z), List.Pairwise.nil⟩
theorem gd_lkM {ls : List Lk} (g : Gd ls) {x y : E2} (hx : isEnd 6 x = true) (hy : isEnd 6 y = true) (h0 : x.1 ≠ y.1) (n1 : x ∉ flatE ls) (n2 : y ∉ flatE ls) : Gd (ls ++ [lkM x y]) := by
  unfold lkM
  by_cases hc : ltE' x y
  · rw [if_pos hc]
    refine g.add hx hy ?_ n1 n2
    unfold ltE' at hc
    show x.1 < y.1
    omega
  · rw [if_neg hc]
    refine g.add hy hx ?_ n2 n1
    unfold ltE' at hc
    show y.1 < x.1
    omega
theorem lkM_ends (x y : E2) : ((lkM x y).1 = x ∧ (lkM x y).2 = y) ∨ ((lkM x y).1 = y ∧ (lkM x y).2 = x) := by
  unfold lkM
  split
  · exact .inl ⟨rfl, rfl⟩
  · exact .inr ⟨rfl, rfl⟩
theorem flat_lkM {ls : List Lk} {x y e : E2} (h : e ∈ flatE (ls ++ [lkM x y])) : e ∈ flatE ls ∨ e = x ∨ e = y := by
  obtain ⟨l, hl, h⟩ := mem_flatE.mp h
  rcases List.mem_append.mp hl with hl | hl
  · exact .inl (mem_flatE.mpr ⟨l, hl, h⟩)
  · rw [List.mem_singleton.mp hl] at h
    rcases lkM_ends x y with ⟨e1, e2⟩ | ⟨e1, e2⟩
    · rw [e1, e2] at h
      exact .inr (h.elim (fun z => .inl z.symm) fun z => .inr z.symm)
    · rw [e1, e2] at h
      exact .inr (h.elim (fun z => .inr z.symm) fun z => .inl z.symm)
theorem InC.add {cnt : Int} {ls : List Lk} (h : InC cnt ls) {x y : E2} (hx : 1 ≤ x.1 ∧ x.1 ≤ cnt) (hy : 1 ≤ y.1 ∧ y.1 ≤ cnt) : InC cnt (ls ++ [lkM x y]) := fun l hl => by
  rcases List.mem_append.mp hl with hl | hl
  · exact h l hl
  · rw [List.mem_singleton.mp hl]
    rcases lkM_ends x y with ⟨e1, e2⟩ | ⟨e1, e2⟩
    · rw [e1, e2]; exact ⟨hx, hy⟩
    · rw [e1, e2]; exact ⟨hy, hx⟩
theorem w_niT {K : PySem.W.Frag} {H : Hp} {Q : VK} {e t p q : Addr} {x y z : E2} (he : H e = some (endO x)) (ht : H t = some (.tup [.ref p, .ref q])) (hp : H p = some (endO y)) (hq : H q = some (endO z)) (k : Q (.bl (!(decide (y = x) || decide (z = x)))) H) : rInDT K true (.ref e) (.ref t) H Q := by
  have hk : NK H (lkK (y, z)) (.ref t) := nk_mk (l := (y, z)) ht hp hq
  have h2 : Im K H (.ref t) (lkK (y, z)).data := hk.im
  rw [lk_data] at h2
  refine ⟨_, _, dp_end he, h2.dp, shp_end x, by simp [SeqAt.shaped, PyData.canLay0, PyData.canLayAll0, PyData.depth, PyData.depthAll], ?_⟩
  have e1 : (([PyData.tuple [.int y.1, .int y.2], .tuple [.int z.1, .int z.2]] : List PyData).any fun w => PyData.eqv w (.tuple [.int x.1, .int x.2])) = (decide (y = x) || decide (z = x)) := by
    rw [List.any_cons, List.any_cons, List.any_nil, eqv_end, eqv_end, Bool.or_false]
  show Q (.bl (if true then !(([PyData.tuple [.int y.1, .int y.2], .tuple [.int z.1, .int z.2]] : List PyData).any fun w => PyData.eqv w (.tuple [.int x.1, .int x.2])) else _)) H
  rw [if_pos rfl, e1]
  exact k
/-- the ends that are free -/
structure FreeP (cnt : Int) (ls : List Lk) (fs : List E2) : Prop where
  rng : ∀ e ∈ fs, (1 ≤ e.1 ∧ e.1 ≤ cnt) ∧ 1 ≤ e.2 ∧ e.2 ≤ 3
  out : ∀ e ∈ fs, e ∉ flatE ls
  len : fs.length ≤ 18
section
variable {P : Program} [IsP P] {w : World} {K : PySem.W.Frag} {mg : Str → Option Value} {base : Heap} {a : Ad}
def GrG (H : Hp) (v : V) : Prop := ∃ cnt ls, GrAt H v cnt ls ∧ 1 ≤ cnt ∧ cnt ≤ 6 ∧ Gd ls ∧ InC cnt ls ∧ ls.length ≤ 9
def sp__law_graph : Sp := fun vs H Q _ => ∃ (B : Hp) (s c : Addr) (m : Int) (cells : List Int), vs = [.ref s] ∧ Hs B [(s, sto c m), (c, clo cells)] H ∧ Good m cells ∧
  ∀ B2 v m' cells' H', Same B B2 → Hs B2 [(s, sto c m'), (c, clo cells')] H' → Good m' cells' → GrG B2 v → Q v H'
theorem ok__law_graph (T : Txt w K mg a) : FnOk P w K mg base CX0 2 a._law_graph a.fd__law_graph ["state"] sp__law_graph := by
  have G__law_draw := ok__law_draw (P := P) (w := w) (base := base) T
  refine T.fn__law_graph.ok sc__law_graph (fun vs H Q E h => ?_) (fun cdv A outer s H vs Q E hr h => ?_)
  · obtain ⟨_, _, _, _, _, rfl, _⟩ := h
    rfl
  · obtain ⟨B, s, c, m, cells, rfl, hs, g, k⟩ := h
    refine ⟨_, (pss_cons (ps_set (i := 1) sc__law_graph.nd rfl (Or.inl rfl) (pe_op op_add pe_int (pe_call G__law_draw (hr.mono (by first | decide | omega)) rfl T.mg__law_draw T.kp__law_draw T.bi__law_draw .nil pass0 (pa_cons (pv 0) (pa_cons pe_int pa_nil)))))
  (pss_cons (ps_set (i := 2) sc__law_graph.nd rfl (Or.inl rfl) (pe_lst pa_nil))
  (pss_cons (ps_for PassesOwn.never rfl (pi_range2 rfl T.mg_range (pa_cons pe_int (pa_cons pe_int pa_nil))) (pg_name (i := 3) sc__law_graph.nd rfl (Or.inr rfl))
  (pss_one (ps_set (i := 2) sc__law_graph.nd rfl (Or.inl rfl) (pe_op op_cat (pv 2) (pe_lc (own := [("switch", 9)]) (g := (gName 9)) (tt := tYes) rfl sc__law_graph.nd (pi_range2 rfl T.mg_range (pa_cons pe_int (pa_cons (pe_op op_add (pv 1) pe_int) pa_nil))) (blkOk_by (own := [("switch", 9)]) (N := N__law_graph) (sc := defScope s__law_graph) (by decide +kernel)) (fun _ _ _ _ _ => by exact (pg_name (i := 9) sc__law_graph.nd rfl (Or.inl rfl))) (fun _ _ _ _ _ => pts_nil) (fun _ _ _ _ _ => by exact (pe_tup (pa_cons (pv 9) (pa_cons (pv 3) pa_nil)))))))))
  (pss_cons (ps_set (i := 4) sc__law_graph.nd rfl (Or.inl rfl) (pe_lst pa_nil))
  (pss_cons (ps_for PassesOwn.never rfl (pi_range1 rfl T.mg_range (pa_cons (pe_call G__law_draw (hr.mono (by first | decide | omega)) rfl T.mg__law_draw T.kp__law_draw T.bi__law_draw .nil pass0 (pa_cons (pv 0) (pa_cons pe_int pa_nil))) pa_nil)) (pg_name (i := 5) sc__law_graph.nd rfl (Or.inl rfl))
  (pss_cons (ps_set (i := 6) sc__law_graph.nd rfl (Or.inr rfl) (pe_ifExp (pt_cmpR op_gt (pe_callB (call_lenK (K := K)) (by rfl) T.mg_len PySem.boot_len (pa_cons (pv 2) pa_nil)) pe_int (nomark _)) (pe_ix (ix_listK (K := K)) (pv 2) (pe_call G__law_draw (hr.mono (by first | decide | omega)) rfl T.mg__law_draw T.kp__law_draw T.bi__law_draw .nil pass0 (pa_cons (pv 0) (pa_cons (pe_callB (call_lenK (K := K)) (by rfl) T.mg_len PySem.boot_len (pa_cons (pv 2) pa_nil)) pa_nil))) (fun _ _ => rfl)) (pe_tup (pa_cons pe_int (pa_cons pe_int pa_nil)))))
  (pss_cons (ps_setLc (i := 7) (own := [("end", 10)]) (g := (gName 10)) rfl sc__law_graph.nd rfl rfl (sw_true rfl rfl rfl (by decide +kernel)) (pi_listK (K := K) (pv 2)) (blkOk_by (own := [("end", 10)]) (N := N__law_graph) (sc := defScope s__law_graph) (by decide +kernel)) (fun _ _ _ _ _ => by exact (pg_name (i := 10) sc__law_graph.nd rfl (Or.inl rfl))) (fun _ _ _ _ _ => by exact pts_one (pt_cmpR op_ne (pe_ix (ix_tupK (K := K)) (pv 10) pe_int (fun _ _ => rfl)) (pe_ix (ix_tupK (K := K)) (pv 6) pe_int (fun _ _ => rfl)) (nomark _))) (fun _ _ _ _ _ => by exact (pv 10)))
  (pss_one (ps_if (pt_cmpR op_gt (pe_callB (call_lenK (K := K)) (by rfl) T.mg_len PySem.boot_len (pa_cons (pv 7) pa_nil)) pe_int (nomark _))
  (pss_cons (ps_set (i := 8) sc__law_graph.nd rfl (Or.inr rfl) (pe_ix (ix_listK (K := K)) (pv 7) (pe_call G__law_draw (hr.mono (by first | decide | omega)) rfl T.mg__law_draw T.kp__law_draw T.bi__law_draw .nil pass0 (pa_cons (pv 0) (pa_cons (pe_callB (call_lenK (K := K)) (by rfl) T.mg_len PySem.boot_len (pa_cons (pv 7) pa_nil)) pa_nil))) (fun _ _ => rfl)))
  (pss_cons (ps_setLc (i := 2) (own := [("end", 10)]) (g := (gName 10)) rfl sc__law_graph.nd rfl rfl (sw_true rfl rfl rfl (by decide +kernel)) (pi_listK (K := K) (pv 2)) (blkOk_by (own := [("end", 10)]) (N := N__law_graph) (sc := defScope s__law_graph) (by decide +kernel)) (fun _ _ _ _ _ => by exact (pg_name (i := 10) sc__law_graph.nd rfl (Or.inl rfl))) (fun _ _ _ _ _ => by exact pts_one (pt_cmpR (op_niDT (K := K) (r65 hr)) (pv 10) (pe_tup (pa_cons (pv 6) (pa_cons (pv 8) pa_nil))) (by rfl))) (fun _ _ _ _ _ => by exact (pv 10)))
  (pss_one (ps_expr (pe_bmK (K := K) PySem.F.plainAttrs_list PySem.F.slot_list_append PySem.F.type_list_append mt_append (pv 4) (pa_cons (pe_tup (pa_cons (pe_callB (call_minT rfl (r64 hr)) (by rfl) T.mg_min (by decide +kernel) (pa_cons (pv 6) (pa_cons (pv 8) pa_nil))) (pa_cons (pe_callB (call_maxT rfl (r64 hr)) (by rfl) T.mg_max (by decide +kernel) (pa_cons (pv 6) (pa_cons (pv 8) pa_nil))) pa_nil))) pa_nil))))))
  pss_nil)))))
  (pss_one (ps_ret (pe_tup (pa_cons pe_str (pa_cons (pv 1) (pa_cons (pe_callB (cr_sortN (K := K) (c := some 2) (sh := [some 2]) (r64 hr)) (by rfl) T.mg_sorted (by decide +kernel) (pa_cons (pv 4) pa_nil)) pa_nil))))))))))), ?_⟩
    walk_at "ss"
    refine w_draw hs g (by omega) fun d m1 c1 H1 hs1 g1 _ hd => ?_
    obtain ⟨d0, d1⟩ := hd (by omega)
    clear hs g
    walk_at "ss"
    rename_i fl H2 hs2
    have hs3 : Hs B [(s, sto c m1), (c, clo c1), (fl, .lst [])] H2 := hs2.sel [1, 2, 0]
    clear hs1 hs2
    refine w_forR2 (lo := 1) (hi := 4) ⟨by decide, by decide, by decide, by decide⟩ (fun i σ' H' => ∃ (B2 : Hp) (fl : Addr) (fus : List V) (fs : List E2) (v3 v4 v5 v6 v7 v8 v9 v10 : Option V), σ' = [some (.ref s), some (.int (1 + d)), some (.ref fl), v3, v4, v5, v6, v7, v8, v9, v10] ∧ Same B B2 ∧ Hs B2 [(s, sto c m1), (c, clo c1), (fl, .lst fus)] H' ∧ Row (EndAt B2) fus fs ∧ (∀ e ∈ fs, (1 ≤ e.1 ∧ e.1 ≤ 1 + d) ∧ 1 ≤ e.2 ∧ e.2 ≤ 3) ∧ fs.length ≤ 6 * i)
      (fun Q' q => ?_) ⟨B, fl, [], [], _, _, _, _, _, _, _, _, rfl, Same.refl _, hs3, Row.nil, (fun _ z => nomatch z), Nat.le_refl _⟩ ?_ ?_
    · walk_at "ss"
      exact q
    · clear hs3
      rintro i σ' H3 hi ⟨B2, fl, fus, fs, v3, v4, v5, v6, v7, v8, v9, v10, rfl, sB, hs3, hF, hfr, hfz⟩
      have hd6 : (1 + d + 1 - 1 : Int).toNat ≤ 6 := by omega
      have hi3 : i < 3 := by omega
      walk_at "ss"
      refine w_lcG2 ?_
      walk_at "ss"
      refine ⟨1, 1 + d + 1, rfl, ⟨by decide, by decide, by omega, by omega⟩, fun D hD => ?_⟩
      refine turns_rangeL (Body := LcBody (gName 9) tYes _ _ _ D) (fun j H' => ∃ (B3 : Hp) (acc : List V), Same B2 B3 ∧ Hs B3 [(D, .lst acc), (s, sto c m1), (c, clo c1), (fl, .lst fus)] H' ∧ Row (EndAt B3) acc ((List.range j).map fun i' : Nat => ((1 + (i' : Int), 1 + (i : Int)) : E2))) ⟨B2, [], Same.refl _, hs3.new hD, Row.nil⟩ ?_ ?_
      · clear hs3 hD
        rintro j H4 hj ⟨B3, acc, sB3, hs4, hacc⟩
        have haz : acc.length ≤ 6 := by
          rw [hacc.1, List.length_map, List.length_range]
          omega
        walk_at "ss"
        refine ⟨rfl, ?_⟩
        refine w_yes (iteT ?_)
        walk_at "ss"
        rename_i t H5 hs5
        obtain ⟨B4, sB4, ht, hs6⟩ := frz_hs hs5
        refine ⟨acc, hs6.g0, szl (by omega), B4, acc ++ [.ref t], sB3.trans sB4, hs6.p0 _, ?_⟩
        rw [List.range_succ, List.map_append]
        exact (hacc.mono fun _ _ => EndAt.mono fun _ _ => sB4 _ _).snoc ⟨t, rfl, ht⟩
      · rintro H4 ⟨B3, acc, sB3, hs4, hacc⟩
        have haz : acc.length ≤ 6 := by
          rw [hacc.1, List.length_map, List.length_range]
          exact hd6
        have hfuz : fus.length ≤ 12 := by
          rw [hF.1]
          omega
        refine w_cat hs4 hs4.g3 hs4.g0 (Nat.le_of_lt (szl (by omega))) fun nl H5 hs5 => ?_
        walk_at "ss"
        refine ⟨B3, nl, fus ++ acc, fs ++ _, _, _, _, _, _, _, _, _, rfl, sB.trans sB3, hs5.sel [2, 3, 0], (hF.mono fun _ _ => EndAt.mono fun _ _ => sB3 _ _).app hacc, fun e he => ?_, ?_⟩
        · rcases List.mem_append.mp he with he | he
          · exact hfr e he
          · obtain ⟨i', hi', rfl⟩ := List.mem_map.mp he
            have := List.mem_range.mp hi'
            refine ⟨⟨?_, ?_⟩, ?_, ?_⟩
            · show 1 ≤ 1 + (i' : Int); omega
            · show 1 + (i' : Int) ≤ 1 + d; omega
            · show 1 ≤ 1 + (i : Int); omega
            · show 1 + (i : Int) ≤ 3; omega
        · rw [List.length_append, List.length_map, List.length_range]
          omega
    · clear hs3
      rintro σ' H3 ⟨B2, fl, fus, fs, v3, v4, v5, v6, v7, v8, v9, v10, rfl, sB, hs3, hF, hfr, hfz⟩
      have hfz18 : fs.length ≤ 18 := hfz
      walk_at "ss"
      rename_i ll H4 hs4
      have hs5 : Hs B2 [(s, sto c m1), (c, clo c1), (fl, .lst fus), (ll, .lst [])] H4 := hs4.sel [1, 2, 3, 0]
      clear hs3 hs4
      refine w_for1 ?_
      walk_at "ss"
      refine w_draw hs5 g1 (by omega) fun n m2 c2 H5 hs6 g2 _ hn => ?_
      obtain ⟨n0, n1⟩ := hn (by omega)
      clear hs5 g1
      walk_at "ss"
      refine w_forR (n := n) (by omega) (fun i σ' H' => ∃ (B3 : Hp) (m : Int) (cells : List Int) (fl : Addr) (fus us : List V) (fs : List E2) (ls : List Lk) (v5 v6 v7 v8 v9 v10 : Option V), σ' = [some (.ref s), some (.int (1 + d)), some (.ref fl), v3, some (.ref ll), v5, v6, v7, v8, v9, v10] ∧ Same B B3 ∧ Hs B3 [(s, sto c m), (c, clo cells), (fl, .lst fus), (ll, .lst us)] H' ∧ Good m cells ∧ Row (EndAt B3) fus fs ∧ LkL B3 us ls ∧ Gd ls ∧ InC (1 + d) ls ∧ ls.length ≤ i ∧ FreeP (1 + d) ls fs)
        (fun Q' q => q) (by omega) ⟨B2, m2, c2, fl, fus, [], fs, [], _, _, _, _, _, _, rfl, sB, hs6, g2, hF, .nil, Gd.nil, (fun _ z => nomatch z), Nat.le_refl _, ⟨hfr, (fun e _ z => nomatch z), hfz18⟩⟩ ?_ ?_
      · clear hs6 g2 hF hfr hfz hfz18 sB fl fus fs B2
        clear m2 c2 m1 c1 m cells
        rintro i σ' H5 hi ⟨B2, m, cells, fl, fus, us, fs, ls, v5, v6, v7, v8, v9, v10, rfl, sB, hs1, g1, hF, hL, gd, hc, hlz, fp⟩
        have hi9 : i < 9 := by omega
        have hfuz : fus.length ≤ 18 := by
          rw [hF.1]
          exact fp.len
        walk_at "ss"
        refine ifd (fun h1 => ?_) (fun h1 => ?_)
        · have hpos : 0 < fus.length := by omega
          walk_at "ss"
          refine w_draw hs1 g1 (by omega) fun r m2 c2 H6 hs2 g2 _ hr => ?_
          obtain ⟨r0, r1⟩ := hr (by omega)
          clear hs1 g1
          have hin : r.toNat < fus.length := by omega
          obtain ⟨x, hx, q1, hq1e, hq1⟩ := hF.get (List.getElem?_eq_getElem hin)
          have hxm := List.mem_of_getElem? hx
          refine w_ixL (SqL.of hs2.g2) (at_of (j := r.toNat) (by omega) (List.getElem?_eq_getElem hin)) ?_
          rw [hq1e]
          walk_at "ss"
          refine w_lcFR (RR := EndAt B2) (fun e => !decide (e.1 = x.1)) (SqL.of hs2.g2) hF (by omega) (fun Q q => ⟨_, rfl, q⟩) (fun _ => rfl) (fun _ => rfl) (fun u e H' he hu sm R hR => ?_) fun ol oacc H7 hs3 ho => ?_
          · obtain ⟨q2, rfl, hq2⟩ := hu
            have hq2' : H' q2 = some (.tup [.int e.1, .int e.2]) := sm _ _ (hs2.old hq2)
            have hq1' : H' q1 = some (.tup [.int x.1, .int x.2]) := sm _ _ (hs2.old hq1)
            walk_at "ss"
            exact hR _ (Same.refl _)
          · have hs4 := hs2.add hs3
            have hoz : oacc.length ≤ 18 := by
              rw [ho.1]
              refine Nat.le_trans (List.length_filter_le _ _) ?_
              exact fp.len
            clear hs2 hs3
            walk_at "ss"
            refine ifd (fun h2 => ?_) (fun h2 => ?_)
            · have hopos : 0 < oacc.length := by omega
              have hs5 : Hs B2 [(s, sto c m2), (c, clo c2), (ol, .lst oacc), (fl, .lst fus), (ll, .lst us)] H7 := hs4.sel [1, 2, 0, 3, 4]
              clear hs4
              walk_at "ss"
              refine w_draw hs5 g2 (by omega) fun r2 m3 c3 H8 hs6 g3 _ hr2 => ?_
              obtain ⟨r20, r21⟩ := hr2 (by omega)
              clear hs5 g2
              have hin2 : r2.toNat < oacc.length := by omega
              obtain ⟨y, hy, q2, hq2e, hq2⟩ := ho.get (List.getElem?_eq_getElem hin2)
              have hym := List.mem_filter.mp (List.mem_of_getElem? hy)
              have hxy : ¬ y.1 = x.1 := by
                have := hym.2
                rw [Bool.not_eq_true', decide_eq_false_iff_not] at this
                exact this
              refine w_ixL (SqL.of hs6.g2) (at_of (j := r2.toNat) (by omega) (List.getElem?_eq_getElem hin2)) ?_
              rw [hq2e]
              walk_at "ss"
              refine w_lcFR (RR := EndAt B2) (fun e => !(decide (x = e) || decide (y = e))) (SqL.of hs6.g3) hF (by omega) (fun Q q => ⟨_, rfl, q⟩) (fun _ => rfl) (fun _ => rfl) (fun u e H' he hu sm R hR => ?_) fun nl nacc H9 hs7 hnw => ?_
              · obtain ⟨q3, rfl, hq3⟩ := hu
                have hs := Hs.start H'
                walk_at "ss"
                rename_i tt H10 hs8
                have sm2 : ∀ {p o}, B2 p = some o → H10 p = some o := fun z => hs8.old (sm _ _ (hs6.old z))
                refine w_niT (sm2 hq3) hs8.g0 (sm2 hq1) (sm2 hq2) ?_
                exact ⟨_, rfl, hR _ hs8.same⟩
              · have hs8 := hs6.add hs7
                have hs9 : Hs B2 [(s, sto c m3), (c, clo c3), (nl, .lst nacc), (ll, .lst us)] H9 := hs8.sel [1, 2, 0, 5]
                clear hs6 hs7 hs8
                have huz : us.length ≤ 9 := by
                  rw [LkL.len hL]
                  omega
                have hq1a : H9 q1 = some (endO x) := hs9.old hq1
                have hq2a : H9 q2 = some (endO y) := hs9.old hq2
                walk_at "ss"
                refine w_minT hq1a hq2a ?_
                walk_at "ss"
                refine w_maxT hq1a hq2a ?_
                walk_at "ss"
                rename_i tk H10 _ H11 hs10
                obtain ⟨B3, sB3, htk, hs11⟩ := frz_hs hs10
                have hk := nk_mm (x := x) (y := y) htk (sB3 _ _ hq1) (sB3 _ _ hq1) (sB3 _ _ hq2) (Ne.symm hxy)
                have rx := fp.rng x hxm
                have ry := fp.rng y hym.1
                refine ⟨B3, m3, c3, nl, nacc, us ++ [.ref tk], _, ls ++ [lkM x y], _, _, _, _, _, _, rfl, sB.trans sB3, hs11, g3, hnw.mono fun _ _ => EndAt.mono fun _ _ => sB3 _ _, (hL.same sB3).snoc hk, gd_lkM gd (isEnd_iff.mpr ⟨⟨rx.1.1, by omega⟩, rx.2.1, by omega⟩) (isEnd_iff.mpr ⟨⟨ry.1.1, by omega⟩, ry.2.1, by omega⟩) (Ne.symm hxy) (fp.out x hxm) (fp.out y hym.1), hc.add rx.1 ry.1, by rw [List.length_append]; show ls.length + 1 ≤ i + 1; omega, ⟨fun e he => fp.rng e (List.mem_filter.mp he).1, fun e he => ?_, Nat.le_trans (List.length_filter_le _ _) fp.len⟩⟩
                obtain ⟨he1, he2⟩ := List.mem_filter.mp he
                intro z
                rcases flat_lkM z with z | z | z
                · exact fp.out e he1 z
                · rw [z] at he2
                  simp at he2
                · rw [z] at he2
                  simp at he2
            · walk_at "ss"
              exact ⟨B2, m2, c2, fl, fus, us, fs, ls, _, _, _, _, _, _, rfl, sB, hs4.sel [1, 2, 3, 4], g2, hF, hL, gd, hc, by omega, fp⟩
        · have hf0 : fus = [] := List.eq_nil_of_length_eq_zero (by omega)
          subst hf0
          walk_at "ss"
          rename_i t0 H6 hs2
          refine w_lcFR (RR := EndAt B2) (fun e => !decide (e.1 = 0)) (SqL.of hs2.g3) hF (Nat.zero_le _) (fun Q q => ⟨_, rfl, q⟩) (fun _ => rfl) (fun _ => rfl) (fun u e H' he hu sm R hR => ?_) fun ol oacc H7 hs3 ho => ?_
          · have := hF.1
            have h0 : fs = [] := List.eq_nil_of_length_eq_zero this.symm
            rw [h0] at he
            cases he
          · have h0 : fs = [] := List.eq_nil_of_length_eq_zero hF.1.symm
            have ho0 : oacc = [] := List.eq_nil_of_length_eq_zero (by rw [ho.1, h0]; rfl)
            subst ho0
            have hs4 := hs2.add hs3
            walk_at "ss"
            refine ifd (fun h2 => ?_) (fun h2 => ?_)
            · simp at h2
            · walk_at "ss"
              exact ⟨B2, m, cells, fl, [], us, fs, ls, _, _, _, _, _, _, rfl, sB, hs4.sel [2, 3, 4, 5], g1, hF, hL, gd, hc, by omega, fp⟩
      · clear hs6 g2 hF hfr hfz hfz18 sB fl fus fs B2
        rintro σ' H5 ⟨B2, m, cells, fl, fus, us, fs, ls, v5, v6, v7, v8, v9, v10, rfl, sB, hs1, g1, hF, hL, gd, hc, hlz, fp⟩
        walk_at "ss"
        refine w_sortL hs1 (SqL.of hs1.g3) (hL.same hs1.same) fun p ys H6 _ hs2 hL2 => ?_
        obtain ⟨B3, sm3, hs2a, tb⟩ := hs2.ground rfl
        have hL3 := LkL.mono tb hL2
        clear hs1 hs2
        walk_at "ss"
        rename_i t H7 hs3
        obtain ⟨B4, sm4, ht, hs4⟩ := frz_hs hs3
        obtain ⟨B5, sm5, hp, hs5⟩ := frz_hs hs4
        have hsz : (srt ls).length = ls.length := (srt_perm ls).length_eq
        refine k B5 _ m cells H7 (sB.trans (sm3.trans (sm4.trans sm5))) (hs5.sel [0, 1]) g1 ⟨1 + d, srt ls, ⟨t, p, ys, rfl, sm5 _ _ ht, hp, hL3.same (sm4.trans sm5), by omega⟩, by omega, by omega, gd.perm (srt_perm ls), fun l hl => hc l ((srt_perm ls).mem_iff.mp hl), by omega⟩
end
local macro_rules | `(tactic| walk_at "v") => `(tactic| first | exact v0 | exact v1 | exact v2 | exact v3 | exact v4 | exact v5 | exact v6 | exact v7 | exact v8)
local macro_rules | `(tactic| walk_at "vs") => `(tactic| first | exact st0 | exact st1 | exact st2 | exact st3 | exact st4 | exact st5 | exact st6 | exact st7 | exact st8)
local macro_rules | `(tactic| walk_at "s") => `(tactic| first
  | with_reducible refine w_dget ?_
  | ((with_reducible refine' w_dgetZ ?h ?nd ?hk ?hv ?_); (case h => walk_at "g"); (case nd => walk_at "nd"); (case hk => walk_at "k"); (case hv => walk_at "v"))
  | ((with_reducible refine' w_dputZ ?hs ?h ?nd ?hk ?hv ?hu ?hl ?_); (case hs => assumption); (case h => walk_at "p"); (case nd => walk_at "nd"); (case hk => walk_at "k"); (case hv => walk_at "v"); (case hu => walk_at "vs"); (case hl => decide); intro _ _)
  | with_reducible refine w_gsub ?_
  | with_reducible refine w_setD ?_
  | with_reducible refine w_disp ?_
  | ((with_reducible refine' w_newP ?hs ?_); (case hs => assumption); intro _ _ _)
  | with_reducible refine w_pcons ?_
  | with_reducible refine w_pnil ?_)

local macro_rules | `(tactic| walk_at "s") => `(tactic| first
  | with_reducible refine w_nget ?_
  | with_reducible refine w_nin ?_
  | with_reducible refine w_nnot ?_
  | with_reducible refine w_nput ?_
  | with_reducible refine w_ndel ?_
  | with_reducible refine w_npop ?_
  | ((with_reducible refine' w_nnew ?hs ?_); (case hs => assumption); intro _ _ _))

theorem end_ok {fs : List E2} : ∀ d ∈ fs.map (fun x => PyData.tuple [.int x.1, .int x.2]), d.canLay0 = true ∧ d.depth ≤ 60 := fun d hd => by
  obtain ⟨x, _, rfl⟩ := List.mem_map.mp hd
  constructor
  · simp [PyData.canLay0, PyData.canLayAll0]
  · simp [PyData.depth, PyData.depthAll]
theorem ends_dp {K : PySem.W.Frag} {H : Hp} {r : Addr} {us : List V} {fs : List E2} (hr : H r = some (.lst us)) (hL : Row (EndAt H) us fs) : Dp K H (.ref r) (.list (fs.map fun x => PyData.tuple [.int x.1, .int x.2])) :=
  .lst (SqL.of hr) (hL.dpAll (d := fun x => PyData.tuple [.int x.1, .int x.2]) fun u x ⟨q, h1, h2⟩ => by
    rw [h1]
    exact dp_end h2)
/-! ## data of what is compared -/
def endD (x : E2) : PyData := .tuple [.int x.1, .int x.2]
def optD : Option E2 → PyData
  | none => .none
  | some e => endD e
def wayD (es : List E2) : PyData := .list (es.map endD)
def waysD (ws : List (List E2)) : PyData := .list (ws.map wayD)
theorem opt_dp {K : PySem.W.Frag} {H : Hp} {v : V} : ∀ {o : Option E2}, OptE H v o → Dp K H v (optD o)
  | none, h => by
    obtain rfl : v = .non := h
    exact .non
  | some e, ⟨q, h1, h2⟩ => by
    subst h1
    exact dp_end h2
theorem opt_shp : ∀ o : Option E2, SeqAt.shaped (optD o) = true
  | none => rfl
  | some e => shp_end e
theorem way_ok (es : List E2) : (wayD es).canLay0 = true ∧ (wayD es).depth ≤ 60 := by
  unfold wayD
  have h1 : PyData.canLayAll0 (es.map endD) = true := by
    induction es with
    | nil => rfl
    | cons e es ih =>
      rw [List.map_cons]
      simp only [PyData.canLayAll0, ih, Bool.and_true]
      simp [endD, PyData.canLay0, PyData.canLayAll0]
  have h2 : PyData.depthAll (es.map endD) ≤ 1 := by
    induction es with
    | nil => exact Nat.zero_le _
    | cons e es ih =>
      have ih := ih (by
        rw [List.map_cons] at h1
        simp only [PyData.canLayAll0, Bool.and_eq_true] at h1
        exact h1.2)
      rw [List.map_cons]
      simp only [PyData.depthAll]
      have : (endD e).depth ≤ 1 := by simp [endD, PyData.depth, PyData.depthAll]
      omega
  constructor
  · simp only [PyData.canLay0, h1]
  · simp only [PyData.depth]
    omega
theorem way_shp (es : List E2) : SeqAt.shaped (wayD es) = true := shp_list (ds := es.map endD) fun d hd => by
  obtain ⟨e, _, rfl⟩ := List.mem_map.mp hd
  constructor
  · simp [endD, PyData.canLay0, PyData.canLayAll0]
  · simp [endD, PyData.depth, PyData.depthAll]
theorem ways_shp (ws : List (List E2)) : SeqAt.shaped (waysD ws) = true := shp_list (ds := ws.map wayD) fun d hd => by
  obtain ⟨e, _, rfl⟩ := List.mem_map.mp hd
  exact way_ok e
theorem ints_ok (ns : List Int) : ∀ d ∈ ns.map PyData.int, d.canLay0 = true ∧ d.depth ≤ 60 := fun d hd => by
  obtain ⟨n, _, rfl⟩ := List.mem_map.mp hd
  exact ⟨rfl, by simp [PyData.depth]⟩
theorem w_neInts {K : PySem.W.Frag} {H : Hp} {Q : VK} {p q : Addr} {ns : List Int} (hp : H p = some (.lst (ns.map V.int))) (hq : H q = some (.lst (ns.map V.int))) (k : Q (.bl false) H) : rNeD K (.ref p) (.ref q) H Q :=
  w_neL hp hq (im_ints ns) (im_ints ns) (ints_ok ns) k
theorem sh_link {l : Lk} (h : isEnd 6 l.1 = true ∧ isEnd 6 l.2 = true) : Sh 2 10 (lkK l).data := by
  have a := isEnd_iff.mp h.1
  have b := isEnd_iff.mp h.2
  have e : ∀ x y : Int, 1 ≤ x ∧ x ≤ 6 → 1 ≤ y ∧ y ≤ 6 → Sh 1 2 (.tuple [.int x, .int y]) := fun x y hx hy => by
    have h1 := Sh.ints (ns := [x, y]) fun z hz => by
      simp at hz
      rcases hz with rfl | rfl
      · exact ⟨by omega, by omega⟩
      · exact ⟨by omega, by omega⟩
    exact h1
  rw [lk_data]
  exact (Sh.tup (ShA.cons (e _ _ a.1 a.2) (ShA.cons (e _ _ b.1 b.2) (ShA.nil (b := 0))))).mono (by decide) (by decide)
def linksD (ls : List Lk) : PyData := .list (ls.map fun l => (lkK l).data)
theorem links_shows {ls : List Lk} (g : Gd ls) (hl : ls.length ≤ 12) : Shows (linksD ls) := by
  have := Sh.lst (ShA.all (D := 2) (b := 10) (xs := ls.map fun l => (lkK l).data) fun d hd => by
    obtain ⟨l, hl, rfl⟩ := List.mem_map.mp hd
    exact sh_link (g.rng l hl))
  rw [List.length_map] at this
  exact ⟨this.lay, Nat.le_trans this.dep (by decide), this.sho, Nat.le_trans this.blk (by omega), this.lvs⟩
theorem links_dp {K : PySem.W.Frag} {H : Hp} {l : Addr} {us : List V} {ls : List Lk} (hl : H l = some (.lst us)) (hL : LkL H us ls) : Dp K H (.ref l) (linksD ls) := .lst (SqL.of hl) hL.ima.dp
theorem link_shp (l : Lk) : SeqAt.shaped (lkK l).data = true := by
  rw [lk_data]
  simp [SeqAt.shaped, PyData.canLay0, PyData.canLayAll0, PyData.depth, PyData.depthAll]
def walkD (th : Bool) (ends : List E2) (car : List Lk) : PyData := .tuple [.str (if th = true then "there" else "cut"), wayD ends, linksD car]
theorem walk_dp {K : PySem.W.Frag} {H0 H : Hp} {v : V} {th : Bool} {ends : List E2} {car : List Lk} (h : WalkAt H0 H v th ends car) : Dp K H v (walkD th ends car) := by
  obtain ⟨t, el, sl, eus, sus, rfl, h2, h3, h4, h5, h6, _⟩ := h
  exact .tup (SqT.of h2) (.cons (.str _) (.cons (ends_dp h3 h4) (.cons (links_dp h5 h6) .nil)))
theorem links_ok (ls : List Lk) : (linksD ls).canLay0 = true ∧ (linksD ls).depth ≤ 20 := by
  have h1 : PyData.canLayAll0 (ls.map fun l => (lkK l).data) = true := by
    induction ls with
    | nil => rfl
    | cons e es ih =>
      rw [List.map_cons]
      simp only [PyData.canLayAll0, ih, Bool.and_true]
      rw [lk_data]
      simp [PyData.canLay0, PyData.canLayAll0]
  have h2 : PyData.depthAll (ls.map fun l => (lkK l).data) ≤ 2 := by
    clear h1
    induction ls with
    | nil => exact Nat.zero_le _
    | cons e es ih =>
      rw [List.map_cons]
      simp only [PyData.depthAll]
      have : ((lkK e).data).depth ≤ 2 := by
        rw [lk_data]
        simp [PyData.depth, PyData.depthAll]
      omega
  exact ⟨by unfold linksD; simp only [PyData.canLay0, h1], by unfold linksD; simp only [PyData.depth]; omega⟩
theorem way_ok2 (es : List E2) : (wayD es).depth ≤ 20 := by
  have h2 : PyData.depthAll (es.map endD) ≤ 1 := by
    induction es with
    | nil => exact Nat.zero_le _
    | cons e es ih =>
      rw [List.map_cons]
      simp only [PyData.depthAll]
      have : (endD e).depth ≤ 1 := by simp [endD, PyData.depth, PyData.depthAll]
      omega
  unfold wayD
  simp only [PyData.depth]
  omega
theorem walk_shp (th : Bool) (ends : List E2) (car : List Lk) : SeqAt.shaped (walkD th ends car) = true := by
  have a := links_ok car
  have b := way_ok ends
  have b2 := way_ok2 ends
  have c : (walkD th ends car).canLay0 = true := by
    unfold walkD
    simp only [PyData.canLay0, PyData.canLayAll0, a.1, b.1, Bool.and_true]
    cases th <;> decide +kernel
  have d : (walkD th ends car).depth ≤ 60 := by
    unfold walkD
    simp only [PyData.depth, PyData.depthAll]
    omega
  unfold SeqAt.shaped
  rw [c, Bool.true_and, decide_eq_true_eq]
  omega
def gdD (cnt : Int) (ls down : List Lk) : PyData := .list [.tuple [.str "graph", .int cnt, linksD ls], linksD down]
theorem gd_shows {cnt : Int} {ls down : List Lk} (g : Gd ls) (h : ∀ l ∈ down, l ∈ ls) (h1 : 1 ≤ cnt) (h6 : cnt ≤ 6) (hl : ls.length ≤ 9) (hd : down.length ≤ 9) : Shows (gdD cnt ls down) := by
  have mk : ∀ ms : List Lk, (∀ l ∈ ms, l ∈ ls) → ms.length ≤ 9 → Sh 3 99 (linksD ms) := fun ms hm hz => by
    have := Sh.lst (ShA.all (D := 2) (b := 10) (xs := ms.map fun l => (lkK l).data) fun d hd => by
      obtain ⟨l, hl, rfl⟩ := List.mem_map.mp hd
      exact sh_link (g.rng l (hm l hl)))
    rw [List.length_map] at this
    exact this.mono (by decide) (by omega)
  have hs : Sh 0 20 (.str "graph") := ⟨by decide +kernel, by decide +kernel, by decide +kernel, by decide +kernel, by decide +kernel⟩
  have ht := Sh.tup (ShA.cons (hs.mono (Nat.zero_le 3) (Nat.le_refl 20)) (ShA.cons ((Sh.int (n := cnt) ⟨by omega, by omega⟩).mono (Nat.zero_le 3) (Nat.le_refl 0)) (ShA.cons (mk ls (fun _ z => z) hl) (ShA.nil (b := 0)))))
  have := Sh.lst (ShA.cons ht (ShA.cons ((mk down h hd).mono (by decide) (Nat.le_refl _)) (ShA.nil (b := 0))))
  exact ⟨this.lay, Nat.le_trans this.dep (by decide), this.sho, Nat.le_trans this.blk (by decide), this.lvs⟩
theorem gr_dp {K : PySem.W.Frag} {H : Hp} {v : V} {cnt : Int} {ls : List Lk} (h : GrAt H v cnt ls) : Dp K H v (.tuple [.str "graph", .int cnt, linksD ls]) := by
  obtain ⟨p, lr, us, rfl, h2, h3, h4, _⟩ := h
  exact .tup (SqT.of h2) (.cons (.str _) (.cons (.int _) (.cons (links_dp h3 h4) .nil)))
theorem isD_eq {ls : List Lk} {s : Int} {fm gm : FM} (h : IsD ls s fm) (g : IsD ls s gm) : ∀ p ∈ kvF fm, valV (kvF gm) p.1 = some p.2 ∧ flatB p.2 = true := fun p hp => by
  obtain ⟨x, hx, rfl⟩ := List.mem_map.mp hp
  exact ⟨kvF_val g.1 ((g.2 x.1 x.2).mpr ((h.2 x.1 x.2).mp hx)), rfl⟩
local macro_rules | `(tactic| walk_at "v") => `(tactic| first | exact v0 | exact v1 | exact v2 | exact v3 | exact v4 | exact v5 | exact v6 | exact v7 | exact v8)
local macro_rules | `(tactic| walk_at "vs") => `(tactic| first | exact st0 | exact st1 | exact st2 | exact st3 | exact st4 | exact st5 | exact st6 | exact st7 | exact st8)
local macro_rules | `(tactic| walk_at "s") => `(tactic| first
  | with_reducible refine w_dget ?_
  | ((with_reducible refine' w_dgetZ ?h ?nd ?hk ?hv ?_); (case h => walk_at "g"); (case nd => walk_at "nd"); (case hk => walk_at "k"); (case hv => walk_at "v"))
  | ((with_reducible refine' w_dputZ ?hs ?h ?nd ?hk ?hv ?hu ?hl ?_); (case hs => assumption); (case h => walk_at "p"); (case nd => walk_at "nd"); (case hk => walk_at "k"); (case hv => walk_at "v"); (case hu => walk_at "vs"); (case hl => decide); intro _ _)
  | with_reducible refine w_gsub ?_
  | with_reducible refine w_setD ?_
  | with_reducible refine w_disp ?_
  | ((with_reducible refine' w_newP ?hs ?_); (case hs => assumption); intro _ _ _)
  | with_reducible refine w_pcons ?_
  | with_reducible refine w_pnil ?_)

local macro_rules | `(tactic| walk_at "s") => `(tactic| first
  | with_reducible refine w_nget ?_
  | with_reducible refine w_nin ?_
  | with_reducible refine w_nnot ?_
  | with_reducible refine w_nput ?_
  | with_reducible refine w_ndel ?_
  | with_reducible refine w_npop ?_
  | ((with_reducible refine' w_nnew ?hs ?_); (case hs => assumption); intro _ _ _))

structure Wrap (A : Prop) : Prop where
  a : A
theorem joinH {C : Hp → Prop} {G : Prop} {H0 : Hp} (f : Wrap (∀ H', Same H0 H' → C H') → G) (a : ∀ H', Same H0 H' → C H') : G := f ⟨a⟩
theorem w_eqRefl {K : PySem.W.Frag} {H : Hp} {Q : VK} {p q : V} {d : PyData} (h1 : Dp K H p d) (h2 : Dp K H q d) (hs : SeqAt.shaped d = true) (k : Q (.bl true) H) : rEqD K p q H Q :=
  ⟨d, d, h1, h2, hs, hs, by
    rw [SeqAt.eqv_refl _ (shp_can hs)]
    exact k⟩
def wrd (th : Bool) : Str := if th = true then "there" else "cut"
theorem wrd_there (th : Bool) : decide (wrd th = "there") = th := by cases th <;> decide +kernel
theorem wrd_cut (th : Bool) : decide (wrd th = "cut") = !th := by cases th <;> decide +kernel
theorem row_lk {H : Hp} {us : List V} {ls : List Lk} (h : LkL H us ls) : Row (fun v l => ∃ a, v = V.ref a ∧ NK H (lkK l) (.ref a)) us ls := ⟨LkL.len h, fun i u l h3 h4 => by
  obtain ⟨a, l', e1, e2, e3⟩ := LkL.get h h3
  rw [h4] at e2
  cases e2
  exact ⟨a, e1, e3⟩⟩
section
variable {P : Program} [IsP P] {w : World} {K : PySem.W.Frag} {mg : Str → Option Value} {base : Heap} {a : Ad}
def sp_law (K : PySem.W.Frag) : Sp := fun vs H Q _ => ∃ (x : Addr) (ns : List Int), vs = [.ref x] ∧ SqL K H x (ns.map V.int) ∧ ns.length ≤ 63 ∧ ∀ H', Q (.bl true) H'
theorem ok_law (T : Txt w K mg a) : LawRun P w K mg base 14 a.law a.fd_law ["script"] (sp_law K) := by
  have G__law_state := ok__law_state (P := P) (w := w) (base := base) T
  have G__law_draw := ok__law_draw (P := P) (w := w) (base := base) T
  have G__law_graph := ok__law_graph (P := P) (w := w) (base := base) T
  have G_walk := ok_walk (P := P) (w := w) (base := base) T
  have G__law_walk := ok__law_walk (P := P) (w := w) (base := base) T
  have G__law_distances := ok__law_distances (P := P) (w := w) (base := base) T
  have G_distances := ok_distances (P := P) (w := w) (base := base) T
  have G_next_port := ok_next_port (P := P) (w := w) (base := base) T
  have G__law_port := ok__law_port (P := P) (w := w) (base := base) T
  have G_side_of := ok_side_of (P := P) (w := w) (base := base) T
  have G_cut_right := ok_cut_right (P := P) (w := w) (base := base) T
  have G__law_cut := ok__law_cut (P := P) (w := w) (base := base) T
  have G_other_end := ok_other_end (P := P) (w := w) (base := base) T
  have G__law_end := ok__law_end (P := P) (w := w) (base := base) T
  refine law_run (k := 13) T.fn_law sc_law (fun vs H Q E h => ?_) (fun cdv s H vs Q E hr h => ?_)
  · obtain ⟨_, _, rfl, _⟩ := h
    rfl
  · obtain ⟨x, ns, rfl, hx, hl0, k⟩ := h
    have hu := hu_of hr
    refine ⟨_, (pss_cons (ps_set (i := 1) sc_law.nd rfl (Or.inr rfl) (pe_call G__law_state (hr.mono (by first | decide | omega)) rfl T.mg__law_state T.kp__law_state T.bi__law_state .nil pass0 (pa_cons (pv 0) pa_nil)))
  (pss_cons (ps_set (i := 2) sc_law.nd rfl (Or.inl rfl) (pe_call G__law_graph (hr.mono (by first | decide | omega)) rfl T.mg__law_graph T.kp__law_graph T.bi__law_graph .nil pass0 (pa_cons (pv 1) pa_nil)))
  (pss_cons (ps_set (i := 3) sc_law.nd rfl (Or.inr rfl) (pe_lc (own := [("link", 14)]) (g := (gName 14)) rfl sc_law.nd (pi_listK (K := K) (pe_ix (ix_tupK (K := K)) (pv 2) pe_int (fun _ _ => rfl))) (blkOk_by (own := [("link", 14)]) (N := N_law) (sc := defScope s_law) (by decide +kernel)) (fun _ _ _ _ _ => by exact (pg_name (i := 14) sc_law.nd rfl (Or.inl rfl))) (fun _ _ _ _ _ => by exact pts_one (pt_cmpR op_eq (pe_call G__law_draw (hr.mono (by first | decide | omega)) rfl T.mg__law_draw T.kp__law_draw T.bi__law_draw .nil pass0 (pa_cons (pv 1) (pa_cons pe_int pa_nil))) pe_int (nomark _))) (fun _ _ _ _ _ => by exact (pv 14))))
  (pss_cons (ps_set (i := 4) sc_law.nd rfl (Or.inr rfl) (pe_op op_add pe_int (pe_call G__law_draw (hr.mono (by first | decide | omega)) rfl T.mg__law_draw T.kp__law_draw T.bi__law_draw .nil pass0 (pa_cons (pv 1) (pa_cons (pe_ix (ix_tupK (K := K)) (pv 2) pe_int (fun _ _ => rfl)) pa_nil)))))
  (pss_cons (ps_set (i := 5) sc_law.nd rfl (Or.inl rfl) (pe_op op_add pe_int (pe_call G__law_draw (hr.mono (by first | decide | omega)) rfl T.mg__law_draw T.kp__law_draw T.bi__law_draw .nil pass0 (pa_cons (pv 1) (pa_cons (pe_ix (ix_tupK (K := K)) (pv 2) pe_int (fun _ _ => rfl)) pa_nil)))))
  (pss_cons (ps_set (i := 6) sc_law.nd rfl (Or.inl rfl) (pe_callB (call_reprDK (K := K) rfl hr.units) (by rfl) T.mg_repr (by decide +kernel) (pa_cons (pe_lst (pa_cons (pv 2) (pa_cons (pv 3) pa_nil))) pa_nil)))
  (pss_cons (ps_set (i := 7) sc_law.nd rfl (Or.inl rfl) (pe_call G_walk (hr.mono (by first | decide | omega)) rfl T.mg_walk T.kp_walk T.bi_walk .nil pass0 (pa_cons (pv 2) (pa_cons (pv 3) (pa_cons (pv 4) (pa_cons (pv 5) pa_nil))))))
  (pss_cons (ps_if (PW.pt (pw_or (pt_cmpR (op_neDK (K := K) hr.units) (pv 7) (pe_call G__law_walk (hr.mono (by first | decide | omega)) rfl T.mg__law_walk T.kp__law_walk T.bi__law_walk .nil pass0 (pa_cons (pv 2) (pa_cons (pv 3) (pa_cons (pv 4) (pa_cons (pv 5) pa_nil))))) (nomark _)) (pw_or1 (pt_not (pt_val (pe_callB (call_isiK (K := K)) (by rfl) T.mg_isinstance (by decide +kernel) (pa_cons (pv 7) (pa_cons (pe_bltn (v := .ty "tuple") (by rfl) T.mg_tuple (by decide +kernel) rfl) pa_nil))))))))
  (pss_one (ps_ret pe_bl))
  pss_nil)
  (pss_cons (ps_if (pt_cmpR op_ne (pe_cmpR op_eq (pe_ix (ix_tupK (K := K)) (pv 7) pe_int (fun _ _ => rfl)) pe_str (nomark _)) (pe_cmp (pc_din hu (pv 4) (pe_call G__law_distances (hr.mono (by first | decide | omega)) rfl T.mg__law_distances T.kp__law_distances T.bi__law_distances .nil pass0 (pa_cons (pv 2) (pa_cons (pv 3) (pa_cons (pv 5) pa_nil))))) rfl) (nomark _))
  (pss_one (ps_ret pe_bl))
  pss_nil)
  (pss_cons (ps_if (PW.pt (pw_or (pt_cmpR op_gt (pe_callB (call_lenK (K := K)) (by rfl) T.mg_len PySem.boot_len (pa_cons (pe_ix (ix_tupK (K := K)) (pv 7) pe_int (fun _ _ => rfl)) pa_nil)) (pe_op op_mul (pe_op op_sub (pe_ix (ix_tupK (K := K)) (pv 2) pe_int (fun _ _ => rfl)) pe_int) (pe_op op_add (pe_callB (call_lenK (K := K)) (by rfl) T.mg_len PySem.boot_len (pa_cons (pe_ix (ix_tupK (K := K)) (pv 7) pe_int (fun _ _ => rfl)) pa_nil)) pe_int)) (nomark _)) (pw_or1 (pt_not (pt_val (pe_callB (cr_allK (K := K) rfl) (by rfl) T.mg_all (by decide +kernel) (pa_cons (pe_lc (own := [("link", 14)]) (g := (gName 14)) (tt := tYes) rfl sc_law.nd (pi_listK (K := K) (pe_ix (ix_tupK (K := K)) (pv 7) pe_int (fun _ _ => rfl))) (blkOk_by (own := [("link", 14)]) (N := N_law) (sc := defScope s_law) (by decide +kernel)) (fun _ _ _ _ _ => by exact (pg_name (i := 14) sc_law.nd rfl (Or.inl rfl))) (fun _ _ _ _ _ => pts_nil) (fun _ _ _ _ _ => by exact (pe_cmpR (op_inDL (K := K) (r65 hr)) (pv 14) (pv 3) (by rfl)))) pa_nil)))))))
  (pss_one (ps_ret pe_bl))
  pss_nil)
  (pss_cons (ps_setLc (i := 8) (own := [("link", 14)]) (g := (gName 14)) rfl sc_law.nd rfl rfl (sw_true rfl rfl rfl (by decide +kernel)) (pi_listK (K := K) (pe_ix (ix_tupK (K := K)) (pv 2) pe_int (fun _ _ => rfl))) (blkOk_by (own := [("link", 14)]) (N := N_law) (sc := defScope s_law) (by decide +kernel)) (fun _ _ _ _ _ => by exact (pg_name (i := 14) sc_law.nd rfl (Or.inl rfl))) (fun _ _ _ _ _ => by exact pts_one (pt_cmpR op_eq (pe_call G__law_draw (hr.mono (by first | decide | omega)) rfl T.mg__law_draw T.kp__law_draw T.bi__law_draw .nil pass0 (pa_cons (pv 1) (pa_cons pe_int pa_nil))) pe_int (nomark _))) (fun _ _ _ _ _ => by exact (pv 14)))
  (pss_cons (ps_if (pt_cmpR (op_ne_dictA (r0 hr)) (pe_call G_distances (hr.mono (by first | decide | omega)) rfl T.mg_distances T.kp_distances T.bi_distances .nil pass0 (pa_cons (pv 2) (pa_cons (pv 8) (pa_cons (pv 5) pa_nil)))) (pe_call G__law_distances (hr.mono (by first | decide | omega)) rfl T.mg__law_distances T.kp__law_distances T.bi__law_distances .nil pass0 (pa_cons (pv 2) (pa_cons (pv 8) (pa_cons (pv 5) pa_nil)))) (nomark _))
  (pss_one (ps_ret pe_bl))
  pss_nil)
  (pss_cons (ps_if (pt_cmpR op_ne (pe_call G_next_port (hr.mono (by first | decide | omega)) rfl T.mg_next_port T.kp_next_port T.bi_next_port .nil pass0 (pa_cons (pv 2) (pa_cons (pv 8) (pa_cons (pv 4) (pa_cons (pv 5) pa_nil))))) (pe_call G__law_port (hr.mono (by first | decide | omega)) rfl T.mg__law_port T.kp__law_port T.bi__law_port .nil pass0 (pa_cons (pv 2) (pa_cons (pv 8) (pa_cons (pv 4) (pa_cons (pv 5) pa_nil))))) (nomark _))
  (pss_one (ps_ret pe_bl))
  pss_nil)
  (pss_cons (ps_set (i := 9) sc_law.nd rfl (Or.inl rfl) (pe_call G_side_of (hr.mono (by first | decide | omega)) rfl T.mg_side_of T.kp_side_of T.bi_side_of .nil pass0 (pa_cons (pv 2) (pa_cons (pe_ix (ix_tupK (K := K)) (pv 7) pe_int (fun _ _ => rfl)) (pa_cons (pv 4) pa_nil)))))
  (pss_cons (ps_if (pt_cmpR (op_neDK (K := K) hr.units) (pv 9) (pe_callB (call_sortedDI rfl) (by rfl) T.mg_sorted (by decide +kernel) (pa_cons (pe_call G__law_distances (hr.mono (by first | decide | omega)) rfl T.mg__law_distances T.kp__law_distances T.bi__law_distances .nil pass0 (pa_cons (pv 2) (pa_cons (pe_ix (ix_tupK (K := K)) (pv 7) pe_int (fun _ _ => rfl)) (pa_cons (pv 4) pa_nil)))) pa_nil)) (nomark _))
  (pss_one (ps_ret pe_bl))
  pss_nil)
  (pss_cons (ps_if (PW.pt (pw_and (pt_cmpR op_eq (pe_ix (ix_tupK (K := K)) (pv 7) pe_int (fun _ _ => rfl)) pe_str (nomark _)) (pw_and1 (pt_cmpR op_notBl (pe_call G_cut_right (hr.mono (by first | decide | omega)) rfl T.mg_cut_right T.kp_cut_right T.bi_cut_right .nil pass0 (pa_cons (pv 2) (pa_cons (pv 3) (pa_cons (pv 4) (pa_cons (pv 5) (pa_cons (pe_ix (ix_tupK (K := K)) (pv 7) pe_int (fun _ _ => rfl)) (pa_cons (pv 9) pa_nil))))))) pe_bl (nomark _)))))
  (pss_one (ps_ret pe_bl))
  pss_nil)
  (pss_cons (ps_for PassesOwn.never rfl (pi_range1 rfl T.mg_range (pa_cons pe_int pa_nil)) (pg_name (i := 10) sc_law.nd rfl (Or.inl rfl))
  (pss_cons (ps_setLc (i := 11) (own := [("switch", 15)]) (g := (gName 15)) rfl sc_law.nd rfl rfl (sw_true rfl rfl rfl (by decide +kernel)) (pi_range2 rfl T.mg_range (pa_cons pe_int (pa_cons (pe_op op_add (pe_ix (ix_tupK (K := K)) (pv 2) pe_int (fun _ _ => rfl)) pe_int) pa_nil))) (blkOk_by (own := [("switch", 15)]) (N := N_law) (sc := defScope s_law) (by decide +kernel)) (fun _ _ _ _ _ => by exact (pg_name (i := 15) sc_law.nd rfl (Or.inl rfl))) (fun _ _ _ _ _ => by exact pts_one (PW.pt (pw_or (pt_cmpR op_eq (pe_call G__law_draw (hr.mono (by first | decide | omega)) rfl T.mg__law_draw T.kp__law_draw T.bi__law_draw .nil pass0 (pa_cons (pv 1) (pa_cons pe_int pa_nil))) pe_int (nomark _)) (pw_or1 (pt_cmpR op_eq (pv 15) (pv 4) (nomark _)))))) (fun _ _ _ _ _ => by exact (pv 15)))
  (pss_cons (ps_set (i := 12) sc_law.nd rfl (Or.inl rfl) (pe_ix (ix_listK (K := K)) (pe_lst (pa_cons (pe_ix (ix_tupK (K := K)) (pv 7) pe_int (fun _ _ => rfl)) (pa_cons (pv 3) (pa_cons (pv 8) pa_nil)))) (pe_call G__law_draw (hr.mono (by first | decide | omega)) rfl T.mg__law_draw T.kp__law_draw T.bi__law_draw .nil pass0 (pa_cons (pv 1) (pa_cons pe_int pa_nil))) (fun _ _ => rfl)))
  (pss_cons (ps_if (pt_cmpR op_ne (pe_call G_cut_right (hr.mono (by first | decide | omega)) rfl T.mg_cut_right T.kp_cut_right T.bi_cut_right .nil pass0 (pa_cons (pv 2) (pa_cons (pv 3) (pa_cons (pv 4) (pa_cons (pv 5) (pa_cons (pe_callTy call_list_of (by rfl) T.mg_list (by decide +kernel) (pa_cons (pv 12) pa_nil)) (pa_cons (pv 11) pa_nil))))))) (pe_call G__law_cut (hr.mono (by first | decide | omega)) rfl T.mg__law_cut T.kp__law_cut T.bi__law_cut .nil pass0 (pa_cons (pv 2) (pa_cons (pv 3) (pa_cons (pv 4) (pa_cons (pv 5) (pa_cons (pv 12) (pa_cons (pv 11) pa_nil))))))) (nomark _))
  (pss_one (ps_ret pe_bl))
  pss_nil)
  (pss_one (ps_if (PW.pt (pw_and (pt_cmpR op_eq (pe_ix (ix_tupK (K := K)) (pv 7) pe_int (fun _ _ => rfl)) pe_str (nomark _)) (pw_and1 (pt_val (pe_call G__law_cut (hr.mono (by first | decide | omega)) rfl T.mg__law_cut T.kp__law_cut T.bi__law_cut .nil pass0 (pa_cons (pv 2) (pa_cons (pv 3) (pa_cons (pv 4) (pa_cons (pv 5) (pa_cons (pv 12) (pa_cons (pv 11) pa_nil)))))))))))
  (pss_one (ps_ret pe_bl))
  pss_nil))))))
  (pss_cons (ps_set (i := 13) sc_law.nd rfl (Or.inl rfl) (pe_tup (pa_cons (pv 4) (pa_cons (pe_op op_add pe_int (pe_call G__law_draw (hr.mono (by first | decide | omega)) rfl T.mg__law_draw T.kp__law_draw T.bi__law_draw .nil pass0 (pa_cons (pv 1) (pa_cons pe_int pa_nil)))) pa_nil))))
  (pss_one (ps_ret (pe_and (pe_cmpR (op_eqDK (K := K) hr.units) (pe_call G_other_end (hr.mono (by first | decide | omega)) rfl T.mg_other_end T.kp_other_end T.bi_other_end .nil pass0 (pa_cons (pv 2) (pa_cons (pv 13) pa_nil))) (pe_call G__law_end (hr.mono (by first | decide | omega)) rfl T.mg__law_end T.kp__law_end T.bi__law_end .nil pass0 (pa_cons (pv 2) (pa_cons (pv 13) pa_nil))) (nomark _)) (pe_one (pe_cmpR op_eq (pe_callB (call_reprDK (K := K) rfl hr.units) (by rfl) T.mg_repr (by decide +kernel) (pa_cons (pe_lst (pa_cons (pv 2) (pa_cons (pv 3) pa_nil))) pa_nil)) (pv 6) (nomark _)))))))))))))))))))))))), ?_⟩
    walk_at "ss"
    refine ⟨x, ns, rfl, hx, by omega, fun st c m cells H1 hs1 g => ?_⟩
    walk_at "ss"
    refine ⟨_, st, c, m, cells, rfl, hs1, g, fun B1 gv m1 c1 H2 sm1 hs2 g1 hgr => ?_⟩
    obtain ⟨cnt, ls, hgr, cn1, cn6, gd, hc, hlz⟩ := hgr
    clear hs1 g sm1
    obtain ⟨gp, lr, us, rfl, hg, hl, hL, hlz2⟩ := hgr
    have huz : us.length ≤ 9 := by
      rw [LkL.len hL]
      exact hlz
    have hg2 := hs2.old hg
    walk_at "ss"
    refine w_lc (SqL.of (hs2.old hl)) (fun D i H' => ∃ (m : Int) (cells : List Int) (acc : List V) (ds : List Lk), Hs B1 [(st, sto c m), (c, clo cells), (D, .lst acc)] H' ∧ Good m cells ∧ LkL B1 acc ds ∧ ds.Sublist (ls.take i)) (fun Q' q => ?_) (fun D hD => ⟨m1, c1, [], [], (hs2.new hD).sel [1, 2, 0], g1, .nil, List.nil_sublist _⟩) (fun D i H' _ ⟨_, _, _, _, h, _⟩ => SqL.of (h.old hl)) ?_ ?_
    · walk_at "ss"
      exact q
    · clear hs2 hg2 g1
      rintro D i y H3 hi ⟨m, cells, acc, ds, hs3, g3, hacc, hsub⟩
      obtain ⟨t, l, rfl, hli, hnk⟩ := LkL.get hL hi
      have haz : acc.length ≤ 9 := by
        rw [LkL.len hacc]
        have := hsub.length_le
        rw [List.length_take] at this
        omega
      walk_at "ss"
      refine ⟨rfl, ?_⟩
      walk_at "ss"
      refine w_draw hs3 g3 (by omega) fun r m2 c2 H4 hs4 g4 _ _ => ?_
      walk_at "ss"
      refine ifd (fun h1 => ?_) (fun h1 => ?_)
      · walk_at "ss"
        refine ⟨acc, hs4.g2, szl (by omega), m2, c2, acc ++ [.ref t], ds ++ [l], hs4.p2 _, g4, hacc.snoc hnk, ?_⟩
        rw [List.take_add_one, hli]
        exact hsub.append (List.Sublist.refl _)
      · refine ⟨m2, c2, acc, ds, hs4, g4, hacc, ?_⟩
        rw [List.take_add_one]
        exact hsub.trans (List.sublist_append_left _ _)
    · clear hs2 hg2 g1
      rintro dn H3 ⟨m3, c3, dnus, down, hs3, g3, hD0, hsub⟩
      rw [LkL.len hL, List.take_length] at hsub
      obtain ⟨B2, sB2, hdn, hs4⟩ := frz_hs (hs3.sel [2, 0, 1])
      have hD := hD0.same sB2
      have hgr : GrAt B2 (.ref gp) cnt ls := ⟨gp, lr, us, rfl, sB2 _ _ hg, sB2 _ _ hl, hL.same sB2, by omega⟩
      have hgB := sB2 _ _ hg
      have hg4 := hs4.old hgB
      have hdz : down.length ≤ 9 := Nat.le_trans hsub.length_le hlz
      clear hs3 hD0 sB2 hg hl hL huz
      walk_at "ss"
      refine w_draw hs4 g3 (by omega) fun f m4 c4 H4 hs5 g4 _ hf => ?_
      obtain ⟨f0, f1⟩ := hf (by omega)
      have hg5 := hs5.old hgB
      clear hs4 g3 hg4
      walk_at "ss"
      refine w_draw hs5 g4 (by omega) fun t m5 c5 H5 hs6 g5 _ ht => ?_
      obtain ⟨t0, t1⟩ := ht (by omega)
      clear hs5 g4 hg5
      have hfr : 1 ≤ 1 + f ∧ 1 + f ≤ cnt := ⟨by omega, by omega⟩
      have htr : 1 ≤ 1 + t ∧ 1 + t ≤ cnt := ⟨by omega, by omega⟩
      walk_at "ss"
      rename_i p0 H6 hs7
      generalize 1 + f = first at hfr ⊢
      generalize 1 + t = to at htr ⊢
      clear f0 f1 t0 t1 hs6
      have sdn : ∀ l ∈ down, l ∈ ls := hsub.subset
      have hsh := gd_shows gd sdn cn1 cn6 hlz hdz
      refine ⟨p0, gdD cnt ls down, rfl, .lst (SqL.of hs7.g0) (.cons (gr_dp (hgr.same hs7.same)) (.cons (links_dp (hs7.old hdn) (hD.same hs7.same)) .nil)), hsh, ?_⟩
      generalize hkept : (gdD cnt ls down).shown = kept
      have hs8 := hs7.sel [1, 2]
      clear hs7
      walk_at "ss"
      refine ⟨.ref gp, dn, dnus, cnt, first, to, ls, down, rfl, hgr.same hs8.same, hs8.old hdn, hD.same hs8.same, gd, hc, htr, cn6, hfr, hlz, fun tv H7 s7 hw => ?_⟩
      have hs9 := hs8.keep s7
      walk_at "ss"
      refine ⟨.ref gp, dn, dnus, cnt, first, to, ls, down, rfl, hgr.same hs9.same, hs9.old hdn, hD.same hs9.same, gd, hc, htr, cn6, hfr, hlz, fun tv2 H8 s8 hw2 => ?_⟩
      have hs10 := hs9.keep s8
      walk_at "ss"
      have hwa := hw.same s8
      refine w_neRefl (walk_dp hwa) (walk_dp hw2) (walk_shp _ _ _) ?_
      refine ⟨_, rfl, iteF ?_⟩
      obtain ⟨tt, el, sl, eus, sus, rfl, htt0, hel0, hE0, hsl0, hS0, nel, nsl⟩ := hwa
      obtain ⟨B3, sB3, hs11, al⟩ := hs10.allin
      have nst : ∀ p, H6 p = none → p ∉ [(st, sto c m5), (c, clo c5)].map (·.1) := fun p hp z => by
        rcases List.mem_cons.mp z with z | z
        · rw [z, hs8.g0] at hp
          cases hp
        · rw [List.mem_singleton.mp z, hs8.g1] at hp
          cases hp
      have ntp : ∀ p xs, H8 p = some (.tup xs) → B3 p = some (.tup xs) := fun p xs e => al p _ e fun z => by
        rcases List.mem_cons.mp z with z | z
        · rw [z, hs10.g0] at e
          cases e
        · rw [List.mem_singleton.mp z, hs10.g1] at e
          cases e
      have htt : B3 tt = some (.tup [.str (wrd (decide ((fin ls down to first).sw = to))), .ref el, .ref sl]) := ntp _ _ htt0
      have hel := al _ _ hel0 (nst _ nel)
      have hsl := al _ _ hsl0 (nst _ nsl)
      have hE : Row (EndAt B3) eus _ := hE0.mono fun _ _ => EndAt.mono ntp
      have hS : LkL B3 sus _ := LkL.mono ntp hS0
      replace hgr := hgr.same sB3
      replace hdn := sB3 _ _ hdn
      replace hD := hD.same sB3
      have hgB3 := sB3 _ _ hgB
      have wi := run_WI (down := down) gd hc htr hfr 200
      have hend := fin_end (down := down) gd hc htr cn6 hfr hlz
      have hth := fin_there (down := down) gd hc htr cn6 hfr hlz
      clear hw hw2 hs8 hs9 hs10 al nst ntp htt0 hel0 hE0 hsl0 hS0 nel nsl s7 s8 hgB sB3
      have hcz : (fin ls down to first).car.length ≤ 9 := Nat.le_trans (wi.nd.length_le_of_subset fun l hl => (wi.sub l hl).1) hlz
      have hez : (fin ls down to first).ends.length ≤ 50 := by
        have h1 := wi.le
        have h2 : (cnt - 1) * (((wrun ls down to first 200).car.length : Int) + 1) ≤ 5 * 10 := Int.mul_le_mul (by omega) (by
          have : (fin ls down to first).car.length = (wrun ls down to first 200).car.length := rfl
          omega) (by omega) (by omega)
        have : (fin ls down to first).ends.length = (wrun ls down to first 200).ends.length := rfl
        omega
      have hsz : sus.length ≤ 9 := by
        rw [LkL.len hS, (srt_perm _).length_eq]
        exact hcz
      have heuz : eus.length ≤ 50 := by
        rw [hE.1]
        exact hez
      have htt8 := hs11.old htt
      walk_at "ss"
      refine w_isTu htt8 ?_
      refine ⟨_, rfl, iteF ?_⟩
      walk_at "ss"
      refine ⟨.ref gp, dn, dnus, cnt, to, ls, down, rfl, hgr.same hs11.same, hs11.old hdn, hD.same hs11.same, gd, hc, htr, cn6, fun fd fm H9 hs12 hI => ?_⟩
      have hs13 := hs11.add hs12
      refine w_dinI hs13.g0 ?_
      rw [kvF_mem]
      have eth : decide (first ∈ FMk fm) = decide ((fin ls down to first).sw = to) := by
        rw [decide_eq_decide, hI.keys, hth]
      rw [eth, wrd_there]
      refine w_neB ?_
      rw [decide_eq_true rfl]
      refine ⟨_, rfl, iteF ?_⟩
      have htt9 := hs13.old htt
      have hel9 := hs13.old hel
      have hsl9 := hs13.old hsl
      have hgp9 := hs13.old hgB3
      have elen : ¬ ((cnt - 1) * ((sus.length : Int) + 1) < (eus.length : Int)) := by
        have h1 := wi.le
        have h2 : eus.length = (wrun ls down to first 200).ends.length := hE.1
        have h3 : sus.length = (wrun ls down to first 200).car.length := by
          rw [LkL.len hS, (srt_perm _).length_eq]
          rfl
        rw [h2, h3]
        omega
      walk_at "ss"
      rw [decide_eq_false elen]
      refine iteF ?_
      walk_at "ss"
      refine w_lcRow (fun _ v (l : Lk) => v = V.bl (decide (l ∈ down))) (fun _ _ _ _ _ z => z) (SqL.of hsl9) (by omega) (srt (fin ls down to first).car) (LkL.len hS) (fun Q' q => ?_) (fun _ => rfl) (fun i u l H' Q' hu hli s' hq => ?_) fun D3 acc3 H10 hs14 hr14 => ?_
      · walk_at "ss"
        exact q
      · obtain ⟨t, rfl, hk⟩ := (row_lk hS).2 i u l hu hli
        have s3 := hs13.same.trans s'
        walk_at "ss"
        exact w_inLk (s3 _ _ hdn) (hD.same s3) (hk.mono fun _ _ => s3 _ _) (hq _ _ (Same.refl _) rfl)
      rw [rows_bls hr14] at hs14
      have hall : ((srt (fin ls down to first).car).map fun l => decide (l ∈ down)).all id = true := all_map.mpr fun l hl => decide_eq_true (wi.sub l ((srt_perm _).mem_iff.mp hl)).2
      walk_at "ss"
      refine ⟨D3, _, rfl, SqL.of hs14.g0, ?_⟩
      rw [hall]
      refine ⟨_, rfl, iteF ?_⟩
      have hs15 : Hs B3 [(st, sto c m5), (c, clo c5)] H10 := (hs13.add hs14).sel [2, 3]
      clear hs11 hs12 hs13 hs14 hr14 htt8 htt9 hel9 hsl9 hgp9
      obtain ⟨gp', lr', us', e1, hgq, hlq, hLq, hlz3⟩ := id hgr
      cases e1
      have hgq10 := hs15.old hgq
      walk_at "ss"
      refine w_lc (SqL.of (hs15.old hlq)) (fun D i H' => ∃ (m : Int) (cells : List Int) (acc : List V) (ds : List Lk), Hs B3 [(st, sto c m), (c, clo cells), (D, .lst acc)] H' ∧ Good m cells ∧ LkL B3 acc ds ∧ ds.Sublist (ls.take i)) (fun Q' q => ?_) (fun D hD => ⟨m5, c5, [], [], (hs15.new hD).sel [1, 2, 0], g5, .nil, List.nil_sublist _⟩) (fun D i H' _ ⟨_, _, _, _, h, _⟩ => SqL.of (h.old hlq)) ?_ ?_
      · walk_at "ss"
        exact q
      · clear hs15 hgq10 g5
        rintro D i y H3 hi ⟨m, cells, acc, ds, hs3, g3, hacc, hsub⟩
        obtain ⟨t, l, rfl, hli, hnk⟩ := LkL.get hLq hi
        have haz : acc.length ≤ 9 := by
          rw [LkL.len hacc]
          have := hsub.length_le
          rw [List.length_take] at this
          omega
        walk_at "ss"
        refine ⟨rfl, ?_⟩
        walk_at "ss"
        refine w_draw hs3 g3 (by omega) fun r m2 c2 H4 hs4 g4 _ _ => ?_
        walk_at "ss"
        refine ifd (fun h1 => ?_) (fun h1 => ?_)
        · walk_at "ss"
          refine ⟨acc, hs4.g2, szl (by omega), m2, c2, acc ++ [.ref t], ds ++ [l], hs4.p2 _, g4, hacc.snoc hnk, ?_⟩
          rw [List.take_add_one, hli]
          exact hsub.append (List.Sublist.refl _)
        · refine ⟨m2, c2, acc, ds, hs4, g4, hacc, ?_⟩
          rw [List.take_add_one]
          exact hsub.trans (List.sublist_append_left _ _)
      clear hs15 hgq10 g5
      rintro dd H11 ⟨m6, c6, ddus, dead, hs16, g6, hX0, hsubX⟩
      rw [LkL.len hLq, List.take_length] at hsubX
      have hXz : dead.length ≤ 9 := Nat.le_trans hsubX.length_le hlz
      obtain ⟨B4, sB4, hdd, hs17⟩ := frz_hs (hs16.sel [2, 0, 1])
      have hX := hX0.same sB4
      replace hgr := hgr.same sB4
      replace hdn := sB4 _ _ hdn
      replace hD := hD.same sB4
      have hgB4 := sB4 _ _ hgB3
      replace htt := sB4 _ _ htt
      replace hel := sB4 _ _ hel
      replace hsl := sB4 _ _ hsl
      replace hE := hE.mono fun _ _ => EndAt.mono fun _ _ => sB4 _ _
      replace hS := hS.same sB4
      clear hs16 hX0 hgB3 hgq hlq hLq sB4
      walk_at "ss"
      refine ⟨.ref gp, dd, ddus, cnt, to, ls, dead, rfl, hgr.same hs17.same, hs17.old hdd, hX.same hs17.same, gd, hc, htr, cn6, fun fd1 fm1 H12 hs18 hI1 => ?_⟩
      have hs18a := hs17.add hs18
      walk_at "ss"
      refine ⟨.ref gp, dd, ddus, cnt, to, ls, dead, rfl, hgr.same hs18a.same, hs18a.old hdd, hX.same hs18a.same, gd, hc, htr, cn6, fun fd2 fm2 H13 hs19 hI2 => ?_⟩
      refine ⟨fd1, fd2, kvF fm1, kvF fm2, rfl, rfl, hs19.old hs18.g0, hs19.g0, by rw [kvF_len, kvF_len]; exact hI1.len hI2, isD_eq hI1 hI2, ?_⟩
      refine ⟨_, rfl, iteF ?_⟩
      have hs20 : Hs B4 [(st, sto c m6), (c, clo c6)] H13 := (hs18a.add hs19).sel [2, 3]
      clear hs17 hs18 hs18a hs19 hI1 hI2 hI
      walk_at "ss"
      refine ⟨.ref gp, dd, ddus, cnt, first, to, ls, dead, rfl, hgr.same hs20.same, hs20.old hdd, hX.same hs20.same, gd, hc, htr, cn6, fun o1 H14 s14 ho1 => ?_⟩
      have hs21 := hs20.keep s14
      walk_at "ss"
      refine ⟨.ref gp, dd, ddus, cnt, first, to, ls, dead, rfl, hgr.same hs21.same, hs21.old hdd, hX.same hs21.same, gd, hc, htr, cn6, fun o2 H15 s15 ho2 => ?_⟩
      have hs22 := hs21.keep s15
      obtain rfl := ho1.uniq ho2
      refine w_ne (by cases o1 <;> rfl) ?_
      rw [decide_eq_true rfl]
      refine ⟨_, rfl, iteF ?_⟩
      clear hs20 hs21 s14 s15 ho1 ho2
      have htt15 := hs22.old htt
      walk_at "ss"
      refine ⟨.ref gp, sl, sus, cnt, first, ls, _, rfl, hgr.same hs22.same, hs22.old hsl, hS.same hs22.same, gd, ⟨hfr.1, by omega⟩, fun sd side H16 hs23 hnear => ?_⟩
      have hs24 := hs22.add hs23
      obtain ⟨B5, sB5, hsd, hs25⟩ := frz_hs hs24
      replace hgr := hgr.same sB5
      replace hdn := sB5 _ _ hdn
      replace hD := hD.same sB5
      replace hdd := sB5 _ _ hdd
      replace hX := hX.same sB5
      replace htt := sB5 _ _ htt
      replace hel := sB5 _ _ hel
      replace hsl := sB5 _ _ hsl
      replace hE := hE.mono fun _ _ => EndAt.mono fun _ _ => sB5 _ _
      replace hS := hS.same sB5
      have hgB5 := sB5 _ _ hgB4
      clear hs22 hs23 hs24 htt15 hgB4 sB5
      have htt16 := hs25.old htt
      walk_at "ss"
      refine ⟨.ref gp, sl, sus, cnt, first, ls, _, rfl, hgr.same hs25.same, hs25.old hsl, hS.same hs25.same, gd, hc, hfr, cn6, fun fd3 fm3 H17 hs26 hI3 => ?_⟩
      have hs27 := hs25.add hs26
      have hf3 : fm3.length ≤ 6 := by
        have h1 := K46.few hI3.1 fun x hx => rch_rng (gd.liv _) ⟨hfr.1, by omega⟩ (hI3.keys.mp hx)
        have h2 : (FMk fm3).length = fm3.length := List.length_map _
        omega
      walk_at "ss"
      refine ⟨fd3, kvF fm3, FMk fm3, rfl, .inl hs27.g0, kvF_keys fm3, by
        have h2 : (FMk fm3).length = fm3.length := List.length_map _
        omega, fun ys p hp ho hn => ?_⟩
      have hys : nearP (liv ls (srt (fin ls down to first).car)) first ys := ⟨pw_lt (hp.nodup_iff.mpr hI3.1) ho, fun x => by
        rw [hp.mem_iff]
        exact hI3.keys⟩
      obtain rfl := near_uniq hys hnear
      have hs28 := hs27.new (o := .lst (ys.map V.int)) hn
      refine w_neInts (hs28.old hsd) hs28.g0 ?_
      refine ⟨_, rfl, iteF ?_⟩
      have hs29 := hs28.sel [2, 3]
      generalize upd H17 p (.lst (ys.map V.int)) = H18 at hs28 hs29 ⊢
      clear hs25 hs26 hs27 hs28 hys htt16 hn ho hp hI3
      have hs30 : Hs B5 [(st, sto c m6), (c, clo c6)] H18 := hs29
      clear hs29
      have htt18 := hs30.old htt
      have hsl18 := hs30.old hsl
      refine' joinH (H0 := H18) (fun hA => ?_) ?_
      rotate_left
      · walk_at "ss"
        rw [wrd_cut]
        by_cases hq : (fin ls down to first).sw = to
        · rw [decide_eq_true hq, Bool.not_true]
          refine iteF ?_
          try (with_reducible refine iteF ?_)
          walk_at "ss"
          exact hA.a _ (Same.refl _)
        · rw [decide_eq_false hq, Bool.not_false]
          refine iteT ?_
          walk_at "ss"
          refine ⟨.ref gp, dn, sl, sd, dnus, sus, cnt, first, to, ls, down, _, ys, rfl, hgr.same hs30.same, hs30.old hdn, hD.same hs30.same, hsl18, hS.same hs30.same, by rw [(srt_perm _).length_eq]; omega, hs30.old hsd, fun b H19 s19 hb => ?_⟩
          have hbt : b = true := hb.mpr (fin_cut gd hc htr cn6 hfr hlz hq (fun l => (srt_perm _).mem_iff) hnear)
          subst hbt
          walk_at "ss"
          refine w_notBl ?_
          rw [decide_eq_true rfl]
          refine ⟨_, rfl, iteF ?_⟩
          walk_at "ss"
          exact hA.a _ s19
      · intro H19 s19
        have hs31 := hs30.keep s19
        clear hs30 htt18 hsl18 s19
        refine w_forR (n := 5) (by decide) (fun i σ' H' => ∃ (B : Hp) (m : Int) (cells : List Int) (v10 v11 v12 v13 v14 v15 : Option V), σ' = [some (.ref x), some (.ref st), some (.ref gp), some (.ref dn), some (.int first), some (.int to), some (.str kept), some (.ref tt), some (.ref dd), some (.ref sd), v10, v11, v12, v13, v14, v15] ∧ Same B5 B ∧ Hs B [(st, sto c m), (c, clo cells)] H' ∧ Good m cells)
          (fun Q' q => q) (by decide) ⟨B5, m6, c6, _, _, _, _, _, _, rfl, Same.refl _, hs31, g6⟩ ?_ ?_
        · clear hs31 g6
          rintro i σ' H20 hi ⟨B, m, cells, v10, v11, v12, v13, v14, v15, rfl, sB, hs1, g1⟩
          have hgB := sB _ _ hgB5
          have hg1 := hs1.old hgB
          walk_at "ss"
          refine w_lcG2 ?_
          walk_at "ss"
          refine ⟨1, cnt + 1, rfl, ⟨by decide, by decide, by omega, by omega⟩, fun D hD => ?_⟩
          refine turns_rangeL (Body := LcBody (gName 15) _ (tVar 15) _ _ D) (fun j H' => ∃ (m : Int) (cells sm : List Int), Hs B [(st, sto c m), (c, clo cells), (D, .lst (sm.map V.int))] H' ∧ Good m cells ∧ sm.length ≤ j) ⟨m, cells, [], (hs1.new hD).sel [1, 2, 0], g1, Nat.le_refl _⟩ ?_ ?_
          · clear hs1 g1 hD hg1
            rintro j H21 hj ⟨m, cells, sm, hs1, g1, hz⟩
            have hj6 : j < 6 := by omega
            walk_at "ss"
            refine ⟨rfl, ?_⟩
            walk_at "ss"
            refine w_draw hs1 g1 (by omega) fun r m2 c2 H22 hs2 g2 _ _ => ?_
            clear hs1 g1
            have ap : ∃ acc, H22 D = some (.lst acc) ∧ acc.length < sizeLine ∧ ∃ (m : Int) (cells sm : List Int), Hs B [(st, sto c m), (c, clo cells), (D, .lst (sm.map V.int))] (upd H22 D (.lst (acc ++ [V.int (1 + (j : Int))]))) ∧ Good m cells ∧ sm.length ≤ j + 1 := by
              refine ⟨_, hs2.g2, szl (by rw [List.length_map]; omega), m2, c2, sm ++ [1 + (j : Int)], ?_, g2, by simp; omega⟩
              rw [List.map_append]
              exact hs2.p2 _
            walk_at "ss"
            refine ifd (fun h1 => ?_) (fun h1 => ?_)
            · refine iteT ?_
              walk_at "ss"
              exact ap
            · walk_at "ss"
              refine ifd (fun h2 => ?_) (fun h2 => ?_)
              · walk_at "ss"
                exact ap
              · exact ⟨m2, c2, sm, hs2, g2, by omega⟩
          · clear hs1 g1 hD hg1
            rintro H21 ⟨m2, c2, smi, hs2, g2, hz⟩
            have htt21 := hs2.old (sB _ _ htt)
            have hs3 := hs2.sel [2, 0, 1]
            walk_at "ss"
            rename_i gl H22 hs4
            have hs5 : Hs B [(st, sto c m2), (c, clo c2), (gl, .lst [V.ref sl, V.ref dn, V.ref dd]), (D, .lst (smi.map V.int))] H22 := hs4.sel [2, 3, 0, 1]
            clear hs2 hs3 hs4
            refine w_draw hs5 g2 (by omega) fun r m3 c3 H23 hs6 g3 _ hr => ?_
            obtain ⟨r0, r1⟩ := hr (by omega)
            clear hs5 g2
            obtain ⟨gv, gus, gls, hgat, hgu, hgL, hgz⟩ : ∃ (gv : Addr) (gus : List V) (gls : List Lk), atI [V.ref sl, V.ref dn, V.ref dd] r = some (.ref gv) ∧ B gv = some (.lst gus) ∧ LkL B gus gls ∧ gls.length ≤ 9 := by
              have : r = 0 ∨ r = 1 ∨ r = 2 := by omega
              rcases this with rfl | rfl | rfl
              · exact ⟨sl, sus, _, at0, sB _ _ hsl, hS.same sB, by rw [(srt_perm _).length_eq]; exact hcz⟩
              · exact ⟨dn, dnus, down, at1, sB _ _ hdn, hD.same sB, hdz⟩
              · exact ⟨dd, ddus, dead, at2, sB _ _ hdd, hX.same sB, hXz⟩
            refine w_ixL (SqL.of hs6.g2) hgat ?_
            obtain ⟨B6, sB6, hsm, hs7⟩ := frz_hs (hs6.sel [3, 0, 1])
            have sB' := sB.trans sB6
            have hgu6 := sB6 _ _ hgu
            have hgL6 := hgL.same sB6
            clear hs6 hgu hgL
            walk_at "ss"
            refine ⟨gv, gus, rfl, .inl (SqL.of (hs7.old hgu6)), fun cl hn => ?_⟩
            have hs8 := hs7.new (o := .lst gus) hn
            generalize upd H23 cl (.lst gus) = H24 at hs8 ⊢
            clear hn
            walk_at "ss"
            refine ⟨.ref gp, dn, cl, D, dnus, gus, cnt, first, to, ls, down, gls, smi, rfl, hgr.same (sB'.trans hs8.same), hs8.old (sB' _ _ hdn), hD.same (sB'.trans hs8.same), hs8.g0, hgL6.same hs8.same, by omega, hs8.old hsm, fun b1 H25 s25 hb1 => ?_⟩
            have hs9 : Hs B6 [(st, sto c m3), (c, clo c3)] H25 := (hs8.keep s25).sel [1, 2]
            clear hs7 hs8 s25
            walk_at "ss"
            refine ⟨.ref gp, dn, gv, D, dnus, gus, cnt, first, to, ls, down, gls, smi, rfl, hgr.same (sB'.trans hs9.same), hs9.old (sB' _ _ hdn), hD.same (sB'.trans hs9.same), hs9.old hgu6, hgL6.same hs9.same, by omega, hs9.old hsm, fun b2 H26 s26 hb2 => ?_⟩
            have hs10 := hs9.keep s26
            clear hs9 s26
            have eb : b1 = b2 := Bool.eq_iff_iff.mpr (hb1.trans hb2.symm)
            subst eb
            refine w_neB ?_
            rw [decide_eq_true rfl]
            refine ⟨_, rfl, iteF ?_⟩
            have htt26 := hs10.old (sB' _ _ htt)
            walk_at "ss"
            rw [wrd_there]
            by_cases hq : (fin ls down to first).sw = to
            · rw [decide_eq_true hq]
              refine iteT ?_
              walk_at "ss"
              refine ⟨.ref gp, dn, gv, D, dnus, gus, cnt, first, to, ls, down, gls, smi, rfl, hgr.same (sB'.trans hs10.same), hs10.old (sB' _ _ hdn), hD.same (sB'.trans hs10.same), hs10.old hgu6, hgL6.same hs10.same, by omega, hs10.old hsm, fun b3 H27 s27 hb3 => ?_⟩
              have hb3f : b3 = false := by
                cases b3 with
                | false => rfl
                | true => exact absurd (hth.mp hq) (hb3.mp rfl).sep
              subst hb3f
              refine ⟨_, rfl, iteF ?_⟩
              walk_at "ss"
              exact ⟨B6, m3, c3, _, _, _, _, _, _, rfl, sB', hs10.keep s27, g3⟩
            · rw [decide_eq_false hq]
              refine iteF ?_
              try (with_reducible refine iteF ?_)
              walk_at "ss"
              exact ⟨B6, m3, c3, _, _, _, _, _, _, rfl, sB', hs10, g3⟩
        · clear hs31 g6
          rintro σ' H20 ⟨B, m, cells, v10, v11, v12, v13, v14, v15, rfl, sB, hs1, g1⟩
          walk_at "ss"
          refine w_draw hs1 g1 (by omega) fun r m2 c2 H21 hs2 g2 _ _ => ?_
          clear hs1 g1
          walk_at "ss"
          rename_i te H22 hs3
          clear hs2
          have s3 := sB.trans hs3.same
          refine ⟨.ref gp, te, cnt, ls, (first, 1 + r), rfl, hgr.same s3, hs3.g0, fun v1 hv1 => ?_⟩
          walk_at "ss"
          refine ⟨.ref gp, te, cnt, ls, (first, 1 + r), rfl, hgr.same s3, hs3.g0, fun v2 H23 s23 hv2 => ?_⟩
          refine w_eqRefl (opt_dp (OptE.same s23 hv1)) (opt_dp (OptE.same s23 hv2)) (opt_shp _) ?_
          have hs4 := hs3.keep s23
          clear hs3
          refine ⟨_, rfl, iteT ?_⟩
          walk_at "ss"
          rename_i pq H24 hs5
          have s5 := sB.trans hs5.same
          refine ⟨pq, gdD cnt ls down, rfl, .lst (SqL.of hs5.g0) (.cons (gr_dp (hgr.same s5)) (.cons (links_dp (s5 _ _ hdn) (hD.same s5)) .nil)), hsh, ?_⟩
          rw [hkept]
          walk_at "ss"
          rw [decide_eq_true rfl]
          exact k _
end
theorem all_mk {l : PySem.W.OpenLaw} {w : World} {K : PySem.W.Frag} {h : Heap} {mg : Str → Option Value} {fa : Addr} (hl : l.prog = PySem.Challenge.pw_hangbridge_k46_whole_ways_around_dead_li) (X : K.In h) (G : h.Ns mainGlobals mg) (hfa : mg "law" = some (.ref fa))
    {A_link_of A_peer A_reached A_ends_at A_living A_other_end A_distances A_next_port A_walk A_side_of A_cut_right A__law_state A__law_draw A__law_graph A__law_distances A__law_port A__law_end A__law_walk A__law_cut A_law : Addr} {od_link_of an_link_of od_peer an_peer od_reached an_reached od_ends_at an_ends_at od_living an_living od_other_end an_other_end od_distances an_distances od_next_port an_next_port od_walk an_walk od_side_of an_side_of od_cut_right an_cut_right od__law_state an__law_state od__law_draw an__law_draw od__law_graph an__law_graph od__law_distances an__law_distances od__law_port an__law_port od__law_end an__law_end od__law_walk an__law_walk od__law_cut an__law_cut od_law an_law : Option Addr} {sl_link_of sl_peer sl_reached sl_ends_at sl_living sl_other_end sl_distances sl_next_port sl_walk sl_side_of sl_cut_right sl__law_state sl__law_draw sl__law_graph sl__law_distances sl__law_port sl__law_end sl__law_walk sl__law_cut sl_law : Array (Option Value)} {oc_link_of kV_link_of dc_link_of pm_link_of cd_link_of ct_link_of oc_peer kV_peer dc_peer pm_peer cd_peer ct_peer oc_reached kV_reached dc_reached pm_reached cd_reached ct_reached oc_ends_at kV_ends_at dc_ends_at pm_ends_at cd_ends_at ct_ends_at oc_living kV_living dc_living pm_living cd_living ct_living oc_other_end kV_other_end dc_other_end pm_other_end cd_other_end ct_other_end oc_distances kV_distances dc_distances pm_distances cd_distances ct_distances oc_next_port kV_next_port dc_next_port pm_next_port cd_next_port ct_next_port oc_walk kV_walk dc_walk pm_walk cd_walk ct_walk oc_side_of kV_side_of dc_side_of pm_side_of cd_side_of ct_side_of oc_cut_right kV_cut_right dc_cut_right pm_cut_right cd_cut_right ct_cut_right oc__law_state kV__law_state dc__law_state pm__law_state cd__law_state ct__law_state oc__law_draw kV__law_draw dc__law_draw pm__law_draw cd__law_draw ct__law_draw oc__law_graph kV__law_graph dc__law_graph pm__law_graph cd__law_graph ct__law_graph oc__law_distances kV__law_distances dc__law_distances pm__law_distances cd__law_distances ct__law_distances oc__law_port kV__law_port dc__law_port pm__law_port cd__law_port ct__law_port oc__law_end kV__law_end dc__law_end pm__law_end cd__law_end ct__law_end oc__law_walk kV__law_walk dc__law_walk pm__law_walk cd__law_walk ct__law_walk oc__law_cut kV__law_cut dc__law_cut pm__law_cut cd__law_cut ct__law_cut oc_law kV_law dc_law pm_law cd_law ct_law : Value} 
        (h_alink_of : PySem.W.nsIn K mainGlobals "link_of" = some (some (.ref A_link_of)))
    (h_llink_of : K.lookup A_link_of = some ⟨oc_link_of, od_link_of, .func (PySem.W.fnOf "link_of" "link_of" (defArgs s_link_of) (defBody s_link_of) (defScope s_link_of) .none kV_link_of dc_link_of pm_link_of an_link_of cd_link_of ct_link_of), sl_link_of⟩)
    (h_cdlink_of : PySem.W.codeIn K cd_link_of "link_of" = true)
    (h_klink_of : PySem.W.keepIn K (.ref A_link_of) = true)
    (h_apeer : PySem.W.nsIn K mainGlobals "peer" = some (some (.ref A_peer)))
    (h_lpeer : K.lookup A_peer = some ⟨oc_peer, od_peer, .func (PySem.W.fnOf "peer" "peer" (defArgs s_peer) (defBody s_peer) (defScope s_peer) .none kV_peer dc_peer pm_peer an_peer cd_peer ct_peer), sl_peer⟩)
    (h_cdpeer : PySem.W.codeIn K cd_peer "peer" = true)
    (h_kpeer : PySem.W.keepIn K (.ref A_peer) = true)
    (h_areached : PySem.W.nsIn K mainGlobals "reached" = some (some (.ref A_reached)))
    (h_lreached : K.lookup A_reached = some ⟨oc_reached, od_reached, .func (PySem.W.fnOf "reached" "reached" (defArgs s_reached) (defBody s_reached) (defScope s_reached) .none kV_reached dc_reached pm_reached an_reached cd_reached ct_reached), sl_reached⟩)
    (h_cdreached : PySem.W.codeIn K cd_reached "reached" = true)
    (h_kreached : PySem.W.keepIn K (.ref A_reached) = true)
    (h_aends_at : PySem.W.nsIn K mainGlobals "ends_at" = some (some (.ref A_ends_at)))
    (h_lends_at : K.lookup A_ends_at = some ⟨oc_ends_at, od_ends_at, .func (PySem.W.fnOf "ends_at" "ends_at" (defArgs s_ends_at) (defBody s_ends_at) (defScope s_ends_at) .none kV_ends_at dc_ends_at pm_ends_at an_ends_at cd_ends_at ct_ends_at), sl_ends_at⟩)
    (h_cdends_at : PySem.W.codeIn K cd_ends_at "ends_at" = true)
    (h_kends_at : PySem.W.keepIn K (.ref A_ends_at) = true)
    (h_aliving : PySem.W.nsIn K mainGlobals "living" = some (some (.ref A_living)))
    (h_lliving : K.lookup A_living = some ⟨oc_living, od_living, .func (PySem.W.fnOf "living" "living" (defArgs s_living) (defBody s_living) (defScope s_living) .none kV_living dc_living pm_living an_living cd_living ct_living), sl_living⟩)
    (h_cdliving : PySem.W.codeIn K cd_living "living" = true)
    (h_kliving : PySem.W.keepIn K (.ref A_living) = true)
    (h_aother_end : PySem.W.nsIn K mainGlobals "other_end" = some (some (.ref A_other_end)))
    (h_lother_end : K.lookup A_other_end = some ⟨oc_other_end, od_other_end, .func (PySem.W.fnOf "other_end" "other_end" (defArgs s_other_end) (defBody s_other_end) (defScope s_other_end) .none kV_other_end dc_other_end pm_other_end an_other_end cd_other_end ct_other_end), sl_other_end⟩)
    (h_cdother_end : PySem.W.codeIn K cd_other_end "other_end" = true)
    (h_kother_end : PySem.W.keepIn K (.ref A_other_end) = true)
    (h_adistances : PySem.W.nsIn K mainGlobals "distances" = some (some (.ref A_distances)))
    (h_ldistances : K.lookup A_distances = some ⟨oc_distances, od_distances, .func (PySem.W.fnOf "distances" "distances" (defArgs s_distances) (defBody s_distances) (defScope s_distances) .none kV_distances dc_distances pm_distances an_distances cd_distances ct_distances), sl_distances⟩)
    (h_cddistances : PySem.W.codeIn K cd_distances "distances" = true)
    (h_kdistances : PySem.W.keepIn K (.ref A_distances) = true)
    (h_anext_port : PySem.W.nsIn K mainGlobals "next_port" = some (some (.ref A_next_port)))
    (h_lnext_port : K.lookup A_next_port = some ⟨oc_next_port, od_next_port, .func (PySem.W.fnOf "next_port" "next_port" (defArgs s_next_port) (defBody s_next_port) (defScope s_next_port) .none kV_next_port dc_next_port pm_next_port an_next_port cd_next_port ct_next_port), sl_next_port⟩)
    (h_cdnext_port : PySem.W.codeIn K cd_next_port "next_port" = true)
    (h_knext_port : PySem.W.keepIn K (.ref A_next_port) = true)
    (h_awalk : PySem.W.nsIn K mainGlobals "walk" = some (some (.ref A_walk)))
    (h_lwalk : K.lookup A_walk = some ⟨oc_walk, od_walk, .func (PySem.W.fnOf "walk" "walk" (defArgs s_walk) (defBody s_walk) (defScope s_walk) .none kV_walk dc_walk pm_walk an_walk cd_walk ct_walk), sl_walk⟩)
    (h_cdwalk : PySem.W.codeIn K cd_walk "walk" = true)
    (h_kwalk : PySem.W.keepIn K (.ref A_walk) = true)
    (h_aside_of : PySem.W.nsIn K mainGlobals "side_of" = some (some (.ref A_side_of)))
    (h_lside_of : K.lookup A_side_of = some ⟨oc_side_of, od_side_of, .func (PySem.W.fnOf "side_of" "side_of" (defArgs s_side_of) (defBody s_side_of) (defScope s_side_of) .none kV_side_of dc_side_of pm_side_of an_side_of cd_side_of ct_side_of), sl_side_of⟩)
    (h_cdside_of : PySem.W.codeIn K cd_side_of "side_of" = true)
    (h_kside_of : PySem.W.keepIn K (.ref A_side_of) = true)
    (h_acut_right : PySem.W.nsIn K mainGlobals "cut_right" = some (some (.ref A_cut_right)))
    (h_lcut_right : K.lookup A_cut_right = some ⟨oc_cut_right, od_cut_right, .func (PySem.W.fnOf "cut_right" "cut_right" (defArgs s_cut_right) (defBody s_cut_right) (defScope s_cut_right) .none kV_cut_right dc_cut_right pm_cut_right an_cut_right cd_cut_right ct_cut_right), sl_cut_right⟩)
    (h_cdcut_right : PySem.W.codeIn K cd_cut_right "cut_right" = true)
    (h_kcut_right : PySem.W.keepIn K (.ref A_cut_right) = true)
    (h_a_law_state : PySem.W.nsIn K mainGlobals "_law_state" = some (some (.ref A__law_state)))
    (h_l_law_state : K.lookup A__law_state = some ⟨oc__law_state, od__law_state, .func (PySem.W.fnOf "_law_state" "_law_state" (defArgs s__law_state) (defBody s__law_state) (defScope s__law_state) .none kV__law_state dc__law_state pm__law_state an__law_state cd__law_state ct__law_state), sl__law_state⟩)
    (h_cd_law_state : PySem.W.codeIn K cd__law_state "_law_state" = true)
    (h_k_law_state : PySem.W.keepIn K (.ref A__law_state) = true)
    (h_a_law_draw : PySem.W.nsIn K mainGlobals "_law_draw" = some (some (.ref A__law_draw)))
    (h_l_law_draw : K.lookup A__law_draw = some ⟨oc__law_draw, od__law_draw, .func (PySem.W.fnOf "_law_draw" "_law_draw" (defArgs s__law_draw) (defBody s__law_draw) (defScope s__law_draw) .none kV__law_draw dc__law_draw pm__law_draw an__law_draw cd__law_draw ct__law_draw), sl__law_draw⟩)
    (h_cd_law_draw : PySem.W.codeIn K cd__law_draw "_law_draw" = true)
    (h_k_law_draw : PySem.W.keepIn K (.ref A__law_draw) = true)
    (h_a_law_graph : PySem.W.nsIn K mainGlobals "_law_graph" = some (some (.ref A__law_graph)))
    (h_l_law_graph : K.lookup A__law_graph = some ⟨oc__law_graph, od__law_graph, .func (PySem.W.fnOf "_law_graph" "_law_graph" (defArgs s__law_graph) (defBody s__law_graph) (defScope s__law_graph) .none kV__law_graph dc__law_graph pm__law_graph an__law_graph cd__law_graph ct__law_graph), sl__law_graph⟩)
    (h_cd_law_graph : PySem.W.codeIn K cd__law_graph "_law_graph" = true)
    (h_k_law_graph : PySem.W.keepIn K (.ref A__law_graph) = true)
    (h_a_law_distances : PySem.W.nsIn K mainGlobals "_law_distances" = some (some (.ref A__law_distances)))
    (h_l_law_distances : K.lookup A__law_distances = some ⟨oc__law_distances, od__law_distances, .func (PySem.W.fnOf "_law_distances" "_law_distances" (defArgs s__law_distances) (defBody s__law_distances) (defScope s__law_distances) .none kV__law_distances dc__law_distances pm__law_distances an__law_distances cd__law_distances ct__law_distances), sl__law_distances⟩)
    (h_cd_law_distances : PySem.W.codeIn K cd__law_distances "_law_distances" = true)
    (h_k_law_distances : PySem.W.keepIn K (.ref A__law_distances) = true)
    (h_a_law_port : PySem.W.nsIn K mainGlobals "_law_port" = some (some (.ref A__law_port)))
    (h_l_law_port : K.lookup A__law_port = some ⟨oc__law_port, od__law_port, .func (PySem.W.fnOf "_law_port" "_law_port" (defArgs s__law_port) (defBody s__law_port) (defScope s__law_port) .none kV__law_port dc__law_port pm__law_port an__law_port cd__law_port ct__law_port), sl__law_port⟩)
    (h_cd_law_port : PySem.W.codeIn K cd__law_port "_law_port" = true)
    (h_k_law_port : PySem.W.keepIn K (.ref A__law_port) = true)
    (h_a_law_end : PySem.W.nsIn K mainGlobals "_law_end" = some (some (.ref A__law_end)))
    (h_l_law_end : K.lookup A__law_end = some ⟨oc__law_end, od__law_end, .func (PySem.W.fnOf "_law_end" "_law_end" (defArgs s__law_end) (defBody s__law_end) (defScope s__law_end) .none kV__law_end dc__law_end pm__law_end an__law_end cd__law_end ct__law_end), sl__law_end⟩)
    (h_cd_law_end : PySem.W.codeIn K cd__law_end "_law_end" = true)
    (h_k_law_end : PySem.W.keepIn K (.ref A__law_end) = true)
    (h_a_law_walk : PySem.W.nsIn K mainGlobals "_law_walk" = some (some (.ref A__law_walk)))
    (h_l_law_walk : K.lookup A__law_walk = some ⟨oc__law_walk, od__law_walk, .func (PySem.W.fnOf "_law_walk" "_law_walk" (defArgs s__law_walk) (defBody s__law_walk) (defScope s__law_walk) .none kV__law_walk dc__law_walk pm__law_walk an__law_walk cd__law_walk ct__law_walk), sl__law_walk⟩)
    (h_cd_law_walk : PySem.W.codeIn K cd__law_walk "_law_walk" = true)
    (h_k_law_walk : PySem.W.keepIn K (.ref A__law_walk) = true)
    (h_a_law_cut : PySem.W.nsIn K mainGlobals "_law_cut" = some (some (.ref A__law_cut)))
    (h_l_law_cut : K.lookup A__law_cut = some ⟨oc__law_cut, od__law_cut, .func (PySem.W.fnOf "_law_cut" "_law_cut" (defArgs s__law_cut) (defBody s__law_cut) (defScope s__law_cut) .none kV__law_cut dc__law_cut pm__law_cut an__law_cut cd__law_cut ct__law_cut), sl__law_cut⟩)
    (h_cd_law_cut : PySem.W.codeIn K cd__law_cut "_law_cut" = true)
    (h_k_law_cut : PySem.W.keepIn K (.ref A__law_cut) = true)
    (h_alaw : PySem.W.nsIn K mainGlobals "law" = some (some (.ref A_law)))
    (h_llaw : K.lookup A_law = some ⟨oc_law, od_law, .func (PySem.W.fnOf "law" "law" (defArgs s_law) (defBody s_law) (defScope s_law) .none kV_law dc_law pm_law an_law cd_law ct_law), sl_law⟩)
    (h_cdlaw : PySem.W.codeIn K cd_law "law" = true)
    (h_klaw : PySem.W.keepIn K (.ref A_law) = true)
    (h_bsorted : PySem.W.nsIn K mainGlobals "sorted" = some none)
    (h_bmin : PySem.W.nsIn K mainGlobals "min" = some none)
    (h_ball : PySem.W.nsIn K mainGlobals "all" = some none)
    (h_babs : PySem.W.nsIn K mainGlobals "abs" = some none)
    (h_bint : PySem.W.nsIn K mainGlobals "int" = some none)
    (h_blen : PySem.W.nsIn K mainGlobals "len" = some none)
    (h_brange : PySem.W.nsIn K mainGlobals "range" = some none)
    (h_bmax : PySem.W.nsIn K mainGlobals "max" = some none)
    (h_brepr : PySem.W.nsIn K mainGlobals "repr" = some none)
    (h_blist : PySem.W.nsIn K mainGlobals "list" = some none)
    (h_bisinstance : PySem.W.nsIn K mainGlobals "isinstance" = some none)
    (h_btuple : PySem.W.nsIn K mainGlobals "tuple" = some none) :
    ∃ fd : FuncData, (∀ (s : Shared) (v : Value), BindsTo s fd ⟨[v], []⟩ [("script", v)]) ∧ ∀ base : Heap, K.In base → base.Ns mainGlobals mg → LawRun l.prog w K mg base 14 fa fd ["script"] (sp_law K) := by
  haveI : IsP l.prog := ⟨hl⟩
  have e := hfa.symm.trans (PySem.W.mg_of X G h_alaw)
  have e2 : fa = A_law := Value.ref.inj (Option.some.inj e)
  rw [e2]
  have T : Txt w K mg ⟨A_link_of, (PySem.W.fnOf "link_of" "link_of" (defArgs s_link_of) (defBody s_link_of) (defScope s_link_of) .none kV_link_of dc_link_of pm_link_of an_link_of cd_link_of ct_link_of), A_peer, (PySem.W.fnOf "peer" "peer" (defArgs s_peer) (defBody s_peer) (defScope s_peer) .none kV_peer dc_peer pm_peer an_peer cd_peer ct_peer), A_reached, (PySem.W.fnOf "reached" "reached" (defArgs s_reached) (defBody s_reached) (defScope s_reached) .none kV_reached dc_reached pm_reached an_reached cd_reached ct_reached), A_ends_at, (PySem.W.fnOf "ends_at" "ends_at" (defArgs s_ends_at) (defBody s_ends_at) (defScope s_ends_at) .none kV_ends_at dc_ends_at pm_ends_at an_ends_at cd_ends_at ct_ends_at), A_living, (PySem.W.fnOf "living" "living" (defArgs s_living) (defBody s_living) (defScope s_living) .none kV_living dc_living pm_living an_living cd_living ct_living), A_other_end, (PySem.W.fnOf "other_end" "other_end" (defArgs s_other_end) (defBody s_other_end) (defScope s_other_end) .none kV_other_end dc_other_end pm_other_end an_other_end cd_other_end ct_other_end), A_distances, (PySem.W.fnOf "distances" "distances" (defArgs s_distances) (defBody s_distances) (defScope s_distances) .none kV_distances dc_distances pm_distances an_distances cd_distances ct_distances), A_next_port, (PySem.W.fnOf "next_port" "next_port" (defArgs s_next_port) (defBody s_next_port) (defScope s_next_port) .none kV_next_port dc_next_port pm_next_port an_next_port cd_next_port ct_next_port), A_walk, (PySem.W.fnOf "walk" "walk" (defArgs s_walk) (defBody s_walk) (defScope s_walk) .none kV_walk dc_walk pm_walk an_walk cd_walk ct_walk), A_side_of, (PySem.W.fnOf "side_of" "side_of" (defArgs s_side_of) (defBody s_side_of) (defScope s_side_of) .none kV_side_of dc_side_of pm_side_of an_side_of cd_side_of ct_side_of), A_cut_right, (PySem.W.fnOf "cut_right" "cut_right" (defArgs s_cut_right) (defBody s_cut_right) (defScope s_cut_right) .none kV_cut_right dc_cut_right pm_cut_right an_cut_right cd_cut_right ct_cut_right), A__law_state, (PySem.W.fnOf "_law_state" "_law_state" (defArgs s__law_state) (defBody s__law_state) (defScope s__law_state) .none kV__law_state dc__law_state pm__law_state an__law_state cd__law_state ct__law_state), A__law_draw, (PySem.W.fnOf "_law_draw" "_law_draw" (defArgs s__law_draw) (defBody s__law_draw) (defScope s__law_draw) .none kV__law_draw dc__law_draw pm__law_draw an__law_draw cd__law_draw ct__law_draw), A__law_graph, (PySem.W.fnOf "_law_graph" "_law_graph" (defArgs s__law_graph) (defBody s__law_graph) (defScope s__law_graph) .none kV__law_graph dc__law_graph pm__law_graph an__law_graph cd__law_graph ct__law_graph), A__law_distances, (PySem.W.fnOf "_law_distances" "_law_distances" (defArgs s__law_distances) (defBody s__law_distances) (defScope s__law_distances) .none kV__law_distances dc__law_distances pm__law_distances an__law_distances cd__law_distances ct__law_distances), A__law_port, (PySem.W.fnOf "_law_port" "_law_port" (defArgs s__law_port) (defBody s__law_port) (defScope s__law_port) .none kV__law_port dc__law_port pm__law_port an__law_port cd__law_port ct__law_port), A__law_end, (PySem.W.fnOf "_law_end" "_law_end" (defArgs s__law_end) (defBody s__law_end) (defScope s__law_end) .none kV__law_end dc__law_end pm__law_end an__law_end cd__law_end ct__law_end), A__law_walk, (PySem.W.fnOf "_law_walk" "_law_walk" (defArgs s__law_walk) (defBody s__law_walk) (defScope s__law_walk) .none kV__law_walk dc__law_walk pm__law_walk an__law_walk cd__law_walk ct__law_walk), A__law_cut, (PySem.W.fnOf "_law_cut" "_law_cut" (defArgs s__law_cut) (defBody s__law_cut) (defScope s__law_cut) .none kV__law_cut dc__law_cut pm__law_cut an__law_cut cd__law_cut ct__law_cut), A_law, (PySem.W.fnOf "law" "law" (defArgs s_law) (defBody s_law) (defScope s_law) .none kV_law dc_law pm_law an_law cd_law ct_law)⟩ := {
    fn_link_of := fun_mk (st := s_link_of) h_llink_of h_cdlink_of h_klink_of
    bi_link_of := (fun_mk (st := s_link_of) h_llink_of h_cdlink_of h_klink_of).binds (ps := ["one", "other"]) fun _ _ _ _ _ _ us hl => match us, hl with | [_, _], _ => rfl
    mg_link_of := PySem.W.mg_of X G h_alink_of
    kp_link_of := h_klink_of
    fn_peer := fun_mk (st := s_peer) h_lpeer h_cdpeer h_kpeer
    bi_peer := (fun_mk (st := s_peer) h_lpeer h_cdpeer h_kpeer).binds (ps := ["links", "end"]) fun _ _ _ _ _ _ us hl => match us, hl with | [_, _], _ => rfl
    mg_peer := PySem.W.mg_of X G h_apeer
    kp_peer := h_kpeer
    fn_reached := fun_mk (st := s_reached) h_lreached h_cdreached h_kreached
    bi_reached := (fun_mk (st := s_reached) h_lreached h_cdreached h_kreached).binds (ps := ["links", "switch"]) fun _ _ _ _ _ _ us hl => match us, hl with | [_, _], _ => rfl
    mg_reached := PySem.W.mg_of X G h_areached
    kp_reached := h_kreached
    fn_ends_at := fun_mk (st := s_ends_at) h_lends_at h_cdends_at h_kends_at
    bi_ends_at := (fun_mk (st := s_ends_at) h_lends_at h_cdends_at h_kends_at).binds (ps := ["links", "switch"]) fun _ _ _ _ _ _ us hl => match us, hl with | [_, _], _ => rfl
    mg_ends_at := PySem.W.mg_of X G h_aends_at
    kp_ends_at := h_kends_at
    fn_living := fun_mk (st := s_living) h_lliving h_cdliving h_kliving
    bi_living := (fun_mk (st := s_living) h_lliving h_cdliving h_kliving).binds (ps := ["graph", "dead"]) fun _ _ _ _ _ _ us hl => match us, hl with | [_, _], _ => rfl
    mg_living := PySem.W.mg_of X G h_aliving
    kp_living := h_kliving
    fn_other_end := fun_mk (st := s_other_end) h_lother_end h_cdother_end h_kother_end
    bi_other_end := (fun_mk (st := s_other_end) h_lother_end h_cdother_end h_kother_end).binds (ps := ["graph", "end"]) fun _ _ _ _ _ _ us hl => match us, hl with | [_, _], _ => rfl
    mg_other_end := PySem.W.mg_of X G h_aother_end
    kp_other_end := h_kother_end
    fn_distances := fun_mk (st := s_distances) h_ldistances h_cddistances h_kdistances
    bi_distances := (fun_mk (st := s_distances) h_ldistances h_cddistances h_kdistances).binds (ps := ["graph", "dead", "to"]) fun _ _ _ _ _ _ us hl => match us, hl with | [_, _, _], _ => rfl
    mg_distances := PySem.W.mg_of X G h_adistances
    kp_distances := h_kdistances
    fn_next_port := fun_mk (st := s_next_port) h_lnext_port h_cdnext_port h_knext_port
    bi_next_port := (fun_mk (st := s_next_port) h_lnext_port h_cdnext_port h_knext_port).binds (ps := ["graph", "dead", "switch", "to"]) fun _ _ _ _ _ _ us hl => match us, hl with | [_, _, _, _], _ => rfl
    mg_next_port := PySem.W.mg_of X G h_anext_port
    kp_next_port := h_knext_port
    fn_walk := fun_mk (st := s_walk) h_lwalk h_cdwalk h_kwalk
    bi_walk := (fun_mk (st := s_walk) h_lwalk h_cdwalk h_kwalk).binds (ps := ["graph", "down", "first", "to"]) fun _ _ _ _ _ _ us hl => match us, hl with | [_, _, _, _], _ => rfl
    mg_walk := PySem.W.mg_of X G h_awalk
    kp_walk := h_kwalk
    fn_side_of := fun_mk (st := s_side_of) h_lside_of h_cdside_of h_kside_of
    bi_side_of := (fun_mk (st := s_side_of) h_lside_of h_cdside_of h_kside_of).binds (ps := ["graph", "dead", "switch"]) fun _ _ _ _ _ _ us hl => match us, hl with | [_, _, _], _ => rfl
    mg_side_of := PySem.W.mg_of X G h_aside_of
    kp_side_of := h_kside_of
    fn_cut_right := fun_mk (st := s_cut_right) h_lcut_right h_cdcut_right h_kcut_right
    bi_cut_right := (fun_mk (st := s_cut_right) h_lcut_right h_cdcut_right h_kcut_right).binds (ps := ["graph", "down", "first", "to", "dead", "side"]) fun _ _ _ _ _ _ us hl => match us, hl with | [_, _, _, _, _, _], _ => rfl
    mg_cut_right := PySem.W.mg_of X G h_acut_right
    kp_cut_right := h_kcut_right
    fn__law_state := fun_mk (st := s__law_state) h_l_law_state h_cd_law_state h_k_law_state
    bi__law_state := (fun_mk (st := s__law_state) h_l_law_state h_cd_law_state h_k_law_state).binds (ps := ["script"]) fun _ _ _ _ _ _ us hl => match us, hl with | [_], _ => rfl
    mg__law_state := PySem.W.mg_of X G h_a_law_state
    kp__law_state := h_k_law_state
    fn__law_draw := fun_mk (st := s__law_draw) h_l_law_draw h_cd_law_draw h_k_law_draw
    bi__law_draw := (fun_mk (st := s__law_draw) h_l_law_draw h_cd_law_draw h_k_law_draw).binds (ps := ["state", "many"]) fun _ _ _ _ _ _ us hl => match us, hl with | [_, _], _ => rfl
    mg__law_draw := PySem.W.mg_of X G h_a_law_draw
    kp__law_draw := h_k_law_draw
    fn__law_graph := fun_mk (st := s__law_graph) h_l_law_graph h_cd_law_graph h_k_law_graph
    bi__law_graph := (fun_mk (st := s__law_graph) h_l_law_graph h_cd_law_graph h_k_law_graph).binds (ps := ["state"]) fun _ _ _ _ _ _ us hl => match us, hl with | [_], _ => rfl
    mg__law_graph := PySem.W.mg_of X G h_a_law_graph
    kp__law_graph := h_k_law_graph
    fn__law_distances := fun_mk (st := s__law_distances) h_l_law_distances h_cd_law_distances h_k_law_distances
    bi__law_distances := (fun_mk (st := s__law_distances) h_l_law_distances h_cd_law_distances h_k_law_distances).binds (ps := ["graph", "dead", "to"]) fun _ _ _ _ _ _ us hl => match us, hl with | [_, _, _], _ => rfl
    mg__law_distances := PySem.W.mg_of X G h_a_law_distances
    kp__law_distances := h_k_law_distances
    fn__law_port := fun_mk (st := s__law_port) h_l_law_port h_cd_law_port h_k_law_port
    bi__law_port := (fun_mk (st := s__law_port) h_l_law_port h_cd_law_port h_k_law_port).binds (ps := ["graph", "dead", "switch", "to"]) fun _ _ _ _ _ _ us hl => match us, hl with | [_, _, _, _], _ => rfl
    mg__law_port := PySem.W.mg_of X G h_a_law_port
    kp__law_port := h_k_law_port
    fn__law_end := fun_mk (st := s__law_end) h_l_law_end h_cd_law_end h_k_law_end
    bi__law_end := (fun_mk (st := s__law_end) h_l_law_end h_cd_law_end h_k_law_end).binds (ps := ["graph", "end"]) fun _ _ _ _ _ _ us hl => match us, hl with | [_, _], _ => rfl
    mg__law_end := PySem.W.mg_of X G h_a_law_end
    kp__law_end := h_k_law_end
    fn__law_walk := fun_mk (st := s__law_walk) h_l_law_walk h_cd_law_walk h_k_law_walk
    bi__law_walk := (fun_mk (st := s__law_walk) h_l_law_walk h_cd_law_walk h_k_law_walk).binds (ps := ["graph", "down", "first", "to"]) fun _ _ _ _ _ _ us hl => match us, hl with | [_, _, _, _], _ => rfl
    mg__law_walk := PySem.W.mg_of X G h_a_law_walk
    kp__law_walk := h_k_law_walk
    fn__law_cut := fun_mk (st := s__law_cut) h_l_law_cut h_cd_law_cut h_k_law_cut
    bi__law_cut := (fun_mk (st := s__law_cut) h_l_law_cut h_cd_law_cut h_k_law_cut).binds (ps := ["graph", "down", "first", "to", "dead", "side"]) fun _ _ _ _ _ _ us hl => match us, hl with | [_, _, _, _, _, _], _ => rfl
    mg__law_cut := PySem.W.mg_of X G h_a_law_cut
    kp__law_cut := h_k_law_cut
    fn_law := fun_mk (st := s_law) h_llaw h_cdlaw h_klaw
    bi_law := (fun_mk (st := s_law) h_llaw h_cdlaw h_klaw).binds (ps := ["script"]) fun _ _ _ _ _ _ us hl => match us, hl with | [_], _ => rfl
    mg_law := PySem.W.mg_of X G h_alaw
    kp_law := h_klaw
    mg_sorted := PySem.W.mg_none_of X G h_bsorted
    mg_min := PySem.W.mg_none_of X G h_bmin
    mg_all := PySem.W.mg_none_of X G h_ball
    mg_abs := PySem.W.mg_none_of X G h_babs
    mg_int := PySem.W.mg_none_of X G h_bint
    mg_len := PySem.W.mg_none_of X G h_blen
    mg_range := PySem.W.mg_none_of X G h_brange
    mg_max := PySem.W.mg_none_of X G h_bmax
    mg_repr := PySem.W.mg_none_of X G h_brepr
    mg_list := PySem.W.mg_none_of X G h_blist
    mg_isinstance := PySem.W.mg_none_of X G h_bisinstance
    mg_tuple := PySem.W.mg_none_of X G h_btuple }
  exact ⟨_, fun s v => .of_eq rfl, fun base _ _ => ok_law T⟩
theorem walk {l : PySem.W.OpenLaw} {q : Program} {loose : List Str} {XP : (Str → Option Value) → Heap → Prop} {YP : World → Heap → Prop} {d : DefRec} {K : Params → PySem.W.Frag} (hn : l.most = some 63) (hdf : d.params.defaults = [])
    (hY : ∀ (w : World) (h : Heap), YP w h → (K w.params).In h)
    (F : ∀ (w : World) (mg : Str → Option Value) (fa : Addr) (h : Heap), (K w.params).In h → h.Ns mainGlobals mg → mg d.name = some (.ref fa) →
      ∃ fd : FuncData, (∀ (s : Shared) (u : Value), BindsTo s fd ⟨[u], []⟩ [("script", u)]) ∧ ∀ base : Heap, (K w.params).In base → base.Ns mainGlobals mg → LawRun l.prog w (K w.params) mg base 14 fa fd ["script"] (sp_law (K w.params))) :
    PySem.W.WalkO q loose XP YP l.row.toRowW d [] (fun f vs => PySem.call f vs) :=
  walk_run (n := 63) (k := 14) (x := "script") (sp := fun w => sp_law (K w.params)) hn (by decide) hdf ⟨rfl, by decide, by decide⟩ hY F (fun _ _ a ns hl _ hS => ⟨a, ns, rfl, hS, hl, fun _ => rfl⟩)
end K46

open PySem PySem.W PyProof.Rows in
set_option maxRecDepth 100000 in
set_option maxHeartbeats 0 in
theorem PySem.Challenge.cw_hangbridge_k46_whole_ways_around_dead_li_holds : PySem.Challenge.rw_hangbridge_k46_whole_ways_around_dead_li.Holds := by
  w_on; o_law; k_head; (case hw => w_witness2)
  k_fill
  refine K46.walk (l := PySem.Challenge.rw_hangbridge_k46_whole_ways_around_dead_li) rfl rfl (fun w h Y => PySem.W.kIn_of Y) ?F
  case F =>
    intro w mg fa h KX G hmg
    refine' K46.all_mk (l := PySem.Challenge.rw_hangbridge_k46_whole_ways_around_dead_li) rfl KX G hmg ?h_alink_of ?h_llink_of ?h_cdlink_of ?h_klink_of ?h_apeer ?h_lpeer ?h_cdpeer ?h_kpeer ?h_areached ?h_lreached ?h_cdreached ?h_kreached ?h_aends_at ?h_lends_at ?h_cdends_at ?h_kends_at ?h_aliving ?h_lliving ?h_cdliving ?h_kliving ?h_aother_end ?h_lother_end ?h_cdother_end ?h_kother_end ?h_adistances ?h_ldistances ?h_cddistances ?h_kdistances ?h_anext_port ?h_lnext_port ?h_cdnext_port ?h_knext_port ?h_awalk ?h_lwalk ?h_cdwalk ?h_kwalk ?h_aside_of ?h_lside_of ?h_cdside_of ?h_kside_of ?h_acut_right ?h_lcut_right ?h_cdcut_right ?h_kcut_right ?h_a_law_state ?h_l_law_state ?h_cd_law_state ?h_k_law_state ?h_a_law_draw ?h_l_law_draw ?h_cd_law_draw ?h_k_law_draw ?h_a_law_graph ?h_l_law_graph ?h_cd_law_graph ?h_k_law_graph ?h_a_law_distances ?h_l_law_distances ?h_cd_law_distances ?h_k_law_distances ?h_a_law_port ?h_l_law_port ?h_cd_law_port ?h_k_law_port ?h_a_law_end ?h_l_law_end ?h_cd_law_end ?h_k_law_end ?h_a_law_walk ?h_l_law_walk ?h_cd_law_walk ?h_k_law_walk ?h_a_law_cut ?h_l_law_cut ?h_cd_law_cut ?h_k_law_cut ?h_alaw ?h_llaw ?h_cdlaw ?h_klaw ?h_bsorted ?h_bmin ?h_ball ?h_babs ?h_bint ?h_blen ?h_brange ?h_bmax ?h_brepr ?h_blist ?h_bisinstance ?h_btuple
    (case h_alink_of => k_is)
    (case h_llink_of => k_is)
    (case h_cdlink_of => k_is)
    (case h_klink_of => k_is)
    (case h_apeer => k_is)
    (case h_lpeer => k_is)
    (case h_cdpeer => k_is)
    (case h_kpeer => k_is)
    (case h_areached => k_is)
    (case h_lreached => k_is)
    (case h_cdreached => k_is)
    (case h_kreached => k_is)
    (case h_aends_at => k_is)
    (case h_lends_at => k_is)
    (case h_cdends_at => k_is)
    (case h_kends_at => k_is)
    (case h_aliving => k_is)
    (case h_lliving => k_is)
    (case h_cdliving => k_is)
    (case h_kliving => k_is)
    (case h_aother_end => k_is)
    (case h_lother_end => k_is)
    (case h_cdother_end => k_is)
    (case h_kother_end => k_is)
    (case h_adistances => k_is)
    (case h_ldistances => k_is)
    (case h_cddistances => k_is)
    (case h_kdistances => k_is)
    (case h_anext_port => k_is)
    (case h_lnext_port => k_is)
    (case h_cdnext_port => k_is)
    (case h_knext_port => k_is)
    (case h_awalk => k_is)
    (case h_lwalk => k_is)
    (case h_cdwalk => k_is)
    (case h_kwalk => k_is)
    (case h_aside_of => k_is)
    (case h_lside_of => k_is)
    (case h_cdside_of => k_is)
    (case h_kside_of => k_is)
    (case h_acut_right => k_is)
    (case h_lcut_right => k_is)
    (case h_cdcut_right => k_is)
    (case h_kcut_right => k_is)
    (case h_a_law_state => k_is)
    (case h_l_law_state => k_is)
    (case h_cd_law_state => k_is)
    (case h_k_law_state => k_is)
    (case h_a_law_draw => k_is)
    (case h_l_law_draw => k_is)
    (case h_cd_law_draw => k_is)
    (case h_k_law_draw => k_is)
    (case h_a_law_graph => k_is)
    (case h_l_law_graph => k_is)
    (case h_cd_law_graph => k_is)
    (case h_k_law_graph => k_is)
    (case h_a_law_distances => k_is)
    (case h_l_law_distances => k_is)
    (case h_cd_law_distances => k_is)
    (case h_k_law_distances => k_is)
    (case h_a_law_port => k_is)
    (case h_l_law_port => k_is)
    (case h_cd_law_port => k_is)
    (case h_k_law_port => k_is)
    (case h_a_law_end => k_is)
    (case h_l_law_end => k_is)
    (case h_cd_law_end => k_is)
    (case h_k_law_end => k_is)
    (case h_a_law_walk => k_is)
    (case h_l_law_walk => k_is)
    (case h_cd_law_walk => k_is)
    (case h_k_law_walk => k_is)
    (case h_a_law_cut => k_is)
    (case h_l_law_cut => k_is)
    (case h_cd_law_cut => k_is)
    (case h_k_law_cut => k_is)
    (case h_alaw => k_is)
    (case h_llaw => k_is)
    (case h_cdlaw => k_is)
    (case h_klaw => k_is)
    (case h_bsorted => k_is)
    (case h_bmin => k_is)
    (case h_ball => k_is)
    (case h_babs => k_is)
    (case h_bint => k_is)
    (case h_blen => k_is)
    (case h_brange => k_is)
    (case h_bmax => k_is)
    (case h_brepr => k_is)
    (case h_blist => k_is)
    (case h_bisinstance => k_is)
    (case h_btuple => k_is)
