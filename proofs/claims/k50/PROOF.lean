import PyProof.Rows.All
import Wide.All
import OpenK.AllK
import Wide.FinOn
import HandS.ForMost
import HandS.Flow
import HandS.More
import HandS.IsInst
import HandS.Wide
import HandS.Style
import HandS.FStr
import HandS.Exc
import HandS.ExcInit
import HandS.ExcOwn
import HandS.ExcField
import HandS.ExcIs
import HandS.ClsMeth
import HandS.Codes
import HandS.TryOnly
import HandS.WordsExc
import KE.KExcIs
import KE.KIsAll
import KE.KExcSuper
import HandS.Small
import KE.KeyNested
import KE.KDictKeyed
import HandS.SortOrd
import HandS.SortRule
import HandS.Dict
import HandS.Iter
import HandS.Conv
import HandS.Deep
import KE.DataMinMax
import KE.SortData
import HandS.TupSets
import HandS.SetBool
import HandS.Zip
import HandS.Star
import HandS.SetKeys
import HandS.DictComp
import HandS.SortInts
import PyProof.ReprRoads
import PyProof.ReprLen
import PyProof.ReprBulk
import HandS.TupAny
import HandS.List
import KE.DataCmp
import KE.KIndexOf
import HandS.SortKw
import KE.KDictCopyH
import HandS.TupLen
import HandS.FStrTup
import PySem.Challenge.RW_hangbridge_k50_whole_new_policies_while
set_option Elab.async false
set_option maxRecDepth 100000
set_option maxHeartbeats 4000000
/-! A heap as what stood and what is our own; steps of readings over it. -/
namespace Hb
open PySem L2

/-- B stood and is kept; L are our own objects, each once -/
structure Hs (B : Hp) (L : List (Addr × HO)) (H : Hp) : Prop where
  same : Same B H
  nd : (L.map (·.1)).Nodup
  out : ∀ e ∈ L, B e.1 = none
  at_ : ∀ e ∈ L, H e.1 = some e.2

section
variable {B H H' : Hp} {L R A : List (Addr × HO)} {p l : Addr} {o o' : HO} {i : Nat}
theorem Hs.start (H : Hp) : Hs H [] H := ⟨Same.refl H, List.nodup_nil, (fun _ h => nomatch h), (fun _ h => nomatch h)⟩
theorem Hs.of_same (h : Same B H) : Hs B [] H := ⟨h, List.nodup_nil, (fun _ h => nomatch h), (fun _ h => nomatch h)⟩
theorem Hs.get (hs : Hs B L H) (h : L[i]? = some (p, o)) : H p = some o := hs.at_ (p, o) (List.mem_of_getElem? h)
theorem Hs.mem (hs : Hs B L H) (h : (p, o) ∈ L) : H p = some o := hs.at_ (p, o) h
theorem Hs.g0 (hs : Hs B ((p, o) :: L) H) : H p = some o := hs.get (i := 0) rfl
theorem Hs.g1 {x} (hs : Hs B (x :: (p, o) :: L) H) : H p = some o := hs.get (i := 1) rfl
theorem Hs.g2 {x y} (hs : Hs B (x :: y :: (p, o) :: L) H) : H p = some o := hs.get (i := 2) rfl
theorem Hs.g3 {x y z} (hs : Hs B (x :: y :: z :: (p, o) :: L) H) : H p = some o := hs.get (i := 3) rfl
theorem Hs.g4 {x y z w} (hs : Hs B (x :: y :: z :: w :: (p, o) :: L) H) : H p = some o := hs.get (i := 4) rfl
theorem Hs.g5 {x y z w v} (hs : Hs B (x :: y :: z :: w :: v :: (p, o) :: L) H) : H p = some o := hs.get (i := 5) rfl
theorem Hs.g6 {x y z w v u} (hs : Hs B (x :: y :: z :: w :: v :: u :: (p, o) :: L) H) : H p = some o := hs.get (i := 6) rfl
theorem Hs.g7 {x y z w v u t} (hs : Hs B (x :: y :: z :: w :: v :: u :: t :: (p, o) :: L) H) : H p = some o := hs.get (i := 7) rfl
theorem Hs.g8 {x y z w v u t s} (hs : Hs B (x :: y :: z :: w :: v :: u :: t :: s :: (p, o) :: L) H) : H p = some o := hs.get (i := 8) rfl
theorem Hs.g9 {x y z w v u t s r} (hs : Hs B (x :: y :: z :: w :: v :: u :: t :: s :: r :: (p, o) :: L) H) : H p = some o := hs.get (i := 9) rfl
theorem Hs.g10 {x y z w v u t s r q} (hs : Hs B (x :: y :: z :: w :: v :: u :: t :: s :: r :: q :: (p, o) :: L) H) : H p = some o := hs.get (i := 10) rfl
theorem Hs.g11 {x y z w v u t s r q n} (hs : Hs B (x :: y :: z :: w :: v :: u :: t :: s :: r :: q :: n :: (p, o) :: L) H) : H p = some o := hs.get (i := 11) rfl
theorem Hs.g12 {x y z w v u t s r q n m} (hs : Hs B (x :: y :: z :: w :: v :: u :: t :: s :: r :: q :: n :: m :: (p, o) :: L) H) : H p = some o := hs.get (i := 12) rfl
theorem Hs.g13 {x y z w v u t s r q n m k} (hs : Hs B (x :: y :: z :: w :: v :: u :: t :: s :: r :: q :: n :: m :: k :: (p, o) :: L) H) : H p = some o := hs.get (i := 13) rfl
theorem Hs.g14 {x y z w v u t s r q n m k j} (hs : Hs B (x :: y :: z :: w :: v :: u :: t :: s :: r :: q :: n :: m :: k :: j :: (p, o) :: L) H) : H p = some o := hs.get (i := 14) rfl
theorem Hs.g15 {x y z w v u t s r q n m k j h} (hs : Hs B (x :: y :: z :: w :: v :: u :: t :: s :: r :: q :: n :: m :: k :: j :: h :: (p, o) :: L) H) : H p = some o := hs.get (i := 15) rfl
theorem Hs.sql {K : PySem.W.Frag} {xs : List V} (hs : Hs B L H) (h : SqL K B p xs) : SqL K H p xs := hs.same.seq h
theorem Hs.old (hs : Hs B L H) (h : B p = some o) : H p = some o := hs.same _ _ h
theorem Hs.fresh (hs : Hs B L H) (h : H p = none) : p ∉ L.map (·.1) := fun m => by
  obtain ⟨e, he, rfl⟩ := List.mem_map.mp m
  rw [hs.at_ e he] at h
  cases h
/-- a new object -/
theorem Hs.new (hs : Hs B L H) (h : H p = none) : Hs B ((p, o) :: L) (upd H p o) := by
  have hf := hs.fresh h
  refine ⟨fun b u e => ?_, ?_, fun e he => ?_, fun e he => ?_⟩
  · rw [upd_ne (ne_of_none (hs.same b u e) h)]
    exact hs.same b u e
  · rw [List.map_cons, List.nodup_cons]
    exact ⟨hf, hs.nd⟩
  · rcases List.mem_cons.mp he with rfl | he
    · exact hs.same.free h
    · exact hs.out e he
  · rcases List.mem_cons.mp he with rfl | he
    · exact upd_same
    · rw [upd_ne (ne_of_none (hs.at_ e he) h)]
      exact hs.at_ e he
theorem set_fst : ∀ {L : List (Addr × HO)} {i : Nat} {p : Addr} {o o' : HO}, L[i]? = some (p, o) → (L.set i (p, o')).map (·.1) = L.map (·.1)
  | [], _, _, _, _, h => by simp at h
  | x :: L, 0, p, o, o', h => by
    have e : x = (p, o) := by simpa using h
    subst e
    rfl
  | x :: L, i + 1, p, o, o', h => by
    have := set_fst (L := L) (i := i) (o' := o') (by simpa using h)
    show _ :: ((L.set i (p, o')).map (·.1)) = _ :: L.map (·.1)
    rw [this]
theorem nd_only : ∀ {L : List (Addr × HO)} {e : Addr × HO} {i : Nat} {p : Addr} {o o' : HO}, (L.map (·.1)).Nodup → L[i]? = some (p, o) → e ∈ L.set i (p, o') → e = (p, o') ∨ (e ∈ L ∧ e.1 ≠ p)
  | [], _, _, _, _, _, _, h, _ => by simp at h
  | x :: L, e, 0, p, o, o', nd, h, m => by
    have ex : x = (p, o) := by simpa using h
    subst ex
    rcases List.mem_cons.mp m with rfl | m
    · exact .inl rfl
    · refine .inr ⟨List.mem_cons_of_mem _ m, fun q => ?_⟩
      rw [List.map_cons, List.nodup_cons] at nd
      exact nd.1 (List.mem_map.mpr ⟨e, m, q⟩)
  | x :: L, e, i + 1, p, o, o', nd, h, m => by
    rw [List.map_cons, List.nodup_cons] at nd
    have h' : L[i]? = some (p, o) := by simpa using h
    rcases List.mem_cons.mp m with rfl | m
    · refine .inr ⟨List.mem_cons_self, fun q => ?_⟩
      exact nd.1 (List.mem_map.mpr ⟨(p, o), List.mem_of_getElem? h', q.symm⟩)
    · rcases nd_only nd.2 h' m with r | ⟨r, q⟩
      · exact .inl r
      · exact .inr ⟨List.mem_cons_of_mem _ r, q⟩
/-- a store to one's own object -/
theorem Hs.put (hs : Hs B L H) (h : L[i]? = some (p, o)) : Hs B (L.set i (p, o')) (upd H p o') := by
  have hp : B p = none := hs.out (p, o) (List.mem_of_getElem? h)
  refine ⟨fun b u e => ?_, ?_, fun e he => ?_, fun e he => ?_⟩
  · have n : b ≠ p := fun q => by
      rw [q, hp] at e
      cases e
    rw [upd_ne n]
    exact hs.same b u e
  · rw [set_fst h]
    exact hs.nd
  · rcases nd_only hs.nd h he with rfl | ⟨m, _⟩
    · exact hp
    · exact hs.out e m
  · rcases nd_only hs.nd h he with rfl | ⟨m, q⟩
    · exact upd_same
    · rw [upd_ne q]
      exact hs.at_ e m
theorem Hs.p0 (o' : HO) (hs : Hs B ((p, o) :: L) H) : Hs B ((p, o') :: L) (upd H p o') := hs.put (i := 0) rfl
theorem Hs.p1 (o' : HO) {x} (hs : Hs B (x :: (p, o) :: L) H) : Hs B (x :: (p, o') :: L) (upd H p o') := hs.put (i := 1) rfl
theorem Hs.p2 (o' : HO) {x y} (hs : Hs B (x :: y :: (p, o) :: L) H) : Hs B (x :: y :: (p, o') :: L) (upd H p o') := hs.put (i := 2) rfl
theorem Hs.p3 (o' : HO) {x y z} (hs : Hs B (x :: y :: z :: (p, o) :: L) H) : Hs B (x :: y :: z :: (p, o') :: L) (upd H p o') := hs.put (i := 3) rfl
theorem Hs.p4 (o' : HO) {x y z w} (hs : Hs B (x :: y :: z :: w :: (p, o) :: L) H) : Hs B (x :: y :: z :: w :: (p, o') :: L) (upd H p o') := hs.put (i := 4) rfl
theorem Hs.p5 (o' : HO) {x y z w v} (hs : Hs B (x :: y :: z :: w :: v :: (p, o) :: L) H) : Hs B (x :: y :: z :: w :: v :: (p, o') :: L) (upd H p o') := hs.put (i := 5) rfl
theorem Hs.p6 (o' : HO) {x y z w v u} (hs : Hs B (x :: y :: z :: w :: v :: u :: (p, o) :: L) H) : Hs B (x :: y :: z :: w :: v :: u :: (p, o') :: L) (upd H p o') := hs.put (i := 6) rfl
theorem Hs.p7 (o' : HO) {x y z w v u t} (hs : Hs B (x :: y :: z :: w :: v :: u :: t :: (p, o) :: L) H) : Hs B (x :: y :: z :: w :: v :: u :: t :: (p, o') :: L) (upd H p o') := hs.put (i := 7) rfl
/-- L with o' in the place of o at p -/
inductive Put : List (Addr × HO) → Addr → HO → HO → List (Addr × HO) → Prop
  | here {p : Addr} {o o' : HO} {L : List (Addr × HO)} : Put ((p, o) :: L) p o o' ((p, o') :: L)
  | there {p : Addr} {o o' : HO} {x : Addr × HO} {L L' : List (Addr × HO)} : Put L p o o' L' → Put (x :: L) p o o' (x :: L')
theorem Put.ix {L' : List (Addr × HO)} (h : Put L p o o' L') : ∃ i : Nat, L[i]? = some (p, o) ∧ L' = L.set i (p, o') := by
  induction h with
  | here => exact ⟨0, rfl, rfl⟩
  | there _ ih =>
    obtain ⟨i, h1, h2⟩ := ih
    exact ⟨i + 1, by simpa using h1, by rw [h2]; rfl⟩
theorem Hs.puts {L' : List (Addr × HO)} (hs : Hs B L H) (h : Put L p o o' L') : Hs B L' (upd H p o') := by
  obtain ⟨i, h1, rfl⟩ := h.ix
  exact hs.put h1
theorem Hs.gets {L' : List (Addr × HO)} (hs : Hs B L H) (h : Put L p o o' L') : H p = some o := by
  obtain ⟨i, h1, _⟩ := h.ix
  exact hs.get h1
/-- any part of our own, in any order -/
theorem Hs.sub (hs : Hs B L H) (h : R.Sublist L) : Hs B R H :=
  ⟨hs.same, hs.nd.sublist (h.map _), fun e he => hs.out e (h.subset he), fun e he => hs.at_ e (h.subset he)⟩
theorem Hs.perm (hs : Hs B L H) (h : R.Perm L) : Hs B R H :=
  ⟨hs.same, (h.map (·.1)).nodup_iff.mpr hs.nd, fun e he => hs.out e (h.subset he), fun e he => hs.at_ e (h.subset he)⟩
theorem Hs.tl {x} (hs : Hs B (x :: L) H) : Hs B L H := hs.sub (List.sublist_cons_self _ _)
/-- the i-th ahead -/
theorem up_perm : ∀ {L : List (Addr × HO)} {i : Nat} {x : Addr × HO}, L[i]? = some x → (x :: L.eraseIdx i).Perm L
  | [], _, _, h => by simp at h
  | y :: L, 0, x, h => by
    have e : y = x := by simpa using h
    subst e
    exact .refl _
  | y :: L, i + 1, x, h => (List.Perm.swap y x _).trans ((up_perm (L := L) (i := i) (by simpa using h)).cons y)
theorem Hs.up (i : Nat) (hs : Hs B L H) {x} (h : L[i]? = some x := by rfl) : Hs B (x :: L.eraseIdx i) H := by
  exact hs.perm (up_perm h)
theorem Hs.del (i : Nat) (hs : Hs B L H) : Hs B (L.eraseIdx i) H := hs.sub (List.eraseIdx_sublist _ _)
theorem Hs.m1 {a b} (hs : Hs B (a :: b :: L) H) : Hs B (b :: a :: L) H := hs.up 1
theorem Hs.m2 {a b c} (hs : Hs B (a :: b :: c :: L) H) : Hs B (c :: a :: b :: L) H := hs.up 2
theorem Hs.m3 {a b c d} (hs : Hs B (a :: b :: c :: d :: L) H) : Hs B (d :: a :: b :: c :: L) H := hs.up 3
theorem Hs.m4 {a b c d e} (hs : Hs B (a :: b :: c :: d :: e :: L) H) : Hs B (e :: a :: b :: c :: d :: L) H := hs.up 4
theorem Hs.m5 {a b c d e f} (hs : Hs B (a :: b :: c :: d :: e :: f :: L) H) : Hs B (f :: a :: b :: c :: d :: e :: L) H := hs.up 5
theorem Hs.m6 {a b c d e f g} (hs : Hs B (a :: b :: c :: d :: e :: f :: g :: L) H) : Hs B (g :: a :: b :: c :: d :: e :: f :: L) H := hs.up 6
theorem Hs.m7 {a b c d e f g h} (hs : Hs B (a :: b :: c :: d :: e :: f :: g :: h :: L) H) : Hs B (h :: a :: b :: c :: d :: e :: f :: g :: L) H := hs.up 7
theorem Hs.d1 {a b} (hs : Hs B (a :: b :: L) H) : Hs B (a :: L) H := hs.del 1
theorem Hs.d2 {a b c} (hs : Hs B (a :: b :: c :: L) H) : Hs B (a :: b :: L) H := hs.del 2
theorem Hs.d3 {a b c d} (hs : Hs B (a :: b :: c :: d :: L) H) : Hs B (a :: b :: c :: L) H := hs.del 3
theorem Hs.d4 {a b c d e} (hs : Hs B (a :: b :: c :: d :: e :: L) H) : Hs B (a :: b :: c :: d :: L) H := hs.del 4
theorem Hs.d5 {a b c d e f} (hs : Hs B (a :: b :: c :: d :: e :: f :: L) H) : Hs B (a :: b :: c :: d :: e :: L) H := hs.del 5
theorem Hs.d6 {a b c d e f g} (hs : Hs B (a :: b :: c :: d :: e :: f :: g :: L) H) : Hs B (a :: b :: c :: d :: e :: f :: L) H := hs.del 6
theorem sel_mem {idx : List Nat} {e : Addr × HO} (h : e ∈ idx.filterMap (fun i => L[i]?)) : ∃ i ∈ idx, L[i]? = some e := by
  obtain ⟨i, hi, e⟩ := List.mem_filterMap.mp h
  exact ⟨i, hi, e⟩
theorem sel_nd (nd : (L.map (·.1)).Nodup) : ∀ {idx : List Nat}, idx.Nodup → ((idx.filterMap (fun i => L[i]?)).map (·.1)).Nodup
  | [], _ => List.nodup_nil
  | i :: idx, h => by
    rw [List.nodup_cons] at h
    rw [List.filterMap_cons]
    cases e : L[i]? with
    | none => exact sel_nd nd h.2
    | some x =>
      rw [List.map_cons, List.nodup_cons]
      refine ⟨fun m => ?_, sel_nd nd h.2⟩
      obtain ⟨y, hy, q⟩ := List.mem_map.mp m
      obtain ⟨j, hj, ej⟩ := sel_mem hy
      have a : (L.map (·.1))[i]? = some x.1 := by rw [List.getElem?_map, e]; rfl
      have b : (L.map (·.1))[j]? = some x.1 := by rw [List.getElem?_map, ej]; exact congrArg some q
      rw [nd_ix nd a b] at h
      exact h.1 hj
/-- some of our own, by places -/
theorem Hs.sel (hs : Hs B L H) (idx : List Nat) (h : idx.Nodup := by decide) : Hs B (idx.filterMap (fun i => L[i]?)) H :=
  ⟨hs.same, sel_nd hs.nd h, fun e he => by
    obtain ⟨i, _, q⟩ := sel_mem he
    exact hs.out e (List.mem_of_getElem? q), fun e he => by
    obtain ⟨i, _, q⟩ := sel_mem he
    exact hs.at_ e (List.mem_of_getElem? q)⟩
/-- a callee that owns A; what else is ours stands for it -/
def around (A : List (Addr × HO)) (H : Hp) : Hp := fun a => if a ∈ A.map (·.1) then none else H a
theorem around_out {a : Addr} (h : a ∉ A.map (·.1)) : around A H a = H a := if_neg h
theorem Hs.frame (A : List (Addr × HO)) (hs : Hs B (A ++ R) H) : Same B (around A H) ∧ Hs (around A H) A H ∧ ∀ A' H', Hs (around A H) A' H' → Hs B (A' ++ R) H' := by
  have nd := hs.nd
  rw [List.map_append, List.nodup_append] at nd
  obtain ⟨n1, n2, n3⟩ := nd
  have sb : Same B (around A H) := fun b u e => by
    rw [around_out fun m => ?_]
    · exact hs.same b u e
    · obtain ⟨z, hz, rfl⟩ := List.mem_map.mp m
      rw [hs.out z (List.mem_append_left _ hz)] at e
      cases e
  refine ⟨sb, ⟨fun b u e => ?_, n1, fun e he => if_pos (List.mem_map.mpr ⟨e, he, rfl⟩), fun e he => hs.at_ e (List.mem_append_left _ he)⟩, fun A' H' h => ?_⟩
  · unfold around at e
    split at e
    · cases e
    · exact e
  · have fr : ∀ e ∈ R, around A H e.1 = some e.2 := fun e he => by
      rw [around_out fun m => n3 _ m _ (List.mem_map.mpr ⟨e, he, rfl⟩) rfl]
      exact hs.at_ e (List.mem_append_right _ he)
    refine ⟨fun b u e => h.same b u (sb b u e), ?_, fun e he => ?_, fun e he => ?_⟩
    · rw [List.map_append, List.nodup_append]
      refine ⟨h.nd, n2, fun a ha b hb q => ?_⟩
      subst q
      obtain ⟨x, hx, rfl⟩ := List.mem_map.mp ha
      obtain ⟨y, hy, q⟩ := List.mem_map.mp hb
      have h1 := h.out x hx
      have h2 := fr y hy
      rw [q, h1] at h2
      cases h2
    · rcases List.mem_append.mp he with he | he
      · exact sb.free (h.out e he)
      · exact hs.out e (List.mem_append_right _ he)
    · rcases List.mem_append.mp he with he | he
      · exact h.at_ e he
      · exact h.same _ _ (fr e he)
theorem Hs.frame1 {x} (hs : Hs B (x :: R) H) : ∃ B', Same B B' ∧ Hs B' [x] H ∧ ∀ A' H', Hs B' A' H' → Hs B (A' ++ R) H' := ⟨_, hs.frame [x]⟩
theorem Hs.frame2 {x y} (hs : Hs B (x :: y :: R) H) : ∃ B', Same B B' ∧ Hs B' [x, y] H ∧ ∀ A' H', Hs B' A' H' → Hs B (A' ++ R) H' := ⟨_, hs.frame [x, y]⟩
theorem Hs.frame3 {x y z} (hs : Hs B (x :: y :: z :: R) H) : ∃ B', Same B B' ∧ Hs B' [x, y, z] H ∧ ∀ A' H', Hs B' A' H' → Hs B (A' ++ R) H' := ⟨_, hs.frame [x, y, z]⟩
theorem Hs.frame4 {x y z w} (hs : Hs B (x :: y :: z :: w :: R) H) : ∃ B', Same B B' ∧ Hs B' [x, y, z, w] H ∧ ∀ A' H', Hs B' A' H' → Hs B (A' ++ R) H' := ⟨_, hs.frame [x, y, z, w]⟩
theorem Hs.frame5 {x y z w v} (hs : Hs B (x :: y :: z :: w :: v :: R) H) : ∃ B', Same B B' ∧ Hs B' [x, y, z, w, v] H ∧ ∀ A' H', Hs B' A' H' → Hs B (A' ++ R) H' := ⟨_, hs.frame [x, y, z, w, v]⟩
theorem Hs.frame6 {x y z w v u} (hs : Hs B (x :: y :: z :: w :: v :: u :: R) H) : ∃ B', Same B B' ∧ Hs B' [x, y, z, w, v, u] H ∧ ∀ A' H', Hs B' A' H' → Hs B (A' ++ R) H' := ⟨_, hs.frame [x, y, z, w, v, u]⟩
/-- a callee that only makes objects -/
theorem Hs.add {N : List (Addr × HO)} (hs : Hs B L H) (h : Hs H N H') : Hs B (N ++ L) H' := by
  refine ⟨fun b u e => h.same b u (hs.same b u e), ?_, fun e he => ?_, fun e he => ?_⟩
  · rw [List.map_append, List.nodup_append]
    refine ⟨h.nd, hs.nd, fun a ha b hb q => ?_⟩
    subst q
    obtain ⟨x, hx, rfl⟩ := List.mem_map.mp ha
    obtain ⟨y, hy, q⟩ := List.mem_map.mp hb
    have h1 := h.out x hx
    have h2 := hs.at_ y hy
    rw [q, h1] at h2
    cases h2
  · rcases List.mem_append.mp he with he | he
    · exact hs.same.free (h.out e he)
    · exact hs.out e he
  · rcases List.mem_append.mp he with he | he
    · exact h.at_ e he
    · exact h.same _ _ (hs.at_ e he)
/-- a new object that nobody changes any more: it stands -/
theorem Hs.freeze (hs : Hs B ((p, o) :: L) H) : Same B (upd B p o) ∧ Hs (upd B p o) L H := by
  have hp := hs.out (p, o) List.mem_cons_self
  have nd := hs.nd
  rw [List.map_cons, List.nodup_cons] at nd
  refine ⟨fun b u e => ?_, ⟨fun b u e => ?_, nd.2, fun e he => ?_, fun e he => hs.at_ e (List.mem_cons_of_mem _ he)⟩⟩
  · rw [upd_ne (ne_of_none e hp)]
    exact e
  · unfold upd at e
    split at e
    · next q =>
      subst q
      cases e
      exact hs.g0
    · exact hs.same b u e
  · have n : e.1 ≠ p := fun q => nd.1 (by rw [← q]; exact List.mem_map.mpr ⟨e, he, rfl⟩)
    rw [upd_ne n]
    exact hs.out e (List.mem_cons_of_mem _ he)
end

/-! ### steps: a reading's head, what is left -/
section
variable {K : PySem.W.Frag} {σ : St} {H : Hp} {Q : VK} {D : Ends} {ta tb tc te tv to ti : TE} {t u tr : TS} {c d : TT} {r r' : R2} {g : TG} {i : Nat} {v x y : V} {E : XK} {ts : TA} {f m : Str} {p : Addr}
theorem w_var (h : σ[i]? = some (some v)) (q : Q v H) : tVar i σ H Q := ⟨v, h, q⟩
theorem w_c (q : Q v H) : tC v σ H Q := q
theorem w_seq (q : t { D with nx := u D } σ H) : tSeq t u D σ H := q
theorem w_next (q : D.nx σ H) : tNext D σ H := q
theorem w_brk (q : D.bk σ H) : tBreak D σ H := q
theorem w_cont (q : D.ct σ H) : tCont D σ H := q
theorem w_drop (q : te σ H fun _ H1 => D.nx σ H1) : tDrop te D σ H := q
theorem w_ret (q : te σ H D.rt) : tRet te D σ H := q
theorem w_retN (q : D.rt .non H) : tRetN D σ H := q
theorem w_asg (q : te σ H fun x H1 => g x σ H1 D.nx) : tAsg te g D σ H := q
theorem w_name {Q : St → Hp → Prop} (q : Q (σ.set i (some v)) H) : gName i v σ H Q := q
theorem w_if (q : c σ H fun b H1 => if b = true then t D σ H1 else u D σ H1) : tIfS c t u D σ H := q
theorem w_test {Q : Bool → Hp → Prop} (q : te σ H fun x H1 => ∃ k, x = .bl k ∧ Q k H1) : tTest te σ H Q := q
theorem w_B {Q : Bool → Hp → Prop} (q : te σ H fun x H1 => ∃ k, x = .bl k ∧ Q k H1) : tB te σ H Q := q
theorem w_exb {b : Bool} {P : Bool → Prop} (q : P b) : ∃ k, V.bl b = .bl k ∧ P k := ⟨b, rfl, q⟩
theorem w_not {Q : Bool → Hp → Prop} (q : c σ H fun b H1 => Q (!b) H1) : tNot c σ H Q := q
theorem w_and {Q : Bool → Hp → Prop} (q : c σ H fun b H1 => if b = true then d σ H1 Q else Q false H1) : tAnd c d σ H Q := q
theorem w_or {Q : Bool → Hp → Prop} (q : c σ H fun b H1 => if b = true then Q true H1 else d σ H1 Q) : tOr c d σ H Q := q
theorem w_andV (q : ta σ H fun x H1 => ∃ k, x = .bl k ∧ if k = true then tb σ H1 Q else Q (.bl false) H1) : tAndV ta tb σ H Q := q
theorem w_orV (q : ta σ H fun x H1 => ∃ k, x = .bl k ∧ if k = true then Q (.bl true) H1 else tb σ H1 Q) : tOrV ta tb σ H Q := q
theorem w_notV (q : ta σ H fun x H1 => ∃ k, x = .bl k ∧ Q (.bl (!k)) H1) : tNotV ta σ H Q := q
theorem w_ifE (q : c σ H fun b H1 => if b = true then ta σ H1 Q else tb σ H1 Q) : tIf c ta tb σ H Q := q
theorem w_op (q : ta σ H fun x H1 => tb σ H1 fun y H2 => r x y H2 Q) : tOp r ta tb σ H Q := q
theorem w_un {r : V → Hp → VK → Prop} (q : ta σ H fun x H1 => r x H1 Q) : tUn r ta σ H Q := q
theorem w_chain (q : ta σ H fun x H1 => tb σ H1 fun y H2 => r x y H2 fun z H3 => ∃ k, z = .bl k ∧ if k = true then tc σ H3 fun w H4 => r' y w H4 Q else Q (.bl false) H3) : tChain r r' ta tb tc σ H Q := q
theorem w_I0 {g : Int → Int → V} {a b : Int} (q : Q (g a b) H) : rI0 g (.int a) (.int b) H Q := ⟨a, b, rfl, rfl, q⟩
theorem w_I {C : Int → Int → Prop} {g : Int → Int → V} {a b : Int} (h : C a b) (q : Q (g a b) H) : rI C g (.int a) (.int b) H Q := ⟨a, b, rfl, rfl, h, q⟩
theorem w_U {g : Int → V} {a : Int} (q : Q (g a) H) : rU g (.int a) H Q := ⟨a, rfl, q⟩
theorem w_eqI {a b : Int} (q : Q (.bl (decide (a = b))) H) : rEq (.int a) (.int b) H Q := ⟨rfl, by
  have e : decide (V.int a = V.int b) = decide (a = b) := by
    rw [dec_int]
    by_cases h : a = b
    · rw [decide_eq_true h]
      exact beq_iff_eq.mpr h
    · rw [decide_eq_false h]
      exact beq_eq_false_iff_ne.mpr h
  rw [e]
  exact q⟩
theorem w_neI {a b : Int} (q : Q (.bl (!decide (a = b))) H) : rNe (.int a) (.int b) H Q := ⟨rfl, by
  have e : decide (V.int a = V.int b) = decide (a = b) := by
    rw [dec_int]
    by_cases h : a = b
    · rw [decide_eq_true h]
      exact beq_iff_eq.mpr h
    · rw [decide_eq_false h]
      exact beq_eq_false_iff_ne.mpr h
  rw [e]
  exact q⟩
theorem w_eq (h : scal x y = true) (q : Q (.bl (decide (x = y))) H) : rEq x y H Q := ⟨h, q⟩
theorem w_ne (h : scal x y = true) (q : Q (.bl (!decide (x = y))) H) : rNe x y H Q := ⟨h, q⟩
theorem w_ixL {xs : List V} {j : Int} (h : SqL K H p xs) (a : atI xs j = some v) (q : Q v H) : rIxL K (.ref p) (.int j) H Q := ⟨p, xs, j, v, rfl, rfl, h, a, q⟩
theorem w_ixT {xs : List V} {j : Int} (h : SqT K H p xs) (a : atI xs j = some v) (q : Q v H) : rIxT K (.ref p) (.int j) H Q := ⟨p, xs, j, v, rfl, rfl, h, a, q⟩
theorem at0 {x : V} {xs : List V} : atI (x :: xs) 0 = some x := at_of (j := 0) rfl rfl
theorem at1 {x y : V} {xs : List V} : atI (x :: y :: xs) 1 = some y := at_of (j := 1) rfl rfl
theorem at2 {x y z : V} {xs : List V} : atI (x :: y :: z :: xs) 2 = some z := at_of (j := 2) rfl rfl
theorem at3 {x y z u : V} {xs : List V} : atI (x :: y :: z :: u :: xs) 3 = some u := at_of (j := 3) rfl rfl
/-- a field's value -/
def Fl (K : PySem.W.Frag) (f : Str) (x : V) (H : Hp) (Q : VK) : Prop := ∃ a C dx fs v, x = .ref a ∧ H a = some (.ins C dx fs) ∧ Cls K C ∧ NoAttr K C f ∧ fs.lookup f = some v ∧ Q v H
theorem w_fld (q : ta σ H fun x H1 => Fl K f x H1 Q) : tFld K ta f σ H Q := q
theorem w_fl {C dx : Addr} {fs : List (Str × V)} (h : H p = some (.ins C dx fs)) (hc : Cls K C) (hn : NoAttr K C f) (hl : fs.lookup f = some v) (q : Q v H) : Fl K f (.ref p) H Q := ⟨p, C, dx, fs, v, rfl, h, hc, hn, hl, q⟩
/-- a field's store -/
def Fs (K : PySem.W.Frag) (f : Str) (y x : V) (H : Hp) (R : Hp → Prop) : Prop := ∃ a C dx fs, x = .ref a ∧ H a = some (.ins C dx fs) ∧ Cls K C ∧ NoAttr K C f ∧ fs.length < 1000 ∧ R (upd H a (.ins C dx (putF f y fs)))
theorem w_sfld (q : tv σ H fun y H1 => ta σ H1 fun x H2 => Fs K f y x H2 (D.nx σ)) : sFld K ta tv f D σ H := q
theorem w_fs {R : Hp → Prop} {C dx : Addr} {fs : List (Str × V)} (h : H p = some (.ins C dx fs)) (hc : Cls K C) (hn : NoAttr K C f) (hl : fs.length < 1000) (q : R (upd H p (.ins C dx (putF f y fs)))) : Fs K f y (.ref p) H R := ⟨p, C, dx, fs, rfl, h, hc, hn, hl, q⟩
theorem lk0 {k : Str} {v : V} {r : List (Str × V)} : ((k, v) :: r).lookup k = some v := by simp [List.lookup]
theorem lk1 {k k' : Str} {v w : V} {r : List (Str × V)} (h : ¬ k = k') (q : r.lookup k = some w) : ((k', v) :: r).lookup k = some w := by
  have e : (k == k') = false := beq_eq_false_iff_ne.mpr h
  show (match k == k' with | true => some v | false => List.lookup k r) = some w
  rw [e]
  exact q
theorem lkn {k k' : Str} {v : V} {r : List (Str × V)} (h : ¬ k = k') (q : r.lookup k = none) : ((k', v) :: r).lookup k = none := by
  have e : (k == k') = false := beq_eq_false_iff_ne.mpr h
  show (match k == k' with | true => some v | false => List.lookup k r) = none
  rw [e]
  exact q
theorem lke {k : Str} : ([] : List (Str × V)).lookup k = none := rfl
theorem pu0 {k : Str} {v w : V} {r : List (Str × V)} : putF k w ((k, v) :: r) = (k, w) :: r := by
  show (if k = k then _ else _) = _
  rw [if_pos rfl]
theorem pu1 {k k' : Str} {v w : V} {r : List (Str × V)} (h : ¬ k' = k) : putF k w ((k', v) :: r) = (k', v) :: putF k w r := by
  show (if k' = k then _ else _) = _
  rw [if_neg h]
theorem pu2 {k k' : Str} {v w : V} {r r' : List (Str × V)} (h : ¬ k' = k) (q : putF k w r = r') : putF k w ((k', v) :: r) = (k', v) :: r' := by
  rw [pu1 h, q]
theorem pue {k : Str} {w : V} : putF k w [] = [(k, w)] := rfl
theorem w_yes {Q : Bool → Hp → Prop} (q : Q true H) : tYes σ H Q := q
theorem w_nil {Q : List V → Hp → Prop} (q : Q [] H) : tNil σ H Q := q
theorem w_cons {Q : List V → Hp → Prop} (q : ta σ H fun x H1 => ts σ H1 fun xs H2 => Q (x :: xs) H2) : tCons ta ts σ H Q := q
theorem w_cb {r : List V → Hp → VK → Prop} (q : ts σ H fun vs H1 => r vs H1 Q) : tCB r ts σ H Q := q
theorem w_call {sp : Sp} {dvs : List V} (q : ts σ H fun vs H1 => sp (vs ++ dvs) H1 Q E) : tCall sp dvs E ts σ H Q := q
/-- a new instance -/
def Mkr (C : Addr) (sp : Sp) (vs : List V) (E : XK) (Q : VK) (H : Hp) : Prop := ∀ x dx, H x = none → H dx = none → dx ≠ x → sp (.ref x :: vs) (upd (upd H dx (.own x)) x (.ins C dx [])) (fun v H2 => v = .non ∧ Q (.ref x) H2) E
theorem w_make {C : Addr} {sp : Sp} {dvs : List V} (q : ts σ H fun vs H1 => Mkr C sp (vs ++ dvs) E Q H1) : tMake C sp dvs E ts σ H Q := q
theorem w_mkr {C : Addr} {sp : Sp} {vs : List V} {B : Hp} {L : List (Addr × HO)} (hs : Hs B L H) (q : ∀ x dx H', Hs B ((x, .ins C dx []) :: L) H' → sp (.ref x :: vs) H' (fun v H2 => v = .non ∧ Q (.ref x) H2) E) : Mkr C sp vs E Q H := fun x dx hx hd ne =>
  q x dx _ ((hs.new hd).new (p := x) (by rw [upd_ne ne.symm]; exact hx)).d1
/-- an own method's receiver -/
def Rc (m : Str) (C : Addr) (x : V) (H : Hp) (R : Prop) : Prop := ∃ a dx fs, x = .ref a ∧ H a = some (.ins C dx fs) ∧ fs.lookup m = none ∧ R
theorem w_meth {C : Addr} {sp : Sp} {dvs : List V} (q : ta σ H fun x H1 => Rc m C x H1 (ts σ H1 fun vs H2 => sp (x :: (vs ++ dvs)) H2 Q E)) : tMeth C m sp dvs E ta ts σ H Q := by
  revert q
  unfold tMeth Rc
  exact id
theorem w_rc {C dx : Addr} {fs : List (Str × V)} {R : Prop} (h : H p = some (.ins C dx fs)) (hl : fs.lookup m = none) (q : R) : Rc m C (.ref p) H R := ⟨p, dx, fs, rfl, h, hl, q⟩
theorem w_bm {T : String} {r : V → List V → Hp → VK → Prop} (q : to σ H fun x H1 => tyV K T x H1 ∧ ts σ H1 fun xs H2 => r x xs H2 Q) : tBM K T r to ts σ H Q := q
theorem w_bm0 {T : String} {r : V → List V → Hp → VK → Prop} (q : to σ H fun x H1 => tyV K T x H1 ∧ r x [] H1 Q) : tBM0 K T r to σ H Q := q
theorem w_tyL {xs : List V} {R : Prop} (h : SqL K H p xs) (q : R) : tyV K "list" (.ref p) H ∧ R := ⟨.inl ⟨rfl, _, h⟩, q⟩
theorem w_tyS {s : Str} {R : Prop} (q : R) : tyV K "str" (.str s) H ∧ R := ⟨rfl, q⟩
/-- a new list, a new tuple -/
def NewL (Q : VK) (xs : List V) (H : Hp) : Prop := xs.length ≤ sizeLine ∧ ∀ p, H p = none → Q (.ref p) (upd H p (.lst xs))
def NewT (Q : VK) (xs : List V) (H : Hp) : Prop := xs.length ≤ sizeLine ∧ ∀ p, H p = none → Q (.ref p) (upd H p (.tup xs))
theorem w_tup (q : ts σ H fun xs H1 => NewT Q xs H1) : tTup ts σ H Q := q
theorem w_lst (q : ts σ H fun xs H1 => NewL Q xs H1) : tLst ts σ H Q := q
theorem w_new {B : Hp} {L : List (Addr × HO)} {o : HO} (hs : Hs B L H) (q : ∀ p H', Hs B ((p, o) :: L) H' → Q (.ref p) H') : ∀ p, H p = none → Q (.ref p) (upd H p o) := fun p hp => q p _ (hs.new hp)
theorem w_newL {B : Hp} {L : List (Addr × HO)} {xs : List V} (hs : Hs B L H) (hl : xs.length ≤ sizeLine) (q : ∀ p H', Hs B ((p, .lst xs) :: L) H' → Q (.ref p) H') : NewL Q xs H := ⟨hl, w_new hs q⟩
theorem w_newT {B : Hp} {L : List (Addr × HO)} {xs : List V} (hs : Hs B L H) (hl : xs.length ≤ sizeLine) (q : ∀ p H', Hs B ((p, .tup xs) :: L) H' → Q (.ref p) H') : NewT Q xs H := ⟨hl, w_new hs q⟩
theorem w_sl {r : V → Option Int → Option Int → Hp → VK → Prop} {tl th : TO} (q : te σ H fun x H1 => tl σ H1 fun l H2 => th σ H2 fun u H3 => r x l u H3 Q) : tSl r te tl th σ H Q := q
theorem w_noPart {Q : Option Int → Hp → Prop} (q : Q none H) : tNoPart σ H Q := q
theorem w_part {Q : Option Int → Hp → Prop} (q : te σ H fun x H1 => ∃ i, x = .int i ∧ Q (some i) H1) : tPart te σ H Q := q
theorem w_exi {b : Int} {P : Int → Prop} (q : P b) : ∃ k, V.int b = .int k ∧ P k := ⟨b, rfl, q⟩
theorem w_slL {B : Hp} {L : List (Addr × HO)} {xs : List V} {lo hi : Option Int} (hs : Hs B L H) (h : SqL K H p xs) (q : ∀ l H', Hs B ((l, .lst (cutV xs lo hi)) :: L) H' → Q (.ref l) H') : rSlL K (.ref p) lo hi H Q := ⟨p, xs, rfl, h, w_new hs q⟩
theorem w_cat {B : Hp} {L : List (Addr × HO)} {a b : Addr} {xs ys : List V} (hs : Hs B L H) (ha : H a = some (.lst xs)) (hb : H b = some (.lst ys)) (hl : xs.length + ys.length ≤ sizeLine) (q : ∀ l H', Hs B ((l, .lst (xs ++ ys)) :: L) H' → Q (.ref l) H') : rCat (.ref a) (.ref b) H Q :=
  ⟨a, b, xs, ys, rfl, rfl, ha, hb, hl, w_new hs q⟩
/-! #### calls of built-ins -/
def rLen (K : PySem.W.Frag) : List V → Hp → VK → Prop := fun xs H Q => ∃ p ys, xs = [.ref p] ∧ (SqL K H p ys ∨ SqT K H p ys) ∧ Q (.int ys.length) H
theorem call_lenQ {X : Cx} : CallR X (.builtin "len") (rLen X.K) := call_len_seq
theorem w_len {xs : List V} (h : SqL K H p xs) (q : Q (.int xs.length) H) : rLen K [.ref p] H Q := ⟨p, xs, rfl, .inl h, q⟩
theorem w_lenT {xs : List V} (h : SqT K H p xs) (q : Q (.int xs.length) H) : rLen K [.ref p] H Q := ⟨p, xs, rfl, .inr h, q⟩
def rAbs : List V → Hp → VK → Prop := fun xs H Q => ∃ i, xs = [.int i] ∧ Q (.int (if i < 0 then -i else i)) H
theorem call_absQ {X : Cx} : CallR X (.builtin "abs") rAbs := call_abs
theorem w_abs {a : Int} (q : Q (.int (if a < 0 then -a else a)) H) : rAbs [.int a] H Q := ⟨a, rfl, q⟩
def rInt : List V → Hp → VK → Prop := fun xs H Q => (∃ i, xs = [.int i] ∧ Q (.int i) H) ∨ ∃ k, xs = [.bl k] ∧ Q (.int (if k then 1 else 0)) H
theorem call_intQ {X : Cx} : CallR X (.type "int") rInt := call_int1
theorem w_int {a : Int} (q : Q (.int a) H) : rInt [.int a] H Q := .inl ⟨a, rfl, q⟩
theorem w_intB {b : Bool} (q : Q (.int (if b then 1 else 0)) H) : rInt [.bl b] H Q := .inr ⟨b, rfl, q⟩
def rStr : List V → Hp → VK → Prop := fun xs H Q => ∃ i, xs = [.int i] ∧ i.natAbs.log2 < 1920 ∧ Q (.str (toString i)) H
theorem call_strQ {X : Cx} : CallR X (.type "str") rStr := call_str_int
theorem w_str {a : Int} (h : a.natAbs < 2 ^ 64) (q : Q (.str (toString a)) H) : rStr [.int a] H Q := ⟨a, rfl, Nat.lt_of_lt_of_le (PySem.Flt.log2_lt_of (by decide) h) (by decide), q⟩
def rAddS : R2 := fun x y H Q => ∃ i j, x = .str i ∧ y = .str j ∧ i.length + j.length ≤ sizeLine ∧ Q (.str (i ++ j)) H
theorem op_addS {X : Cx} : OpR X (binaryOp .Add) rAddS := op_add_str
theorem w_addS {a b : Str} (h : a.length + b.length ≤ sizeLine) (q : Q (.str (a ++ b)) H) : rAddS (.str a) (.str b) H Q := ⟨a, b, rfl, rfl, h, q⟩
/-! #### methods of lists -/
section
variable {B : Hp} {L L' : List (Addr × HO)} {l : Addr} {xs : List V}
theorem w_app (hs : Hs B L H) (h : Put L l (.lst xs) (.lst (xs ++ [y])) L') (hl : xs.length < sizeLine) (q : ∀ H', Hs B L' H' → Q .non H') : rAppend (.ref l) [y] H Q := ⟨l, xs, y, rfl, rfl, hs.gets h, hl, q _ (hs.puts h)⟩
theorem w_clear (hs : Hs B L H) (h : Put L l (.lst xs) (.lst []) L') (q : ∀ H', Hs B L' H' → Q .non H') : rClear (.ref l) [] H Q := ⟨l, xs, rfl, rfl, hs.gets h, q _ (hs.puts h)⟩
theorem six_nat {n k : Nat} {j : Int} (e : j = (k : Int)) (h : k < n) : seqIndex? j n = some k := by
  subst e
  unfold seqIndex?
  have h1 : ¬ (k : Int) < 0 := by omega
  have h2 : (k : Int) < (n : Int) := by omega
  simp only [if_neg h1]
  simp [h2]
theorem w_popAt {k : Nat} {j : Int} (hs : Hs B L H) (h : Put L l (.lst xs) (.lst (xs.eraseIdx k)) L') (e : j = (k : Int)) (hk : xs[k]? = some y) (hz : xs.length ≤ sizeLine) (q : ∀ H', Hs B L' H' → Q y H') : rPopAt (.ref l) [.int j] H Q := by
  have hk' := (List.getElem?_eq_some_iff.mp hk).1
  have h63 := line63
  refine ⟨l, xs, j, k, y, rfl, rfl, hs.gets h, by omega, ?_, six_nat e hk', hk, q _ (hs.puts h)⟩
  have : xs.length < 2 ^ 63 := Nat.lt_of_le_of_lt hz h63
  omega
def rInsert : V → List V → Hp → VK → Prop := fun x vs H Q => ∃ (l : Addr) (xs : List V) (i : Int) (y : V), x = .ref l ∧ vs = [.int i, y] ∧ H l = some (.lst xs) ∧ xs.length < sizeLine ∧ 0 ≤ i ∧ i < 2 ^ 63 ∧ Q .non (upd H l (.lst (xs.take i.toNat ++ [y] ++ xs.drop i.toNat)))
theorem mt_insertQ {X : Cx} : MtR X "list.insert" rInsert := mt_insert
theorem w_insert0 (hs : Hs B L H) (h : Put L l (.lst xs) (.lst (y :: xs)) L') (hl : xs.length < sizeLine) (q : ∀ H', Hs B L' H' → Q .non H') : rInsert (.ref l) [.int 0, y] H Q :=
  ⟨l, xs, 0, y, rfl, rfl, hs.gets h, hl, by decide, by decide, q _ (hs.puts h)⟩
def rDelL (x y : V) (H : Hp) (R : Hp → Prop) : Prop := ∃ (l : Addr) (xs : List V) (i : Int) (k : Nat), x = .ref l ∧ y = .int i ∧ H l = some (.lst xs) ∧ -(2 ^ 63) ≤ i ∧ i < 2 ^ 63 ∧ seqIndex? i xs.length = some k ∧ R (upd H l (.lst (xs.eraseIdx k)))
theorem w_delL0 (q : to σ H fun x H1 => ti σ H1 fun y H2 => rDelL x y H2 (D.nx σ)) : tDelL to ti D σ H := q
theorem w_delL {k : Nat} {j : Int} {R : Hp → Prop} (hs : Hs B L H) (h : Put L l (.lst xs) (.lst (xs.eraseIdx k)) L') (e : j = (k : Int)) (hk : k < xs.length) (hz : xs.length ≤ sizeLine) (q : ∀ H', Hs B L' H' → R H') : rDelL (.ref l) (.int j) H R := by
  have h63 := line63
  refine ⟨l, xs, j, k, rfl, rfl, hs.gets h, by omega, ?_, six_nat e hk, q _ (hs.puts h)⟩
  have : xs.length < 2 ^ 63 := Nat.lt_of_le_of_lt hz h63
  omega
theorem w_setL {k : Nat} {j : Int} {R : Hp → Prop} (hs : Hs B L H) (h : Put L l (.lst xs) (.lst (xs.set k y)) L') (e : j = (k : Int)) (hk : k < xs.length) (q : ∀ H', Hs B L' H' → R H') : rSetL (.ref l) (.int j) y H R := by
  refine ⟨l, xs, j, k, rfl, rfl, hs.gets h, ?_, q _ (hs.puts h)⟩
  subst e
  unfold ixN
  rw [if_pos (by omega), if_pos (by omega)]
  simp
/-- a field's store -/
theorem w_fsP {R : Hp → Prop} {C dx : Addr} {fs gs : List (Str × V)} (hs : Hs B L H) (h : Put L p (.ins C dx fs) (.ins C dx gs) L') (hc : Cls K C) (hn : NoAttr K C f) (hl : fs.length < 1000) (hg : putF f y fs = gs) (q : ∀ H', Hs B L' H' → R H') : Fs K f y (.ref p) H R := by
  subst hg
  exact w_fs (hs.gets h) hc hn hl (q _ (hs.puts h))
/-! #### loops -/
theorem w_forL {tl : TE} {a : Addr} {tb : TS} (hx : SqL K H a xs) (Pv : Nat → St → Hp → Prop) (htl : ∀ Q : VK, Q (.ref a) H → tl σ H Q) (h0 : Pv 0 σ H) (hl : ∀ i σ H, i ≤ xs.length → Pv i σ H → SqL K H a xs)
    (hs : ∀ i x σ H, xs[i]? = some x → Pv i σ H → g x σ H fun σ2 H2 => tb { D with nx := Pv (i + 1), ct := Pv (i + 1), bk := D.nx } σ2 H2) (hd : ∀ σ H, Pv xs.length σ H → D.nx σ H) : tFor (iList K tl) g tb D σ H :=
  htl _ ⟨a, rfl, ⟨xs, hx⟩, for_list Pv h0 hl hs hd⟩
theorem w_forR {ta : TA} {tb : TS} {n : Int} (hn : n < 2 ^ 62) (Pv : Nat → St → Hp → Prop) (hta : ∀ Q : List V → Hp → Prop, Q [.int n] H → ta σ H Q) (hm : -(2 ^ 62) ≤ n) (h0 : Pv 0 σ H)
    (hs : ∀ (i : Nat) σ H, (i : Int) < n → Pv i σ H → g (.int (i : Int)) σ H fun σ2 H2 => tb { D with nx := Pv (i + 1), ct := Pv (i + 1), bk := D.nx } σ2 H2) (hd : ∀ σ H, Pv n.toNat σ H → D.nx σ H) : tFor (iRng1 ta) g tb D σ H :=
  hta _ ⟨n, rfl, hm, hn, for_range (lo := 0) (n := n.toNat) Pv h0 (fun i σ' H' hi p => by
    have e0 : (0 : Int) + (i : Int) = (i : Int) := Int.zero_add _
    rw [e0]
    exact hs i σ' H' (by omega) p) hd⟩
/-- [e for x in xs] over a list -/
theorem w_lc {tl : TE} {a : Addr} {vs : List Nat} {tt : TT} (hx : SqL K H a xs) (Pv : Addr → Nat → Hp → Prop) (htl : ∀ Q : VK, Q (.ref a) H → tl σ H Q) (h0 : ∀ D, H D = none → Pv D 0 (upd H D (.lst []))) (hl : ∀ D i H, i ≤ xs.length → Pv D i H → SqL K H a xs)
    (hs : ∀ D i x H, xs[i]? = some x → Pv D i H → g x (wipe σ vs) H fun σ2 H2 => wipe σ2 vs = wipe σ vs ∧ tt σ2 H2 fun b H3 =>
      if b = true then te σ2 H3 fun y H4 => ∃ acc, H4 D = some (.lst acc) ∧ acc.length < sizeLine ∧ Pv D (i + 1) (upd H4 D (.lst (acc ++ [y]))) else Pv D (i + 1) H3) (hd : ∀ D H, Pv D xs.length H → Q (.ref D) H) : tLc (iList K tl) g tt te vs σ H Q :=
  htl _ ⟨a, rfl, ⟨xs, hx⟩, fun D hD => lc_list (Pv D) (h0 D hD) (hl D) (hs D) (hd D)⟩
end
theorem w_sub {R : St → Hp → Prop} {tset : TSet} (q : to σ H fun o H1 => ti σ H1 fun i H2 => tset o i v H2 fun H3 => R σ H3) : gSub to ti tset v σ H R := q
/-- a while's body, at the measure m -/
def LpB (W : Nat → St → Hp → Prop) (m : Nat) (D : Ends) (tb : TS) (σ : St) (H1 : Hp) : Prop := ∃ N : St → Hp → Prop, (∀ σ' H', N σ' H' → ∃ m', m' < m ∧ W m' σ' H') ∧ tb { D with nx := N, ct := N, bk := D.nx } σ H1
theorem w_while {c : TT} {tb : TS} {D : Ends} {σ : St} {H : Hp} (W : Nat → St → Hp → Prop) (m : Nat) (h0 : W m σ H)
    (hs : ∀ m σ H, W m σ H → c σ H fun b H1 => if b = true then LpB W m D tb σ H1 else D.nx σ H1) : tWhile c tb D σ H := ⟨W, ⟨m, h0⟩, hs⟩
theorem w_lpb {W : Nat → St → Hp → Prop} {m : Nat} {D : Ends} {tb : TS} {σ : St} {H : Hp} (q : tb { D with nx := fun σ' H' => ∃ m', m' < m ∧ W m' σ' H', ct := fun σ' H' => ∃ m', m' < m ∧ W m' σ' H', bk := D.nx } σ H) : LpB W m D tb σ H := ⟨_, fun _ _ h => h, q⟩
end
theorem ifd {p A B : Prop} [Decidable p] (h1 : p → A) (h2 : ¬ p → B) : if decide p = true then A else B := by
  by_cases h : p
  · rw [decide_eq_true h]
    exact iteT (h1 h)
  · rw [decide_eq_false h]
    exact iteF (h2 h)
theorem ifn {p A B : Prop} [Decidable p] (h1 : ¬ p → A) (h2 : p → B) : if (!decide p) = true then A else B := by
  by_cases h : p
  · rw [decide_eq_true h]
    exact iteF (h2 h)
  · rw [decide_eq_false h]
    exact iteT (h1 h)
theorem ifb {b : Bool} {A B : Prop} (h1 : b = true → A) (h2 : b = false → B) : if b = true then A else B := by
  cases b with
  | true => exact iteT (h1 rfl)
  | false => exact iteF (h2 rfl)
theorem eraseIdx_map {α β : Type} (f : α → β) : ∀ (l : List α) (k : Nat), (l.map f).eraseIdx k = (l.eraseIdx k).map f
  | [], _ => rfl
  | _ :: _, 0 => rfl
  | x :: l, k + 1 => congrArg (f x :: ·) (eraseIdx_map f l k)
theorem sz {n : Nat} (h : n ≤ 1000000) : n ≤ sizeLine := Nat.le_trans h (by decide)
theorem szl {n : Nat} (h : n ≤ 1000000) : n < sizeLine := Nat.lt_of_le_of_lt h (by decide)
theorem take_min {α : Type} (xs : List α) (n : Nat) : xs.take (min n xs.length) = xs.take n := by
  by_cases h : n ≤ xs.length
  · rw [Nat.min_eq_left h]
  · rw [Nat.min_eq_right (by omega), List.take_length, List.take_of_length_le (by omega)]
theorem drop_min {α : Type} (xs : List α) (n : Nat) : xs.drop (min n xs.length) = xs.drop n := by
  by_cases h : n ≤ xs.length
  · rw [Nat.min_eq_left h]
  · rw [Nat.min_eq_right (by omega), List.drop_length, List.drop_of_length_le (by omega)]
theorem cut_to {xs : List V} {j : Int} (n : Nat) (e : j = (n : Int)) : cutV xs none (some j) = xs.take n := by
  subst e
  unfold cutV
  rw [HT.sIx_none, HT.sIx_nat, List.drop_zero, Nat.sub_zero, take_min]
theorem cut_from {xs : List V} {j : Int} (n : Nat) (e : j = (n : Int)) : cutV xs (some j) none = xs.drop n := by
  subst e
  unfold cutV
  rw [HT.sIx_none, HT.sIx_nat, drop_min, List.take_of_length_le]
  rw [List.length_drop]
  omega
theorem cut_len {xs : List V} {lo hi : Option Int} : (cutV xs lo hi).length ≤ xs.length := by
  unfold cutV
  rw [List.length_take, List.length_drop]
  omega
theorem cut_all {xs : List V} : cutV xs none none = xs := by
  unfold cutV HT.sIx
  simp
/-! ### lists of texts, of ints, as data -/
theorem dpa_str {K : PySem.W.Frag} {H : Hp} : ∀ xs : List Str, DpAll K H (xs.map V.str) (xs.map PyData.str)
  | [] => .nil
  | x :: xs => .cons (.str x) (dpa_str xs)
theorem dpa_int {K : PySem.W.Frag} {H : Hp} : ∀ xs : List Int, DpAll K H (xs.map V.int) (xs.map PyData.int)
  | [] => .nil
  | x :: xs => .cons (.int x) (dpa_int xs)
theorem depth_str : ∀ xs : List Str, PyData.depthAll (xs.map PyData.str) ≤ 1
  | [] => by simp [PyData.depthAll]
  | x :: xs => by
    have := depth_str xs
    simp [PyData.depthAll, PyData.depth] at this ⊢
    omega
theorem lay_str : ∀ xs : List Str, (∀ x ∈ xs, PyData.strOk x = true) → PyData.canLayAll0 (xs.map PyData.str) = true
  | [], _ => by simp [PyData.canLayAll0]
  | x :: xs, h => by
    have h1 := h x List.mem_cons_self
    have h2 := lay_str xs fun y hy => h y (List.mem_cons_of_mem _ hy)
    simp only [List.map_cons, PyData.canLayAll0, PyData.canLay0, h1, h2, Bool.and_self]
theorem shp_str {xs : List Str} (h : ∀ x ∈ xs, PyData.strOk x = true) : SeqAt.shaped (.list (xs.map PyData.str)) = true := by
  have e := depth_str xs
  have l := lay_str xs h
  unfold SeqAt.shaped PyData.canLay0 PyData.depth
  rw [l]
  simp only [Bool.true_and, decide_eq_true_eq]
  omega
theorem w_neS {K : PySem.W.Frag} {H : Hp} {Q : VK} {p q : Addr} {xs : List Str} (h1 : SqL K H p (xs.map V.str)) (h2 : SqL K H q (xs.map V.str)) (hk : ∀ x ∈ xs, PyData.strOk x = true) (k : Q (.bl false) H) : rNeD K (.ref p) (.ref q) H Q :=
  ⟨_, _, .lst h1 (dpa_str xs), .lst h2 (dpa_str xs), shp_str hk, shp_str hk, by
    rw [SeqAt.eqv_refl _ (by have := shp_str hk; unfold SeqAt.shaped at this; exact (Bool.and_eq_true_iff.mp this).1)]
    exact k⟩
theorem w_isi {K : PySem.W.Frag} {H : Hp} {Q : VK} {b : Bool} (k : Q (.bl true) H) : rIsi K [.bl b, .ty "bool"] H Q :=
  ⟨_, _, _, _, true, rfl, .ty "bool", .base (.bl b), kit_ty (by decide +kernel), k⟩
theorem w_neB {a b : Bool} {H : Hp} {Q : VK} (q : Q (.bl (!decide (a = b))) H) : rNe (.bl a) (.bl b) H Q := ⟨rfl, by
  have e : decide (V.bl a = V.bl b) = decide (a = b) := by cases a <;> cases b <;> decide
  rw [e]
  exact q⟩
end Hb

set_option Elab.async false
set_option maxRecDepth 100000
set_option maxHeartbeats 4000000
/-! More steps: dicts, fields changed by an operator, ranges, and an own exception with a field. -/
namespace Hb
open PySem L2 ClX

section
variable {K : PySem.W.Frag} {σ : St} {H : Hp} {Q : VK} {D : Ends} {ta tb td tc te tv ty to ti : TE} {t u tr : TS} {g : TG} {i : Nat} {v x y : V} {E : XK} {ts : TA} {f m : Str} {p : Addr} {B : Hp} {L L' : List (Addr × HO)}
/-! ### dicts with keys that are ints -/
def RDin (x y : V) (H : Hp) (Q : VK) : Prop := ∃ a o, x = .ref a ∧ DGet H a y o ∧ Q (.bl o.isSome) H
def RDni (x y : V) (H : Hp) (Q : VK) : Prop := ∃ a o, x = .ref a ∧ DGet H a y o ∧ Q (.bl (!o.isSome)) H
theorem w_din (q : ty σ H fun y H1 => td σ H1 fun x H2 => RDin x y H2 Q) : tDIn ty td σ H Q := q
theorem w_dni (q : ty σ H fun y H1 => td σ H1 fun x H2 => RDni x y H2 Q) : tDNotIn ty td σ H Q := q
theorem w_dinI {kvs : List (Key × V)} {n : Int} (h : H p = some (.dK kvs)) (q : Q (.bl (valV kvs (Sum.inl n)).isSome) H) : RDin (.ref p) (.int n) H Q := ⟨p, _, rfl, DGet.k (k := Sum.inl n) h, q⟩
theorem w_dniI {kvs : List (Key × V)} {n : Int} (h : H p = some (.dK kvs)) (q : Q (.bl (!(valV kvs (Sum.inl n)).isSome)) H) : RDni (.ref p) (.int n) H Q := ⟨p, _, rfl, DGet.k (k := Sum.inl n) h, q⟩
def RDput (x y v : V) (H : Hp) (R : Hp → Prop) : Prop := ∃ a H4, x = .ref a ∧ DPut H a y v H4 ∧ R H4
theorem w_dput (q : tv σ H fun v H1 => td σ H1 fun x H2 => ty σ H2 fun y H3 => RDput x y v H3 (D.nx σ)) : sDPut td ty tv D σ H := q
theorem w_dputI {kvs : List (Key × V)} {n : Int} {R : Hp → Prop} (hs : Hs B L H) (h : Put L p (.dK kvs) (.dK (putK kvs (Sum.inl n) v)) L') (hl : kvs.length < sizeLine) (q : ∀ H', Hs B L' H' → R H') : RDput (.ref p) (.int n) v H R :=
  ⟨p, _, rfl, DPut.k (k := Sum.inl n) (hs.gets h) hl, q _ (hs.puts h)⟩
def RPopA (x : V) (H : Hp) (R : Addr → Prop) : Prop := ∃ a, x = .ref a ∧ IsD H a ∧ R a
def RPopB (a : Addr) (y : V) (H : Hp) (Q : VK) : Prop := ∃ kvs k v, H a = some (.dK kvs) ∧ y = kV k ∧ valV kvs k = some v ∧ Q v (upd H a (.dK (dropK kvs k)))
theorem w_dpop (q : td σ H fun x H1 => RPopA x H1 fun a => ty σ H1 fun y H2 => RPopB a y H2 Q) : tDPop1 td ty σ H Q := q
theorem w_dpopA {kvs : List (Key × V)} {R : Addr → Prop} (h : H p = some (.dK kvs)) (q : R p) : RPopA (.ref p) H R := ⟨p, rfl, .inl ⟨kvs, .inl h⟩, q⟩
theorem w_dpopB {kvs : List (Key × V)} {n : Int} (hs : Hs B L H) (h : Put L p (.dK kvs) (.dK (dropK kvs (Sum.inl n))) L') (hv : valV kvs (Sum.inl n) = some v) (q : ∀ H', Hs B L' H' → Q v H') : RPopB p (.int n) H Q :=
  ⟨kvs, Sum.inl n, v, hs.gets h, rfl, hv, q _ (hs.puts h)⟩
def NewD (Q : VK) (H : Hp) : Prop := ∀ p, H p = none → Q (.ref p) (upd H p (.dK []))
theorem w_dnew (q : NewD Q H) : tDNewK σ H Q := q
theorem w_newD (hs : Hs B L H) (q : ∀ p H', Hs B ((p, .dK []) :: L) H' → Q (.ref p) H') : NewD Q H := w_new hs q
/-! ### o.f op= e -/
def FA1 (K : PySem.W.Frag) (f : Str) (x : V) (H : Hp) (R : Addr → Addr → V → Prop) : Prop := ∃ a C dx fs v, x = .ref a ∧ H a = some (.ins C dx fs) ∧ Cls K C ∧ NoAttr K C f ∧ fs.lookup f = some v ∧ R a C v
def FA2 (f : Str) (a C : Addr) (z : V) (H : Hp) (R : Hp → Prop) : Prop := ∃ dx' fs', H a = some (.ins C dx' fs') ∧ fs'.length < 1000 ∧ R (upd H a (.ins C dx' (putF f z fs')))
theorem w_faug {rd : V → V → Hp → VK → Prop} (q : ta σ H fun x H1 => FA1 K f x H1 fun a C v => tv σ H1 fun y H2 => rd v y H2 fun z H3 => FA2 f a C z H3 (D.nx σ)) : sFldAug K ta tv rd f D σ H := by
  revert q
  unfold sFldAug FA1 FA2
  exact id
theorem w_fa1 {C dx : Addr} {fs : List (Str × V)} {R : Addr → Addr → V → Prop} (h : H p = some (.ins C dx fs)) (hc : Cls K C) (hn : NoAttr K C f) (hl : fs.lookup f = some v) (q : R p C v) : FA1 K f (.ref p) H R := ⟨p, C, dx, fs, v, rfl, h, hc, hn, hl, q⟩
theorem w_fa2 {R : Hp → Prop} {C dx : Addr} {fs gs : List (Str × V)} (hs : Hs B L H) (h : Put L p (.ins C dx fs) (.ins C dx gs) L') (hl : fs.length < 1000) (hg : putF f v fs = gs) (q : ∀ H', Hs B L' H' → R H') : FA2 f p C v H R := by
  subst hg
  exact ⟨dx, fs, hs.gets h, hl, q _ (hs.puts h)⟩
theorem w_rAdd {a b : Int} (q : Q (.int (a + b)) H) : rAdd (.int a) (.int b) H Q := ⟨a, b, rfl, rfl, q⟩
theorem w_rSub {a b : Int} (q : Q (.int (a - b)) H) : rSub (.int a) (.int b) H Q := ⟨a, b, rfl, rfl, q⟩
/-! ### built-ins -/
def rMax2 : List V → Hp → VK → Prop := fun xs H Q => ∃ i j, xs = [.int i, .int j] ∧ Q (.int (if j > i then j else i)) H
def rMin2 : List V → Hp → VK → Prop := fun xs H Q => ∃ i j, xs = [.int i, .int j] ∧ Q (.int (if j < i then j else i)) H
theorem call_maxQ {X : Cx} (hc : X.calm = true) : CallR X (.builtin "max") rMax2 := call_max2 hc
theorem call_minQ {X : Cx} (hc : X.calm = true) : CallR X (.builtin "min") rMin2 := call_min2 hc
theorem w_max {a b : Int} (q : Q (.int (if b > a then b else a)) H) : rMax2 [.int a, .int b] H Q := ⟨a, b, rfl, q⟩
theorem w_min {a b : Int} (q : Q (.int (if b < a then b else a)) H) : rMin2 [.int a, .int b] H Q := ⟨a, b, rfl, q⟩
def rIsN : R2 := fun x y H Q => y = .non ∧ Q (.bl (decide (x = .non))) H
def rNotN : R2 := fun x y H Q => y = .non ∧ Q (.bl (!decide (x = .non))) H
theorem op_isNQ {X : Cx} : OpR X (compareOp .Is) rIsN := op_isN
theorem op_notNQ {X : Cx} : OpR X (compareOp .IsNot) rNotN := op_notN
theorem w_isN (q : Q (.bl (decide (x = .non))) H) : rIsN x .non H Q := ⟨rfl, q⟩
theorem w_notN (q : Q (.bl (!decide (x = .non))) H) : rNotN x .non H Q := ⟨rfl, q⟩
theorem w_eqD {a b : Addr} {d e : PyData} (h1 : Dp K H (.ref a) d) (h2 : Dp K H (.ref b) e) (s1 : SeqAt.shaped d = true) (s2 : SeqAt.shaped e = true) (q : Q (.bl (PyData.eqv d e)) H) : rEqD K (.ref a) (.ref b) H Q := ⟨d, e, h1, h2, s1, s2, q⟩
/-! ### targets -/
theorem w_gtup {n : Nat} {t : TGs} {xs : List V} {R : St → Hp → Prop} (h : SqT K H p xs) (hl : xs.length = n) (q : t xs σ H R) : gTup K n t (.ref p) σ H R := ⟨p, xs, rfl, h, hl, q⟩
theorem w_gnil {R : St → Hp → Prop} (q : R σ H) : gNil [] σ H R := ⟨rfl, q⟩
theorem w_gcons {t : TG} {u : TGs} {r : List V} {R : St → Hp → Prop} (q : t v σ H fun σ' H' => u r σ' H' R) : gCons t u (v :: r) σ H R := ⟨v, r, rfl, q⟩
theorem w_par3 {j l : Nat} (q : ts σ H fun vs H1 => ∃ u v w, vs = [u, v, w] ∧ D.nx (((σ.set i (some u)).set j (some v)).set l (some w)) H1) : tPar3 i j l ts D σ H := q
theorem w_ex3 {a b c : V} {P : V → V → V → Prop} (q : P a b c) : ∃ u v w, [a, b, c] = [u, v, w] ∧ P u v w := ⟨a, b, c, rfl, q⟩
theorem w_par2 {j : Nat} (q : ts σ H fun vs H1 => ∃ u v, vs = [u, v] ∧ D.nx ((σ.set i (some u)).set j (some v)) H1) : tPar i j ts D σ H := q
theorem w_ex2 {a b : V} {P : V → V → Prop} (q : P a b) : ∃ u v, [a, b] = [u, v] ∧ P u v := ⟨a, b, rfl, q⟩
/-! ### [e for i in range(a, b)] -/
theorem w_lcR {vs : List Nat} {tt : TT} {lo hi : Int} (b1 : -(2 ^ 62) ≤ lo ∧ lo < 2 ^ 62 ∧ -(2 ^ 62) ≤ hi ∧ hi < 2 ^ 62) (Pv : Addr → Nat → Hp → Prop) (hta : ∀ Q : List V → Hp → Prop, Q [.int lo, .int hi] H → ts σ H Q) (h0 : ∀ D, H D = none → Pv D 0 (upd H D (.lst [])))
    (hs : ∀ D (i : Nat) H, lo + (i : Int) < hi → Pv D i H → g (.int (lo + (i : Int))) (wipe σ vs) H fun σ2 H2 => wipe σ2 vs = wipe σ vs ∧ tt σ2 H2 fun b H3 =>
      if b = true then te σ2 H3 fun y H4 => ∃ acc, H4 D = some (.lst acc) ∧ acc.length < sizeLine ∧ Pv D (i + 1) (upd H4 D (.lst (acc ++ [y]))) else Pv D (i + 1) H3) (hd : ∀ D H, Pv D (hi - lo).toNat H → Q (.ref D) H) : tLc (iRng2 ts) g tt te vs σ H Q :=
  hta _ ⟨lo, hi, rfl, b1, fun D hD => lc_range (Pv D) (h0 D hD) (fun i H' hi' p => hs D i H' (by omega) p) (hd D)⟩
theorem w_lcR1 {vs : List Nat} {tt : TT} {hi : Int} (b1 : -(2 ^ 62) ≤ hi ∧ hi < 2 ^ 62) (Pv : Addr → Nat → Hp → Prop) (hta : ∀ Q : List V → Hp → Prop, Q [.int hi] H → ts σ H Q) (h0 : ∀ D, H D = none → Pv D 0 (upd H D (.lst [])))
    (hs : ∀ D (i : Nat) H, (i : Int) < hi → Pv D i H → g (.int (i : Int)) (wipe σ vs) H fun σ2 H2 => wipe σ2 vs = wipe σ vs ∧ tt σ2 H2 fun b H3 =>
      if b = true then te σ2 H3 fun y H4 => ∃ acc, H4 D = some (.lst acc) ∧ acc.length < sizeLine ∧ Pv D (i + 1) (upd H4 D (.lst (acc ++ [y]))) else Pv D (i + 1) H3) (hd : ∀ D H, Pv D hi.toNat H → Q (.ref D) H) : tLc (iRng1 ts) g tt te vs σ H Q :=
  hta _ ⟨hi, rfl, b1.1, b1.2, fun D hD => lc_range (Pv D) (h0 D hD) (fun i H' hi' p => by
    have e0 : (0 : Int) + (i : Int) = (i : Int) := Int.zero_add _
    rw [e0]
    exact hs D i H' (by omega) p) (hd D)⟩
end

/-- a statement, then the rest: what stands between is said once -/
theorem w_cut {σ : St} {H : Hp} {D : Ends} {t u : TS} (Mid : St → Hp → Prop) (h1 : t { D with nx := Mid } σ H) (h2 : ∀ σ' H', Mid σ' H' → u D σ' H') : C8.tCut t u D σ H := ⟨Mid, h1, h2⟩
/-! ### rules whose reading names the written part itself -/
section
variable {X : Cx} {K : PySem.W.Frag}
theorem pe_fldK {e : Expr} {f : Str} {ta : TE} {pos : Pos} (he : PE X e ta) (hb : attributeBase e f X.env (eval e X.env) = eval e X.env := by rfl) (hK : X.K = K := by rfl) : PE X (.Attribute e f pos) (tFld K ta f) := by
  subst hK
  exact pe_fld he hb
theorem ps_fldK {o value : Expr} {f : Str} {ta tv : TE} {pos pos' : Pos} (ha : PE X o ta) (hv : PE X value tv) (hs : swapsWith value (some (.Attribute o f pos')) pos.line X.env = pure false := by rfl) (hK : X.K = K := by rfl) : PS X (.Assign [.Attribute o f pos'] value pos) (sFld K ta tv f) := by
  subst hK
  exact ps_fld ha hv hs
theorem ps_fldaugK {o value : Expr} {f : Str} {ta tv : TE} {pos tpos : Pos} {op : Operator} {rd : V → V → Hp → VK → Prop} (ha : PE X o ta) (hv : PE X value tv) (hop : InOp X op rd) (hK : X.K = K := by rfl) : PS X (.AugAssign (.Attribute o f tpos) op value pos) (sFldAug K ta tv rd f) := by
  subst hK
  exact ps_fldaug ha hv hop
theorem ix_listK (hK : X.K = K := by rfl) : IxR X (rIxL K) := by
  subst hK
  exact ix_list
theorem ix_tupK (hK : X.K = K := by rfl) : IxR X (rIxT K) := by
  subst hK
  exact ix_tup
theorem sl_listK (hK : X.K = K := by rfl) : SlR X (rSlL K) := by
  subst hK
  exact sl_list
theorem sl_tupK (hK : X.K = K := by rfl) : SlR X (rSlT K) := by
  subst hK
  exact sl_tup
theorem call_lenK (hK : X.K = K := by rfl) : CallR X (.builtin "len") (rLen K) := by
  subst hK
  exact call_lenQ
theorem op_eqDK (hu : X.A.units + 64 < cLine) (hK : X.K = K := by rfl) : OpR X (compareOp .Eq) (rEqD K) := by
  subst hK
  exact op_eqD hu
theorem op_neDK (hu : X.A.units + 64 < cLine) (hK : X.K = K := by rfl) : OpR X (compareOp .NotEq) (rNeD K) := by
  subst hK
  exact op_neD hu
theorem op_inK (hK : X.K = K := by rfl) : OpR X (compareOp .In) (rIn K false) := by
  subst hK
  exact op_in_seq
theorem op_niK (hK : X.K = K := by rfl) : OpR X (compareOp .NotIn) (rIn K true) := by
  subst hK
  exact op_notIn_seq
theorem pi_listK {tg l : Expr} {tl : TE} (hl : PE X l tl) (hK : X.K = K := by rfl) : PI X tg l (iList K tl) := by
  subst hK
  exact pi_list hl
theorem pi_tupK {tg l : Expr} {tl : TE} (hl : PE X l tl) (hK : X.K = K := by rfl) : PI X tg l (iTup K tl) := by
  subst hK
  exact pi_tup hl
theorem pg_tupK {es : List Expr} {k : Nat} {t : TGs} {n : Nat} {pos : Pos} (hc : X.calm = true) (h : PGs X es t) (hn : (assignEach es X.env).length = n := by rfl) (hst : (assignEach es X.env).findIdx? (·.1) = none := by rfl) (hK : X.K = K := by rfl) : PG X (.Tuple es k pos) (gTup K n t) := by
  subst hK
  exact pg_tup hc h hn hst
theorem pt_truthK {a : Expr} {ta : TE} (ha : PE X a ta) (he : ∀ whole, isTrue a X.env whole = (do let v ← whole; standAt a.pos; holding [v] (truthy v)) := by intro _; rfl) (hK : X.K = K := by rfl) : PT X a (fun σ H Q => ta σ H fun x H' => ∃ k, TruV K x H' k ∧ Q k H') := by
  subst hK
  exact pt_truth ha he
theorem call_isiK (hK : X.K = K := by rfl) : CallR X (.builtin "isinstance") (rIsi K) := by
  subst hK
  exact call_isi
variable {o e : Expr} {es : List Expr} {to : TE} {t : TA} {name : Str} {apos cpos : Pos} {T id : String} {r : V → List V → Hp → VK → Prop}
theorem pe_bm0K (pa : PlainAttrs T) (slot : Slot T name id) (hty : typeOf (.builtin id) = pure (.type "method_descriptor")) (hm : MtR X id r) (ho : PE X o to)
    (hbase : attributeBase o name X.env (eval o X.env) = eval o X.env := by rfl) (hline : (apos.endLine == cpos.line) = true := by rfl) (hK : X.K = K := by rfl) : PE X (.Call (.Attribute o name apos) [] [] cpos) (tBM0 K T r to) := by
  subst hK
  exact pe_bm0 pa slot hty hm ho hbase hline
theorem pe_bmK (pa : PlainAttrs T) (slot : Slot T name id) (hty : typeOf (.builtin id) = pure (.type "method_descriptor")) (hm : MtR X id r) (ho : PE X o to) (ha : PA X (e :: es) t)
    (hb : attributeBase o name X.env (eval o X.env) = eval o X.env := by rfl)
    (hf : ((backTo cpos (starEach (e :: es) X.env)).all (fun x => !x.1) && (backToKw cpos (keywordEach [] X.env)).all (fun x => x.1.isSome) && decide ((e :: es).length + ([] : List Keyword).length + (if ([] : List Keyword).isEmpty then 0 else 1) < 30)) = true := by rfl)
    (hl : (apos.endLine == cpos.line) = true := by rfl) (h1 : starEach (e :: es) X.env = (false, eval e X.env) :: starEach es X.env := by rfl) (h2 : (backTo cpos (starEach es X.env)).any (·.1) = false := by rfl) (hK : X.K = K := by rfl) :
    PE X (.Call (.Attribute o name apos) (e :: es) [] cpos) (tBM K T r to t) := by
  subst hK
  exact pe_bm pa slot hty hm ho ha hb hf hl h1 h2
end
section
variable {H B : Hp} {L L' : List (Addr × HO)} {l : Addr} {y a b c d e : V} {r : List V} {R : Hp → Prop}
theorem w_set0 (hs : Hs B L H) (h : Put L l (.lst (a :: r)) (.lst (y :: r)) L') (q : ∀ H', Hs B L' H' → R H') : rSetL (.ref l) (.int 0) y H R := w_setL (k := 0) hs h rfl (by simp) q
theorem w_set1 (hs : Hs B L H) (h : Put L l (.lst (a :: b :: r)) (.lst (a :: y :: r)) L') (q : ∀ H', Hs B L' H' → R H') : rSetL (.ref l) (.int 1) y H R := w_setL (k := 1) hs h rfl (by simp) q
theorem w_set2 (hs : Hs B L H) (h : Put L l (.lst (a :: b :: c :: r)) (.lst (a :: b :: y :: r)) L') (q : ∀ H', Hs B L' H' → R H') : rSetL (.ref l) (.int 2) y H R := w_setL (k := 2) hs h rfl (by simp) q
theorem w_set3 (hs : Hs B L H) (h : Put L l (.lst (a :: b :: c :: d :: r)) (.lst (a :: b :: c :: y :: r)) L') (q : ∀ H', Hs B L' H' → R H') : rSetL (.ref l) (.int 3) y H R := w_setL (k := 3) hs h rfl (by simp) q
theorem w_set4 (hs : Hs B L H) (h : Put L l (.lst (a :: b :: c :: d :: e :: r)) (.lst (a :: b :: c :: d :: y :: r)) L') (q : ∀ H', Hs B L' H' → R H') : rSetL (.ref l) (.int 4) y H R := w_setL (k := 4) hs h rfl (by simp) q
end
theorem w_eqB {a b : Bool} {H : Hp} {Q : VK} (q : Q (.bl (decide (a = b))) H) : rEq (.bl a) (.bl b) H Q := ⟨rfl, by
  have e : decide (V.bl a = V.bl b) = decide (a = b) := by cases a <;> cases b <;> decide
  rw [e]
  exact q⟩
/-- arguments that are known -/
def kTA (vs : List V) : TA := fun _ H Q => Q vs H
theorem w_for1 {σ : St} {H : Hp} {D : Ends} {ta : TA} {tb : TS} {g : TG} (q : ta σ H fun vs H1 => tFor (iRng1 (kTA vs)) g tb D σ H1) : tFor (iRng1 ta) g tb D σ H := q
theorem w_for2 {σ : St} {H : Hp} {D : Ends} {ta : TA} {tb : TS} {g : TG} (q : ta σ H fun vs H1 => tFor (iRng2 (kTA vs)) g tb D σ H1) : tFor (iRng2 ta) g tb D σ H := q
/-! ### an own exception -/
section
variable {X : Cx} {C a : Addr}
/-- X.__init__(self, ..) of an own class that has its __init__ from ValueError -/
theorem pe_ownInit {x : Str} {e : Expr} {es : List Expr} {ta : TA} {p1 p2 pos : Pos} {pl : Sem Bool} (hg : Gl X x) (hm : X.mg x = some (.ref C)) (r : CRead X.K C (.type "type")) (cv : PySem.W.findCls X.K (.ref C) (.type "type") "__init__" = some (.val (.builtin "ValueError.__init__"))) (ha : PA X (e :: es) ta)
    (hdb : (x == ("__debug__" : Str)) = false := by decide)
    (hc : eval (.Call (.Attribute (.Name x p1) "__init__" p2) (e :: es) [] pos) X.env = (do
      let ov ← eval (.Name x p1) X.env
      standAt p2.atName
      let (f, first) ← holding [ov] (getMethod ov "__init__" pl)
      callWith pos f first (backTo pos (starEach (e :: es) X.env)) (backToKw pos (keywordEach [] X.env))) := by rfl)
    (he : starEach (e :: es) X.env = (false, eval e X.env) :: starEach es X.env := by rfl) (hpl : (backTo pos (starEach es X.env)).any (·.1) = false := by rfl) :
    PE X (.Call (.Attribute (.Name x p1) "__init__" p2) (e :: es) [] pos) (tVeI X.K ta) := by
  constructor
  intro pins s σ H Q I h
  refine PySem.W.methodCall_KW ?_ hc
  refine ld_glob I hg hm ?_ hdb
  refine PySem.W.method_cls I.kIn r.ga (PySem.W.cls_value I.kIn r.rd cv rfl ?_)
  have fin : ∀ (us : List Value) (s1 : Shared), AP X pins σ (fun vs H1 => ∃ (a C : Addr) (ws : List V), vs = .ref a :: ws ∧ ws.length ≤ 1000 ∧ OexC X.K C ∧ H1 a = some (exo a C none) ∧ Q .non H1) us s1 → wpAny (model X.prog X.w) X.A (call (.builtin "ValueError.__init__") us) (EP X pins σ Q) X.xe s1 := by
    rintro us s1 ⟨vs, H1, I1, r1, a', C', ws, rfl, hw, hT, hE, q1⟩
    match us, r1 with
    | u0 :: ur, .cons r0 rr =>
      cases (show u0 = Value.ref a' from r0)
      have hn : ur.length ≤ sizeLine := by
        rw [← Paired.length rr, sizeLine_eq]
        omega
      exact oinit_ok hT I1 hE hn fun _ J => ⟨.non, _, J, rfl, q1⟩
  exact PyProof.Rows.callWith_method1 (thn (ha.run pos pins _ σ H _ (I.tok _) h) fin) he hpl
/-- o.m(e), what it lets out by the slots -/
def tMethQ (C : Addr) (m : Str) (sp : Sp) (E : St → XK) (ta : TE) (t : TA) : TE := fun σ H Q => ta σ H fun x H1 => ∃ a dx fs, x = .ref a ∧ H1 a = some (.ins C dx fs) ∧ fs.lookup m = none ∧ t σ H1 fun vs H2 => sp (x :: vs) H2 Q (E σ)
theorem pe_methQ {CX : CXT} {k : Nat} {f : Addr} {fd : FuncData} {ps : List Str} {sp : Sp} {E : St → XK} {m : Str} {pos apos : Pos} {e o : Expr} {es : List Expr} {ta : TE} {t : TA} {pl : Sem Bool} (ho : PE X o ta) (c : Cls X.K C) (hm : Meth X.K C m f) (F : FnOk X.prog X.w X.K X.mg X.base CX k f fd ps sp)
    (hr : Room k X.A) (hb : Binds X.K fd ps []) (hx : ∀ σ, PassesAt CX X σ (E σ)) (ha : PA X (e :: es) t) (h1 : starEach (e :: es) X.env = (false, eval e X.env) :: starEach es X.env := by rfl) (h2 : (backTo pos (starEach es X.env)).any (·.1) = false := by rfl)
    (h3 : eval (.Call (.Attribute o m apos) (e :: es) [] pos) X.env = (do
      let ov ← eval o X.env
      standAt apos.atName
      let (f, first) ← holding [ov] (getMethod ov m pl)
      callWith pos f first (backTo pos (starEach (e :: es) X.env)) (backToKw pos (keywordEach [] X.env))) := by rfl) :
    PE X (.Call (.Attribute o m apos) (e :: es) [] pos) (tMethQ C m sp E ta t) := by
  constructor
  intro pins s σ H Q I h
  refine PySem.W.methodCall_KW (pl := pl) (thn (ho.run pins s σ H _ I h) ?_) h3
  rintro u s1 ⟨x, H1, I1, rx, a, dx, fs, rfl, ea, l, q⟩
  cases (show u = Value.ref a from rx)
  refine getmeth_ok I1 ea c hm l (PySem.W.callWith_K (first := [.ref a]) (h₀ := X.base) I.ok.mod.kin hm.kp (thn (ha.run pos pins s1 σ H1 _ I1 q) ?_) h1 h2)
  rintro us s2 ⟨vs, H2, I2, r, q2⟩
  exact ⟨I2.kIn, run_fnS (us := .ref a :: us) (vs := .ref a :: vs) F hr hb (hx σ) I2 (.cons rfl r) q2⟩
/-- what an own exception's class D must have for isinstance -/
structure XcC (K : PySem.W.Frag) (D : Addr) : Prop where
  cl : (PySem.W.clsIn K D).isSome = true
  ga : PySem.W.findIn K (.ref D) "__getattribute__" = some (some (.builtin "BaseException.__getattribute__"))
  gt : PySem.W.findIn K (.ref D) "__getattr__" = some none
  ex : PySem.W.subIn K (.ref D) (.type "BaseException") = some true
  cs : PySem.W.findIn K (.ref D) "__class__" = some (some (.builtin "object.__class__"))
  gd : PySem.W.specialIn K (.builtin "object.__class__") "__get__" = some (some (.builtin "getset_descriptor.__get__"))
  tk : PySem.W.takesIn K (.builtin "object.__class__") = some true
  mo : PySem.W.mroIn K D (.type "object") = some true
theorem kit_own {K : PySem.W.Frag} {D C : Addr} {b : Bool} (n : D ≠ C) (hc : PySem.W.isClsIn K C = true) (ht : PySem.W.typeIn K (.ref C) = some (.type "type")) (h : PySem.W.subIn K (.ref D) (.ref C) = some b) : PySem.W.kitOne K (.ref D) (.ref C) = some b := by
  have e : (Value.ref D == Value.ref C) = false := beq_eq_false_iff_ne.mpr fun q => n (Value.ref.inj q)
  have hc' : (PySem.W.clsIn K C).isSome = true := hc
  unfold PySem.W.kitOne PySem.W.kitCls
  simp [e, hc', ht, h]
theorem kit_ownT {K : PySem.W.Frag} {D C : Addr} (hc : PySem.W.isClsIn K C = true) (ht : PySem.W.typeIn K (.ref C) = some (.type "type")) (h : PySem.W.subIn K (.ref D) (.ref C) = some true) : PySem.W.kitOne K (.ref D) (.ref C) = some true := by
  by_cases e : D = C
  · subst e
    unfold PySem.W.kitOne
    rw [if_pos (beq_self_eq_true _)]
  · exact kit_own e hc ht h
/-- isinstance(e, c) of an exception that the suite holds, with its dict -/
def rIsX (K : PySem.W.Frag) (a : Addr) (cls : Value) (d : Option Addr) : List V → Hp → VK → Prop := fun xs H Q => ∃ (D C dd : Addr) (fs : List (Str × V)) (b : Bool), cls = .ref D ∧ d = some dd ∧ H dd = some (.xd fs) ∧ xs = [.ref a, .ref C] ∧ XcC K D ∧ PySem.W.kitOne K (.ref D) (.ref C) = some b ∧ Q (.bl b) H
theorem call_isX {oe : Obj} {cls : Value} {d : Option Addr} {pn : List (Addr × Obj)} (hz : Zc cls d oe) (hf : ∃ vs, oe.data = .fields vs) : CallR (X.suite a ((a, oe) :: pn)) (.builtin "isinstance") (rIsX X.K a cls d) := by
  rintro pins s σ H xs us Q I r ⟨D, C, dd, fs, b, rfl, rfl, hd, rfl, hD, hk, q⟩
  obtain ⟨u1, u2, rfl, r1, r2⟩ := vals2 r
  cases (show u1 = Value.ref a from r1)
  cases (show u2 = Value.ref C from r2)
  obtain ⟨ha, _⟩ := I.pin (a, oe) (List.mem_append_left _ List.mem_cons_self)
  obtain ⟨vs, hv⟩ := hf
  obtain ⟨mA, hns, _⟩ := (show ObjOk X.prog X.w H s.heap dd (.xd fs) from I.hok dd _ hd)
  obtain ⟨od, ho, _⟩ := lookIn_ns hns
  have J : PySem.W.InstAt s.heap a oe D (some od) := ⟨ha, hz.1, by unfold PySem.W.notCls; rw [hv] <;> rfl, by rw [hz.2]; exact ho⟩
  exact PySem.W.kia_one (PySem.W.kitx_exc hD.cl hD.ga hD.gt hD.ex hD.cs hD.gd hD.tk hD.mo) I.kIn J hk (fun z => nomatch z) fun tk => ⟨.bl b, H, I.kept (t' := tk) fun _ _ z => z, rfl, q⟩
end
section
variable {K : PySem.W.Frag} {σ : St} {H : Hp} {Q : VK} {D : Ends} {te tv to : TE} {ts : TA} {f : Str} {v x y : V} {C a : Addr} {B : Hp} {L L' : List (Addr × HO)}
def RVe (K : PySem.W.Frag) (vs : List V) (H : Hp) (Q : VK) : Prop := ∃ (a C : Addr) (ws : List V), vs = .ref a :: ws ∧ ws.length ≤ 1000 ∧ OexC K C ∧ H a = some (exo a C none) ∧ Q .non H
theorem w_vei (q : ts σ H fun vs H1 => RVe K vs H1 Q) : tVeI K ts σ H Q := q
theorem w_ve {ws : List V} (hl : ws.length ≤ 1000) (hT : OexC K C) (h : H a = some (exo a C none)) (q : Q .non H) : RVe K (.ref a :: ws) H Q := ⟨a, C, ws, rfl, hl, hT, h, q⟩
def ROst (K : PySem.W.Frag) (f : Str) (y x : V) (H : Hp) (R : Hp → Prop) : Prop := ∃ a C : Addr, x = .ref a ∧ OexC K C ∧ PySem.W.findIn K (.ref C) f = some none ∧
  ((H a = some (exo a C none) ∧ ∀ dx, H dx = none → dx ≠ a → R (upd (upd H dx (exd dx [(f, y)])) a (exo a C (some dx)))) ∨
    ∃ (dx : Addr) (fs : List (Str × V)), H a = some (exo a C (some dx)) ∧ H dx = some (exd dx fs) ∧ fs.length ≤ 900 ∧ R (upd H dx (exd dx ((f, y) :: fs))))
theorem w_ost0 (q : te σ H fun y H1 => to σ H1 fun x H2 => ROst K f y x H2 (D.nx σ)) : tOst K f to te D σ H := q
theorem w_ost {R : Hp → Prop} (hs : Hs B ((a, exo a C none) :: L) H) (hT : OexC K C) (hn : PySem.W.findIn K (.ref C) f = some none) (q : ∀ dx H', Hs B ((dx, exd dx [(f, y)]) :: (a, exo a C (some dx)) :: L) H' → R H') : ROst K f y (.ref a) H R :=
  ⟨a, C, rfl, hT, hn, .inl ⟨hs.g0, fun dx hd _ => q dx _ ((hs.new hd).p1 _)⟩⟩
/-- the making of an own exception -/
def MkO (C : Addr) (sp : Sp) (vs dvs : List V) (H1 : Hp) (Q : XK) : Prop := vs.length ≤ 1000 ∧ ∀ a, H1 a = none → sp (.ref a :: (vs ++ dvs)) (upd H1 a (exo a C none))
  (fun v H2 => v = .non ∧ ∃ (d : Addr) (fs : List (Str × V)), H2 a = some (exo a C (some d)) ∧ H2 d = some (exd d fs) ∧ H1 d = none ∧ Q (.ref C) (some d) (upd (del H2 a) d (.xd fs))) (fun _ _ _ => False)
theorem w_mko {sp : Sp} {dvs : List V} {Q : XK} (q : ts σ H fun vs H1 => MkO C sp vs dvs H1 Q) : tMkO C sp dvs ts σ H Q := by
  revert q
  unfold tMkO MkO
  exact id
/-- what an own __init__ with one field promises -/
def spXinit (C : Addr) (f : Str) (ok : V → Prop) : Sp := fun vs H Q _ => ∃ (B : Hp) (e : Addr) (v : V), vs = [.ref e, v] ∧ Hs B [(e, exo e C none)] H ∧ ok v ∧ ∀ dx H', Hs B [(dx, exd dx [(f, v)]), (e, exo e C (some dx))] H' → Q .non H'
theorem w_mkX {ok : V → Prop} {Q : XK} (hs : Hs B L H) (hv : ok v) (q : ∀ d H', Hs B ((d, .xd [(f, v)]) :: L) H' → Q (.ref C) (some d) H') : MkO C (spXinit C f ok) [v] [] H Q := by
  refine ⟨by simp, fun a ha => ?_⟩
  have h1 := hs.new (o := exo a C none) ha
  obtain ⟨_, h2, back⟩ := h1.frame [(a, exo a C none)]
  refine ⟨_, a, v, rfl, h2, hv, fun dx H2 h3 => ⟨rfl, dx, [(f, v)], h3.g1, h3.g0, ?_, ?_⟩⟩
  · have n : dx ≠ a := fun e => by
      have := h3.nd
      rw [e] at this
      simp at this
    have z := h3.out _ List.mem_cons_self
    have nm : dx ∉ [(a, exo a C none)].map (·.1) := by
      simp only [List.map_cons, List.map_nil, List.mem_singleton]
      exact n
    have z2 : upd H a (exo a C none) dx = none := (around_out nm).symm.trans z
    rwa [upd_ne n] at z2
  · have h4 := back _ _ h3
    have nd := h4.nd
    have hda : dx ≠ a := fun e => by
      rw [e] at nd
      simp at nd
    have nL : ∀ e ∈ L, e.1 ≠ dx ∧ e.1 ≠ a := fun e he => by
      simp only [List.cons_append, List.nil_append, List.map_cons, List.nodup_cons, List.mem_cons, not_or] at nd
      refine ⟨fun z => nd.1.2 ?_, fun z => nd.2.1 ?_⟩
      · rw [← z]
        exact List.mem_map.mpr ⟨e, he, rfl⟩
      · rw [← z]
        exact List.mem_map.mpr ⟨e, he, rfl⟩
    have ba : B a = none := hs.same.free ha
    have bd : B dx = none := h4.out _ List.mem_cons_self
    refine q dx _ ⟨fun b o e => ?_, ?_, fun e he => ?_, fun e he => ?_⟩
    · have n1 : b ≠ dx := fun z => by
        rw [z, bd] at e
        cases e
      have n2 : b ≠ a := fun z => by
        rw [z, ba] at e
        cases e
      rw [upd_ne n1, del_ne n2]
      exact h4.same b o e
    · simp only [List.cons_append, List.nil_append, List.map_cons, List.nodup_cons, List.mem_cons, not_or] at nd ⊢
      exact ⟨nd.1.2, nd.2.2⟩
    · rcases List.mem_cons.mp he with rfl | he
      · exact bd
      · exact hs.out e he
    · rcases List.mem_cons.mp he with rfl | he
      · exact upd_same
      · obtain ⟨n1, n2⟩ := nL e he
        rw [upd_ne n1, del_ne n2]
        exact h4.at_ e (List.mem_cons_of_mem _ (List.mem_cons_of_mem _ he))
theorem w_methQ {sp : Sp} {E : St → XK} {m : Str} {ta : TE} (q : ta σ H fun x H1 => Rc m C x H1 (ts σ H1 fun vs H2 => sp (x :: vs) H2 Q (E σ))) : tMethQ C m sp E ta ts σ H Q := by
  revert q
  unfold tMethQ Rc
  exact id
theorem w_isX {d : Addr} {fs : List (Str × V)} {C' : Addr} {b : Bool} (h : H d = some (.xd fs)) (hx : XcC K C) (hk : PySem.W.kitOne K (.ref C) (.ref C') = some b) (q : Q (.bl b) H) : rIsX K a (.ref C) (some d) [.ref a, .ref C'] H Q := ⟨C, C', d, fs, b, rfl, rfl, h, rfl, hx, hk, q⟩
def RXf (a : Addr) (cls : Value) (d : Option Addr) (C : Addr) (f : Str) (x : V) (H : Hp) (Q : VK) : Prop := x = .ref a ∧ cls = .ref C ∧ ∃ (dd : Addr) (fs : List (Str × V)) (v : V), d = some dd ∧ H dd = some (.xd fs) ∧ fs.lookup f = some v ∧ Q v H
theorem w_xf0 {cls : Value} {d : Option Addr} (q : te σ H fun x H1 => RXf a cls d C f x H1 Q) : tXf a cls d C f te σ H Q := q
theorem w_xf {d : Addr} {fs : List (Str × V)} (h : H d = some (.xd fs)) (hl : fs.lookup f = some v) (q : Q v H) : RXf a (.ref C) (some d) C f (.ref a) H Q := ⟨rfl, rfl, d, fs, v, rfl, h, hl, q⟩
theorem w_was {i : Nat} {ts : Addr → Value → Option Addr → TS} {Wout : WX} {d : Addr} (he : PySem.W.exmOne K (.ref C) (.ref C) = some true)
    (q : ∀ e, H e = none → ts e (.ref C) (some d) { nx := fun σ' H' => D.nx (σ'.set i none) H', rt := D.rt, bk := fun σ' H' => D.bk (σ'.set i none) H', ct := fun σ' H' => D.ct (σ'.set i none) H' } (σ.set i (some (.ref e))) H) :
    wAs K (.ref C) i ts Wout D (.ref C) (some d) σ H := ⟨true, he, fun _ e h => q e h, fun z => Bool.noConfusion z⟩
theorem w_eqSt {a b : Str} (q : Q (.bl (decide (a = b))) H) : rEq (.str a) (.str b) H Q := ⟨rfl, by
  have e : decide (V.str a = V.str b) = decide (a = b) := by
    by_cases h : a = b
    · rw [decide_eq_true h, decide_eq_true (congrArg V.str h)]
    · rw [decide_eq_false h, decide_eq_false fun q => h (V.str.inj q)]
  rw [e]
  exact q⟩
/-- texts of an f-string -/
theorem w_js {t : TE} {us : List TE} {acc : Str} {Q : Str → Hp → Prop} (q : t σ H fun x H1 => ∃ y : Str, x = .str y ∧ (acc ++ y).length ≤ sizeLine ∧ tJs us (acc ++ y) σ H1 Q) : tJs (t :: us) acc σ H Q := q
theorem w_js0 {acc : Str} {Q : Str → Hp → Prop} (q : Q acc H) : tJs [] acc σ H Q := q
theorem w_js1 {s acc : Str} {R : Str → Prop} (h : (acc ++ s).length ≤ sizeLine) (q : R s) : ∃ y : Str, V.str s = .str y ∧ (acc ++ y).length ≤ sizeLine ∧ R y := ⟨s, rfl, h, q⟩
def RFmt (x : V) (H : Hp) (Q : VK) : Prop := (∃ y : Str, x = .str y ∧ y.length ≤ sizeLine ∧ Q (.str y) H) ∨ ∃ i : Int, x = .int i ∧ i.natAbs.log2 < 1920 ∧ Q (.str (toString i)) H
theorem w_fmt (q : te σ H fun x H1 => RFmt x H1 Q) : tFmt te σ H Q := q
theorem w_fmtS {s : Str} (h : s.length ≤ sizeLine) (q : Q (.str s) H) : RFmt (.str s) H Q := .inl ⟨s, rfl, h, q⟩
theorem w_fmtI {n : Int} (h : n.natAbs < 2 ^ 64) (q : Q (.str (toString n)) H) : RFmt (.int n) H Q := .inr ⟨n, rfl, Nat.lt_of_lt_of_le (PySem.Flt.log2_lt_of (by decide) h) (by decide), q⟩
def tRaiseX (W : WX) (t : St → Hp → XK → Prop) : TS := fun _ σ H => t σ H fun cls d H' => W cls d σ H'
theorem ps_raiseQ {X : Cx} {W : WX} {e : Expr} {t : St → Hp → XK → Prop} {pos : Pos} (hc : X.calm = true) (tk : Takes X W) (he : PMk X e t) : PS X (.Raise (some e) none pos) (tRaiseX W t) := ps_raise hc tk he
theorem w_raise {W : WX} {t : St → Hp → XK → Prop} (q : t σ H fun cls d H' => W cls d σ H') : tRaiseX W t D σ H := q
end

/-! ### data that nobody changes: scalars and tuples -/
mutual
inductive Im (K : PySem.W.Frag) (H : Hp) : V → PyData → Prop
  | non : Im K H .non .none
  | bl (b : Bool) : Im K H (.bl b) (.bool b)
  | int (i : Int) : Im K H (.int i) (.int i)
  | str (x : Str) : Im K H (.str x) (.str x)
  | tup {a : Addr} {xs : List V} {ds : List PyData} : H a = some (.tup xs) → ImAll K H xs ds → Im K H (.ref a) (.tuple ds)
inductive ImAll (K : PySem.W.Frag) (H : Hp) : List V → List PyData → Prop
  | nil : ImAll K H [] []
  | cons {v : V} {vs : List V} {d : PyData} {ds : List PyData} : Im K H v d → ImAll K H vs ds → ImAll K H (v :: vs) (d :: ds)
end
section
variable {K : PySem.W.Frag} {H H' : Hp}
mutual
theorem Im.dp : ∀ {d : PyData} {v : V}, Im K H v d → Dp K H v d
  | .none, _, h => by cases h; exact .non
  | .bool _, _, h => by cases h; exact .bl _
  | .int _, _, h => by cases h; exact .int _
  | .str _, _, h => by cases h; exact .str _
  | .tuple _, _, h => by
    cases h with
    | tup h1 h2 => exact .tup (SqT.of h1) h2.dp
  | .list _, _, h => nomatch h
  | .dict _, _, h => nomatch h
theorem ImAll.dp : ∀ {ds : List PyData} {vs : List V}, ImAll K H vs ds → DpAll K H vs ds
  | [], _, h => by cases h; exact .nil
  | _ :: _, _, h => by
    cases h with
    | cons h1 h2 => exact .cons h1.dp h2.dp
end
mutual
theorem Im.mono (e : ∀ a xs, H a = some (.tup xs) → H' a = some (.tup xs)) : ∀ {d : PyData} {v : V}, Im K H v d → Im K H' v d
  | .none, _, h => by cases h; exact .non
  | .bool _, _, h => by cases h; exact .bl _
  | .int _, _, h => by cases h; exact .int _
  | .str _, _, h => by cases h; exact .str _
  | .tuple _, _, h => by
    cases h with
    | tup h1 h2 => exact .tup (e _ _ h1) (h2.mono e)
  | .list _, _, h => nomatch h
  | .dict _, _, h => nomatch h
theorem ImAll.mono (e : ∀ a xs, H a = some (.tup xs) → H' a = some (.tup xs)) : ∀ {ds : List PyData} {vs : List V}, ImAll K H vs ds → ImAll K H' vs ds
  | [], _, h => by cases h; exact .nil
  | _ :: _, _, h => by
    cases h with
    | cons h1 h2 => exact .cons (h1.mono e) (h2.mono e)
end
theorem Im.same (e : Same H H') {d : PyData} {v : V} (h : Im K H v d) : Im K H' v d := h.mono fun _ _ => e _ _
theorem ImAll.same (e : Same H H') {ds : List PyData} {vs : List V} (h : ImAll K H vs ds) : ImAll K H' vs ds := h.mono fun _ _ => e _ _
theorem ImAll.snoc {ds : List PyData} {vs : List V} {d : PyData} {v : V} (h : ImAll K H vs ds) (h1 : Im K H v d) : ImAll K H (vs ++ [v]) (ds ++ [d]) := by
  induction vs generalizing ds with
  | nil =>
    cases h
    exact .cons h1 .nil
  | cons w ws ih =>
    cases h with
    | cons a b => exact .cons a (ih b)
theorem ImAll.len : ∀ {ds : List PyData} {vs : List V}, ImAll K H vs ds → vs.length = ds.length
  | [], _, h => by cases h; rfl
  | _ :: _, _, h => by
    cases h with
    | cons _ b => exact congrArg (· + 1) b.len
/-- what is data stays data where a list changes -/
theorem tup_but {p : Addr} {o o' : HO} (h : H p = some o) (n : ∀ xs, o ≠ .tup xs) (a : Addr) (xs : List V) (e : H a = some (.tup xs)) : upd H p o' a = some (.tup xs) := by
  have d : a ≠ p := fun z => by
    rw [z, h] at e
    exact n xs (Option.some.inj e)
  rw [upd_ne d]
  exact e
theorem Hs.base {B B2 : Hp} {L : List (Addr × HO)} (e : Same B B2) (h : Hs B2 L H) : Hs B L H := ⟨e.trans h.same, h.nd, fun x hx => e.free (h.out x hx), h.at_⟩
end
section
variable {K : PySem.W.Frag} {σ : St} {H : Hp} {Q : VK} {te : TE} {ts : TA}
/-- [e for i in range(lo, hi)], each e data that is made anew -/
theorem w_lcI {vs : List Nat} {j : Nat} {lo hi : Int} (b1 : -(2 ^ 62) ≤ lo ∧ lo < 2 ^ 62 ∧ -(2 ^ 62) ≤ hi ∧ hi < 2 ^ 62) (hz : hi - lo ≤ 1000000) (ds : Nat → PyData) (hta : ∀ Q : List V → Hp → Prop, Q [.int lo, .int hi] H → ts σ H Q)
    (hw : ∀ v, wipe ((wipe σ vs).set j (some v)) vs = wipe σ vs)
    (he : ∀ (i : Nat) (H' : Hp) (Q' : VK), lo + (i : Int) < hi → Same H H' → (∀ y H3, Same H' H3 → Im K H3 y (ds i) → Q' y H3) → te ((wipe σ vs).set j (some (.int (lo + (i : Int))))) H' Q')
    (hq : ∀ D acc H', Hs H [(D, .lst acc)] H' → ImAll K H' acc ((List.range (hi - lo).toNat).map ds) → Q (.ref D) H') : tLc (iRng2 ts) (gName j) tYes te vs σ H Q := by
  refine w_lcR b1 (fun D i H' => ∃ acc, Hs H [(D, .lst acc)] H' ∧ ImAll K H' acc ((List.range i).map ds)) hta (fun D hD => ⟨[], (Hs.start H).new hD, .nil⟩) ?_ ?_
  · rintro D i H' hi' ⟨acc, h1, h2⟩
    refine ⟨hw _, ?_⟩
    refine w_yes (iteT ?_)
    refine he i H' _ hi' h1.same fun y H3 s3 hy => ?_
    have hD : H3 D = some (.lst acc) := s3 _ _ h1.g0
    have hl := h2.len
    rw [List.length_map, List.length_range] at hl
    refine ⟨acc, hD, szl (by omega), acc ++ [y], ?_, ?_⟩
    · have h3 : Hs H [(D, .lst acc)] H3 := ⟨h1.same.trans s3, h1.nd, h1.out, fun e he => s3 _ _ (h1.at_ e he)⟩
      exact h3.p0 _
    · rw [List.range_succ, List.map_append]
      exact ((h2.same s3).snoc hy).mono fun a xs => tup_but hD (fun _ z => by cases z) a xs
  · rintro D H' ⟨acc, h1, h2⟩
    exact hq D acc H' h1 h2
theorem w_lcI1 {vs : List Nat} {j : Nat} {hi : Int} (b1 : -(2 ^ 62) ≤ hi ∧ hi < 2 ^ 62) (hz : hi ≤ 1000000) (ds : Nat → PyData) (hta : ∀ Q : List V → Hp → Prop, Q [.int hi] H → ts σ H Q)
    (hw : ∀ v, wipe ((wipe σ vs).set j (some v)) vs = wipe σ vs)
    (he : ∀ (i : Nat) (H' : Hp) (Q' : VK), (i : Int) < hi → Same H H' → (∀ y H3, Same H' H3 → Im K H3 y (ds i) → Q' y H3) → te ((wipe σ vs).set j (some (.int (i : Int)))) H' Q')
    (hq : ∀ D acc H', Hs H [(D, .lst acc)] H' → ImAll K H' acc ((List.range hi.toNat).map ds) → Q (.ref D) H') : tLc (iRng1 ts) (gName j) tYes te vs σ H Q := by
  refine w_lcR1 b1 (fun D i H' => ∃ acc, Hs H [(D, .lst acc)] H' ∧ ImAll K H' acc ((List.range i).map ds)) hta (fun D hD => ⟨[], (Hs.start H).new hD, .nil⟩) ?_ ?_
  · rintro D i H' hi' ⟨acc, h1, h2⟩
    refine ⟨hw _, ?_⟩
    refine w_yes (iteT ?_)
    refine he i H' _ hi' h1.same fun y H3 s3 hy => ?_
    have hD : H3 D = some (.lst acc) := s3 _ _ h1.g0
    have hl := h2.len
    rw [List.length_map, List.length_range] at hl
    refine ⟨acc, hD, szl (by omega), acc ++ [y], ?_, ?_⟩
    · have h3 : Hs H [(D, .lst acc)] H3 := ⟨h1.same.trans s3, h1.nd, h1.out, fun e he => s3 _ _ (h1.at_ e he)⟩
      exact h3.p0 _
    · rw [List.range_succ, List.map_append]
      exact ((h2.same s3).snoc hy).mono fun a xs => tup_but hD (fun _ z => by cases z) a xs
  · rintro D H' ⟨acc, h1, h2⟩
    exact hq D acc H' h1 h2
theorem depth_all {n : Nat} : ∀ ds : List PyData, (∀ d ∈ ds, d.depth ≤ n) → PyData.depthAll ds ≤ n
  | [], _ => by simp [PyData.depthAll]
  | d :: ds, h => by
    have h1 := h d List.mem_cons_self
    have h2 := depth_all ds fun x hx => h x (List.mem_cons_of_mem _ hx)
    simp only [PyData.depthAll]
    omega
theorem lay_all : ∀ ds : List PyData, (∀ d ∈ ds, d.canLay0 = true) → PyData.canLayAll0 ds = true
  | [], _ => by simp [PyData.canLayAll0]
  | d :: ds, h => by
    have h1 := h d List.mem_cons_self
    have h2 := lay_all ds fun x hx => h x (List.mem_cons_of_mem _ hx)
    simp only [PyData.canLayAll0, h1, h2, Bool.and_self]
theorem shp_list {ds : List PyData} (h : ∀ d ∈ ds, d.canLay0 = true ∧ d.depth ≤ 60) : SeqAt.shaped (.list ds) = true := by
  have e := depth_all ds fun d hd => (h d hd).2
  have l := lay_all ds fun d hd => (h d hd).1
  unfold SeqAt.shaped PyData.canLay0 PyData.depth
  rw [l]
  simp only [Bool.true_and, decide_eq_true_eq]
  omega
/-- two lists of like data are equal -/
theorem w_eqL {p q : Addr} {xs ys : List V} {ds : List PyData} (hp : H p = some (.lst xs)) (hq : H q = some (.lst ys)) (h1 : ImAll K H xs ds) (h2 : ImAll K H ys ds) (h : ∀ d ∈ ds, d.canLay0 = true ∧ d.depth ≤ 60) (k : Q (.bl true) H) : rEqD K (.ref p) (.ref q) H Q :=
  ⟨_, _, .lst (SqL.of hp) h1.dp, .lst (SqL.of hq) h2.dp, shp_list h, shp_list h, by
    rw [SeqAt.eqv_refl _ (by have := shp_list h; unfold SeqAt.shaped at this; exact (Bool.and_eq_true_iff.mp this).1)]
    exact k⟩
theorem w_neL {p q : Addr} {xs ys : List V} {ds : List PyData} (hp : H p = some (.lst xs)) (hq : H q = some (.lst ys)) (h1 : ImAll K H xs ds) (h2 : ImAll K H ys ds) (h : ∀ d ∈ ds, d.canLay0 = true ∧ d.depth ≤ 60) (k : Q (.bl false) H) : rNeD K (.ref p) (.ref q) H Q :=
  ⟨_, _, .lst (SqL.of hp) h1.dp, .lst (SqL.of hq) h2.dp, shp_list h, shp_list h, by
    rw [SeqAt.eqv_refl _ (by have := shp_list h; unfold SeqAt.shaped at this; exact (Bool.and_eq_true_iff.mp this).1)]
    exact k⟩
theorem ima_str : ∀ xs : List Str, ImAll K H (xs.map V.str) (xs.map PyData.str)
  | [] => .nil
  | x :: xs => .cons (.str x) (ima_str xs)
end
end Hb

set_option Elab.async false
set_option maxRecDepth 100000
set_option maxHeartbeats 4000000
/-! An own exception's __init__ that says super().__init__(..): the def closes over its class. -/
namespace Hb
open PySem L2 ClX PySem.W PyProof.Rows

section
variable {X : Cx} {pins : List (Addr × Obj)} {σ : L2.St} {H : Hp} {s : Shared} {a C u : Addr} {A : Around} {E : Value → Shared → Prop}
theorem exo_upd {H : Hp} {a : Addr} {o : HO} (e : H a = some o) : upd H a o = H := by
  funext b
  by_cases hb : b = a
  · rw [hb, upd_same, e]
  · rw [upd_ne hb]
/-- ValueError's __init__ bound to the exception, called -/
theorem call_mw {us : List Value} {Q : Value → Shared → Prop} (T : OexC X.K C) (I : Inv X pins σ H s) (e : H a = some (exo a C none)) (hu : s.heap.get? u = some (kxs_mw "ValueError.__init__" a)) (hl : us.length ≤ sizeLine)
    (h : ∀ s', Inv X pins σ H s' → Q .none s') : wpAny (model X.prog X.w) A (call (.ref u) us) Q E s := by
  obtain ⟨nm, q, N, bs, bm, sn, sub, ab, col, dd, k0, k1, k2, k3, k5, hC, hbm⟩ := T.cls
  obtain ⟨t1, ho⟩ := exo_at I.hok e
  have hC' := I.kIn _ _ hC
  have FB := F.excBase_ValueError
  obtain ⟨hp, g, d, t, os⟩ := s
  refine wpAny_call (codeAny_of_tree ?_)
  show wpAny _ A.in1 (callAny (.ref u) ⟨us, []⟩) _ _ _
  simp only [callAny]
  refine wpAny_bind (wpAny_load hu ?_)
  simp only [show (Value.type "method-wrapper" == Value.type "method" || Value.type "method-wrapper" == Value.type "builtin_function_or_method" || Value.type "method-wrapper" == Value.type "method-wrapper") = true by decide, if_true]
  refine KFB.if_so (by decide) ?_
  refine wpAny_bind (check_bound_init FB.toExcCallFacts hC' ho rfl ?_)
  refine wpAny_bind (wpAny_pure (wpAny_pure ?_))
  refine ⟨plainId_quiet FB.init.plain _, codeAny_builtin FB.initEntry ?_⟩
  refine exc_init_tree (cls := .ref C) (t0 := t1) (dv := none) (c2 := .none) (c3 := .none) (b4 := .bool false) ho hl fun h' k hx _ => ?_
  have J := I.write (t' := t) (x := a) (e := a) (o := exo a C none) (by rw [e]; exact True.intro) (.inl rfl) k ⟨_, hx⟩ (exo_ok hx)
  rw [exo_upd e] at J
  exact h _ J
end

/-- what stands of a def that closes over its class -/
structure FunS (P : Program) (K : PySem.W.Frag) (mg : Str → Option Value) (x qual : Str) (st : Stmt) (f : Addr) (fd : FuncData) (C : Addr) : Prop where
  ex : ∃ (oc : Value) (od : Option Addr) (kV doc pm : Value) (an : Option Addr) (cda : Addr) (ct : Value) (cc : Addr) (osl : Array (Option Value)) (ccl : Value) (cdd : Option Addr) (vs : Array Value) (ccs : Array (Option Value)) (file : Str) (tf : Tok) (cl : Value) (cld : Option Addr) (csl : Array (Option Value)),
    fd = fnX x qual (defArgs st) (defBody st) (defScope st) [("__class__", cc)] .none kV doc pm an (.ref cda) ct ∧ K.lookup f = some ⟨oc, od, .func fd, osl⟩ ∧ codeIn K (.ref cda) qual = true ∧
    K.lookup cda = some ⟨ccl, cdd, .fields vs, ccs⟩ ∧ vs[2]? = some (.str file tf) ∧ ((P.main.file : Str) == file) = true ∧ K.lookup cc = some ⟨cl, cld, .cell (some (.ref C)), csl⟩
  cls : ∃ cd, clsIn K C = some cd
  sub : mroIn K C (.ref C) = some true
  nsup : mg "super" = none
  nany : nsIn K cStatics "thirdparty.any" = some none
  sup : ks_superIn K C C "__init__" = some (some (.builtin "ValueError.__init__"))
  isV : subIn K (.ref C) (.type "ValueError") = some true
  top : (P.main.scope.names.lookup ("super" : Str)).isSome = false

/-- .. and of its names -/
structure ScS (N ps : List Str) (ar : Arg) (st : Stmt) : Prop where
  kind : (defScope st).kind = .function
  co : (defScope st).isCoroutine = false
  gen : (defScope st).isGenerator = false
  nd : N.Nodup
  pre : N.take ps.length = ps
  par : ∀ x ∈ ps, (defScope st).names.lookup x = some .local
  nocell : ∀ y ∈ (defScope st).names, y.2 ≠ .cell
  free : ∀ y, (defScope st).names.lookup y = some .free → y = ("__class__" : Str)
  sup : (defScope st).names.lookup ("super" : Str) = some .globalImplicit
  cls : (defScope st).names.lookup ("__class__" : Str) = some .free
  head : ((defArgs st).posonlyargs ++ (defArgs st).args).head? = some ar
  self : N[0]? = some ar.arg
  selfL : (defScope st).names.lookup ar.arg = some .local

theorem scS_by {N ps : List Str} {ar : Arg} {st : Stmt} (h : (decide ((defScope st).kind = .function) && !(defScope st).isCoroutine && !(defScope st).isGenerator && decide N.Nodup && decide (N.take ps.length = ps)) = true)
    (hn : (ps.all (fun x => decide ((defScope st).names.lookup x = some .local)) && (defScope st).names.all (fun y => !decide (y.2 = .cell)) && (defScope st).names.all (fun y => !decide (y.2 = .free) || decide (y.1 = ("__class__" : Str))) &&
      decide ((defScope st).names.lookup ("super" : Str) = some .globalImplicit) && decide ((defScope st).names.lookup ("__class__" : Str) = some .free)) = true)
    (head : ((defArgs st).posonlyargs ++ (defArgs st).args).head? = some ar) (hp : (decide (0 < ps.length)) = true) (self : N[0]? = some ar.arg) (selfL : (decide ((defScope st).names.lookup ar.arg = some .local)) = true) : ScS N ps ar st := by
  simp only [Bool.and_eq_true, Bool.not_eq_true', decide_eq_true_eq, List.all_eq_true, Bool.or_eq_true, decide_eq_false_iff_not] at h hn selfL
  obtain ⟨⟨⟨⟨h1, h2⟩, h3⟩, h4⟩, h5⟩ := h
  obtain ⟨⟨⟨⟨n1, n2⟩, n3⟩, n4⟩, n5⟩ := hn
  exact ⟨h1, h2, h3, h4, h5, n1, n2, fun y hy => (n3 _ (PySem.mem_of_lookup hy)).resolve_left (fun z => z rfl), n4, n5, head, self, selfL⟩

/-- the context of its body -/
def sxOf (P : Program) (w : World) (K : PySem.W.Frag) (mg : Str → Option Value) (base : Heap) (N : List Str) (qual : Str) (scope : Scope) (f cda cc : Addr) (A : Around) (outer : List Env) (s : Shared) (H : Hp) : Cx where
  prog := P
  w := w
  K := K
  mg := mg
  base := base
  A := A.deeper (ksEnv qual scope s.heap.objs.size f (.ref cda) cc)
  N := N
  s_0 := s
  H_0 := H
  env := ksEnv qual scope s.heap.objs.size f (.ref cda) cc
  outer := outer
  stack := ksEnv qual scope s.heap.objs.size f (.ref cda) cc :: outer
  ex := []
  calm := true
  fn := fun x => x != ("__class__" : Str)
  pn := []
  xe := fun _ _ => False

theorem rev_zip_get : ∀ {ps : List Str} {us : List Value} {i : Nat} {y : Str} {u : Value}, ps.Nodup → ps[i]? = some y → us[i]? = some u → (ps.zip us).reverse.lookup y = some u
  | [], _, _, _, _, _, h, _ => by cases h
  | _ :: _, [], _, _, _, _, _, h => by simp at h
  | p :: ps, v :: us, 0, y, u, nd, h1, h2 => by
    obtain rfl : p = y := Option.some.inj h1
    obtain rfl : v = u := Option.some.inj h2
    rw [List.zip_cons_cons, List.reverse_cons, List.lookup_append]
    have n : (ps.zip us).reverse.lookup p = none := by
      rw [List.lookup_eq_none_iff]
      intro q hq
      have := (List.of_mem_zip (List.mem_reverse.mp hq)).1
      simp only [bne_iff_ne, ne_eq]
      exact fun e => (List.nodup_cons.mp nd).1 (by rw [e]; exact this)
    rw [n]
    simp [List.lookup]
  | p :: ps, v :: us, i + 1, y, u, nd, h1, h2 => by
    rw [List.zip_cons_cons, List.reverse_cons, List.lookup_append, rev_zip_get (i := i) (List.nodup_cons.mp nd).2 (by simpa using h1) (by simpa using h2)]
    rfl

section
variable {P : Program} {w : World} {K : PySem.W.Frag} {mg : Str → Option Value} {base : Heap} {N ps : List Str} {qual : Str} {f cda cc C : Addr} {A : Around} {outer : List Env} {s : Shared} {H : Hp} {st : Stmt} {ar : Arg}
theorem inv_startS {us : List Value} {vs : List V} {h₀ : Heap} {t' : Nat} {oC : Obj} (S : ScS N ps ar st) (hd : A.handled = none) (e0 : Env0 P w K mg base A outer s H) (hl : vs.length = ps.length) (r : Vals vs us)
    (hcc : base.get? cc = some oC) (hco : ∃ v, oC.data = .cell v) (hns : h₀.Ns s.heap.objs.size (fun x => (ps.zip us).reverse.lookup x)) (hk : ∀ b o, s.heap.get? b = some o → h₀.get? b = some o) :
    Inv (sxOf P w K mg base N qual (defScope st) f cda cc A outer s H) [] (L2.start N vs) H { s with heap := h₀, toks := t' } := by
  have hpl : ps.length ≤ N.length := by have := congrArg List.length S.pre; rw [List.length_take] at this; omega
  have noA : ∀ b : Addr, b ∉ (sxOf P w K mg base N qual (defScope st) f cda cc A outer s H).ex := fun b z => absurd (show b ∈ ([] : List Addr) from z) (by simp)
  have cell1 : ∀ {x : Str} {c : Addr}, (sxOf P w K mg base N qual (defScope st) f cda cc A outer s H).env.cells.lookup x = some c → x = "__class__" ∧ c = cc := fun {x c} e => by
    have e' : List.lookup x [(("__class__" : Str), cc)] = some c := e
    by_cases hx : x = "__class__"
    · subst hx
      refine ⟨rfl, ?_⟩
      simp [List.lookup] at e'
      exact e'.symm
    · have hb : (x == ("__class__" : Str)) = false := by simpa using hx
      simp [List.lookup, hb] at e'
  have hcs := (e0.bs cc oC hcc)
  refine ⟨⟨e0.mod, S.kind, rfl, rfl, Nat.le_refl _, fun y z c h1 h2 => ?_, fun y hy => ?_, fun y c hf h => ?_, fun _ => hd, Around.frames_deeper e0.frames, .inr ⟨rfl, rfl⟩, fun b z => absurd z (noA b), e0.bs, e0.bsz, fun b _ _ => noA b, fun b z => absurd z (noA b), e0.funs, e0.frf⟩,
    rfl, e0.bare, Un.kept hk, ⟨_, hns, fun i y v h1 h2 h3 => ?_⟩, fun y c h => ?_, e0.hok.fresh (Nat.le_refl _), fun y c h => ?_, fun p hp => absurd (show p ∈ ([] : List (Addr × Obj)) from hp) (by simp), e0.hok.kept hk, ?_⟩
  · rw [(cell1 h1).1, (cell1 h2).1]
  · have hy : (defScope st).names.lookup y = some .cell ∨ (defScope st).names.lookup y = some .free := hy
    rcases hy with hy | hy
    · exact absurd rfl (S.nocell _ (PySem.mem_of_lookup hy))
    · rw [S.free y hy]
      exact ⟨cc, rfl⟩
  · rw [(cell1 h).1] at hf
    exact absurd (show (("__class__" : Str) != ("__class__" : Str)) = true from hf) (by decide)
  · have hi : i < vs.length := by
      unfold L2.start at h2
      by_cases hi : i < vs.length
      · exact hi
      · rw [List.getElem?_append_right (by simpa using hi)] at h2
        rw [List.getElem?_replicate] at h2
        split at h2 <;> cases h2
    have ha : vs[i]? = some v := by
      unfold L2.start at h2
      rw [List.getElem?_append_left (by simpa using hi), List.getElem?_map] at h2
      cases e : vs[i]? with
      | none => rw [e] at h2; cases h2
      | some a => rw [e] at h2; cases h2; rfl
    obtain ⟨u, hu, rv⟩ := r.get ha
    have hp : ps[i]? = some y := by
      rw [← S.pre, List.getElem?_take_of_lt (by omega)]; exact h1
    have ndP : ps.Nodup := by rw [← S.pre]; exact S.nd.sublist (List.take_sublist _ _)
    exact ⟨u, rv, .inl ⟨S.par y (List.mem_of_getElem? hp), rev_zip_get ndP hp hu⟩⟩
  · obtain ⟨v, hv⟩ := hco
    rw [(cell1 h).2]
    exact ⟨v, oC, hk _ _ hcs.1, hv⟩
  · rw [(cell1 h).2]
    exact hcs.2
  · unfold L2.start
    show _ = N.length
    rw [List.length_append, List.length_map, List.length_replicate]
    omega

/-- the line super().__init__(..) -/
theorem super_line {fd : FuncData} {x : Str} {body : List Stmt} {a L : Addr} {e : Expr} {es : List Expr} {p0 p1 p2 p3 p4 : Pos} {ta : TA} {σ : L2.St} {s1 : Shared} {H1 : Hp} {D : Hp → Prop} {X : Cx} {oc : Value} {od : Option Addr} {kV doc pm : Value} {an : Option Addr} {ct : Value} {osl : Array (Option Value)}
    {ccl : Value} {cdd : Option Addr} {vs : Array Value} {ccs : Array (Option Value)} {file : Str} {tf : Tok} {cl : Value} {cld : Option Addr} {csl : Array (Option Value)}
    (S : ScS N ps ar st) (F : FunS X.prog X.K X.mg x qual st f fd C) (henv : X.env = ksEnv qual (defScope st) L f (.ref cda) cc) (hN : X.N = N)
    (h1 : fd = fnX x qual (defArgs st) (defBody st) (defScope st) [("__class__", cc)] .none kV doc pm an (.ref cda) ct) (h2 : X.K.lookup f = some ⟨oc, od, .func fd, osl⟩)
    (h4 : X.K.lookup cda = some ⟨ccl, cdd, .fields vs, ccs⟩) (h5 : vs[2]? = some (.str file tf)) (h6 : ((X.prog.main.file : Str) == file) = true) (h7 : X.K.lookup cc = some ⟨cl, cld, .cell (some (.ref C)), csl⟩)
    (T : OexC X.K C) (I : Inv X [] σ H1 s1) (h0 : σ[0]? = some (some (.ref a))) (ea : H1 a = some (exo a C none)) (ha : PA X (e :: es) ta)
    (ht : ta σ H1 fun us H2 => us.length ≤ 1000 ∧ H2 a = some (exo a C none) ∧ D H2)
    {pl : Sem Bool} (hc : eval (.Call (.Attribute (.Call (.Name "super" p0) [] [] p1) "__init__" p2) (e :: es) [] p3) X.env = (do
      let ov ← attributeBase (.Call (.Name "super" p0) [] [] p1) "__init__" X.env (eval (.Call (.Name "super" p0) [] [] p1) X.env)
      standAt p2.atName
      let (f, first) ← holding [ov] (getMethod ov "__init__" pl)
      callWith p3 f first (backTo p3 (starEach (e :: es) X.env)) []))
    (he : starEach (e :: es) X.env = (false, eval e X.env) :: starEach es X.env) (hpl : (backTo p3 (starEach es X.env)).any (·.1) = false) (hi : interactive X.env = false) :
    PySem.wpAt (model X.prog X.w) X.A (.func body X.env) (exec (.Expr (.Call (.Attribute (.Call (.Name "super" p0) [] [] p1) "__init__" p2) (e :: es) [] p3) p4) X.env)
      (fun fl s' => fl = .next ∧ ∃ H2, Inv X [] σ H2 s' ∧ D H2) X.xe s1 := by
  obtain ⟨cdD, hD⟩ := F.cls
  obtain ⟨m, hns, hlook⟩ := I.loc
  obtain ⟨ux, rux, hlx⟩ := hlook 0 ar.arg (.ref a) (by rw [hN]; exact S.self) h0 (by rw [henv]; exact .inl S.selfL)
  obtain rfl : ux = Value.ref a := rux
  have hv : m ar.arg = some (.ref a) := by
    rcases hlx with hlx | ⟨hk, _⟩
    · exact hlx.2
    · have e' : (defScope st).names.lookup ar.arg = some .cell ∨ (defScope st).names.lookup ar.arg = some .free := by rw [henv] at hk; exact hk
      rw [S.selfL] at e'
      rcases e' with e' | e' <;> cases e'
  have X1 : X.K.In s1.heap := I.kIn
  obtain ⟨t1, ho⟩ := exo_at I.hok ea
  have Ia : InstAt s1.heap a _ C none := ⟨ho, rfl, rfl, trivial⟩
  obtain ⟨oD, hD1, hD2⟩ : ∃ oD, s1.heap.get? C = some oD ∧ oD.data = .cls cdD := by
    unfold clsIn at hD
    split at hD
    · rename_i c d cd' sl ho
      cases hD
      exact ⟨_, X1 _ _ ho, rfl⟩
    · cases hD
  obtain ⟨mb, hb1, hb2⟩ := I.mod.blt
  have hks : X.env.kindOf "super" = some .globalImplicit := by rw [henv]; exact S.sup
  have hkc : X.env.kindOf "__class__" = some .free := by rw [henv]; exact S.cls
  have hka : X.env.kindOf ar.arg = some .local := by rw [henv]; exact S.selfL
  have hcells : X.env.cells.lookup ("__class__" : Str) = some cc := by rw [henv]; rfl
  have hfun : X.env.func = some f := by rw [henv]
  have hcod : X.env.code = .ref cda := by rw [henv]
  have hns' : s1.heap.Ns X.env.locals m := hns
  have hgl : s1.heap.Ns X.env.globals X.mg := by rw [I.ok.glob]; exact I.mod.glob.keeps I.bk
  have hbl : s1.heap.Ns X.env.builtins mb := by rw [I.ok.blt]; exact hb1.keeps I.bk
  have hsz := I.lt
  obtain ⟨hh, g, d, t, os⟩ := s1
  refine ks_wpAt_Expr_any (hi := hi) (ks_wpAt_MethodCall ?_ hc)
  refine ks_wpAt_super_base (fd := fd) (ar := ar) hks hkc (by decide) hfun (X1 _ _ h2) rfl (by rw [h1]; exact S.head) hcod (X1 _ _ h4) rfl h5 h6 F.top ?_
  refine ks_loadName_global I.ok.kind hks (Calls.loadGlobal_builtin hgl F.nsup hbl ((hb2 _ (by decide)).trans (by first | boot_by_name | rfl | kernel_rfl)) ⟨rfl, ?_⟩)
  refine wpAny_loadName_free I.ok.kind hkc hcells ⟨_, X1 _ _ h7, rfl⟩ ?_
  refine wpAny_loadName_local I.ok.kind hka hns' hv ?_
  refine ks_wpAny_isType_cls hD1 hD2 ⟨rfl, ?_⟩
  refine ks_wpAny_call_super hD1 hD2 Ia.at_ Ia.cls (fun c z => ?_) (looks_mroIn X1 F.sub) (fun h' e' k => ?_)
  · have := Ia.no
    unfold notCls at this
    rw [z] at this
    exact Bool.noConfusion this
  -- the super object
  have I2 : Inv X [] σ H1 ⟨h', g, d, t, os⟩ := I.kept (t' := t) k
  have X2 : X.K.In h' := I2.kIn
  have Ia2 : InstAt h' a _ C none := ⟨k _ _ ho, rfl, rfl, trivial⟩
  have hI : Looks (model X.prog X.w) h' (isInstance (.ref a) (.type "ValueError")) true := Ia2.type.andThen (looks_subIn X2 F.isV)
  have hsup := F.sup
  unfold ks_superIn at hsup
  rw [hD] at hsup
  refine kxs_getMethod kxs_ValueError e' (looks_opaque X2 F.nany) (l₀ := cdD.mro) (fun A Q E s k q => wpAny_bind ((looks_clsIn X2 hD) A _ E s k (wpAny_pure q))) rfl X2 hsup hI (ks_ne X2 Ia2 hD) (by decide) ?_
  -- the bound __init__
  have k3 : ∀ b o, h'.get? b = some o → (h'.push (kxs_mw "ValueError.__init__" a)).get? b = some o := fun b o z => Heap.get?_push_of_some _ z
  have hu : (h'.push (kxs_mw "ValueError.__init__" a)).get? h'.objs.size = some (kxs_mw "ValueError.__init__" a) := Heap.get?_push_at rfl rfl
  have I3 : Inv X [] σ H1 ⟨h'.push (kxs_mw "ValueError.__init__" a), g, d, t + 1, os⟩ := I2.kept (t' := t + 1) k3
  have I4 : Inv X [(h'.objs.size, kxs_mw "ValueError.__init__" a)] σ H1 ⟨h'.push (kxs_mw "ValueError.__init__" a), g, d, t + 1, os⟩ := by
    refine I3.pins_of fun p hp => ?_
    have hp' : p ∈ X.pn ++ [(h'.objs.size, kxs_mw "ValueError.__init__" a)] ∨ p ∈ [(h'.objs.size, kxs_mw "ValueError.__init__" a)] := .inr hp
    obtain rfl : p = (h'.objs.size, kxs_mw "ValueError.__init__" a) := by simpa using hp
    have lt := I2.lt
    refine ⟨hu, I2.hok.fresh (Nat.le_refl _), fun z => ?_, I2.nofs (Nat.le_refl _), fun v z => ?_⟩
    · exact absurd (show X.env.locals < h'.objs.size from lt) (by rw [← z]; exact Nat.lt_irrefl _)
    · cases z
  refine kxs_callWith (i := "ValueError.__init__") (x := a) (u := h'.objs.size) ?_ ?_
  · rw [he]
    show (false || (backTo p3 (starEach es X.env)).any (·.1)) = false
    rw [hpl]
    rfl
  · rw [he]
    refine Calls.evalArgs_plain ?_
    have run := ha.run p3 _ _ σ H1 _ I4 ht
    rw [he] at run
    refine wpAny_mono run (fun us s2 ⟨ws, H2, I5, r, hw, ea2, q⟩ => ?_) fun _ _ z => z
    have hu2 := (I5.pin (h'.objs.size, kxs_mw "ValueError.__init__" a) (by simp)).1
    refine ⟨hu2, ?_⟩
    have hz : us.length ≤ sizeLine := by
      rw [← r.length, sizeLine_eq]
      omega
    refine call_mw T I5 ea2 hu2 hz fun s3 J => ⟨rfl, H2, ?_, q⟩
    exact J.pins_of fun p hp => absurd hp (by simp)

/-- THE RULE: an __init__ whose first line is super().__init__(..) -/
theorem FunS.ok {fd : FuncData} {x : Str} {e : Expr} {es : List Expr} {rest : List Stmt} {p0 p1 p2 p3 p4 : Pos} {k : Nat} {sp : Sp} (F : FunS P K mg x qual st f fd C) (T : OexC K C) (S : ScS N ps ar st) (len : ∀ vs H Q E, sp vs H Q E → vs.length = ps.length)
    (hb : defBody st = .Expr (.Call (.Attribute (.Call (.Name "super" p0) [] [] p1) "__init__" p2) (e :: es) [] p3) p4 :: rest)
    (hbody : ∀ (cda cc : Addr) (A : Around) (outer : List Env) (s : Shared) (H : Hp) (vs : List V) (Q : VK) (E : XK), Room k (A.deeper (ksEnv qual (defScope st) s.heap.objs.size f (.ref cda) cc)) → sp vs H Q E →
      ∃ (a : Addr) (ta : TA) (t : TS), (L2.start N vs)[0]? = some (some (.ref a)) ∧ H a = some (exo a C none) ∧ PA (sxOf P w K mg base N qual (defScope st) f cda cc A outer s H) (e :: es) ta ∧ PSs (sxOf P w K mg base N qual (defScope st) f cda cc A outer s H) rest t ∧
        ta (L2.start N vs) H fun us H2 => us.length ≤ 1000 ∧ H2 a = some (exo a C none) ∧ t { nx := fun _ H' => Q .non H', rt := Q } (L2.start N vs) H2)
    {pl : Addr → Addr → Addr → Sem Bool} (hc : ∀ L cda cc : Addr, eval (.Call (.Attribute (.Call (.Name "super" p0) [] [] p1) "__init__" p2) (e :: es) [] p3) (ksEnv qual (defScope st) L f (.ref cda) cc) = (do
      let ov ← attributeBase (.Call (.Name "super" p0) [] [] p1) "__init__" (ksEnv qual (defScope st) L f (.ref cda) cc) (eval (.Call (.Name "super" p0) [] [] p1) (ksEnv qual (defScope st) L f (.ref cda) cc))
      standAt p2.atName
      let (f', first) ← holding [ov] (getMethod ov "__init__" (pl L cda cc))
      callWith p3 f' first (backTo p3 (starEach (e :: es) (ksEnv qual (defScope st) L f (.ref cda) cc))) []) := by intros; rfl)
    (he : ∀ env : Env, starEach (e :: es) env = (false, eval e env) :: starEach es env := by intros; rfl) (hpl : ∀ env : Env, (backTo p3 (starEach es env)).any (·.1) = false := by intros; rfl)
    (hi : ∀ L cda cc : Addr, interactive (ksEnv qual (defScope st) L f (.ref cda) cc) = false := by intros; rfl) : FnOk P w K mg base L2.CX0 (k + 1) f fd ps sp := by
  obtain ⟨oc, od, kV, doc, pm, an, cda, ct, cc, osl, ccl, cdd, vs4, ccs, file, tf, cl, cld, csl, rfl, lk, hcd, h4, h5, h6, h7⟩ := F.ex
  refine ⟨len, fun A outer s H args us vs Q E hr e0 hbi r hsp => ?_⟩
  have hl := len _ _ _ _ hsp
  have KX : K.In s.heap := e0.mod.kin.keeps fun b o e => (e0.bs b o e).1
  have lim : s.heap.NoLimit := e0.mod.nolimit.keeps fun b o e => (e0.bs b o e).1
  have hloc : ∀ y ∈ ps.zip us, (defScope st).names.lookup y.1 = some .local := fun ⟨n, v⟩ hy => S.par n (List.of_mem_zip hy).1
  refine ks_codeAny_call_defAt (fd := fnX x qual (defArgs st) (defBody st) (defScope st) [("__class__", cc)] .none kV doc pm an (.ref cda) ct) (body := defBody st) (binds := ps.zip us) hr.depth (KX _ _ lk) rfl lim (codeRec_of KX hcd) rfl hbi S.nocell hloc (fun h₀ hns hk => ?_) S.co S.gen S.kind
  obtain ⟨a, ta, t, h0, ea, ha, hrest, ht⟩ := hbody cda cc A outer s H vs Q E (hr.deeper _) hsp
  have I : Inv (sxOf P w K mg base N qual (defScope st) f cda cc A outer s H) [] (L2.start N vs) H { s with heap := h₀, toks := s.toks + (ps.zip us).length } :=
    inv_startS S hr.hd e0 hl r (e0.mod.kin _ _ h7) ⟨_, rfl⟩ hns hk
  show _root_.PySem.wpAt (model P w) (A.deeper (ksEnv qual (defScope st) s.heap.objs.size f (.ref cda) cc)) (.func (defBody st) (ksEnv qual (defScope st) s.heap.objs.size f (.ref cda) cc)) (execs (defBody st) (ksEnv qual (defScope st) s.heap.objs.size f (.ref cda) cc)) _ _ _
  have fin : ∀ {σ' : L2.St} {H' : Hp} {v : V} {u : Value} {s' : Shared}, Inv (sxOf P w K mg base N qual (defScope st) f cda cc A outer s H) [] σ' H' s' → RelV v u → Q v H' → CE outer P w H s Q u s' :=
    fun {σ' H' v u s'} J rv q => ⟨v, H', J.os, J.bare, J.base, J.hok, rv, q⟩
  have line := super_line (X := sxOf P w K mg base N qual (defScope st) f cda cc A outer s H) (body := defBody st) (L := s.heap.objs.size) (p0 := p0) (p1 := p1) (p2 := p2) (p3 := p3) (p4 := p4) S F rfl rfl rfl lk h4 h5 h6 h7 T I h0 ea ha ht (hc _ _ _) (he _) (hpl _) (hi _ _ _)
  have all : _root_.PySem.wpAt (model P w) (A.deeper (ksEnv qual (defScope st) s.heap.objs.size f (.ref cda) cc)) (.func (defBody st) (ksEnv qual (defScope st) s.heap.objs.size f (.ref cda) cc))
      (execs (.Expr (.Call (.Attribute (.Call (.Name "super" p0) [] [] p1) "__init__" p2) (e :: es) [] p3) p4 :: rest) (ksEnv qual (defScope st) s.heap.objs.size f (.ref cda) cc))
      (fun fl s' => CE outer P w H s Q (match fl with | .ret v => v | _ => .none) s') (fun _ _ => False) { s with heap := h₀, toks := s.toks + (ps.zip us).length } := by
    refine ks_wpAt_execs_cons (ks_wpAt_mono line (fun fl s' hs => ?_) fun _ _ z => z.elim)
    obtain ⟨rfl, H2, J, q⟩ := hs
    refine wpAt_of_wpAny (wpAny_mono (hrest.run [] s' _ H2 _ J q) (fun fl s'' hs => ?_) fun _ _ z => z)
    cases fl with
    | ret u =>
      obtain ⟨v, σ', H', J', rv, q'⟩ := hs
      exact fin J' rv q'
    | next =>
      obtain ⟨σ', H', J', q'⟩ := hs
      exact fin (v := V.non) (u := Value.none) J' rfl q'
    | brk =>
      obtain ⟨_, _, _, q'⟩ := hs
      exact False.elim q'
    | cont =>
      obtain ⟨_, _, _, q'⟩ := hs
      exact False.elim q'
  rw [← hb] at all
  exact ks_wpAt_mono all (fun fl s' hs => hs) fun _ _ z => z.elim
/-- how its arguments bind -/
theorem FunS.binds {fd : FuncData} {x : Str} (F : FunS P K mg x qual st f fd C)
    (h : ∀ (cc : Addr) (kV doc pm : Value) (an : Option Addr) (cdv ct : Value) (us : List Value), us.length = ps.length → bindArgs (fnX x qual (defArgs st) (defBody st) (defScope st) [("__class__", cc)] .none kV doc pm an cdv ct) ⟨us, []⟩ = pure (ps.zip us)) : Binds K fd ps [] := by
  obtain ⟨oc, od, kV, doc, pm, an, cda, ct, cc, osl, ccl, cdd, vs4, ccs, file, tf, cl, cld, csl, rfl, lk, hcd, h4, h5, h6, h7⟩ := F.ex
  exact .all (h cc kV doc pm an _ ct)
end
end Hb

set_option Elab.async false
set_option maxRecDepth 100000
set_option maxHeartbeats 4000000
/-! Still more steps: truth of lists, texts in a tuple, slices of tuples, comprehensions over lists of tuples. -/
namespace Hb
open PySem L2
/-- the truth of a list -/
theorem w_truL {K : PySem.W.Frag} {H : Hp} {p : Addr} {xs : List V} {R : Bool → Prop} (h : SqL K H p xs) (q : R (!xs.isEmpty)) : ∃ k, TruV K (.ref p) H k ∧ R k := ⟨_, .inl ⟨xs, h, rfl⟩, q⟩
/-- a text in a new tuple of texts -/
theorem w_inT {K : PySem.W.Frag} {H : Hp} {Q : VK} {x : V} {p : Addr} {neg : Bool} {xs : List V} (h : SqT K H p xs) (hx : flatV x = true) (hf : xs.all flatV = true) (q : Q (.bl (if neg then !inV x xs else inV x xs)) H) : rIn K neg x (.ref p) H Q := ⟨p, xs, rfl, .inr h, hx, hf, q⟩
/-- a tuple's slice, not the whole -/
theorem w_slT0 {K : PySem.W.Frag} {B H : Hp} {L : List (Addr × HO)} {Q : VK} {p : Addr} {xs : List V} {lo hi : Option Int} (hs : Hs B L H) (h : SqT K H p xs) (hw : ¬ (HT.sIx xs.length 0 lo = 0 ∧ HT.sIx xs.length xs.length hi = xs.length)) (q : ∀ l H', Hs B ((l, .tup (cutV xs lo hi)) :: L) H' → Q (.ref l) H') : rSlT K (.ref p) lo hi H Q := by
  exact ⟨p, xs, rfl, h, hw, w_new hs q⟩
/-- what stands aside of our own objects becomes the ground -/
theorem Hs.rebase {B H : Hp} {L : List (Addr × HO)} (hs : Hs B L H) : Same B (around L H) ∧ Hs (around L H) L H := by
  have h := Hs.frame (R := []) L (by rw [List.append_nil]; exact hs)
  exact ⟨h.1, h.2.1⟩
theorem im_around {K : PySem.W.Frag} {H : Hp} {L : List (Addr × HO)} (nt : ∀ e ∈ L, ∀ xs, H e.1 ≠ some (.tup xs)) {vs : List V} {ds : List PyData} (h : ImAll K H vs ds) : ImAll K (around L H) vs ds :=
  h.mono fun a xs e => by
    rw [around_out fun m => ?_]
    · exact e
    · obtain ⟨z, hz, rfl⟩ := List.mem_map.mp m
      exact nt z hz xs e

theorem w_slT {K : PySem.W.Frag} {B H : Hp} {L : List (Addr × HO)} {Q : VK} {p : Addr} {xs : List V} {j : Int} (n : Nat) (e : j = (n : Int)) (hs : Hs B L H) (h : SqT K H p xs) (h0 : 0 < n) (h1 : n ≤ xs.length) (q : ∀ l H', Hs B ((l, .tup (xs.drop n)) :: L) H' → Q (.ref l) H') : rSlT K (.ref p) (some j) none H Q := by
  refine w_slT0 hs h ?_ fun l H' hs' => ?_
  · subst e
    rw [HT.sIx_nat]
    omega
  · rw [cut_from n e] at hs'
    exact q l H' hs'
section
variable {K : PySem.W.Frag} {σ : St} {H : Hp} {Q : VK} {te : TE} {g : TG}
/-- [e for .. in xs], xs a list of data, each e data that is made anew -/
theorem w_lcD {tl : TE} {a : Addr} {xs : List V} {vs : List Nat} (hx : SqL K H a xs) (hz : xs.length ≤ 1000000) (ds : List PyData) (hl : ds.length = xs.length) (htl : ∀ Q : VK, Q (.ref a) H → tl σ H Q)
    (he : ∀ (i : Nat) (x : V) (d : PyData) (H' : Hp) (Q' : VK), xs[i]? = some x → ds[i]? = some d → Same H H' → (∀ y H3, Same H' H3 → Im K H3 y d → Q' y H3) → g x (wipe σ vs) H' fun σ2 H2 => wipe σ2 vs = wipe σ vs ∧ te σ2 H2 Q')
    (hq : ∀ D acc H', Hs H [(D, .lst acc)] H' → ImAll K H' acc ds → Q (.ref D) H') (gm : ∀ x σ H R R', (∀ σ' H', R σ' H' → R' σ' H') → g x σ H R → g x σ H R') : tLc (iList K tl) g tYes te vs σ H Q := by
  refine w_lc hx (fun D i H' => ∃ acc, Hs H [(D, .lst acc)] H' ∧ ImAll K H' acc (ds.take i)) htl (fun D hD => ⟨[], (Hs.start H).new hD, by rw [List.take_zero]; exact .nil⟩) (fun D i H' _ ⟨_, h, _⟩ => h.same.seq hx) ?_ ?_
  · rintro D i x H' hi ⟨acc, h1, h2⟩
    have hin := (List.getElem?_eq_some_iff.mp hi).1
    have hd : ds[i]? = some ds[i] := List.getElem?_eq_getElem (by omega)
    refine gm _ _ _ _ _ (fun σ' H2 ⟨e1, e2⟩ => ⟨e1, w_yes (iteT e2)⟩) (he i x ds[i] H' _ hi hd h1.same fun y H3 s3 hy => ?_)
    have hD : H3 D = some (.lst acc) := s3 _ _ h1.g0
    have hl2 := h2.len
    rw [List.length_take] at hl2
    refine ⟨acc, hD, szl (by omega), acc ++ [y], ?_, ?_⟩
    · have h3 : Hs H [(D, .lst acc)] H3 := ⟨h1.same.trans s3, h1.nd, h1.out, fun e he => s3 _ _ (h1.at_ e he)⟩
      exact h3.p0 _
    · have e : ds.take (i + 1) = ds.take i ++ [ds[i]] := by
        rw [List.take_succ, hd]
        rfl
      rw [e]
      exact ((h2.same s3).snoc hy).mono fun a xs => tup_but hD (fun _ z => by cases z) a xs
  · rintro D H' ⟨acc, h1, h2⟩
    rw [← hl, List.take_length] at h2
    exact hq D acc H' h1 h2
theorem ImAll.get {H : Hp} : ∀ {xs : List V} {ds : List PyData} {i : Nat} {x : V} {d : PyData}, ImAll K H xs ds → xs[i]? = some x → ds[i]? = some d → Im K H x d
  | _ :: _, _ :: _, 0, x, d, .cons h _, e1, e2 => by
    cases e1
    cases e2
    exact h
  | _ :: _, _ :: _, i + 1, x, d, .cons _ h, e1, e2 => ImAll.get (i := i) h (by simpa using e1) (by simpa using e2)
theorem ImAll.app {H : Hp} : ∀ {xs ys : List V} {ds es : List PyData}, ImAll K H xs ds → ImAll K H ys es → ImAll K H (xs ++ ys) (ds ++ es)
  | [], _, _, _, .nil, h => h
  | _ :: _, _, _, _, .cons a b, h => .cons a (b.app h)
end
end Hb

set_option Elab.async false
set_option maxRecDepth 100000
set_option maxHeartbeats 4000000
/-! Dicts with a fixed row of text keys, as a law's plain models have them; tuples put together. -/
namespace Hb
open PySem L2
/-- a dict whose keys are a fixed row of texts -/
def zipK (ks : List Str) (vs : List V) : List (Key × V) := (ks.map Sum.inr).zip vs
theorem val_zip : ∀ {ks : List Str} {vs : List V} {i : Nat} {k : Str} {v : V}, ks.Nodup → ks[i]? = some k → vs[i]? = some v → valV (zipK ks vs) (Sum.inr k) = some v
  | k0 :: ks, v0 :: vs, 0, k, v, _, hk, hv => by
    cases hk
    cases hv
    show Option.map _ (List.find? _ ((Sum.inr k0, v0) :: zipK ks vs)) = _
    rw [List.find?_cons, decide_eq_true (rfl : (Sum.inr k0 : Key) = Sum.inr k0)]
    rfl
  | k0 :: ks, v0 :: vs, i + 1, k, v, nd, hk, hv => by
    have h1 := List.nodup_cons.mp nd
    have hk' : ks[i]? = some k := by simpa using hk
    have hv' : vs[i]? = some v := by simpa using hv
    have hne : ¬ (Sum.inr k0 : Key) = Sum.inr k := fun e => h1.1 (by cases e; exact List.mem_of_getElem? hk')
    show Option.map _ (List.find? _ ((Sum.inr k0, v0) :: zipK ks vs)) = _
    rw [List.find?_cons, decide_eq_false hne]
    exact val_zip h1.2 hk' hv'
theorem map_zip_out : ∀ {ks : List Str} {vs : List V} {k : Str} {v : V}, k ∉ ks → (zipK ks vs).map (fun kv => if kv.1 = (Sum.inr k : Key) then (kv.1, v) else kv) = zipK ks vs
  | [], _, _, _, _ => rfl
  | _ :: _, [], _, _, _ => rfl
  | k0 :: ks, v0 :: vs, k, v, h => by
    have hne : ¬ (Sum.inr k0 : Key) = Sum.inr k := fun e => h (by cases e; exact List.mem_cons_self)
    show (if (Sum.inr k0 : Key) = Sum.inr k then ((Sum.inr k0 : Key), v) else (Sum.inr k0, v0)) :: (zipK ks vs).map _ = _
    rw [if_neg hne, map_zip_out (fun m => h (List.mem_cons_of_mem _ m))]
    rfl
theorem map_zip : ∀ {ks : List Str} {vs : List V} {i : Nat} {k : Str} {v : V}, ks.Nodup → ks[i]? = some k → i < vs.length → (zipK ks vs).map (fun kv => if kv.1 = (Sum.inr k : Key) then (kv.1, v) else kv) = zipK ks (vs.set i v)
  | k0 :: ks, v0 :: vs, 0, k, v, nd, hk, _ => by
    cases hk
    have h1 := List.nodup_cons.mp nd
    show (if (Sum.inr k0 : Key) = Sum.inr k0 then ((Sum.inr k0 : Key), v) else (Sum.inr k0, v0)) :: (zipK ks vs).map _ = _
    rw [if_pos rfl, map_zip_out h1.1]
    rfl
  | k0 :: ks, v0 :: vs, i + 1, k, v, nd, hk, hl => by
    have h1 := List.nodup_cons.mp nd
    have hk' : ks[i]? = some k := by simpa using hk
    have hne : ¬ (Sum.inr k0 : Key) = Sum.inr k := fun e => h1.1 (by cases e; exact List.mem_of_getElem? hk')
    show (if (Sum.inr k0 : Key) = Sum.inr k then ((Sum.inr k0 : Key), v) else (Sum.inr k0, v0)) :: (zipK ks vs).map _ = _
    rw [if_neg hne, map_zip h1.2 hk' (Nat.lt_of_succ_lt_succ hl)]
    rfl
theorem any_of_val {kvs : List (Key × V)} {k : Key} {v : V} (h : valV kvs k = some v) : (kvs.any fun kv => decide (kv.1 = k)) = true := by
  unfold valV at h
  cases e : kvs.find? (fun kv => decide (kv.1 = k)) with
  | none =>
    rw [e] at h
    cases h
  | some z =>
    have h1 := List.find?_some e
    exact List.any_eq_true.mpr ⟨z, List.mem_of_find?_eq_some e, h1⟩
theorem put_zip {ks : List Str} {vs : List V} {i : Nat} {k : Str} {v u : V} (nd : ks.Nodup) (hk : ks[i]? = some k) (hv : vs[i]? = some u) : putK (zipK ks vs) (Sum.inr k) v = zipK ks (vs.set i v) := by
  unfold putK
  rw [if_pos (any_of_val (val_zip nd hk hv))]
  exact map_zip nd hk (List.getElem?_eq_some_iff.mp hv).1
/-! ### their steps -/
section
variable {σ : St} {H : Hp} {Q : VK} {D : Ends} {td ty tv : TE} {p : Addr} {B : Hp} {L L' : List (Addr × HO)} {ks : List Str} {vs us : List V} {i : Nat} {k : Str} {v u : V}
def RDget (x y : V) (H : Hp) (Q : VK) : Prop := ∃ a v, x = .ref a ∧ DGet H a y (some v) ∧ Q v H
theorem w_dget (q : td σ H fun x H1 => ty σ H1 fun y H2 => RDget x y H2 Q) : tDGet td ty σ H Q := q
theorem w_dgetZ (h : H p = some (.dK (zipK ks vs))) (nd : ks.Nodup) (hk : ks[i]? = some k) (hv : vs[i]? = some v) (q : Q v H) : RDget (.ref p) (.str k) H Q :=
  ⟨p, v, rfl, val_zip nd hk hv ▸ DGet.k (k := Sum.inr k) h, q⟩
theorem w_dgetI {kvs : List (Key × V)} {n : Int} (h : H p = some (.dK kvs)) (hv : valV kvs (Sum.inl n) = some v) (q : Q v H) : RDget (.ref p) (.int n) H Q :=
  ⟨p, v, rfl, hv ▸ DGet.k (k := Sum.inl n) h, q⟩
theorem w_dputZ {R : Hp → Prop} (hs : Hs B L H) (h : Put L p (.dK (zipK ks vs)) (.dK (zipK ks us)) L') (nd : ks.Nodup) (hk : ks[i]? = some k) (hv : vs[i]? = some u) (hu : vs.set i v = us) (hl : ks.length < 1000) (q : ∀ H', Hs B L' H' → R H') : RDput (.ref p) (.str k) v H R := by
  subst hu
  refine ⟨p, _, rfl, DPut.k (k := Sum.inr k) (hs.gets h) ?_, ?_⟩
  · refine szl ?_
    show ((ks.map Sum.inr).zip vs).length ≤ 1000000
    rw [List.length_zip, List.length_map]
    omega
  · rw [put_zip nd hk hv]
    exact q _ (hs.puts h)
/-- the same as a target among others -/
theorem w_gsub {tset : TSet} {R : St → Hp → Prop} (q : td σ H fun o H1 => ty σ H1 fun i H2 => tset o i v H2 fun H3 => R σ H3) : gSub td ty tset v σ H R := q
theorem w_setD {x y : V} {R : Hp → Prop} (q : RDput x y v H R) : rSetD x y v H R := q
end
section
variable {K : PySem.W.Frag}
theorem op_catTK {X : Cx} (hK : X.K = K := by rfl) : OpR X (binaryOp .Add) (rCatT K) := by
  subst hK
  exact op_catT
theorem w_catT {B H : Hp} {L : List (Addr × HO)} {Q : VK} {p r : Addr} {xs ys : List V} (hs : Hs B L H) (h1 : SqT K H p xs) (h2 : SqT K H r ys) (n1 : xs ≠ []) (n2 : ys ≠ []) (hl : xs.length + ys.length ≤ 1000) (q : ∀ l H', Hs B ((l, .tup (xs ++ ys)) :: L) H' → Q (.ref l) H') : rCatT K (.ref p) (.ref r) H Q :=
  ⟨p, r, xs, ys, rfl, rfl, h1, h2, n1, Nat.le_of_lt (szl (by omega)), fun e => absurd e n2, fun _ => w_new hs q⟩
end
section
variable {α : Type} {a b c d e f g h i v : α} {l : List α}
theorem v0 : (a :: l)[0]? = some a := rfl
theorem v1 : (a :: b :: l)[1]? = some b := rfl
theorem v2 : (a :: b :: c :: l)[2]? = some c := rfl
theorem v3 : (a :: b :: c :: d :: l)[3]? = some d := rfl
theorem v4 : (a :: b :: c :: d :: e :: l)[4]? = some e := rfl
theorem v5 : (a :: b :: c :: d :: e :: f :: l)[5]? = some f := rfl
theorem v6 : (a :: b :: c :: d :: e :: f :: g :: l)[6]? = some g := rfl
theorem v7 : (a :: b :: c :: d :: e :: f :: g :: h :: l)[7]? = some h := rfl
theorem v8 : (a :: b :: c :: d :: e :: f :: g :: h :: i :: l)[8]? = some i := rfl
theorem st0 : (a :: l).set 0 v = v :: l := rfl
theorem st1 : (a :: b :: l).set 1 v = a :: v :: l := rfl
theorem st2 : (a :: b :: c :: l).set 2 v = a :: b :: v :: l := rfl
theorem st3 : (a :: b :: c :: d :: l).set 3 v = a :: b :: c :: v :: l := rfl
theorem st4 : (a :: b :: c :: d :: e :: l).set 4 v = a :: b :: c :: d :: v :: l := rfl
theorem st5 : (a :: b :: c :: d :: e :: f :: l).set 5 v = a :: b :: c :: d :: e :: v :: l := rfl
theorem st6 : (a :: b :: c :: d :: e :: f :: g :: l).set 6 v = a :: b :: c :: d :: e :: f :: v :: l := rfl
theorem st7 : (a :: b :: c :: d :: e :: f :: g :: h :: l).set 7 v = a :: b :: c :: d :: e :: f :: g :: v :: l := rfl
theorem st8 : (a :: b :: c :: d :: e :: f :: g :: h :: i :: l).set 8 v = a :: b :: c :: d :: e :: f :: g :: h :: v :: l := rfl
end
/-! ### a dict that is written down -/
theorem merge_zip : ∀ {ks : List Str} {vs : List V} {acc : List (Key × V)}, ks.Nodup → (∀ k ∈ ks, ∀ kv ∈ acc, kv.1 ≠ (Sum.inr k : Key)) → mergeK acc (zipK ks vs) = acc ++ zipK ks vs
  | [], _, acc, _, _ => by
    show acc = acc ++ []
    rw [List.append_nil]
  | _ :: _, [], acc, _, _ => by
    show acc = acc ++ []
    rw [List.append_nil]
  | k :: ks, v :: vs, acc, nd, h => by
    have h1 := List.nodup_cons.mp nd
    have e : putK acc (Sum.inr k) v = acc ++ [(Sum.inr k, v)] := by
      unfold putK
      rw [if_neg]
      intro h2
      obtain ⟨z, hz, h3⟩ := List.any_eq_true.mp h2
      exact h k List.mem_cons_self z hz (of_decide_eq_true h3)
    show mergeK (putK acc (Sum.inr k) v) (zipK ks vs) = acc ++ ((Sum.inr k, v) :: zipK ks vs)
    rw [e, merge_zip h1.2 ?_, List.append_assoc]
    · rfl
    · intro k2 hk2 kv hkv
      rcases List.mem_append.mp hkv with m | m
      · exact h k2 (List.mem_cons_of_mem _ hk2) kv m
      · rw [List.mem_singleton.mp m]
        intro c
        cases c
        exact h1.1 hk2
section
variable {σ : St} {H : Hp} {Q : VK} {B : Hp} {L L' : List (Addr × HO)}
def NewP (trs : List (TE × TE)) (σ : St) (Q : VK) (H : Hp) : Prop := ∀ p, H p = none → tPairs trs σ (upd H p (.dK [])) fun ps H2 => H2 p = some (.dK []) ∧ ∃ kvs : List (Key × V), ps = kvs.map (fun kv => (kV kv.1, kv.2)) ∧ kvs.length ≤ 15 ∧ Q (.ref p) (upd H2 p (.dK (mergeK [] kvs)))
def DispP (p : Addr) (Q : VK) (ps : List (V × V)) (H2 : Hp) : Prop := H2 p = some (.dK []) ∧ ∃ kvs : List (Key × V), ps = kvs.map (fun kv => (kV kv.1, kv.2)) ∧ kvs.length ≤ 15 ∧ Q (.ref p) (upd H2 p (.dK (mergeK [] kvs)))
theorem w_disp {trs : List (TE × TE)} (q : NewP trs σ Q H) : tDisp trs σ H Q := q
theorem w_newP {trs : List (TE × TE)} (hs : Hs B L H) (q : ∀ p H', Hs B ((p, .dK []) :: L) H' → tPairs trs σ H' (DispP p Q)) : NewP trs σ Q H := fun p hp => q p _ (hs.new hp)
theorem w_pcons {tk tv : TE} {trs : List (TE × TE)} {R : List (V × V) → Hp → Prop} (q : tk σ H fun k H1 => tv σ H1 fun v H2 => tPairs trs σ H2 fun ps H3 => R ((k, v) :: ps) H3) : tPairs ((tk, tv) :: trs) σ H R := q
theorem w_pnil {R : List (V × V) → Hp → Prop} (q : R [] H) : tPairs [] σ H R := q
theorem w_dispZ {p : Addr} {ps : List (V × V)} (ks : List Str) (vs : List V) (hs : Hs B L H) (h : Put L p (.dK []) (.dK (zipK ks vs)) L') (nd : ks.Nodup) (hl : ks.length ≤ 15) (hp : ps = (zipK ks vs).map (fun kv => (kV kv.1, kv.2))) (q : ∀ H', Hs B L' H' → Q (.ref p) H') : DispP p Q ps H := by
  refine ⟨hs.gets h, zipK ks vs, hp, ?_, ?_⟩
  · unfold zipK
    rw [List.length_zip, List.length_map]
    omega
  · rw [merge_zip nd (fun _ _ _ z => absurd z List.not_mem_nil)]
    exact q _ (hs.puts h)
end
end Hb

set_option Elab.async false
set_option maxRecDepth 100000
set_option maxHeartbeats 4000000
/-! Dicts whose keys are tuples of any depth; sorted of such keys. -/
namespace Hb
open PySem L2
mutual
/-- the value v in the abstract heap is the key k -/
inductive NK (H : Hp) : NestedKey → V → Prop
  | non : NK H .none .non
  | int (i : Int) : NK H (.num i) (.int i)
  | str (x : Str) : NK H (.text x) (.str x)
  | tup {p : Addr} {vs : List V} {ks : List NestedKey} : H p = some (.tup vs) → NKs H ks vs → NK H (.tup ks) (.ref p)
inductive NKs (H : Hp) : List NestedKey → List V → Prop
  | nil : NKs H [] []
  | cons {k : NestedKey} {v : V} {ks : List NestedKey} {vs : List V} : NK H k v → NKs H ks vs → NKs H (k :: ks) (v :: vs)
end
mutual
theorem NK.mono {H H' : Hp} (e : ∀ p xs, H p = some (.tup xs) → H' p = some (.tup xs)) : ∀ {k : NestedKey} {v : V}, NK H k v → NK H' k v
  | _, _, .non => .non
  | _, _, .int i => .int i
  | _, _, .str x => .str x
  | _, _, .tup h hs => .tup (e _ _ h) (NKs.mono e hs)
theorem NKs.mono {H H' : Hp} (e : ∀ p xs, H p = some (.tup xs) → H' p = some (.tup xs)) : ∀ {ks : List NestedKey} {vs : List V}, NKs H ks vs → NKs H' ks vs
  | _, _, .nil => .nil
  | _, _, .cons h hs => .cons (NK.mono e h) (NKs.mono e hs)
end
theorem NK.same {H H' : Hp} (e : Same H H') {k : NestedKey} {v : V} (h : NK H k v) : NK H' k v := h.mono fun _ _ => e _ _
mutual
theorem NK.inj {H : Hp} : ∀ {k k' : NestedKey} {v : V}, NK H k v → NK H k' v → k = k'
  | _, _, _, .non, h => by cases h; rfl
  | _, _, _, .int i, h => by cases h; rfl
  | _, _, _, .str x, h => by cases h; rfl
  | _, _, _, .tup h1 h2, h => by
    cases h with
    | tup k1 k2 =>
      rw [h1] at k1
      cases k1
      rw [NKs.inj h2 k2]
theorem NKs.inj {H : Hp} : ∀ {ks ks' : List NestedKey} {vs : List V}, NKs H ks vs → NKs H ks' vs → ks = ks'
  | _, _, _, .nil, h => by cases h; rfl
  | _, _, _, .cons h1 h2, h => by
    cases h with
    | cons k1 k2 => rw [NK.inj h1 k1, NKs.inj h2 k2]
end
mutual
theorem NK.im {K : PySem.W.Frag} {H : Hp} : ∀ {k : NestedKey} {v : V}, NK H k v → Im K H v k.data
  | _, _, .non => .non
  | _, _, .int i => .int i
  | _, _, .str x => .str x
  | _, _, .tup h hs => .tup h (NKs.im hs)
theorem NKs.im {K : PySem.W.Frag} {H : Hp} : ∀ {ks : List NestedKey} {vs : List V}, NKs H ks vs → ImAll K H vs (NestedKey.datas ks)
  | _, _, .nil => .nil
  | _, _, .cons h hs => .cons (NK.im h) (NKs.im hs)
end
section
variable {P : Program} {w : World} {H : Hp} {h : Heap}
mutual
theorem NK.is (ok : HOk P w H h) : ∀ {k : NestedKey} {v : V} {u : Value}, NK H k v → RelV v u → NestedIs h k u
  | _, _, _, .non, r => by
    cases (show _ = Value.none from r)
    exact .none
  | _, _, _, .int i, r => by
    obtain ⟨t, rfl⟩ := r
    exact .int i t
  | _, _, _, .str x, r => by
    obtain ⟨t, rfl⟩ := r
    exact .text x t
  | _, _, _, .tup e hs, r => by
    cases (show _ = Value.ref _ from r)
    obtain ⟨_, its, r2, o, ho, hc, n, hd⟩ := ok _ _ e
    exact .tup ho hc hd (NKs.is ok hs r2)
theorem NKs.is (ok : HOk P w H h) : ∀ {ks : List NestedKey} {vs : List V} {us : List Value}, NKs H ks vs → Vals vs us → NestedAll h ks us
  | _, _, _, .nil, r => by cases r; exact .nil
  | _, _, _, .cons h1 h2, r => by
    cases r with
    | cons r1 r2 => exact .cons (NK.is ok h1 r1) (NKs.is ok h2 r2)
end
end
/-- a key, where its tuple stands, what it holds -/
abbrev Ent := NestedKey × Addr × V
def atN (es : List Ent) (k : NestedKey) : Option V := (es.find? fun e => decide (e.1 = k)).map (·.2.2)
def putN (es : List Ent) (k : NestedKey) (b : Addr) (v : V) : List Ent := if (atN es k).isSome then es.map (fun e => if e.1 = k then (e.1, e.2.1, v) else e) else es ++ [(k, b, v)]
def dropN (es : List Ent) (k : NestedKey) : List Ent := es.filter fun e => decide (e.1 ≠ k)
abbrev RelE (p : Ent) (q : NestedKey × Addr × Value) : Prop := p.1 = q.1 ∧ p.2.1 = q.2.1 ∧ RelV p.2.2 q.2.2
abbrev RelEs : List Ent → List (NestedKey × Addr × Value) → Prop := Paired RelE
def entN (w : World) (x : NestedKey × Addr × Value) : DictEntry := ⟨x.1.hash w, .ref x.2.1, x.2.2⟩
def DNx (w : World) (a : Addr) (es : List Ent) (h : Heap) : Prop := es.length ≤ sizeLine ∧ (a == sysModules) = false ∧ ∃ xs, RelEs es xs ∧ ∃ o ds ep, h.get? a = some o ∧ o.ExactDict ∧ o.data = .dict ds ep ∧ ds.toList = xs.map (entN w) ∧ (xs.map (·.1)).Nodup
/-- a dict with such keys -/
abbrev DN (w : World) (a : Addr) (es : List Ent) : HO := .ext (DNx w a es)
/-- its keys stand as they are told -/
def EntsOk (H : Hp) (es : List Ent) : Prop := ∀ e ∈ es, NK H e.1 (.ref e.2.1) ∧ e.1.depth ≤ 8
theorem EntsOk.mono {H H' : Hp} (e : ∀ p xs, H p = some (.tup xs) → H' p = some (.tup xs)) {es : List Ent} (h : EntsOk H es) : EntsOk H' es := fun x hx => ⟨(h x hx).1.mono e, (h x hx).2⟩
theorem EntsOk.same {H H' : Hp} (e : Same H H') {es : List Ent} (h : EntsOk H es) : EntsOk H' es := h.mono fun _ _ => e _ _
theorem EntsOk.nil {H : Hp} : EntsOk H [] := fun _ h => nomatch h
theorem EntsOk.drop {H : Hp} {es : List Ent} {k : NestedKey} (h : EntsOk H es) : EntsOk H (dropN es k) := fun e he => h e (List.mem_filter.mp he).1
theorem EntsOk.put {H : Hp} {es : List Ent} {k : NestedKey} {b : Addr} {v : V} (h : EntsOk H es) (hk : NK H k (.ref b)) (hd : k.depth ≤ 8) : EntsOk H (putN es k b v) := fun e he => by
  unfold putN at he
  split at he
  · obtain ⟨y, hy, rfl⟩ := List.mem_map.mp he
    by_cases hc : y.1 = k
    · rw [if_pos hc]
      exact h y hy
    · rw [if_neg hc]
      exact h y hy
  · rcases List.mem_append.mp he with m | m
    · exact h e m
    · rw [List.mem_singleton.mp m]
      exact ⟨hk, hd⟩
theorem RelEs.at {es : List Ent} {xs : List (NestedKey × Addr × Value)} (r : RelEs es xs) (k : NestedKey) : RelO (atN es k) ((atKey xs k).map (·.2)) := by
  induction r with
  | nil => exact trivial
  | @cons p q ps qs h _ ih =>
    obtain ⟨h1, h2, h3⟩ := h
    unfold atN atKey at ih ⊢
    rw [List.find?_cons, List.find?_cons, ← h1]
    by_cases hc : p.1 = k
    · rw [decide_eq_true hc]
      exact h3
    · rw [decide_eq_false hc]
      exact ih
theorem RelEs.keys {es : List Ent} {xs : List (NestedKey × Addr × Value)} (r : RelEs es xs) : xs.map (·.1) = es.map (·.1) := by
  induction r with
  | nil => rfl
  | cons h _ ih => rw [List.map_cons, List.map_cons, ih, h.1]
theorem RelEs.some {es : List Ent} {xs : List (NestedKey × Addr × Value)} (r : RelEs es xs) (k : NestedKey) : (atN es k).isSome = (atKey xs k).isSome := by
  have q := (r.at k).isSome_eq
  rw [Option.isSome_map] at q
  exact q
theorem relEs_map {k : NestedKey} {v : V} {u : Value} (hv : RelV v u) : ∀ {es : List Ent} {xs : List (NestedKey × Addr × Value)}, RelEs es xs → RelEs (es.map (fun e => if e.1 = k then (e.1, e.2.1, v) else e)) (xs.map (putAt k u))
  | _, _, .nil => .nil
  | p :: ps, q :: qs, .cons h t => by
    refine .cons ?_ (relEs_map hv t)
    show RelE (if p.1 = k then (p.1, p.2.1, v) else p) (if q.1 = k then (q.1, q.2.1, u) else q)
    rw [← h.1]
    by_cases hc : p.1 = k
    · rw [if_pos hc, if_pos hc]
      exact ⟨rfl, h.2.1, hv⟩
    · rw [if_neg hc, if_neg hc]
      exact h
theorem relEs_snoc {p : Ent} {q : NestedKey × Addr × Value} (h : RelE p q) : ∀ {es : List Ent} {xs : List (NestedKey × Addr × Value)}, RelEs es xs → RelEs (es ++ [p]) (xs ++ [q])
  | _, _, .nil => .cons h .nil
  | _, _, .cons r t => .cons r (relEs_snoc h t)
theorem RelEs.put {es : List Ent} {xs : List (NestedKey × Addr × Value)} (r : RelEs es xs) (k : NestedKey) (b : Addr) {v : V} {u : Value} (hv : RelV v u) : RelEs (putN es k b v) (storedH xs k b u) := by
  unfold putN storedH
  rw [r.some k]
  cases (atKey xs k).isSome with
  | true =>
    rw [if_pos rfl, if_pos rfl]
    exact relEs_map hv r
  | false =>
    rw [if_neg Bool.false_ne_true, if_neg Bool.false_ne_true]
    exact relEs_snoc ⟨rfl, rfl, hv⟩ r
theorem RelEs.drop {es : List Ent} {xs : List (NestedKey × Addr × Value)} (r : RelEs es xs) (k : NestedKey) : RelEs (dropN es k) (withoutH xs k) := by
  unfold dropN withoutH
  induction r with
  | nil => exact .nil
  | @cons p q ps qs h _ ih =>
    rw [List.filter_cons, List.filter_cons, ← h.1]
    by_cases hc : p.1 = k
    · have e : decide (p.1 ≠ k) = false := decide_eq_false (fun z => z hc)
      rw [e]
      exact ih
    · have e : decide (p.1 ≠ k) = true := decide_eq_true hc
      rw [e]
      exact .cons h ih
theorem RelEs.len {es : List Ent} {xs : List (NestedKey × Addr × Value)} (r : RelEs es xs) : es.length = xs.length := Paired.length r
theorem putN_len {es : List Ent} {k : NestedKey} {b : Addr} {v : V} : (putN es k b v).length ≤ es.length + 1 := by
  unfold putN
  split
  · rw [List.length_map]
    omega
  · rw [List.length_append, List.length_singleton]
    exact Nat.le_refl _
theorem dropN_len {es : List Ent} {k : NestedKey} : (dropN es k).length ≤ es.length := List.length_filter_le _ _
section
variable {P : Program} {w : World} {H : Hp} {h : Heap} {a : Addr} {es : List Ent}
theorem dn_of (ok : HOk P w H h) (e : H a = some (DN w a es)) (hk : EntsOk H es) : es.length ≤ sizeLine ∧ (a == sysModules) = false ∧ ∃ xs, RelEs es xs ∧ h.DictOfH (nestedKind P w) a xs := by
  obtain ⟨⟨z, y, xs, r, o, ds, ep, h1, h2, h3, h4, h5⟩, _, _⟩ := (show ObjOk P w H h a (DN w a es) from ok _ _ e)
  refine ⟨z, y, xs, r, o, ds, ep, h1, h2, h3, h4, ?_, h5⟩
  have all : ∀ {l : List Ent} {m : List (NestedKey × Addr × Value)}, EntsOk H l → RelEs l m → ∀ x ∈ m, (nestedKind P w).is h x.1 x.2.1 := by
    intro l m hl r
    induction r with
    | nil => exact fun _ hx => nomatch hx
    | @cons p q ps qs hpq _ ih =>
      intro x hx
      rcases List.mem_cons.mp hx with rfl | hx
      · obtain ⟨k1, k2⟩ := hl p List.mem_cons_self
        rw [← hpq.1, ← hpq.2.1]
        exact ⟨k1.is ok rfl, k2⟩
      · exact ih (fun e he => hl e (List.mem_cons_of_mem _ he)) x hx
  exact all hk r
theorem dn_obj {H' : Hp} {h' : Heap} {xs : List (NestedKey × Addr × Value)} (z : es.length ≤ sizeLine) (y : (a == sysModules) = false) (r : RelEs es xs) (dd : h'.DictOfH (nestedKind P w) a xs) : ObjOk P w H' h' a (DN w a es) := by
  obtain ⟨o, ds, ep, h1, h2, h3, h4, _, h5⟩ := dd
  refine ⟨⟨z, y, xs, r, o, ds, ep, h1, h2, h3, h4, h5⟩, ⟨o, h1⟩, fun g1 g2 ⟨z, y, xs, r, o, ds, ep, h1, h2⟩ hg => ⟨z, y, xs, r, o, ds, ep, hg _ h1, h2⟩⟩
theorem dn_empty (h : Heap) (hb : sysModules < h.objs.size) : ObjOk P w H (h.push { cls := .type "dict", data := .dict #[] }) h.objs.size (DN w h.objs.size []) :=
  dn_obj (Nat.zero_le _) (beq_eq_false_iff_ne.mpr (Ne.symm (Nat.ne_of_lt hb))) .nil (Heap.DictOfH.new h)
end
/-- the parts of what is asked of such a dict -/
structure AtN (w : World) (H : Hp) (x y : V) (a b : Addr) (es : List Ent) (k : NestedKey) : Prop where
  ex : x = .ref a
  ey : y = .ref b
  ha : H a = some (DN w a es)
  he : EntsOk H es
  hk : NK H k (.ref b)
  hd : k.depth ≤ 8
def rNGet (w : World) (x y : V) (H : Hp) (Q : VK) : Prop := ∃ a b es k v, AtN w H x y a b es k ∧ atN es k = some v ∧ Q v H
def rNIn (w : World) (x y : V) (H : Hp) (Q : Bool → Prop) : Prop := ∃ a b es k, AtN w H x y a b es k ∧ Q (atN es k).isSome
def rNPut (w : World) (x y v : V) (H : Hp) (Q : Hp → Prop) : Prop := ∃ a b es k, AtN w H x y a b es k ∧ es.length < sizeLine ∧ Q (upd H a (DN w a (putN es k b v)))
def rNDel (w : World) (x y : V) (H : Hp) (Q : V → Hp → Prop) : Prop := ∃ a b es k v, AtN w H x y a b es k ∧ atN es k = some v ∧ Q v (upd H a (DN w a (dropN es k)))
def tNGet (w : World) (td ty : TE) : TE := fun σ H Q => td σ H fun x H1 => ty σ H1 fun y H2 => rNGet w x y H2 Q
def tNIn (w : World) (ty td : TE) : TE := fun σ H Q => ty σ H fun y H1 => td σ H1 fun x H2 => rNIn w x y H2 fun b => Q (.bl b) H2
def tNNot (w : World) (ty td : TE) : TE := fun σ H Q => ty σ H fun y H1 => td σ H1 fun x H2 => rNIn w x y H2 fun b => Q (.bl (!b)) H2
def sNPut (w : World) (td ty tv : TE) : TS := fun D σ H => tv σ H fun v H1 => td σ H1 fun x H2 => ty σ H2 fun y H3 => rNPut w x y v H3 fun H4 => D.nx σ H4
def sNDel (w : World) (td ty : TE) : TS := fun D σ H => td σ H fun x H1 => ty σ H1 fun y H2 => rNDel w x y H2 fun _ H3 => D.nx σ H3
def tNNew (w : World) : TE := fun _ H Q => ∀ p, H p = none → Q (.ref p) (upd H p (DN w p []))
def tNPop (w : World) (td ty : TE) : TE := fun σ H Q => td σ H fun x H1 => (∃ a es, x = .ref a ∧ H1 a = some (DN w a es)) ∧ ty σ H1 fun y H2 => rNDel w x y H2 Q
section
variable {X : Cx} {w : World} {o i value : Expr} {pos pos' tpos : Pos} {td ty tv : TE}
theorem AtN.dn {H : Hp} {x y : V} {a b : Addr} {es : List Ent} {k : NestedKey} {pins : List (Addr × Obj)} {σ : St} {s : Shared} (I : Inv X pins σ H s) (hw : X.w = w) (g : AtN w H x y a b es k) : es.length ≤ sizeLine ∧ (a == sysModules) = false ∧ ∃ xs, RelEs es xs ∧ s.heap.DictOfH (nestedKind X.prog X.w) a xs ∧ (nestedKind X.prog X.w).is s.heap k b := by
  subst hw
  obtain ⟨z, hd, xs, r, dd⟩ := dn_of I.hok g.ha g.he
  exact ⟨z, hd, xs, r, dd, g.hk.is I.hok rfl, g.hd⟩
theorem n_room {A : Around} (hu : A.units + 64 < cLine) {P : Program} {w : World} : (nestedKind P w).room A.in1 := by
  show A.in1.units + 8 < cLine
  have e : A.in1.units = A.units + 1 := rfl
  omega
theorem pe_ndget (hu : X.A.units + 64 < cLine) (ho : PE X o td) (hi : PE X i ty) (hs : NoSl i) (hw : X.w = w := by rfl) : PE X (.Subscript o i pos) (tNGet w td ty) := by
  refine ⟨fun pins s σ H Q I h => ?_⟩
  refine subD_of PySem.F.slot_dict_getitem.lookup hs (thn (ho.run pins s σ H _ I h) fun u s1 ⟨x, H1, I1, rx, q1⟩ => thn (hi.run pins s1 σ H1 _ I1 q1) fun iv s2 ⟨y, H2, I2, ry, a, b, es, k, v, g, hv, q2⟩ => ?_)
  obtain ⟨z, hd, xs, r, dd, hk⟩ := g.dn I2 hw
  cases g.ex
  cases g.ey
  obtain rfl : u = Value.ref a := rx
  obtain rfl : iv = Value.ref b := ry
  obtain ⟨w', hw', rw'⟩ := RelO.some_of (v := v) (o := (atKey xs k).map (·.2)) (by rw [← hv]; exact r.at k)
  obtain ⟨p, hp, hp2⟩ := Option.map_eq_some_iff.mp hw'
  refine ⟨dd.typeIs, wpAny_getItem_heap (n_room hu) hk dd hp ?_⟩
  rw [hp2]
  exact ⟨v, H2, I2.tok _, rw', q2⟩
theorem pc_nin (hu : X.A.units + 64 < cLine) (hi : PE X i ty) (ho : PE X o td) (hw : X.w = w := by rfl) : PC X .In i o (tNIn w ty td) := by
  refine ⟨fun pins s σ H Q I h => ?_⟩
  refine thn (hi.run pins s σ H _ I h) fun iv s1 ⟨y, H1, I1, ry, q1⟩ => thn (ho.run pins s1 σ H1 _ I1 q1) fun u s2 ⟨x, H2, I2, rx, a, b, es, k, g, q2⟩ => ?_
  obtain ⟨z, hd, xs, r, dd, hk⟩ := g.dn I2 hw
  cases g.ex
  cases g.ey
  obtain rfl : u = Value.ref a := rx
  obtain rfl : iv = Value.ref b := ry
  refine wpAny_in_heap (n_room hu) hk hd dd ?_
  rw [← r.some k]
  exact ⟨.bl _, H2, I2.tok _, rfl, q2⟩
theorem pc_nnot (hu : X.A.units + 64 < cLine) (hi : PE X i ty) (ho : PE X o td) (hw : X.w = w := by rfl) : PC X .NotIn i o (tNNot w ty td) := by
  refine ⟨fun pins s σ H Q I h => ?_⟩
  refine thn (hi.run pins s σ H _ I h) fun iv s1 ⟨y, H1, I1, ry, q1⟩ => thn (ho.run pins s1 σ H1 _ I1 q1) fun u s2 ⟨x, H2, I2, rx, a, b, es, k, g, q2⟩ => ?_
  obtain ⟨z, hd, xs, r, dd, hk⟩ := g.dn I2 hw
  cases g.ex
  cases g.ey
  obtain rfl : u = Value.ref a := rx
  obtain rfl : iv = Value.ref b := ry
  refine PyProof.Rows.wpAny_notIn_heap (n_room hu) hk hd dd ?_
  rw [← r.some k]
  exact ⟨.bl _, H2, I2.tok _, rfl, q2⟩
theorem ps_nput (hu : X.A.units + 64 < cLine) (ho : PE X o td) (hi : PE X i ty) (hv : PE X value tv) (hs : swapsWith value (some (.Subscript o i pos')) pos.line X.env = pure false) (hw : X.w = w := by rfl) :
    PS X (.Assign [.Subscript o i pos'] value pos) (sNPut w td ty tv) := by
  refine ⟨fun pins s σ H D I h => ?_⟩
  refine wpAny_Assign_Subscript (thn (hv.run pins s σ H _ I h) fun r s1 ⟨v, H1, I1, rv, q1⟩ => thn (ho.run pins s1 σ H1 _ I1 q1) fun u s2 ⟨x, H2, I2, rx, q2⟩ => thn (hi.run pins s2 σ H2 _ I2 q2) fun iv s3 ⟨y, H3, I3, ry, a, b, es, k, g, hl, q3⟩ => ?_) hs
  obtain ⟨z, hd, xs, rr, dd, hk⟩ := g.dn I3 hw
  subst hw
  cases g.ex
  cases g.ey
  obtain rfl : u = Value.ref a := rx
  obtain rfl : iv = Value.ref b := ry
  have hz : xs.length ≤ sizeLine := by rw [← rr.len]; exact z
  have hl2 : (putN es k b v).length ≤ sizeLine := Nat.le_trans putN_len hl
  refine wpAny_setItem_heap (hsz := hz) (n_room hu) hk dd fun h' dd' hs => ⟨σ, _, ?_, q3⟩
  have he : ∃ q, h'.get? a = some q := let ⟨q, _, _, hq, _⟩ := dd'; ⟨q, hq⟩
  exact d_write I3 (by rw [g.ha]; exact True.intro) hs he (dn_obj hl2 hd (rr.put k b rv) dd')
theorem ps_ndel (hu : X.A.units + 64 < cLine) (ho : PE X o td) (hi : PE X i ty) (hw : X.w = w := by rfl) : PS X (.Delete [.Subscript o i tpos] pos) (sNDel w td ty) := by
  refine ⟨fun pins s σ H D I h => ?_⟩
  refine wpAny_Delete (wpAny_deleteEach_cons (wpAny_delete_Subscript (thn (ho.run pins s σ H _ I h) fun u s1 ⟨x, H1, I1, rx, q1⟩ => thn (hi.run pins s1 σ H1 _ I1 q1) fun iv s2 ⟨y, H2, I2, ry, a, b, es, k, v, g, hv, q2⟩ => ?_)))
  obtain ⟨z, hd, xs, rr, dd, hk⟩ := g.dn I2 hw
  subst hw
  cases g.ex
  cases g.ey
  obtain rfl : u = Value.ref a := rx
  obtain rfl : iv = Value.ref b := ry
  have hz : xs.length ≤ sizeLine := by rw [← rr.len]; exact z
  obtain ⟨w', hw', rw'⟩ := RelO.some_of (v := v) (o := (atKey xs k).map (·.2)) (by rw [← hv]; exact rr.at k)
  obtain ⟨p, hp, hp2⟩ := Option.map_eq_some_iff.mp hw'
  refine wpAny_delItem_heap (hsz := hz) (n_room hu) hk hd dd hp fun h' dd' hs => wpAny_deleteEach_nil ⟨σ, _, ?_, q2⟩
  have he : ∃ q, h'.get? a = some q := let ⟨q, _, _, hq, _⟩ := dd'; ⟨q, hq⟩
  exact d_write I2 (by rw [g.ha]; exact True.intro) hs he (dn_obj (Nat.le_trans dropN_len z) hd (rr.drop k) dd')
theorem dn_type {H : Hp} {a : Addr} {es : List Ent} {pins : List (Addr × Obj)} {σ : St} {s : Shared} (I : Inv X pins σ H s) (e : H a = some (DN w a es)) : s.TypeIs (.ref a) "dict" ∧ ∀ b, Value.ref a = .ref b → ∃ ob, s.heap.get? b = some ob ∧ ob.dict = none := by
  obtain ⟨⟨z, y, xs, r, o, ds, ep, h1, h2, h3, h4, h5⟩, _, _⟩ := (show ObjOk X.prog X.w H s.heap a (DN w a es) from I.hok _ _ e)
  exact ⟨⟨o, h1, h2.1⟩, fun b q => by
    cases q
    exact ⟨o, h1, h2.2.1⟩⟩
theorem pe_npop {e : Expr} {apos cpos : Pos} (hu : X.A.units + 64 < cLine) (ho : PE X o td) (he : PE X e ty) (m : M1 X o "pop" apos e cpos) (hw : X.w = w := by rfl) : PE X (.Call (.Attribute o "pop" apos) [e] [] cpos) (tNPop w td ty) := by
  refine ⟨fun pins s σ H Q I h => ?_⟩
  refine wpAny_Call_method m.base m.few m.line PySem.F.plainAttrs_dict PySem.F.slot_dict_pop PySem.F.type_dict_pop (thn (ho.run pins s σ H _ I h) fun u s1 ⟨x, H1, I1, rx, ⟨a0, es0, ex, ea⟩, q1⟩ => ?_)
  cases ex
  obtain rfl : u = Value.ref a0 := rx
  obtain ⟨t1, t2⟩ := dn_type I1 ea
  refine ⟨t1, t2, ?_⟩
  rw [m.trees]
  refine Calls.callWith_builtin rfl (Calls.evalArgs_plain (Calls.spliced_cons (thn (he.run pins s1 σ H1 _ I1 q1) fun iv s2 ⟨y, H2, I2, ry, a, b, es, k, v, g, hv, q2⟩ => Calls.spliced_nil ?_)))
  obtain ⟨z, hd, xs, rr, dd, hk⟩ := g.dn I2 hw
  subst hw
  cases g.ex
  cases g.ey
  obtain rfl : iv = Value.ref b := ry
  have hz : xs.length ≤ sizeLine := by rw [← rr.len]; exact z
  obtain ⟨w', hw', rw'⟩ := RelO.some_of (v := v) (o := (atKey xs k).map (·.2)) (by rw [← hv]; exact rr.at k)
  obtain ⟨p, hp, hp2⟩ := Option.map_eq_some_iff.mp hw'
  refine call_pop_heap (hsz := hz) (.inl rfl) (PySem.F.args_dict_pop_2 _ _) (n_room hu) hk hd dd hp fun h' dd' hs => ?_
  have he : ∃ q, h'.get? a0 = some q := let ⟨q, _, _, hq, _⟩ := dd'; ⟨q, hq⟩
  rw [hp2]
  exact ⟨v, _, d_write I2 (by rw [g.ha]; exact True.intro) hs he (dn_obj (Nat.le_trans dropN_len z) hd (rr.drop k) dd'), rw', q2⟩
theorem pe_nnew (hw : X.w = w := by rfl) : PE X (.Dict [] [] pos) (tNNew w) := ⟨fun pins s σ H Q I h => by
  subst hw
  exact wpAny_Dict_empty ⟨.ref s.heap.objs.size, _, I.laid (a := s.heap.objs.size) (o := DN X.w s.heap.objs.size []) (t' := s.toks) (fun _ _ q => Heap.get?_push_of_some _ q) (Nat.le_refl _) (dn_empty s.heap I.big), rfl, h _ (I.hok.fresh (Nat.le_refl _))⟩⟩
end
end Hb

set_option Elab.async false
set_option maxRecDepth 100000
set_option maxHeartbeats 4000000
/-! sorted(..) of tuples of ints and of tuples of ints. -/
namespace Hb
open PySem L2 PyProof.Rows
/-! ### the order of rows of ints -/
abbrev lexI (x y : List Int) : Bool := HT.lexLt x y
theorem lexI_cons {x y : Int} {xs ys : List Int} : lexI (x :: xs) (y :: ys) = if x = y then lexI xs ys else decide (x < y) := rfl
theorem lexI_self : ∀ x : List Int, lexI x x = false
  | [] => rfl
  | x :: xs => by rw [lexI_cons, if_pos rfl]; exact lexI_self xs
theorem lexI_asym : ∀ x y : List Int, lexI x y = true → lexI y x = false
  | [], [], h => nomatch h
  | [], _ :: _, _ => rfl
  | _ :: _, [], h => nomatch h
  | x :: xs, y :: ys, h => by
    rw [lexI_cons] at h ⊢
    by_cases e : x = y
    · rw [if_pos e] at h
      rw [if_pos e.symm]
      exact lexI_asym xs ys h
    · rw [if_neg e] at h
      rw [if_neg (fun q => e q.symm)]
      have := of_decide_eq_true h
      exact decide_eq_false (by omega)
theorem lexI_tr : ∀ x y z : List Int, lexI y x = false → lexI z y = false → lexI z x = false
  | [], [], _, _, h => h
  | [], _ :: _, _, h1, _ => by
    rename_i z _
    cases z with
    | nil => rfl
    | cons z zs => rfl
  | _ :: _, [], _, h1, _ => nomatch h1
  | x :: xs, y :: ys, [], h1, h2 => nomatch h2
  | x :: xs, y :: ys, z :: zs, h1, h2 => by
    rw [lexI_cons] at h1 h2 ⊢
    by_cases e1 : y = x
    · subst e1
      rw [if_pos rfl] at h1
      by_cases e2 : z = y
      · subst e2
        rw [if_pos rfl] at h2
        rw [if_pos rfl]
        exact lexI_tr xs ys zs h1 h2
      · rw [if_neg e2] at h2 ⊢
        exact h2
    · rw [if_neg e1] at h1
      have g1 := of_decide_eq_false h1
      by_cases e2 : z = y
      · subst e2
        rw [if_neg e1]
        exact h1
      · rw [if_neg e2] at h2
        have g2 := of_decide_eq_false h2
        rw [if_neg (by omega)]
        exact decide_eq_false (by omega)
theorem lexI_total : ∀ x y : List Int, lexI x y = false → lexI y x = false → x = y
  | [], [], _, _ => rfl
  | [], _ :: _, h, _ => nomatch h
  | _ :: _, [], _, h => nomatch h
  | x :: xs, y :: ys, h1, h2 => by
    rw [lexI_cons] at h1 h2
    by_cases e : x = y
    · subst e
      rw [if_pos rfl] at h1 h2
      rw [lexI_total xs ys h1 h2]
    · rw [if_neg e] at h1
      rw [if_neg (fun q => e q.symm)] at h2
      have g1 := of_decide_eq_false h1
      have g2 := of_decide_eq_false h2
      omega
theorem lexI_app : ∀ {x y r t : List Int}, x.length = y.length → lexI (x ++ r) (y ++ t) = if x = y then lexI r t else lexI x y
  | [], [], r, t, _ => by rw [if_pos rfl]; rfl
  | x :: xs, y :: ys, r, t, h => by
    have h' : xs.length = ys.length := by simpa using h
    show lexI (x :: (xs ++ r)) (y :: (ys ++ t)) = _
    rw [lexI_cons, lexI_cons]
    by_cases e : x = y
    · subst e
      rw [if_pos rfl, if_pos rfl, lexI_app h']
      by_cases e2 : xs = ys
      · rw [if_pos e2, if_pos (by rw [e2])]
      · rw [if_neg e2, if_neg (fun q => e2 (List.cons.inj q).2)]
    · rw [if_neg e, if_neg e, if_neg (fun q => e (List.cons.inj q).1)]
theorem swo_lexI {α : Type} (f : α → List Int) : SrtO.Swo fun x y => lexI (f x) (f y) := ⟨fun _ _ => lexI_asym _ _, fun _ _ _ => lexI_tr _ _ _⟩
/-! ### tuples of ints and of tuples of ints -/
abbrev Itm := Int ⊕ List Int
def flI : Itm → List Int
  | .inl i => [i]
  | .inr ns => ns
def flK (ks : List Itm) : List Int := ks.flatMap flI
def shp : Itm → Option Nat
  | .inl _ => none
  | .inr ns => some ns.length
def nkI : Itm → NestedKey
  | .inl i => .num i
  | .inr ns => .tup (ns.map .num)
def nkK (ks : List Itm) : NestedKey := .tup (ks.map nkI)
theorem shp_len {x y : Itm} (h : shp x = shp y) : (flI x).length = (flI y).length := by
  cases x with
  | inl i =>
    cases y with
    | inl j => rfl
    | inr ms => cases h
  | inr ns =>
    cases y with
    | inl j => cases h
    | inr ms => exact Option.some.inj h
theorem flI_inj {x y : Itm} (h : shp x = shp y) (e : flI x = flI y) : x = y := by
  cases x with
  | inl i =>
    cases y with
    | inl j => cases e; rfl
    | inr ms => cases h
  | inr ns =>
    cases y with
    | inl j => cases h
    | inr ms => cases e; rfl
theorem flK_inj : ∀ {xs ys : List Itm}, xs.map shp = ys.map shp → flK xs = flK ys → xs = ys
  | [], [], _, _ => rfl
  | [], _ :: _, h, _ => nomatch h
  | _ :: _, [], h, _ => nomatch h
  | x :: xs, y :: ys, h, e => by
    have h1 : shp x = shp y := (List.cons.inj h).1
    have e' : flI x ++ flK xs = flI y ++ flK ys := e
    have h2 := List.append_inj e' (shp_len h1)
    rw [flI_inj h1 h2.1, flK_inj (List.cons.inj h).2 h2.2]
theorem nums_inj : ∀ {a b : List Int}, a.map NestedKey.num = b.map NestedKey.num → a = b
  | [], [], _ => rfl
  | [], _ :: _, h => nomatch h
  | _ :: _, [], h => nomatch h
  | x :: xs, y :: ys, h => by
    have h1 := List.cons.inj h
    rw [NestedKey.num.inj h1.1, nums_inj h1.2]
theorem nkI_inj {x y : Itm} (h : nkI x = nkI y) : x = y := by
  cases x with
  | inl i =>
    cases y with
    | inl j => cases h; rfl
    | inr ms => cases h
  | inr ns =>
    cases y with
    | inl j => cases h
    | inr ms => rw [nums_inj (NestedKey.tup.inj h)]
section
variable {prog : Program} {w : World} {A : Around} {E : Value → Shared → Prop} {s : Shared}
theorem lt_any {f : Bool} {a b : Int} {t u : Tok} {Q : Bool → Shared → Prop} (h : Q (decide (a < b)) s) : wpAny (model prog w) A (oneLt' f (.int a t) (.int b u)) Q (fun _ _ => False) s := by
  cases f with
  | true => exact oneLt_int h
  | false => exact PySem.W.kat_one _ _ (lt_int h)
/-- an item of such a tuple -/
def ItIs (h : Heap) : Itm → Value → Prop
  | .inl i, v => ∃ t, v = .int i t
  | .inr ns, v => ∃ p items, v = .ref p ∧ IsTup h p items ∧ IntsAre items.toList ns
def K2Is (h : Heap) (ks : List Itm) (v : Value) : Prop := ∃ p o n vs, v = .ref p ∧ h.get? p = some o ∧ o.cls = .type "tuple" ∧ o.data = .seq vs n ∧ Paired (ItIs h) ks vs.toList
theorem ItIs.keeps {h h' : Heap} (k : ∀ b o, h.get? b = some o → o.cls = .type "tuple" → h'.get? b = some o) {x : Itm} {v : Value} (r : ItIs h x v) : ItIs h' x v := by
  cases x with
  | inl i => exact r
  | inr ns =>
    obtain ⟨p, items, e, ⟨o, ho, hc, n, hd⟩, hi⟩ := r
    exact ⟨p, items, e, ⟨o, k _ _ ho hc, hc, n, hd⟩, hi⟩
theorem K2Is.keeps {h h' : Heap} (k : ∀ b o, h.get? b = some o → o.cls = .type "tuple" → h'.get? b = some o) {ks : List Itm} {v : Value} (r : K2Is h ks v) : K2Is h' ks v := by
  obtain ⟨p, o, n, vs, e, ho, hc, hd, r⟩ := r
  exact ⟨p, o, n, vs, e, k _ _ ho hc, hc, hd, Paired.mapP r fun a b => ItIs.keeps k⟩
theorem ints_nested {h : Heap} : ∀ {vs : List Value} {ns : List Int}, IntsAre vs ns → NestedAll h (ns.map .num) vs
  | _, _, .nil => .nil
  | _, _, .cons i t r => .cons (.int i t) (ints_nested r)
theorem ItIs.nested {h : Heap} {x : Itm} {v : Value} (r : ItIs h x v) : NestedIs h (nkI x) v := by
  cases x with
  | inl i =>
    obtain ⟨t, rfl⟩ := r
    exact .int i t
  | inr ns =>
    obtain ⟨p, items, rfl, ⟨o, ho, hc, n, hd⟩, hi⟩ := r
    exact .tup ho hc hd (ints_nested hi)
theorem depth_nums : ∀ ns : List Int, NestedKey.depthAll (ns.map .num) ≤ 1
  | [] => by simp [NestedKey.depthAll]
  | n :: ns => by
    have := depth_nums ns
    simp only [List.map_cons, NestedKey.depthAll, NestedKey.depth]
    omega
theorem depth_nkI (x : Itm) : (nkI x).depth ≤ 2 := by
  cases x with
  | inl i => simp [nkI, NestedKey.depth]
  | inr ns =>
    have := depth_nums ns
    simp only [nkI, NestedKey.depth]
    omega
theorem k2_lex {b fin : Bool} {Q : Bool → Shared → Prop} (hu : A.units + 2 < cLine) : ∀ {xs ys : List Itm} {vs ws : List Value} {i : Nat}, Paired (ItIs s.heap) xs vs → Paired (ItIs s.heap) ys ws → xs.map shp = ys.map shp → (b = true → i = 0 → ∀ x ∈ xs.head?, shp x = none) → fin = false → Q (lexI (flK xs) (flK ys)) s →
    PySem.W.KatLex prog w A b fin Q (vs.zip ws) i s
  | _, _, _, _, i, .nil, .nil, _, _, hf, h => by
    subst hf
    exact PySem.W.kat_nil h
  | _, _, _, _, _, .nil, .cons _ _, hs, _, _, _ => nomatch hs
  | _, _, _, _, _, .cons _ _, .nil, hs, _, _, _ => nomatch hs
  | x :: xs, y :: ys, v :: vs, u :: us, i, .cons r rs, .cons q qs, hs, hb, hf, h => by
    have h1 : shp x = shp y := (List.cons.inj hs).1
    have h2 := (List.cons.inj hs).2
    have e : lexI (flK (x :: xs)) (flK (y :: ys)) = if flI x = flI y then lexI (flK xs) (flK ys) else lexI (flI x) (flI y) := lexI_app (shp_len h1)
    rw [e] at h
    refine PySem.W.kat_cons (eqAt_key (nkI x) (nkI y) A s v u r.nested q.nested (by have := depth_nkI x; omega) prog w _ _ ?_)
    rw [← NestedKey.decide_eq]
    refine PySem.W.kat_go (fun e1 => ?_) (fun e1 => ?_)
    · have e2 : x = y := nkI_inj (of_decide_eq_true e1)
      rw [if_pos (by rw [e2])] at h
      exact PySem.W.kat_yes (k2_lex hu rs qs h2 (fun _ z => nomatch z) hf h)
    · have e2 : ¬ flI x = flI y := fun z => of_decide_eq_false e1 (by rw [flI_inj h1 z])
      rw [if_neg e2] at h
      refine PySem.W.kat_no ?_
      cases x with
      | inl n =>
        cases y with
        | inr ms => cases h1
        | inl m =>
          obtain ⟨t, rfl⟩ := r
          obtain ⟨t', rfl⟩ := q
          have e3 : lexI (flI (.inl n)) (flI (.inl m)) = decide (n < m) := by
            show lexI [n] [m] = _
            rw [lexI_cons, if_neg (fun z => e2 (by rw [z]))]
          rw [e3] at h
          exact lt_any h
      | inr ns =>
        cases y with
        | inl m => cases h1
        | inr ms =>
          have hc : (b && i == 0) = false := by
            cases hb1 : b with
            | false => rfl
            | true =>
              cases hi : i == 0 with
              | false => rfl
              | true =>
                have := hb hb1 (by simpa using hi) (.inr ns) rfl
                cases this
          rw [hc]
          obtain ⟨p, its, rfl, ht, hi⟩ := r
          obtain ⟨p', its', rfl, ht', hi'⟩ := q
          exact PySem.W.kat_one _ _ (HT.lt_tupInts ht ht' hi hi' (by omega) h)
theorem paired_len {α β : Type} {R : α → β → Prop} {xs : List α} {ys : List β} (h : Paired R xs ys) : xs.length = ys.length := Paired.length h
/-- the first items -/
theorem firsts2 {h : Heap} {k : Value → List Itm} {c : Option Nat} {sh : List (Option Nat)} : ∀ {vs : List Value}, (∀ v ∈ vs, K2Is h (k v) v ∧ (k v).map shp = c :: sh) → ∃ fs : List Value, PySem.W.KatTups h vs fs ∧ fs.length = vs.length ∧ ∀ f ∈ fs, ∃ x, ItIs h x f ∧ shp x = c
  | [], _ => ⟨[], PySem.W.KatTups.nil, rfl, fun _ hm => by simp at hm⟩
  | v :: vs, hp => by
    obtain ⟨fs, h1, h2, h3⟩ := firsts2 (vs := vs) fun v' hm => hp v' (List.mem_cons_of_mem _ hm)
    obtain ⟨⟨p, o, n, ws, e, ho, hc, hd, r⟩, hsh⟩ := hp v (List.mem_cons_self ..)
    generalize k v = ks at r hsh
    match ks, hsh, hw : ws.toList, r with
    | x :: ks, hsh, u :: us, .cons r _ =>
      subst e
      refine ⟨u :: fs, PySem.W.KatTups.cons ho hc hd (by rw [← Array.getElem?_toList, hw]; rfl) h1, by rw [List.length_cons, List.length_cons, h2], fun f hm => ?_⟩
      rcases List.mem_cons.mp hm with rfl | hm
      · exact ⟨x, r, (List.cons.inj hsh).1⟩
      · exact h3 f hm
theorem k2_cmp {vs : List Value} {k : Value → List Itm} {b : Bool} {c : Option Nat} {sh : List (Option Nat)} (hu : A.units + 2 < cLine) (hb : b = true → c = none) (hp : ∀ v ∈ vs, K2Is s.heap (k v) v ∧ (k v).map shp = c :: sh) : SrtO.Cmp prog w A s (tuples' b) (fun p => p.1 ∈ vs) (SrtO.lt2 fun v u => lexI (flK (k v)) (flK (k u))) := by
  intro p q hm hm'
  obtain ⟨⟨a, o, n, ws, e, ho, hc, hd, r⟩, hs⟩ := hp _ hm
  obtain ⟨⟨a', o', n', ws', e', ho', hc', hd', r'⟩, hs'⟩ := hp _ hm'
  show wpAny (model prog w) A (keyLt' (tuples' b) p.1 q.1) (fun r s' => s' = s ∧ r = lexI (flK (k p.1)) (flK (k q.1))) (fun _ _ => False) s
  generalize k p.1 = ks at r hs ⊢
  generalize k q.1 = ks' at r' hs' ⊢
  rw [e, e']
  refine PySem.W.kat_lt ho hd ho' hd' ?_
  have l1 : ks.length = ws.size := by
    have := paired_len r
    simpa using this
  have l2 : ks'.length = ws'.size := by
    have := paired_len r'
    simpa using this
  have l3 : ks.length = ks'.length := by
    have := congrArg List.length (hs.trans hs'.symm)
    simpa using this
  refine k2_lex hu r r' (hs.trans hs'.symm) (fun h1 _ x hx => ?_) ?_ ⟨rfl, rfl⟩
  · match ks, hs, hx with
    | y :: ks, hs, hx =>
      cases hx
      rw [← hb h1]
      exact (List.cons.inj hs).1
  · exact decide_eq_false (by omega)
theorem k2_sortable {a : Addr} {vs : List Value} {k : Value → List Itm} {c : Option Nat} {sh : List (Option Nat)} (hu : A.units + 2 < cLine) (h0 : 0 < vs.length) (hp : ∀ v ∈ vs, K2Is s.heap (k v) v ∧ (k v).map shp = c :: sh) (ha : ∀ o, s.heap.get? a = some o → o.cls ≠ .type "tuple") : SrtO.SortableO prog w A s a vs fun v u => lexI (flK (k v)) (flK (k u)) := by
  intro h' keep
  have hp' : ∀ v ∈ vs, K2Is h' (k v) v ∧ (k v).map shp = c :: sh := fun v hm => ⟨(hp v hm).1.keeps fun b o e cc => keep b o (fun z => by subst z; exact ha o e cc) e, (hp v hm).2⟩
  obtain ⟨fs, h1, h2, h3⟩ := firsts2 hp'
  cases c with
  | none =>
    refine ⟨tuples' true, fun Q E hq => ?_, k2_cmp hu (fun _ => rfl) hp'⟩
    refine PySem.W.kat_kind (T := .type "int") h1 (by omega) (fun f hm => ?_) (by rfl) ?_
    · obtain ⟨x, r, e⟩ := h3 f hm
      cases x with
      | inr ns => cases e
      | inl i =>
        obtain ⟨t, rfl⟩ := r
        exact PySem.W.Looks.now
    · have e : (Value.type "int" != Value.type "tuple") = true := by first | decide +kernel | rfl | decide
      rw [e]
      exact hq
  | some n =>
    refine ⟨tuples' false, fun Q E hq => ?_, k2_cmp hu (fun z => nomatch z) hp'⟩
    refine PySem.W.kat_kind (T := .type "tuple") h1 (by omega) (fun f hm => ?_) (by rfl) ?_
    · obtain ⟨x, r, e⟩ := h3 f hm
      cases x with
      | inl i => cases e
      | inr ns =>
        obtain ⟨p, its, rfl, ⟨o, ho, hc, n, hd⟩, hi⟩ := r
        exact (PySem.W.Looks.ld ho).andThen (by rw [hc]; exact .now)
    · have e : (Value.type "tuple" != Value.type "tuple") = false := by first | decide +kernel | rfl | decide
      rw [e]
      exact hq
end
/-! ### as rules -/
theorem nums_ints {H : Hp} : ∀ {ns : List Int} {vs : List V} {us : List Value}, NKs H (ns.map .num) vs → Vals vs us → IntsAre us ns
  | [], _, _, .nil, r => by cases r; exact .nil
  | n :: ns, _, _, .cons h hs, r => by
    cases h
    cases r with
    | cons r1 r2 =>
      obtain ⟨t, rfl⟩ := r1
      exact .cons n t (nums_ints hs r2)
theorem NK.it {P : Program} {w : World} {H : Hp} {h : Heap} (ok : HOk P w H h) {x : Itm} {v : V} {u : Value} (hk : NK H (nkI x) v) (r : RelV v u) : ItIs h x u := by
  cases x with
  | inl i =>
    cases hk
    exact r
  | inr ns =>
    cases hk with
    | tup e hs =>
      cases (show u = Value.ref _ from r)
      obtain ⟨_, its, r2, ht⟩ := ok _ _ e
      exact ⟨_, _, rfl, ht, nums_ints hs r2⟩
theorem NKs.its {P : Program} {w : World} {H : Hp} {h : Heap} (ok : HOk P w H h) : ∀ {ks : List Itm} {vs : List V} {us : List Value}, NKs H (ks.map nkI) vs → Vals vs us → Paired (ItIs h) ks us
  | [], _, _, .nil, r => by cases r; exact .nil
  | k :: ks, _, _, .cons hk hs, r => by
    cases r with
    | cons r1 r2 => exact .cons (hk.it ok r1) (NKs.its ok hs r2)
theorem NK.k2 {P : Program} {w : World} {H : Hp} {h : Heap} (ok : HOk P w H h) {ks : List Itm} {b : Addr} (hk : NK H (nkK ks) (.ref b)) : K2Is h ks (.ref b) := by
  cases hk with
  | tup e hs =>
    obtain ⟨_, its, r2, o, ho, hc, n, hd⟩ := ok _ _ e
    exact ⟨b, o, n, _, rfl, ho, hc, hd, NKs.its ok hs r2⟩
theorem _root_.Hb.RelEs.addrs : ∀ {es : List Ent} {xs : List (NestedKey × Addr × Value)}, RelEs es xs → es.map (fun e => Value.ref e.2.1) = xs.map fun x => Value.ref x.2.1
  | _, _, .nil => rfl
  | _, _, .cons h t => by rw [List.map_cons, List.map_cons, RelEs.addrs t, h.2.1]
/-- by the ints of the keys -/
abbrev ltK (k : V → List Itm) (x y : V) : Bool := lexI (flK (k x)) (flK (k y))
theorem ltK_swo (k : V → List Itm) : SrtO.Swo (ltK k) := swo_lexI fun x => flK (k x)
/-- sorted(xs): xs a list of such tuples, all of one shape -/
def rSortN (K : PySem.W.Frag) (c : Option Nat) (sh : List (Option Nat)) : List V → Hp → VK → Prop := fun vs H Q => ∃ (a : Addr) (xs : List V) (k : V → List Itm), vs = [V.ref a] ∧ SqL K H a xs ∧ (∀ x ∈ xs, (∃ b, x = V.ref b) ∧ NK H (nkK (k x)) x ∧ (k x).map shp = c :: sh) ∧
  ∀ ys p, SrtO.Srtd (ltK k) ys → SrtO.Stb (ltK k) ys xs → H p = none → Q (.ref p) (upd H p (.lst ys))
/-- sorted(d) of a dict with such keys -/
def rSortDN (w : World) (c : Option Nat) (sh : List (Option Nat)) : List V → Hp → VK → Prop := fun vs H Q => ∃ (a : Addr) (es : List Ent) (k : V → List Itm), vs = [V.ref a] ∧ H a = some (DN w a es) ∧ (∀ e ∈ es, NK H (nkK (k (.ref e.2.1))) (.ref e.2.1) ∧ (k (.ref e.2.1)).map shp = c :: sh) ∧
  ∀ ys p, SrtO.Srtd (ltK k) ys → SrtO.Stb (ltK k) ys (es.map fun e => V.ref e.2.1) → H p = none → Q (.ref p) (upd H p (.lst ys))
section
variable {X : Cx} {c : Option Nat} {sh : List (Option Nat)} {K : PySem.W.Frag} {w : World}
theorem cr_sortN (hu : X.A.units + 64 < cLine) (hK : X.K = K := by rfl) : CallR X (.builtin "sorted") (rSortN K c sh) := by
  subst hK
  intro pins s σ H vs us Q I r h
  obtain ⟨a, xs, k, rfl, hs, hx, q⟩ := h
  obtain ⟨its, rv, hl, hz⟩ := I.list hs
  obtain ⟨u, rfl, ru⟩ := vals1 r
  obtain rfl : u = Value.ref a := ru
  obtain ⟨e1, e2⟩ := refs_back rv fun x m => (hx x m).1
  have hp : ∀ v ∈ its, K2Is s.heap (k (backV v)) v ∧ (k (backV v)).map shp = c :: sh := fun v hv => by
    obtain ⟨t, rfl⟩ := e2 v hv
    have hm : V.ref t ∈ xs := by
      rw [e1]
      exact List.mem_map.mpr ⟨_, hv, rfl⟩
    obtain ⟨_, h1, h2⟩ := hx _ hm
    exact ⟨NK.k2 I.hok h1, h2⟩
  have hu2 : X.A.in1.in1.units + 2 < cLine := by
    have e : X.A.in1.in1.units = X.A.units + 1 + 1 := rfl
    omega
  refine SrtO.sorted_ord (ltv := fun v u => lexI (flK (k (backV v))) (flK (k (backV u)))) (swo_lexI fun v => flK (k (backV v))) hl.isList (by rw [← rv.length]; exact hz) (fun h2 h₁ a ha kk => ?_) fun out h1 h2 => ?_
  · refine k2_sortable (s := { s with heap := h₁ }) hu2 (by omega) (fun v hm => ⟨(hp v hm).1.keeps fun b o e _ => (kk b o e).2, (hp v hm).2⟩) fun o e => ?_
    have e' : some o = some (seqObj "list" its.toArray 0) := e.symm.trans ha
    cases e'
    intro cc
    exact absurd (Value.type.inj cc) (by decide)
  · have h3 : ∀ u ∈ out, ∃ a, u = Value.ref a := fun u hu => e2 u (h2.perm.mem_iff.mp hu)
    obtain ⟨n, hn⟩ := sortedAll_at s.heap its out.toArray
    have hb : SrtO.Stb (ltK k) (out.map backV) xs := by
      rw [e1]
      exact SrtO.Stb.map (ltK_swo k) backV h2
    refine ⟨.ref (s.heap.objs.size + 1), upd H (s.heap.objs.size + 1) (.lst (out.map backV)), I.laid (t' := s.toks) (fun b o e => sortedAll_old e) (Nat.le_succ _) ⟨?_, out, n, vals_back h3, hn⟩, rfl, q _ _ (SrtO.srtd_map h1) hb (I.hok.fresh (Nat.le_succ _))⟩
    rw [hb.len]
    exact hz
theorem cr_sortDN (hc : X.calm = true) (hu : X.A.units + 64 < cLine) (hw : X.w = w := by rfl) : CallR X (.builtin "sorted") (rSortDN w c sh) := by
  subst hw
  intro pins s σ H vs us Q I r h
  obtain ⟨a, es, k, rfl, ha, hx, q⟩ := h
  obtain ⟨u, rfl, ru⟩ := vals1 r
  obtain rfl : u = Value.ref a := ru
  obtain ⟨⟨z, lo, xs, rel, o, ds, ep, h1, h2, h3, h4, h5⟩, _, _⟩ := (show ObjOk X.prog X.w H s.heap a (DN X.w a es) from I.hok _ _ ha)
  have hu2 : X.A.in1.in1.units + 2 < cLine := by
    have e : X.A.in1.in1.units = X.A.units + 1 + 1 := rfl
    omega
  have hsz : ds.size = es.length := by
    rw [← Array.length_toList, h4, List.length_map, rel.len]
  refine Calls.call_function_entry kind_sorted plain_sorted entry_sorted (args_sorted1 _) ?_
  unfold Builtin.«sorted»
  refine wpAny_bind (m := checkCount "sorted" 1 1 _) (wpAny_pure ?_)
  refine wpAny_bind (PySem.W.kdu_collect (A := X.A.in1) (kdl_raw lo h2 h3) (I.ok.hd hc) h1 (by rw [hsz]; exact z) fun h' tk acc hk hacc => ?_)
  have hal : acc.toList.length = es.length := by rw [Array.length_toList, hacc.1, hsz]
  have hac : acc.toList = es.map fun e => Value.ref e.2.1 := by
    refine List.ext_getElem? fun j => ?_
    rw [List.getElem?_map]
    cases e1 : acc.toList[j]? with
    | none =>
      have g1 := List.getElem?_eq_none_iff.mp e1
      rw [List.getElem?_eq_none (by omega)]
      rfl
    | some v =>
      obtain ⟨en, g1, g2⟩ := hacc.2 j v (by rw [← Array.getElem?_toList]; exact e1)
      rw [← Array.getElem?_toList, h4, List.getElem?_map] at g1
      obtain ⟨x, g3, g4⟩ := Option.map_eq_some_iff.mp g1
      have g5 : (es.map fun e => Value.ref e.2.1)[j]? = some (Value.ref x.2.1) := by
        have g6 : es.map (fun e => Value.ref e.2.1) = xs.map fun x => Value.ref x.2.1 := by
          exact rel.addrs
        rw [g6, List.getElem?_map, g3]
        rfl
      rw [List.getElem?_map] at g5
      rw [g5, g2, ← g4]
      rfl
  have I1 : Inv X pins σ H { s with heap := h', toks := tk } := I.kept hk
  have hp : ∀ v ∈ acc.toList, K2Is h' (k (backV v)) v ∧ (k (backV v)).map shp = c :: sh := fun v hv => by
    rw [hac] at hv
    obtain ⟨e, he, rfl⟩ := List.mem_map.mp hv
    obtain ⟨g1, g2⟩ := hx e he
    exact ⟨NK.k2 I1.hok g1, g2⟩
  refine wpAny_bind (wpAny_newList ?_ (by rw [hal]; exact z))
  have hoL : (h'.push (seqObj "list" acc.toList.toArray 0)).get? h'.objs.size = some (seqObj "list" acc.toList.toArray 0) := Heap.get?_push_size _ rfl
  show wpAny _ _ _ _ _ { s with heap := h'.push (seqObj "list" acc.toList.toArray 0), toks := tk }
  refine wpAny_bind (wpAny_holding (wpAny_call_entry slot_list_sort ⟨_, hoL, rfl⟩ entry_list_sort
    (SrtO.list_sort_ord (s := { s with heap := h'.push (seqObj "list" acc.toList.toArray 0), toks := tk }) (ltv := fun v u => lexI (flK (k (backV v))) (flK (k (backV u)))) (swo_lexI fun v => flK (k (backV v))) hoL (by rw [hal]; exact z) (fun g0 => ?_) fun out g1 g2 => ⟨_, rfl, ?_⟩) (args_list_sort _)))
  · refine k2_sortable (s := { s with heap := h'.push (seqObj "list" acc.toList.toArray 0), toks := tk }) hu2 (by omega) (fun v hm => ⟨(hp v hm).1.keeps fun b o e _ => Heap.get?_push_of_some _ e, (hp v hm).2⟩) fun o e => ?_
    have e' : some o = some (seqObj "list" acc.toList.toArray 0) := e.symm.trans hoL
    cases e'
    intro cc
    exact absurd (Value.type.inj cc) (by decide)
  · obtain ⟨e', he'⟩ := sortedHeap_at (vs := acc.toList) (out := out.toArray) hoL
    have g3 : ∀ u ∈ out, ∃ a, u = Value.ref a := fun u hu => by
      have hm := g2.perm.mem_iff.mp hu
      rw [hac] at hm
      obtain ⟨e, _, rfl⟩ := List.mem_map.mp hm
      exact ⟨_, rfl⟩
    have hb : SrtO.Stb (ltK k) (out.map backV) (es.map fun e => V.ref e.2.1) := by
      have hm := SrtO.Stb.map (ltK_swo k) backV g2
      rw [hac, List.map_map] at hm
      exact hm
    refine wpAny_pure ⟨_, rfl, .ref h'.objs.size, upd H h'.objs.size (.lst (out.map backV)), I1.laid (t' := tk) (fun b u e => ?_) (Nat.le_refl _)
      (show ObjOk X.prog X.w _ _ _ (.lst (out.map backV)) from ⟨?_, out, e', vals_back g3, he'⟩), rfl, q _ _ (SrtO.srtd_map g1) hb (I1.hok.fresh (Nat.le_refl _))⟩
    · have hlt : b < h'.objs.size := Heap.lt_size e
      rw [sortedHeap_old (Nat.ne_of_lt hlt) (by rw [size_push']; exact Nat.lt_succ_of_lt hlt)]
      exact Heap.get?_push_of_some _ e
    · rw [hb.len, List.length_map]
      exact z
end
/-! ### min and max of two tuples of ints -/
section
open PySem.SeqAt
open PySem.W (keyToksAll dataLt alike alikeAll dataLt_cons dataLt_int AlikeAll reads_keeps iter_tupleW cmpIn_lt cmpIn_gt moved_old)
theorem toks_ints : ∀ ns ms : List Int, PyProof.Rows.lexLt itemOrd (keyToksAll (ns.map .int)) (keyToksAll (ms.map .int)) = lexI ns ms
  | [], [] => lex_irrefl _
  | [], m :: ms => by
    show PyProof.Rows.lexLt itemOrd [.inl 0] (.inl 1 :: _) = true
    exact lex_diff (by decide)
  | n :: ns, [] => by
    show PyProof.Rows.lexLt itemOrd (.inl 1 :: _) [.inl 0] = false
    exact lex_diff (by decide)
  | n :: ns, m :: ms => by
    show PyProof.Rows.lexLt itemOrd (keyToksAll (.int n :: ns.map .int)) (keyToksAll (.int m :: ms.map .int)) = _
    rw [dataLt_cons (by rfl), lexI_cons, dataLt_int, toks_ints ns ms]
    have e : PyData.eqv (.int n) (.int m) = (n == m) := by simp only [PyData.eqv]
    rw [e]
    by_cases h : n = m
    · rw [if_pos h, if_pos (by rw [h]; exact beq_self_eq_true m)]
    · rw [if_neg h, if_neg (fun z => h (by simpa using z))]
theorem dataLt_ints (ns ms : List Int) : dataLt (.tuple (ns.map .int)) (.tuple (ms.map .int)) = lexI ns ms := toks_ints ns ms
theorem alike_ints : ∀ {ns ms : List Int}, ns.length = ms.length → alikeAll (ns.map .int) (ms.map .int) = true
  | [], [], _ => by simp [alikeAll]
  | n :: ns, m :: ms, h => by
    simp only [List.map_cons, alikeAll, alike, Bool.true_and]
    exact alike_ints (by simpa using h)
theorem depth_ints : ∀ ns : List Int, PyData.depthAll (ns.map .int) ≤ 1
  | [] => by simp [PyData.depthAll]
  | n :: ns => by
    have := depth_ints ns
    simp only [List.map_cons, PyData.depthAll, PyData.depth]
    omega
section
variable {prog : Program} {w : World} {A : Around} {E : Value → Shared → Prop} {s : Shared}
theorem alike2 {ns ms : List Int} (hl : ns.length = ms.length) : AlikeAll [PyData.tuple (ns.map .int), .tuple (ms.map .int)] := by
  have a : ∀ x y : List Int, x.length = y.length → alike (.tuple (x.map .int)) (.tuple (y.map .int)) = true := fun x y h => by
    simp only [alike]
    exact alike_ints h
  refine ⟨fun x hx y hy => ?_, fun x hx => ?_⟩
  · simp only [List.mem_cons, List.not_mem_nil, or_false] at hx hy
    rcases hx with rfl | rfl <;> rcases hy with rfl | rfl
    · exact a _ _ rfl
    · exact a _ _ hl
    · exact a _ _ hl.symm
    · exact a _ _ rfl
  · simp only [List.mem_cons, List.not_mem_nil, or_false] at hx
    rcases hx with rfl | rfl <;> exact fun z => nomatch z
theorem depth2 {ns ms : List Int} : PyData.depthAll [PyData.tuple (ns.map .int), .tuple (ms.map .int)] ≤ 2 := by
  have h1 := depth_ints ns
  have h2 := depth_ints ms
  simp only [PyData.depthAll, PyData.depth]
  omega
theorem min_two_tups {a b : Addr} {ns ms : List Int} {as bs : List Addr} {Q : Value → Shared → Prop} (hh : A.handled = none) (hu : A.units + 3 < cLine) (r1 : Reads s.heap (.ref a) (.tuple (ns.map .int)) as) (r2 : Reads s.heap (.ref b) (.tuple (ms.map .int)) bs) (hl : ns.length = ms.length)
    (h : ∀ h' tk, (∀ c o, s.heap.get? c = some o → h'.get? c = some o) → Q (.ref (if lexI ms ns = true then b else a)) { s with heap := h', toks := tk }) :
    wpAny (model prog w) A (call (.builtin "min") [.ref a, .ref b]) Q E s := by
  have hname : (toString "min" ++ toString ".loop" : String) = "min.loop" := by decide
  refine call_function_tree PySem.F.kind_min PySem.F.plain_min PySem.F.entry_min (PySem.F.args_min2 _ _) ?_
  show wpAny _ A.in1 (Builtin.Builtins.bindParams "min" ["key", "default"] 0 ⟨[], []⟩ >>= _) _ _ s
  refine wpAny_bind (wpAny_of_eq (show Builtin.Builtins.bindParams "min" ["key", "default"] 0 ⟨[], []⟩ = pure [none, none] from rfl) ?_)
  show wpAny _ A.in1 (newTuple [.ref a, .ref b] >>= _) _ _ s
  refine wpAny_bind (wpAny_newObj_type ?_)
  have k0 : ∀ c o, s.heap.get? c = some o → (s.heap.push { cls := .type "tuple", data := .seq #[Value.ref a, .ref b] }).get? c = some o := fun c o e => Heap.get?_push_of_some _ e
  have hT : (s.heap.push { cls := .type "tuple", data := .seq #[Value.ref a, .ref b] }).IsTuple s.heap.objs.size #[.ref a, .ref b] := ⟨_, Heap.get?_push_size _ rfl, rfl, 0, rfl⟩
  have hr : ReadsAll (s.heap.push { cls := .type "tuple", data := .seq #[Value.ref a, .ref b] }) (#[Value.ref a, .ref b] : Array Value).toList [PyData.tuple (ns.map .int), .tuple (ms.map .int)] (as ++ (bs ++ [])) := .cons (reads_keeps k0 r1) (.cons (reads_keeps k0 r2) .nil)
  refine wpAny_bind (iter_tupleW (A := A.in1) (s := { s with heap := s.heap.push { cls := .type "tuple", data := .seq #[Value.ref a, .ref b] } }) hh hT fun s₂ e W st hfp hw hk => ?_)
  refine wpAny_bind (wpAny_newObj_type ?_)
  have hSf : s₂.heap.objs.size ∉ [(s.heap.push { cls := .type "tuple", data := .seq #[Value.ref a, .ref b] }).objs.size, s.heap.objs.size] := fun hm => Nat.lt_irrefl _ (hfp _ hm)
  rw [hname]
  have hcm := cmpIn_lt (prog := prog) (w := w) (A := A.in1) (s := { s with heap := s.heap.push { cls := .type "tuple", data := .seq #[Value.ref a, .ref b] } }) hr (alike2 hl) (by
    have := depth2 (ns := ns) (ms := ms)
    show A.units + 1 + _ < cLine
    omega)
  refine wpAny_pure ⟨plainId_quiet PySem.F.plain_min_loop _, codeAny_min_loop_firstH W _ hw _ hcm s₂.heap.objs.size hSf (fresh_in hk) _ (Nat.succ_pos 1) (fun b o e => Heap.get?_push_of_some _ (hk b o e)) (W.frame 0 s₂ _ s₂.toks st (Nat.le_refl _) fun b _ o e => Heap.get?_push_of_some _ e) (Heap.get?_push_size _ rfl) fun v s' hP hm => ?_⟩
  have hm2 := Moved.drop_new (tk := s₂.toks) hm (Nat.le_refl _)
  obtain ⟨h', tk, rfl, hk'⟩ := moved_old e rfl hm2
  have e2 : v = .ref (if lexI ms ns = true then b else a) := by
    have e3 : argBest (fun i j => dataLt ([PyData.tuple (ns.map .int), .tuple (ms.map .int)].getD i .none) ([PyData.tuple (ns.map .int), .tuple (ms.map .int)].getD j .none)) 1 = if lexI ms ns = true then 1 else 0 := by
      show (if dataLt (.tuple (ms.map .int)) (.tuple (ns.map .int)) = true then 1 else 0) = _
      rw [dataLt_ints]
    have hP' : (#[Value.ref a, .ref b] : Array Value)[argBest (fun i j => dataLt ([PyData.tuple (ns.map .int), .tuple (ms.map .int)].getD i .none) ([PyData.tuple (ns.map .int), .tuple (ms.map .int)].getD j .none)) 1]? = some v := hP
    rw [e3] at hP'
    by_cases hc : lexI ms ns = true
    · rw [if_pos hc] at hP' ⊢
      exact (Option.some.inj hP').symm
    · rw [if_neg hc] at hP' ⊢
      exact (Option.some.inj hP').symm
  rw [e2]
  exact h h' tk fun c o ec => hk' c o (k0 c o ec)
theorem max_two_tups {a b : Addr} {ns ms : List Int} {as bs : List Addr} {Q : Value → Shared → Prop} (hh : A.handled = none) (hu : A.units + 3 < cLine) (r1 : Reads s.heap (.ref a) (.tuple (ns.map .int)) as) (r2 : Reads s.heap (.ref b) (.tuple (ms.map .int)) bs) (hl : ns.length = ms.length)
    (h : ∀ h' tk, (∀ c o, s.heap.get? c = some o → h'.get? c = some o) → Q (.ref (if lexI ns ms = true then b else a)) { s with heap := h', toks := tk }) :
    wpAny (model prog w) A (call (.builtin "max") [.ref a, .ref b]) Q E s := by
  have hname : (toString "max" ++ toString ".loop" : String) = "max.loop" := by decide
  refine call_function_tree PySem.F.kind_max PySem.F.plain_max PySem.F.entry_max (PySem.F.args_max2 _ _) ?_
  show wpAny _ A.in1 (Builtin.Builtins.bindParams "max" ["key", "default"] 0 ⟨[], []⟩ >>= _) _ _ s
  refine wpAny_bind (wpAny_of_eq (show Builtin.Builtins.bindParams "max" ["key", "default"] 0 ⟨[], []⟩ = pure [none, none] from rfl) ?_)
  show wpAny _ A.in1 (newTuple [.ref a, .ref b] >>= _) _ _ s
  refine wpAny_bind (wpAny_newObj_type ?_)
  have k0 : ∀ c o, s.heap.get? c = some o → (s.heap.push { cls := .type "tuple", data := .seq #[Value.ref a, .ref b] }).get? c = some o := fun c o e => Heap.get?_push_of_some _ e
  have hT : (s.heap.push { cls := .type "tuple", data := .seq #[Value.ref a, .ref b] }).IsTuple s.heap.objs.size #[.ref a, .ref b] := ⟨_, Heap.get?_push_size _ rfl, rfl, 0, rfl⟩
  have hr : ReadsAll (s.heap.push { cls := .type "tuple", data := .seq #[Value.ref a, .ref b] }) (#[Value.ref a, .ref b] : Array Value).toList [PyData.tuple (ns.map .int), .tuple (ms.map .int)] (as ++ (bs ++ [])) := .cons (reads_keeps k0 r1) (.cons (reads_keeps k0 r2) .nil)
  refine wpAny_bind (iter_tupleW (A := A.in1) (s := { s with heap := s.heap.push { cls := .type "tuple", data := .seq #[Value.ref a, .ref b] } }) hh hT fun s₂ e W st hfp hw hk => ?_)
  refine wpAny_bind (wpAny_newObj_type ?_)
  have hSf : s₂.heap.objs.size ∉ [(s.heap.push { cls := .type "tuple", data := .seq #[Value.ref a, .ref b] }).objs.size, s.heap.objs.size] := fun hm => Nat.lt_irrefl _ (hfp _ hm)
  rw [hname]
  have hcm := cmpIn_gt (prog := prog) (w := w) (A := A.in1) (s := { s with heap := s.heap.push { cls := .type "tuple", data := .seq #[Value.ref a, .ref b] } }) hr (alike2 hl) (by
    have := depth2 (ns := ns) (ms := ms)
    show A.units + 1 + _ < cLine
    omega)
  refine wpAny_pure ⟨plainId_quiet PySem.F.plain_max_loop _, codeAny_max_loop_firstH W _ hw _ hcm s₂.heap.objs.size hSf (fresh_in hk) _ (Nat.succ_pos 1) (fun b o e => Heap.get?_push_of_some _ (hk b o e)) (W.frame 0 s₂ _ s₂.toks st (Nat.le_refl _) fun b _ o e => Heap.get?_push_of_some _ e) (Heap.get?_push_size _ rfl) fun v s' hP hm => ?_⟩
  have hm2 := Moved.drop_new (tk := s₂.toks) hm (Nat.le_refl _)
  obtain ⟨h', tk, rfl, hk'⟩ := moved_old e rfl hm2
  have e2 : v = .ref (if lexI ns ms = true then b else a) := by
    have e3 : argBest (fun i j => dataLt ([PyData.tuple (ns.map .int), .tuple (ms.map .int)].getD j .none) ([PyData.tuple (ns.map .int), .tuple (ms.map .int)].getD i .none)) 1 = if lexI ns ms = true then 1 else 0 := by
      show (if dataLt (.tuple (ns.map .int)) (.tuple (ms.map .int)) = true then 1 else 0) = _
      rw [dataLt_ints]
    have hP' : (#[Value.ref a, .ref b] : Array Value)[argBest (fun i j => dataLt ([PyData.tuple (ns.map .int), .tuple (ms.map .int)].getD j .none) ([PyData.tuple (ns.map .int), .tuple (ms.map .int)].getD i .none)) 1]? = some v := hP
    rw [e3] at hP'
    by_cases hc : lexI ns ms = true
    · rw [if_pos hc] at hP' ⊢
      exact (Option.some.inj hP').symm
    · rw [if_neg hc] at hP' ⊢
      exact (Option.some.inj hP').symm
  rw [e2]
  exact h h' tk fun c o ec => hk' c o (k0 c o ec)
end
/-- min(t, u), max(t, u) of tuples of as many ints -/
def rMinT (mx : Bool) : List V → Hp → VK → Prop := fun vs H Q => ∃ (a b : Addr) (ns ms : List Int), vs = [.ref a, .ref b] ∧ H a = some (.tup (ns.map V.int)) ∧ H b = some (.tup (ms.map V.int)) ∧ ns.length = ms.length ∧ Q (.ref (if (if mx then lexI ns ms else lexI ms ns) = true then b else a)) H
/-- x in a tuple, data of any depth -/
def rInDT (K : PySem.W.Frag) (neg : Bool) : R2 := fun x y H Q => ∃ d ds, Dp K H x d ∧ Dp K H y (.tuple ds) ∧ SeqAt.shaped d = true ∧ SeqAt.shaped (.tuple ds) = true ∧ Q (.bl (if neg then !(ds.any fun z => PyData.eqv z d) else ds.any fun z => PyData.eqv z d)) H
def rInDL (K : PySem.W.Frag) (neg : Bool) : R2 := fun x y H Q => ∃ d ds, Dp K H x d ∧ Dp K H y (.list ds) ∧ SeqAt.shaped d = true ∧ SeqAt.shaped (.list ds) = true ∧ Q (.bl (if neg then !(ds.any fun z => PyData.eqv z d) else ds.any fun z => PyData.eqv z d)) H
section
variable {X : Cx} {K : PySem.W.Frag}
theorem im_ints {H : Hp} : ∀ ns : List Int, ImAll K H (ns.map V.int) (ns.map PyData.int)
  | [] => .nil
  | n :: ns => .cons (.int n) (im_ints ns)
theorem call_minT (hc : X.calm = true) (hu : X.A.units + 64 < cLine) : CallR X (.builtin "min") (rMinT false) := by
  intro pins s σ H vs us Q I r h
  obtain ⟨a, b, ns, ms, rfl, ha, hb, hl, q⟩ := h
  obtain ⟨u1, u2, rfl, r1, r2⟩ := vals2 r
  cases r1
  cases r2
  obtain ⟨as, g1⟩ := Dp.reads I (.tuple (ns.map .int)) _ _ (.tup (SqT.of ha) (im_ints ns).dp) rfl
  obtain ⟨bs, g2⟩ := Dp.reads I (.tuple (ms.map .int)) _ _ (.tup (SqT.of hb) (im_ints ms).dp) rfl
  exact min_two_tups (I.ok.hd hc) (by omega) g1 g2 hl fun h' tk k => ⟨.ref (if lexI ms ns = true then b else a), H, I.kept k, rfl, q⟩
theorem call_maxT (hc : X.calm = true) (hu : X.A.units + 64 < cLine) : CallR X (.builtin "max") (rMinT true) := by
  intro pins s σ H vs us Q I r h
  obtain ⟨a, b, ns, ms, rfl, ha, hb, hl, q⟩ := h
  obtain ⟨u1, u2, rfl, r1, r2⟩ := vals2 r
  cases r1
  cases r2
  obtain ⟨as, g1⟩ := Dp.reads I (.tuple (ns.map .int)) _ _ (.tup (SqT.of ha) (im_ints ns).dp) rfl
  obtain ⟨bs, g2⟩ := Dp.reads I (.tuple (ms.map .int)) _ _ (.tup (SqT.of hb) (im_ints ms).dp) rfl
  exact max_two_tups (I.ok.hd hc) (by omega) g1 g2 hl fun h' tk k => ⟨.ref (if lexI ns ms = true then b else a), H, I.kept k, rfl, q⟩
theorem op_inDT (hu : X.A.units + 65 < cLine) (hK : X.K = K := by rfl) : OpR X (compareOp .In) (rInDT K false) := by
  subst hK
  intro pins s σ H x y v u Q I rx ry h
  obtain ⟨d, ds, hd, he, sd, se, q⟩ := h
  obtain ⟨as, r1⟩ := Dp.reads I d x v hd rx
  obtain ⟨bs, r2⟩ := Dp.reads I (.tuple ds) y u he ry
  exact SeqAt.in_tuple_reads r2 r1 (SeqAt.canLay_of_shaped se) (SeqAt.canLay_of_shaped sd) (room_in_shaped sd hu) ⟨.bl _, H, I, rfl, q⟩
theorem op_inDL (hu : X.A.units + 65 < cLine) (hK : X.K = K := by rfl) : OpR X (compareOp .In) (rInDL K false) := by
  subst hK
  exact op_inD hu
theorem op_niDL (hu : X.A.units + 65 < cLine) (hK : X.K = K := by rfl) : OpR X (compareOp .NotIn) (rInDL K true) := by
  subst hK
  exact op_notInD hu
end
end
end Hb

set_option Elab.async false
set_option maxRecDepth 100000
set_option maxHeartbeats 4000000
/-! Links as keys: pairs of pairs of ints, their dicts, their sorted lists. -/
namespace Hb
open PySem L2
abbrev E2 := Int × Int
abbrev Lk := E2 × E2
def flL (l : Lk) : List Int := [l.1.1, l.1.2, l.2.1, l.2.2]
def itL (l : Lk) : List Itm := [.inr [l.1.1, l.1.2], .inr [l.2.1, l.2.2]]
def lkK (l : Lk) : NestedKey := nkK (itL l)
theorem flK_it (l : Lk) : flK (itL l) = flL l := rfl
theorem flL_inj {x y : Lk} (h : flL x = flL y) : x = y := by
  obtain ⟨⟨a, b⟩, c, d⟩ := x
  obtain ⟨⟨a', b'⟩, c', d'⟩ := y
  have h1 := List.cons.inj h
  have h2 := List.cons.inj h1.2
  have h3 := List.cons.inj h2.2
  have h4 := List.cons.inj h3.2
  simp only at h1 h2 h3 h4
  rw [h1.1, h2.1, h3.1, h4.1]
theorem lkK_inj {x y : Lk} (h : lkK x = lkK y) : x = y := by
  have h1 : (itL x).map nkI = (itL y).map nkI := NestedKey.tup.inj h
  have h2 := List.cons.inj h1
  have h3 := List.cons.inj h2.2
  have e1 := nkI_inj h2.1
  have e2 := nkI_inj h3.1
  refine flL_inj ?_
  have e3 : ([x.1.1, x.1.2] : List Int) = [y.1.1, y.1.2] := Sum.inr.inj e1
  have e4 : ([x.2.1, x.2.2] : List Int) = [y.2.1, y.2.2] := Sum.inr.inj e2
  show [x.1.1, x.1.2] ++ [x.2.1, x.2.2] = [y.1.1, y.1.2] ++ [y.2.1, y.2.2]
  rw [e3, e4]
theorem lkK_depth (l : Lk) : (lkK l).depth ≤ 8 := by
  simp [lkK, nkK, itL, nkI, NestedKey.depth, NestedKey.depthAll]
/-! ### sorted -/
def ltL (x y : Lk) : Bool := lexI (flL x) (flL y)
abbrev SortedL (l : List Lk) : Prop := l.Pairwise fun x y => ltL y x = false
def insL (x : Lk) : List Lk → List Lk
  | [] => [x]
  | y :: ys => if ltL y x then y :: insL x ys else x :: y :: ys
def srt : List Lk → List Lk
  | [] => []
  | x :: xs => insL x (srt xs)
theorem insL_perm (x : Lk) : ∀ ys : List Lk, (insL x ys).Perm (x :: ys)
  | [] => List.Perm.refl _
  | y :: ys => by
    unfold insL
    split
    · exact ((insL_perm x ys).cons y).trans (List.Perm.swap x y ys)
    · exact List.Perm.refl _
theorem srt_perm : ∀ ls : List Lk, (srt ls).Perm ls
  | [] => List.Perm.refl _
  | x :: xs => (insL_perm x (srt xs)).trans ((srt_perm xs).cons x)
theorem insL_sorted (x : Lk) : ∀ ys : List Lk, SortedL ys → SortedL (insL x ys)
  | [], _ => List.pairwise_singleton _ _
  | y :: ys, h => by
    have h1 := List.pairwise_cons.mp h
    unfold insL
    by_cases hc : ltL y x = true
    · rw [if_pos hc]
      refine List.pairwise_cons.mpr ⟨fun z hz => ?_, insL_sorted x ys h1.2⟩
      rcases List.mem_cons.mp ((insL_perm x ys).mem_iff.mp hz) with rfl | hz
      · exact lexI_asym _ _ hc
      · exact h1.1 z hz
    · rw [if_neg hc]
      have hc' : ltL y x = false := by
        cases q : ltL y x with
        | true => exact absurd q hc
        | false => rfl
      refine List.pairwise_cons.mpr ⟨fun z hz => ?_, h⟩
      rcases List.mem_cons.mp hz with rfl | hz
      · exact hc'
      · exact lexI_tr _ _ _ hc' (h1.1 z hz)
theorem srt_sorted : ∀ ls : List Lk, SortedL (srt ls)
  | [] => List.Pairwise.nil
  | x :: xs => insL_sorted x _ (srt_sorted xs)
theorem sorted_uniq : ∀ {l m : List Lk}, l.Perm m → SortedL l → SortedL m → l = m
  | [], m, p, _, _ => (List.Perm.eq_nil p.symm).symm
  | x :: l, [], p, _, _ => absurd p.length_eq (by simp)
  | x :: l, y :: m, p, hl, hm => by
    have h1 := List.pairwise_cons.mp hl
    have h2 := List.pairwise_cons.mp hm
    have e : x = y := by
      rcases List.mem_cons.mp (p.mem_iff.mp List.mem_cons_self) with e | hx
      · exact e
      · rcases List.mem_cons.mp (p.mem_iff.mpr List.mem_cons_self) with e | hy
        · exact e.symm
        · exact flL_inj (lexI_total _ _ (h2.1 x hx) (h1.1 y hy))
    subst e
    rw [sorted_uniq p.cons_inv h1.2 h2.2]
theorem srt_uniq {l ls : List Lk} (p : l.Perm ls) (h : SortedL l) : l = srt ls := sorted_uniq (p.trans (srt_perm ls).symm) h (srt_sorted ls)
theorem srt_filter (p : Lk → Bool) (ls : List Lk) : (srt ls).filter p = srt (ls.filter p) := srt_uniq ((srt_perm ls).filter p) ((srt_sorted ls).filter p)
theorem mem_srt {ls : List Lk} {l : Lk} : l ∈ srt ls ↔ l ∈ ls := (srt_perm ls).mem_iff
/-! ### where they stand -/
theorem nk_link {H : Hp} {l : Lk} {a : Addr} (h : NK H (lkK l) (.ref a)) : ∃ p q, H a = some (.tup [.ref p, .ref q]) ∧ H p = some (.tup [.int l.1.1, .int l.1.2]) ∧ H q = some (.tup [.int l.2.1, .int l.2.2]) := by
  have end_ : ∀ {x y : Int} {v : V}, NK H (nkI (.inr [x, y])) v → ∃ p, v = .ref p ∧ H p = some (.tup [.int x, .int y]) := by
    intro x y v h
    cases h with
    | tup e hs =>
      cases hs with
      | cons h1 h2 =>
        cases h2 with
        | cons h2 h3 =>
          cases h3
          cases h1
          cases h2
          exact ⟨_, rfl, e⟩
  cases h with
  | tup e hs =>
    cases hs with
    | cons h1 h2 =>
      cases h2 with
      | cons h2 h3 =>
        cases h3
        obtain ⟨p, rfl, hp⟩ := end_ h1
        obtain ⟨q, rfl, hq⟩ := end_ h2
        exact ⟨p, q, e, hp, hq⟩
theorem nk_end {H : Hp} {p : Addr} {x y : Int} (h : H p = some (.tup [.int x, .int y])) : NK H (nkI (.inr [x, y])) (.ref p) := .tup h (.cons (.int x) (.cons (.int y) .nil))
theorem nk_mk {H : Hp} {l : Lk} {a p q : Addr} (h : H a = some (.tup [.ref p, .ref q])) (hp : H p = some (.tup [.int l.1.1, .int l.1.2])) (hq : H q = some (.tup [.int l.2.1, .int l.2.2])) : NK H (lkK l) (.ref a) := .tup h (.cons (nk_end hp) (.cons (nk_end hq) .nil))
/-- a list of links -/
abbrev LkL (H : Hp) (vs : List V) (ls : List Lk) : Prop := Paired (fun v l => ∃ a, v = V.ref a ∧ NK H (lkK l) (.ref a)) vs ls
theorem LkL.mono {H H' : Hp} (e : ∀ p xs, H p = some (.tup xs) → H' p = some (.tup xs)) {vs : List V} {ls : List Lk} (h : LkL H vs ls) : LkL H' vs ls := Paired.mapP h fun _ _ ⟨a, e1, e2⟩ => ⟨a, e1, e2.mono e⟩
theorem LkL.same {H H' : Hp} (e : Same H H') {vs : List V} {ls : List Lk} (h : LkL H vs ls) : LkL H' vs ls := h.mono fun _ _ => e _ _
theorem LkL.len {H : Hp} {vs : List V} {ls : List Lk} (h : LkL H vs ls) : vs.length = ls.length := Paired.length h
theorem LkL.get {H : Hp} : ∀ {vs : List V} {ls : List Lk} {i : Nat} {v : V}, LkL H vs ls → vs[i]? = some v → ∃ a l, v = .ref a ∧ ls[i]? = some l ∧ NK H (lkK l) (.ref a)
  | _ :: _, l :: _, 0, _, .cons ⟨a, e1, e2⟩ _, e => by
    cases e
    exact ⟨a, l, e1, rfl, e2⟩
  | _ :: _, _ :: _, i + 1, _, .cons _ t, e => LkL.get (i := i) t (by simpa using e)
theorem LkL.app {H : Hp} : ∀ {vs us : List V} {ls ms : List Lk}, LkL H vs ls → LkL H us ms → LkL H (vs ++ us) (ls ++ ms)
  | _, _, _, _, .nil, h => h
  | _, _, _, _, .cons h t, h2 => .cons h (LkL.app t h2)
theorem LkL.snoc {H : Hp} {vs : List V} {ls : List Lk} {a : Addr} {l : Lk} (h : LkL H vs ls) (hk : NK H (lkK l) (.ref a)) : LkL H (vs ++ [.ref a]) (ls ++ [l]) := h.app (.cons ⟨a, rfl, hk⟩ .nil)
theorem LkL.ima {K : PySem.W.Frag} {H : Hp} : ∀ {vs : List V} {ls : List Lk}, LkL H vs ls → ImAll K H vs (ls.map fun l => (lkK l).data)
  | _, _, .nil => .nil
  | _, _, .cons ⟨a, e1, e2⟩ t => by
    subst e1
    exact .cons e2.im (LkL.ima t)
theorem paired_perm {α β : Type} {R : α → β → Prop} : ∀ {xs ys : List α}, ys.Perm xs → ∀ {ls : List β}, Paired R xs ls → ∃ ms, ms.Perm ls ∧ Paired R ys ms := by
  intro xs ys p
  induction p with
  | nil => exact fun h => ⟨_, List.Perm.refl _, h⟩
  | cons x _ ih =>
    intro ls h
    cases h with
    | cons h1 h2 =>
      obtain ⟨ms, p1, p2⟩ := ih h2
      exact ⟨_, p1.cons _, .cons h1 p2⟩
  | swap x y l =>
    intro ls h
    cases h with
    | cons h1 h2 =>
      cases h2 with
      | cons h2 h3 => exact ⟨_, List.Perm.swap _ _ _, .cons h2 (.cons h1 h3)⟩
  | trans _ _ ih1 ih2 =>
    intro ls h
    obtain ⟨ms, p1, p2⟩ := ih2 h
    obtain ⟨ns, p3, p4⟩ := ih1 p2
    exact ⟨ns, p3.trans p1, p4⟩
/-- the items of what stands there -/
noncomputable def itK (H : Hp) (v : V) : List Itm := Classical.epsilon fun ks => NK H (nkK ks) v
theorem nkK_inj {x y : List Itm} (h : nkK x = nkK y) : x = y := by
  have h1 : x.map nkI = y.map nkI := NestedKey.tup.inj h
  clear h
  induction x generalizing y with
  | nil =>
    cases y with
    | nil => rfl
    | cons _ _ => cases h1
  | cons a x ih =>
    cases y with
    | nil => cases h1
    | cons b y =>
      have h2 := List.cons.inj h1
      rw [nkI_inj h2.1, ih h2.2]
theorem itK_eq {H : Hp} {ks : List Itm} {v : V} (h : NK H (nkK ks) v) : itK H v = ks := by
  have h2 : NK H (nkK (itK H v)) v := Classical.epsilon_spec (p := fun ks => NK H (nkK ks) v) ⟨ks, h⟩
  exact nkK_inj (h2.inj h)
theorem srtd_links {H : Hp} : ∀ {ys : List V} {ls : List Lk}, LkL H ys ls → SrtO.Srtd (ltK (itK H)) ys → SortedL ls
  | _, _, .nil, _ => List.Pairwise.nil
  | _, _, .cons (a := v) (b := l) ⟨a, e1, e2⟩ t, h => by
    have h1 := List.pairwise_cons.mp h
    refine List.pairwise_cons.mpr ⟨fun m hm => ?_, srtd_links t h1.2⟩
    have key : ∀ {vs : List V} {ms : List Lk}, LkL H vs ms → (∀ u ∈ vs, ltK (itK H) u v = false) → ∀ m ∈ ms, ltL m l = false := by
      intro vs ms hL
      induction hL with
      | nil => exact fun _ m hm => nomatch hm
      | cons hx _ ih =>
        obtain ⟨b, g1, g2⟩ := hx
        intro hu m hm
        rcases List.mem_cons.mp hm with rfl | hm
        · have := hu _ List.mem_cons_self
          unfold ltK at this
          rw [g1, e1, itK_eq (ks := itL m) g2, itK_eq (ks := itL l) e2, flK_it, flK_it] at this
          exact this
        · exact ih (fun u hu' => hu u (List.mem_cons_of_mem _ hu')) m hm
    exact key t h1.1 m hm
/-- data of links can be compared -/
theorem lk_data (l : Lk) : (lkK l).data = .tuple [.tuple [.int l.1.1, .int l.1.2], .tuple [.int l.2.1, .int l.2.2]] := by simp [lkK, nkK, itL, nkI, NestedKey.data, NestedKey.datas]
theorem lk_ok {ls : List Lk} : ∀ d ∈ ls.map (fun l => (lkK l).data), d.canLay0 = true ∧ d.depth ≤ 60 := fun d hd => by
  obtain ⟨l, _, rfl⟩ := List.mem_map.mp hd
  rw [lk_data]
  constructor
  · simp [PyData.canLay0, PyData.canLayAll0]
  · simp [PyData.depth, PyData.depthAll]
theorem eqv_end {x y : E2} : PyData.eqv (.tuple [.int x.1, .int x.2]) (.tuple [.int y.1, .int y.2]) = decide (x = y) := by
  have e : PyData.eqv (.tuple [.int x.1, .int x.2]) (.tuple [.int y.1, .int y.2]) = ((x.1 == y.1) && ((x.2 == y.2) && true)) := by simp only [PyData.eqv, PyData.eqvAll]
  rw [e, Bool.and_true]
  by_cases h : x = y
  · rw [decide_eq_true h, h]
    simp
  · rw [decide_eq_false h]
    cases q : (x.1 == y.1) && (x.2 == y.2) with
    | false => rfl
    | true =>
      rw [Bool.and_eq_true] at q
      exact absurd (Prod.ext (by simpa using q.1) (by simpa using q.2)) h
theorem eqv_link {x y : Lk} : PyData.eqv (lkK x).data (lkK y).data = decide (x = y) := by
  rw [lk_data, lk_data]
  have e : PyData.eqv (.tuple [.tuple [.int x.1.1, .int x.1.2], .tuple [.int x.2.1, .int x.2.2]]) (.tuple [.tuple [.int y.1.1, .int y.1.2], .tuple [.int y.2.1, .int y.2.2]]) = (PyData.eqv (.tuple [.int x.1.1, .int x.1.2]) (.tuple [.int y.1.1, .int y.1.2]) && (PyData.eqv (.tuple [.int x.2.1, .int x.2.2]) (.tuple [.int y.2.1, .int y.2.2]) && true)) := by simp only [PyData.eqv, PyData.eqvAll]
  rw [e, eqv_end, eqv_end, Bool.and_true]
  by_cases h : x = y
  · rw [decide_eq_true h, h]
    simp
  · rw [decide_eq_false h]
    cases q : decide (x.1 = y.1) && decide (x.2 = y.2) with
    | false => rfl
    | true =>
      rw [Bool.and_eq_true, decide_eq_true_eq, decide_eq_true_eq] at q
      exact absurd (Prod.ext q.1 q.2) h
/-! ### dicts by links -/
abbrev Mp := List (Lk × Int)
/-- the entries at B's tuples are M's -/
abbrev EntM (B : Hp) (es : List Ent) (M : Mp) : Prop := Paired (fun e x => e.1 = lkK x.1 ∧ e.2.2 = V.int x.2 ∧ NK B (lkK x.1) (.ref e.2.1)) es M
def keysM (M : Mp) : List Lk := M.map (·.1)
def valM (M : Mp) (l : Lk) : Option Int := (M.find? fun x => decide (x.1 = l)).map (·.2)
def dropM (M : Mp) (ls : List Lk) : Mp := M.filter fun x => decide (x.1 ∉ ls)
def putM (M : Mp) (l : Lk) (n : Int) : Mp := if (valM M l).isSome then M.map (fun x => if x.1 = l then (x.1, n) else x) else M ++ [(l, n)]
def has (e : E2) (l : Lk) : Bool := decide (l.1 = e) || decide (l.2 = e)
def atM (M : Mp) (e : E2) : List Lk := (srt (keysM M)).filter (has e)
theorem EntM.mono {B B' : Hp} (e : ∀ p xs, B p = some (.tup xs) → B' p = some (.tup xs)) {es : List Ent} {M : Mp} (h : EntM B es M) : EntM B' es M := Paired.mapP h fun _ _ ⟨h1, h2, h3⟩ => ⟨h1, h2, h3.mono e⟩
theorem EntM.same {B B' : Hp} (e : Same B B') {es : List Ent} {M : Mp} (h : EntM B es M) : EntM B' es M := h.mono fun _ _ => e _ _
theorem EntM.ok {B : Hp} {es : List Ent} {M : Mp} (h : EntM B es M) : EntsOk B es := by
  induction h with
  | nil => exact EntsOk.nil
  | cons h _ ih =>
    intro e he
    rcases List.mem_cons.mp he with rfl | he
    · rw [h.1]
      exact ⟨h.2.2, lkK_depth _⟩
    · exact ih e he
theorem EntM.len {B : Hp} {es : List Ent} {M : Mp} (h : EntM B es M) : es.length = M.length := Paired.length h
theorem EntM.at {B : Hp} {es : List Ent} {M : Mp} (h : EntM B es M) (l : Lk) : atN es (lkK l) = (valM M l).map V.int := by
  induction h with
  | nil => rfl
  | @cons e x es xs h _ ih =>
    unfold atN valM at ih ⊢
    rw [List.find?_cons, List.find?_cons, h.1]
    by_cases hc : x.1 = l
    · rw [decide_eq_true hc, decide_eq_true (by rw [hc])]
      show some e.2.2 = some (V.int x.2)
      rw [h.2.1]
    · rw [decide_eq_false hc, decide_eq_false (fun z => hc (lkK_inj z))]
      exact ih
theorem entM_map {B : Hp} {l : Lk} {n : Int} : ∀ {es : List Ent} {M : Mp}, EntM B es M → EntM B (es.map fun e => if e.1 = lkK l then (e.1, e.2.1, V.int n) else e) (M.map fun x => if x.1 = l then (x.1, n) else x)
  | _, _, .nil => .nil
  | e :: es, x :: xs, .cons h t => by
    refine .cons ?_ (entM_map t)
    by_cases hc : x.1 = l
    · have hc2 : e.1 = lkK l := by rw [h.1, hc]
      simp only [if_pos hc2, if_pos hc]
      exact ⟨h.1, trivial, h.2.2⟩
    · have hc2 : ¬ e.1 = lkK l := fun z => hc (lkK_inj (h.1.symm.trans z))
      simp only [if_neg hc2, if_neg hc]
      exact h
theorem paired_app {α β : Type} {R : α → β → Prop} : ∀ {xs us : List α} {ys ws : List β}, Paired R xs ys → Paired R us ws → Paired R (xs ++ us) (ys ++ ws)
  | _, _, _, _, .nil, h => h
  | _, _, _, _, .cons h t, h2 => .cons h (paired_app t h2)
theorem EntM.put {B : Hp} {es : List Ent} {M : Mp} (h : EntM B es M) {l : Lk} {b : Addr} (n : Int) (hk : NK B (lkK l) (.ref b)) : EntM B (putN es (lkK l) b (.int n)) (putM M l n) := by
  unfold putN putM
  rw [h.at l, Option.isSome_map]
  by_cases hc : (valM M l).isSome = true
  · rw [if_pos hc, if_pos hc]
    exact entM_map h
  · rw [if_neg hc, if_neg hc]
    exact paired_app h (.cons ⟨rfl, rfl, hk⟩ .nil)
theorem EntM.drop {B : Hp} {l : Lk} : ∀ {es : List Ent} {M : Mp}, EntM B es M → EntM B (dropN es (lkK l)) (dropM M [l])
  | _, _, .nil => .nil
  | e :: es, x :: xs, .cons h t => by
    unfold dropN dropM
    rw [List.filter_cons, List.filter_cons]
    by_cases hc : x.1 = l
    · have e1 : decide (e.1 ≠ lkK l) = false := decide_eq_false (fun z => z (by rw [h.1, hc]))
      have e2 : decide (x.1 ∉ [l]) = false := decide_eq_false (fun z => z (by rw [hc]; exact List.mem_cons_self))
      rw [e1, e2]
      exact EntM.drop t
    · have e1 : decide (e.1 ≠ lkK l) = true := decide_eq_true (fun z => hc (lkK_inj (h.1.symm.trans z)))
      have e2 : decide (x.1 ∉ [l]) = true := decide_eq_true (fun z => hc (List.mem_singleton.mp z))
      rw [e1, e2]
      exact .cons h (EntM.drop t)
theorem EntM.lkl {B : Hp} : ∀ {es : List Ent} {M : Mp}, EntM B es M → LkL B (es.map fun e => V.ref e.2.1) (keysM M)
  | _, _, .nil => .nil
  | _, _, .cons h t => .cons ⟨_, rfl, h.2.2⟩ (EntM.lkl t)
/-! ### their steps -/
section
variable {w : World} {σ : St} {H B : Hp} {Q : VK} {D : Ends} {td ty tv : TE} {L L' : List (Addr × HO)} {es : List Ent} {M : Mp} {l : Lk} {d b : Addr} {n : Int}
theorem w_nget (q : td σ H fun x H1 => ty σ H1 fun y H2 => rNGet w x y H2 Q) : tNGet w td ty σ H Q := q
theorem w_nin (q : ty σ H fun y H1 => td σ H1 fun x H2 => rNIn w x y H2 fun b => Q (.bl b) H2) : tNIn w ty td σ H Q := q
theorem w_nnot (q : ty σ H fun y H1 => td σ H1 fun x H2 => rNIn w x y H2 fun b => Q (.bl (!b)) H2) : tNNot w ty td σ H Q := q
theorem w_nput (q : tv σ H fun v H1 => td σ H1 fun x H2 => ty σ H2 fun y H3 => rNPut w x y v H3 fun H4 => D.nx σ H4) : sNPut w td ty tv D σ H := q
theorem w_ndel (q : td σ H fun x H1 => ty σ H1 fun y H2 => rNDel w x y H2 fun _ H3 => D.nx σ H3) : sNDel w td ty D σ H := q
theorem w_npop (q : td σ H fun x H1 => (∃ a es, x = .ref a ∧ H1 a = some (DN w a es)) ∧ ty σ H1 fun y H2 => rNDel w x y H2 Q) : tNPop w td ty σ H Q := q
theorem w_nnew (hs : Hs B L H) (q : ∀ p H', Hs B ((p, DN w p []) :: L) H' → Q (.ref p) H') : tNNew w σ H Q := fun p hp => q p _ (hs.new hp)
theorem atN_of (h : H d = some (DN w d es)) (e : EntM H es M) (hk : NK H (lkK l) (.ref b)) : AtN w H (.ref d) (.ref b) d b es (lkK l) := ⟨rfl, rfl, h, e.ok, hk, lkK_depth l⟩
theorem wn_get (hs : Hs B L H) (h : H d = some (DN w d es)) (e : EntM B es M) (hk : NK B (lkK l) (.ref b)) (hv : valM M l = some n) (q : Q (.int n) H) : rNGet w (.ref d) (.ref b) H Q :=
  ⟨d, b, es, lkK l, .int n, atN_of h (e.same hs.same) (hk.same hs.same), by rw [e.at l, hv]; rfl, q⟩
theorem wn_in {R : Bool → Prop} (hs : Hs B L H) (h : H d = some (DN w d es)) (e : EntM B es M) (hk : NK B (lkK l) (.ref b)) (q : R (valM M l).isSome) : rNIn w (.ref d) (.ref b) H R :=
  ⟨d, b, es, lkK l, atN_of h (e.same hs.same) (hk.same hs.same), by rw [e.at l, Option.isSome_map]; exact q⟩
theorem wn_put {R : Hp → Prop} (hs : Hs B L H) (h : Put L d (DN w d es) (DN w d (putN es (lkK l) b (.int n))) L') (e : EntM B es M) (hk : NK B (lkK l) (.ref b)) (hl : M.length ≤ 1000) (q : ∀ H', Hs B L' H' → EntM B (putN es (lkK l) b (.int n)) (putM M l n) → R H') : rNPut w (.ref d) (.ref b) (.int n) H R :=
  ⟨d, b, es, lkK l, atN_of (hs.gets h) (e.same hs.same) (hk.same hs.same), by rw [e.len, sizeLine_eq]; omega, q _ (hs.puts h) (e.put n hk)⟩
theorem wn_del {R : V → Hp → Prop} (hs : Hs B L H) (h : Put L d (DN w d es) (DN w d (dropN es (lkK l))) L') (e : EntM B es M) (hk : NK B (lkK l) (.ref b)) (hv : valM M l = some n) (q : ∀ H', Hs B L' H' → EntM B (dropN es (lkK l)) (dropM M [l]) → R (.int n) H') : rNDel w (.ref d) (.ref b) H R :=
  ⟨d, b, es, lkK l, .int n, atN_of (hs.gets h) (e.same hs.same) (hk.same hs.same), by rw [e.at l, hv]; rfl, q _ (hs.puts h) e.drop⟩
theorem w_sortD (hs : Hs B L H) (h : H d = some (DN w d es)) (e : EntM B es M) (q : ∀ p ys H', LkL B ys (srt (keysM M)) → Hs B ((p, .lst ys) :: L) H' → Q (.ref p) H') : rSortDN w (some 2) [some 2] [.ref d] H Q := by
  have eH := e.same hs.same
  refine ⟨d, es, itK H, rfl, h, fun z hz => ?_, fun ys p h1 h2 hp => ?_⟩
  · have key : ∀ {es : List Ent} {M : Mp}, EntM H es M → ∀ z ∈ es, ∃ l, NK H (lkK l) (.ref z.2.1) := by
      intro es M e
      induction e with
      | nil => exact fun _ hz => nomatch hz
      | cons h _ ih =>
        intro z hz
        rcases List.mem_cons.mp hz with rfl | hz
        · exact ⟨_, h.2.2⟩
        · exact ih z hz
    obtain ⟨l, hl⟩ := key eH z hz
    rw [itK_eq (ks := itL l) hl]
    exact ⟨hl, rfl⟩
  · obtain ⟨ms, p1, p2⟩ := paired_perm h2.perm e.lkl
    have e1 := srt_uniq p1 (srtd_links (LkL.same hs.same p2) h1)
    subst e1
    exact q p ys _ p2 (hs.new hp)
theorem w_ltT {K : PySem.W.Frag} {p q : Addr} {ns ms : List Int} (h1 : H p = some (.tup (ns.map V.int))) (h2 : H q = some (.tup (ms.map V.int))) (k : Q (.bl (lexI ns ms)) H) : rLtT K (.ref p) (.ref q) H Q := ⟨p, q, ns, ms, rfl, rfl, SqT.of h1, SqT.of h2, k⟩
end
def ntQ : HO → Bool
  | .tup _ => false
  | _ => true
/-- what stands aside of our own objects, none a tuple, is the ground: all tuples stand there -/
theorem Hs.ground {B H : Hp} {L : List (Addr × HO)} (hs : Hs B L H) (nt : L.all (fun e => ntQ e.2) = true) : ∃ B1, Same B B1 ∧ Hs B1 L H ∧ ∀ p xs, H p = some (.tup xs) → B1 p = some (.tup xs) := by
  obtain ⟨h1, h2⟩ := hs.rebase
  refine ⟨_, h1, h2, fun p xs e => ?_⟩
  rw [around_out fun m => ?_]
  · exact e
  · obtain ⟨z, hz, rfl⟩ := List.mem_map.mp m
    have h3 := List.all_eq_true.mp nt z hz
    rw [hs.at_ z hz] at e
    rw [Option.some.inj e] at h3
    cases h3
theorem r64 {k : Nat} {A : Around} (r : Room k A) : A.units + 64 < cLine := by
  have := r.un
  omega
theorem r65 {k : Nat} {A : Around} (r : Room k A) : A.units + 65 < cLine := by
  have := r.un
  omega
theorem r0 {k : Nat} {A : Around} (r : Room k A) : A.units < cLine := by
  have := r.un
  omega
abbrev endO (x : E2) : HO := .tup [.int x.1, .int x.2]
theorem shp_end (x : E2) : SeqAt.shaped (.tuple [.int x.1, .int x.2]) = true := by simp [SeqAt.shaped, PyData.canLay0, PyData.canLayAll0, PyData.depth, PyData.depthAll]
theorem dp_end {K : PySem.W.Frag} {H : Hp} {p : Addr} {x : E2} (h : H p = some (endO x)) : Dp K H (.ref p) (.tuple [.int x.1, .int x.2]) := .tup (SqT.of h) (ImAll.cons (.int _) (.cons (.int _) .nil)).dp
theorem w_eqE {K : PySem.W.Frag} {H : Hp} {Q : VK} {p q : Addr} {x y : E2} (h1 : H p = some (endO x)) (h2 : H q = some (endO y)) (k : Q (.bl (decide (x = y))) H) : rEqD K (.ref p) (.ref q) H Q :=
  w_eqD (dp_end h1) (dp_end h2) (shp_end x) (shp_end y) (by rw [eqv_end]; exact k)
/-! ### what holds of the links -/
structure IM (M : Mp) : Prop where
  nd : (keysM M).Nodup
  ok : ∀ l ∈ keysM M, l.1.1 ≠ l.2.1 ∧ lexI [l.1.1, l.1.2] [l.2.1, l.2.2] = true
  dj : ∀ x ∈ keysM M, ∀ y ∈ keysM M, ∀ e : E2, has e x = true → has e y = true → x = y
theorem keys_drop {M : Mp} {ls : List Lk} : keysM (dropM M ls) = (keysM M).filter fun l => decide (l ∉ ls) := by
  unfold keysM dropM
  rw [List.filter_map]
  rfl
theorem mem_keys_drop {M : Mp} {ls : List Lk} {l : Lk} : l ∈ keysM (dropM M ls) ↔ l ∈ keysM M ∧ l ∉ ls := by
  rw [keys_drop, List.mem_filter, decide_eq_true_eq]
theorem IM.nil : IM [] := ⟨List.nodup_nil, (fun _ h => nomatch h), (fun _ h => nomatch h)⟩
theorem IM.drop {M : Mp} (h : IM M) (ls : List Lk) : IM (dropM M ls) := by
  refine ⟨?_, fun l hl => h.ok l (mem_keys_drop.mp hl).1, fun x hx y hy => h.dj x (mem_keys_drop.mp hx).1 y (mem_keys_drop.mp hy).1⟩
  rw [keys_drop]
  exact h.nd.filter _
theorem val_some {M : Mp} {l : Lk} : (valM M l).isSome = true ↔ l ∈ keysM M := by
  unfold valM
  rw [Option.isSome_map, List.find?_isSome]
  constructor
  · rintro ⟨x, hx, e⟩
    exact List.mem_map.mpr ⟨x, hx, of_decide_eq_true e⟩
  · intro h
    obtain ⟨x, hx, e⟩ := List.mem_map.mp h
    exact ⟨x, hx, decide_eq_true e⟩
theorem val_of {M : Mp} {l : Lk} (h : l ∈ keysM M) : ∃ n, valM M l = some n := Option.isSome_iff_exists.mp (val_some.mpr h)
theorem mem_at {M : Mp} {e : E2} {l : Lk} : l ∈ atM M e ↔ l ∈ keysM M ∧ has e l = true := by
  unfold atM
  rw [List.mem_filter, mem_srt]
theorem at_nodup {M : Mp} (h : IM M) (e : E2) : (atM M e).Nodup := ((srt_perm _).nodup_iff.mpr h.nd).filter _
theorem at_one {M : Mp} (h : IM M) (e : E2) : atM M e = [] ∨ ∃ l, atM M e = [l] := by
  have nd := at_nodup h e
  match hm : atM M e with
  | [] => exact .inl rfl
  | [l] => exact .inr ⟨l, rfl⟩
  | x :: y :: r =>
    have hx : x ∈ atM M e := by rw [hm]; exact List.mem_cons_self
    have hy : y ∈ atM M e := by rw [hm]; exact List.mem_cons_of_mem _ List.mem_cons_self
    obtain ⟨x1, x2⟩ := mem_at.mp hx
    obtain ⟨y1, y2⟩ := mem_at.mp hy
    have := h.dj x x1 y y1 e x2 y2
    subst this
    rw [hm] at nd
    exact absurd List.mem_cons_self (List.nodup_cons.mp nd).1
theorem find_at {M : Mp} (e : E2) : (srt (keysM M)).find? (has e) = (atM M e).head? := by
  unfold atM
  rw [List.head?_filter]
theorem at_drop {M : Mp} {ls : List Lk} {e : E2} : atM (dropM M ls) e = (atM M e).filter fun l => decide (l ∉ ls) := by
  unfold atM
  rw [keys_drop, ← srt_filter, List.filter_filter, List.filter_filter]
  congr 1
  funext l
  exact Bool.and_comm _ _
theorem drop_drop {M : Mp} {a b : List Lk} : dropM (dropM M a) b = dropM M (a ++ b) := by
  unfold dropM
  rw [List.filter_filter]
  congr 1
  funext x
  by_cases h1 : x.1 ∈ a <;> by_cases h2 : x.1 ∈ b <;> simp [h1, h2]
theorem drop_nil {M : Mp} : dropM M [] = M := by
  unfold dropM
  rw [List.filter_eq_self]
  exact fun _ _ => decide_eq_true (fun z => nomatch z)
theorem drop_len {M : Mp} {ls : List Lk} : (dropM M ls).length ≤ M.length := List.length_filter_le _ _
/-- the law's list is the program's -/
theorem at_two {M : Mp} {one other : E2} : (atM M one ++ (atM M other).filter fun l => decide (l ∉ atM M one)) = atM M one ++ atM (dropM M (atM M one)) other := by rw [at_drop]
/-- the link of two ends -/
def mkL (x y : E2) : Lk := if lexI [x.1, x.2] [y.1, y.2] = true then (x, y) else (y, x)
theorem lexI_ne {x y : E2} (h : x.1 ≠ y.1) : lexI [x.1, x.2] [y.1, y.2] = decide (x.1 < y.1) := by rw [lexI_cons, if_neg h]
theorem mkL_ok {x y : E2} (h : x.1 ≠ y.1) : (mkL x y).1.1 ≠ (mkL x y).2.1 ∧ lexI [(mkL x y).1.1, (mkL x y).1.2] [(mkL x y).2.1, (mkL x y).2.2] = true := by
  unfold mkL
  by_cases hc : lexI [x.1, x.2] [y.1, y.2] = true
  · rw [if_pos hc]
    exact ⟨h, hc⟩
  · rw [if_neg hc]
    refine ⟨fun z => h z.symm, ?_⟩
    rw [lexI_ne h] at hc
    show lexI [y.1, y.2] [x.1, x.2] = true
    rw [lexI_ne (fun z => h z.symm)]
    have : ¬ x.1 < y.1 := fun z => hc (decide_eq_true z)
    exact decide_eq_true (by omega)
theorem mkL_comm {x y : E2} (h : x.1 ≠ y.1) : mkL x y = mkL y x := by
  unfold mkL
  rw [lexI_ne h, lexI_ne (fun z => h z.symm)]
  by_cases hc : x.1 < y.1
  · rw [if_pos (decide_eq_true hc), if_neg (by rw [decide_eq_true_eq]; omega)]
  · rw [if_neg (by rw [decide_eq_true_eq]; exact hc), if_pos (decide_eq_true (by omega))]
theorem mkL_of {l : Lk} (h : l.1.1 ≠ l.2.1 ∧ lexI [l.1.1, l.1.2] [l.2.1, l.2.2] = true) : mkL l.1 l.2 = l := by
  unfold mkL
  rw [if_pos h.2]
theorem has_mkL {x y e : E2} : has e (mkL x y) = true ↔ e = x ∨ e = y := by
  unfold has mkL
  split
  · rw [Bool.or_eq_true, decide_eq_true_eq, decide_eq_true_eq]
    exact ⟨fun z => z.elim (fun q => .inl q.symm) (fun q => .inr q.symm), fun z => z.elim (fun q => .inl q.symm) (fun q => .inr q.symm)⟩
  · rw [Bool.or_eq_true, decide_eq_true_eq, decide_eq_true_eq]
    exact ⟨fun z => z.elim (fun q => .inr q.symm) (fun q => .inl q.symm), fun z => z.elim (fun q => .inr q.symm) (fun q => .inl q.symm)⟩
theorem keys_put {M : Mp} {l : Lk} {n : Int} : keysM (putM M l n) = if l ∈ keysM M then keysM M else keysM M ++ [l] := by
  unfold putM
  by_cases hc : l ∈ keysM M
  · rw [if_pos (val_some.mpr hc), if_pos hc]
    unfold keysM
    rw [List.map_map]
    refine List.map_congr_left fun x _ => ?_
    show (if x.1 = l then (x.1, n) else x).1 = x.1
    split <;> rfl
  · rw [if_neg (fun z => hc (val_some.mp z)), if_neg hc]
    unfold keysM
    rw [List.map_append]
    rfl
theorem IM.put_old {M : Mp} (h : IM M) {l : Lk} (n : Int) (hl : l ∈ keysM M) : IM (putM M l n) := by
  have e : keysM (putM M l n) = keysM M := by rw [keys_put, if_pos hl]
  exact ⟨by rw [e]; exact h.nd, by rw [e]; exact h.ok, by rw [e]; exact h.dj⟩
/-- a link that is seen, whose ends' links are lost -/
theorem IM.put_new {M : Mp} (h : IM M) {x y : E2} (n : Int) (hxy : x.1 ≠ y.1) (hx : ∀ l ∈ keysM M, has x l = false) (hy : ∀ l ∈ keysM M, has y l = false) : IM (putM M (mkL x y) n) ∧ mkL x y ∉ keysM M := by
  have hn : mkL x y ∉ keysM M := fun z => by
    have h1 : has x (mkL x y) = true := has_mkL.mpr (.inl rfl)
    rw [hx _ z] at h1
    cases h1
  have e : keysM (putM M (mkL x y) n) = keysM M ++ [mkL x y] := by rw [keys_put, if_neg hn]
  have no : ∀ e : E2, has e (mkL x y) = true → ∀ l ∈ keysM M, has e l = false := fun e he l hl => by
    rcases has_mkL.mp he with rfl | rfl
    · exact hx l hl
    · exact hy l hl
  refine ⟨⟨?_, fun l hl => ?_, fun u hu v hv e2 h1 h2 => ?_⟩, hn⟩
  · rw [e, List.nodup_append]
    refine ⟨h.nd, List.pairwise_singleton _ _, fun a ha b hb z => ?_⟩
    rw [List.mem_singleton.mp hb] at z
    subst z
    exact hn ha
  · rw [e] at hl
    rcases List.mem_append.mp hl with m | m
    · exact h.ok l m
    · rw [List.mem_singleton.mp m]
      exact mkL_ok hxy
  · rw [e] at hu hv
    rcases List.mem_append.mp hu with m | m <;> rcases List.mem_append.mp hv with m' | m'
    · exact h.dj u m v m' e2 h1 h2
    · rw [List.mem_singleton.mp m'] at h2 ⊢
      rw [no e2 h2 u m] at h1
      cases h1
    · rw [List.mem_singleton.mp m] at h1 ⊢
      rw [no e2 h1 v m'] at h2
      cases h2
    · rw [List.mem_singleton.mp m, List.mem_singleton.mp m']
theorem at_none {M : Mp} {ls : List Lk} {e : E2} (h : ∀ l ∈ atM M e, l ∈ ls) : ∀ l ∈ keysM (dropM M ls), has e l = false := fun l hl => by
  obtain ⟨h1, h2⟩ := mem_keys_drop.mp hl
  cases q : has e l with
  | false => rfl
  | true => exact absurd (h l (mem_at.mpr ⟨h1, q⟩)) h2
theorem put_len {M : Mp} {l : Lk} {n : Int} : (putM M l n).length ≤ M.length + 1 := by
  unfold putM
  split
  · rw [List.length_map]
    omega
  · rw [List.length_append]
    exact Nat.le_refl _
theorem srt_len {ls : List Lk} : (srt ls).length = ls.length := (srt_perm ls).length_eq
theorem keys_len {M : Mp} : (keysM M).length = M.length := List.length_map _
theorem at_len {M : Mp} {e : E2} : (atM M e).length ≤ M.length := by
  unfold atM
  refine Nat.le_trans (List.length_filter_le _ _) ?_
  rw [srt_len, keys_len]
  exact Nat.le_refl _
/-! ### lists of links, by a test -/
theorem take_filter {α : Type} {ls : List α} {i : Nat} {l : α} {p : α → Bool} (e : ls[i]? = some l) : (ls.take (i + 1)).filter p = (ls.take i).filter p ++ (if p l = true then [l] else []) := by
  rw [List.take_add_one, e, List.filter_append]
  congr 1
  show [l].filter p = _
  rw [List.filter_cons]
  split <;> rfl
theorem w_lcF {K : PySem.W.Frag} {σ : St} {H B : Hp} {Q : VK} {tl : TE} {a : Addr} {tt : TT} {us : List V} {ls : List Lk} {i : Nat} (p : Lk → Bool) (hx : SqL K H a us) (hL : LkL B us ls) (hz : us.length ≤ 1000) (htl : ∀ Q : VK, Q (.ref a) H → tl σ H Q)
    (hw : ∀ x, wipe ((wipe σ [i]).set i (some x)) [i] = wipe σ [i]) (hv : ∀ x, ((wipe σ [i]).set i (some x))[i]? = some (some x))
    (ht : ∀ t l H1, l ∈ ls → NK B (lkK l) (.ref t) → Same H H1 → ∀ R : Bool → Hp → Prop, (∀ H2, Same H1 H2 → R (p l) H2) → tt ((wipe σ [i]).set i (some (.ref t))) H1 R)
    (hq : ∀ D acc H', Hs H [(D, .lst acc)] H' → LkL B acc (ls.filter p) → Q (.ref D) H') : tLc (iList K tl) (gName i) tt (tVar i) [i] σ H Q := by
  refine w_lc hx (fun D j H' => ∃ acc, Hs H [(D, .lst acc)] H' ∧ LkL B acc ((ls.take j).filter p)) htl (fun D hD => ⟨[], (Hs.start H).new hD, .nil⟩) (fun D j H' _ ⟨_, h, _⟩ => h.same.seq hx) ?_ ?_
  · rintro D j x H' hj ⟨acc, h1, h2⟩
    obtain ⟨t, l, rfl, hl, hk⟩ := LkL.get hL hj
    refine ⟨hw _, ht t l H' (List.mem_of_getElem? hl) hk h1.same _ fun H2 sb => ?_⟩
    have hlen := LkL.len h2
    have hj2 := (List.getElem?_eq_some_iff.mp hl).1
    have hll := LkL.len hL
    have h3 : Hs H [(D, .lst acc)] H2 := ⟨h1.same.trans sb, h1.nd, h1.out, fun e he => sb _ _ (h1.at_ e he)⟩
    have e1 := take_filter (p := p) hl
    by_cases hp : p l = true
    · rw [if_pos hp]
      rw [if_pos hp] at e1
      refine ⟨_, hv _, acc, h3.g0, ?_, acc ++ [.ref t], h3.p0 _, ?_⟩
      · refine szl ?_
        have := List.length_filter_le p (ls.take j)
        rw [List.length_take] at this
        omega
      · rw [e1]
        exact h2.snoc hk
    · rw [if_neg hp]
      rw [if_neg hp, List.append_nil] at e1
      refine ⟨acc, h3, ?_⟩
      rw [e1]
      exact h2
  · rintro D H' ⟨acc, h1, h2⟩
    rw [LkL.len hL, List.take_length] at h2
    exact hq D acc H' h1 h2
/-- what is walked first, then the walk -/
theorem w_lcS {K : PySem.W.Frag} {σ : St} {H : Hp} {Q : VK} {tl : TE} {g : TG} {tt : TT} {te : TE} {vs : List Nat} (q : tl σ H fun v H1 => tLc (iList K (tC v)) g tt te vs σ H1 Q) : tLc (iList K tl) g tt te vs σ H Q := q
theorem w_forS {K : PySem.W.Frag} {σ : St} {H : Hp} {D : Ends} {tl : TE} {g : TG} {tb : TS} (q : tl σ H fun v H1 => tFor (iList K (tC v)) g tb D σ H1) : tFor (iList K tl) g tb D σ H := q
theorem w_isL {K : PySem.W.Frag} {H : Hp} {Q : VK} {p : Addr} {xs : List V} (h : H p = some (.lst xs)) (k : Q (.bl true) H) : rIsi K [.ref p, .ty "list"] H Q :=
  ⟨_, _, _, _, true, rfl, .ty "list", .base (.lst h), kit_ty (by decide +kernel), k⟩
end Hb

set_option Elab.async false
set_option linter.all false
set_option maxRecDepth 100000
set_option maxHeartbeats 4000000
/-! Sets whose elements are tuples of a kind of keys (nested tuples: KE's nestedKind), kept in the model's own table. -/
namespace Hb
open PySem L2 PyProof.Rows

section
variable {P : Program} {w : World} {κ : Type} [DecidableEq κ]
/-- what the model asks of an element besides its hash and its == -/
structure Els (knd : HeapKind P w κ) : Prop where
  ofA : ∀ {A : Around} {E : Value → Shared → Prop} {s : Shared} {k : κ} {b : Addr} {Q : Bool → Shared → Prop}, knd.is s.heap k b → Q false s → wpAny (model P w) A (ofAClassStatement 8 (.ref b)) Q E s
  byV : ∀ {A : Around} {E : Value → Shared → Prop} {s : Shared} {k : κ} {b : Addr} {Q : Bool → Shared → Prop}, knd.is s.heap k b → Q true s → wpAny (model P w) A (hashByValue 8 (.ref b)) Q E s
  stay : ∀ {h h' : Heap} {k : κ} {b d : Addr} {o : Obj} {es : Array (Int × Value)} {ep : Nat} {t : SetTable}, knd.is h k b → h.get? d = some o → o.data = .set es ep t → Heap.SameBut d h h' → knd.is h' k b
  grow : ∀ {h h' : Heap} {k : κ} {b : Addr}, knd.is h k b → (∀ c o, h.get? c = some o → h'.get? c = some o) → knd.is h' k b
end

/-! ### nested tuples are such elements -/
section
variable {P : Program} {w : World}
def NoCls (P : Program) (w : World) (n : Nat) (s : Shared) (v : Value) : Prop := ∀ (A : Around) (E : Value → Shared → Prop) (Q : Bool → Shared → Prop), Q false s → wpAny (model P w) A (ofAClassStatement n v) Q E s
def ByVal (P : Program) (w : World) (n : Nat) (s : Shared) (v : Value) : Prop := ∀ (A : Around) (E : Value → Shared → Prop) (Q : Bool → Shared → Prop), Q true s → wpAny (model P w) A (hashByValue n v) Q E s
theorem NoCls.pure {n : Nat} {s : Shared} {v : Value} (h : ofAClassStatement n v = Pure.pure false) : NoCls P w n s v := fun A E Q q => by
  rw [h]
  exact wpAny_pure q
theorem ByVal.pure {n : Nat} {s : Shared} {v : Value} (h : hashByValue n v = Pure.pure true) : ByVal P w n s v := fun A E Q q => by
  rw [h]
  exact wpAny_pure q
theorem NoCls.tup {n m : Nat} {s : Shared} {a : Addr} {o : Obj} {vs : Array Value} (ho : s.heap.get? a = some o) (hc : o.cls = .type "tuple") (hd : o.data = .seq vs m) (hv : ∀ v ∈ vs.toList, NoCls P w n s v) : NoCls P w (n + 1) s (.ref a) := fun A E Q q => by
  have hT : s.TypeIs (.ref a) "tuple" := ⟨o, ho, hc⟩
  unfold ofAClassStatement
  refine wpAny_bind (wpAny_typeOf hT ?_)
  dsimp only
  have e : (("tuple" : String) == "tuple") = true := by decide
  simp only [e, if_true, Bool.not_true, Bool.false_eq_true, if_false]
  try refine wpAny_bind (wpAny_pure ?_)
  try simp only [Bool.not_true, Bool.false_eq_true, if_false]
  show wpAny _ _ (seqItems? (.ref a) >>= _) _ _ s
  refine wpAny_bind (wpAny_seqItems ho hd ?_)
  dsimp only
  refine wpAny_bind ?_
  show wpAny _ _ (forIn vs _ _) _ _ s
  rw [← Array.forIn_toList]
  refine wpAny_forIn_list _ (fun rest r s' => r.1 = none ∧ s' = s ∧ ∀ v ∈ rest, NoCls P w n s v) _ ?_ ?_ _ _ ⟨rfl, rfl, hv⟩
  · rintro v rest r s' ⟨_, rfl, all⟩
    refine wpAny_bind (all v List.mem_cons_self _ _ _ ?_)
    simp only [Bool.false_eq_true, if_false]
    exact wpAny_pure ⟨rfl, rfl, fun u hu => all u (List.mem_cons_of_mem _ hu)⟩
  · rintro ⟨r1, r2⟩ s' ⟨hr, rfl, _⟩
    simp only at hr
    subst hr
    exact wpAny_pure q
theorem ByVal.tup {n m : Nat} {s : Shared} {a : Addr} {o : Obj} {vs : Array Value} (ho : s.heap.get? a = some o) (hc : o.cls = .type "tuple") (hd : o.data = .seq vs m) (hv : ∀ v ∈ vs.toList, ByVal P w n s v) : ByVal P w (n + 1) s (.ref a) := fun A E Q q => by
  have hT : s.TypeIs (.ref a) "tuple" := ⟨o, ho, hc⟩
  unfold hashByValue
  refine wpAny_bind (wpAny_specialOf hT F.slot_tuple_hash.lookup ?_)
  show wpAny _ _ (seqItems? (.ref a) >>= _) _ _ s
  refine wpAny_bind (wpAny_seqItems ho hd ?_)
  refine wpAny_bind ?_
  show wpAny _ _ (forIn vs _ _) _ _ s
  rw [← Array.forIn_toList]
  refine wpAny_forIn_list _ (fun rest r s' => r.1 = none ∧ s' = s ∧ ∀ v ∈ rest, ByVal P w n s v) _ ?_ ?_ _ _ ⟨rfl, rfl, hv⟩
  · rintro v rest r s' ⟨_, rfl, all⟩
    refine wpAny_bind (all v List.mem_cons_self _ _ _ ?_)
    simp only [Bool.not_true, Bool.false_eq_true, if_false]
    exact wpAny_pure ⟨rfl, rfl, fun u hu => all u (List.mem_cons_of_mem _ hu)⟩
  · rintro ⟨r1, r2⟩ s' ⟨hr, rfl, _⟩
    simp only at hr
    subst hr
    exact wpAny_pure q
theorem scal_ofA {v : Value} (h : v.onHeap = false) (n : Nat) (hv : v = .none ∨ (∃ b, v = .bool b) ∨ (∃ i t, v = .int i t) ∨ ∃ x t, v = .str x t) : ofAClassStatement n v = Pure.pure false := by
  rcases hv with rfl | ⟨b, rfl⟩ | ⟨i, t, rfl⟩ | ⟨x, t, rfl⟩ <;> cases n <;> rfl
theorem scal_byV {v : Value} (n : Nat) (hv : v = .none ∨ (∃ b, v = .bool b) ∨ (∃ i t, v = .int i t)) : hashByValue n v = Pure.pure true := by
  rcases hv with rfl | ⟨b, rfl⟩ | ⟨i, t, rfl⟩ <;> cases n <;> rfl
mutual
/-- no text is in it: its hash hangs on its value alone -/
def noTx : NestedKey → Bool
  | .none => true
  | .num _ => true
  | .text _ => false
  | .tup ks => noTxs ks
def noTxs : List NestedKey → Bool
  | [] => true
  | k :: ks => noTx k && noTxs ks
end
mutual
theorem nested_els : ∀ (k : NestedKey) (v : Value) (n : Nat) (s : Shared), NestedIs s.heap k v → k.depth ≤ n → noTx k = true → NoCls P w n s v ∧ ByVal P w n s v
  | .none, _, n, s, x, _, _ => by
    cases x
    exact ⟨.pure (scal_ofA rfl n (.inl rfl)), .pure (scal_byV n (.inl rfl))⟩
  | .num i, _, n, s, x, _, _ => by
    cases x with
    | bool e => exact ⟨.pure (scal_ofA rfl n (.inr (.inl ⟨_, rfl⟩))), .pure (scal_byV n (.inr (.inl ⟨_, rfl⟩)))⟩
    | int _ t => exact ⟨.pure (scal_ofA rfl n (.inr (.inr (.inl ⟨_, _, rfl⟩)))), .pure (scal_byV n (.inr (.inr ⟨_, _, rfl⟩)))⟩
  | .text y, _, n, s, x, _, h => by
    simp only [noTx, Bool.false_eq_true] at h
  | .tup ks, _, n, s, x, hn, h => by
    cases x with
    | tup hg hc hd hk =>
      simp only [NestedKey.depth] at hn
      simp only [noTx] at h
      cases n with
      | zero => omega
      | succ n =>
        have all := nested_elss ks _ n s hk (by omega) h
        exact ⟨.tup hg hc hd fun v hv => (all v hv).1, .tup hg hc hd fun v hv => (all v hv).2⟩
theorem nested_elss : ∀ (ks : List NestedKey) (vs : List Value) (n : Nat) (s : Shared), NestedAll s.heap ks vs → NestedKey.depthAll ks ≤ n → noTxs ks = true → ∀ v ∈ vs, NoCls P w n s v ∧ ByVal P w n s v
  | [], _, n, s, x, _, _, v, hv => by cases x; cases hv
  | k :: ks, _, n, s, x, hn, h, v, hv => by
    cases x with
    | cons x1 x2 =>
      simp only [NestedKey.depthAll] at hn
      simp only [noTxs, Bool.and_eq_true] at h
      rcases List.mem_cons.mp hv with e | hv
      · rw [e]
        exact nested_els k _ n s x1 (by omega) h.1
      · exact nested_elss ks _ n s x2 (by omega) h.2 v hv
end
/-- the kind of nested tuples without texts -/
def numKind (P : Program) (w : World) : HeapKind P w NestedKey where
  is := fun h k a => (nestedKind P w).is h k a ∧ noTx k = true
  hash := (nestedKind P w).hash
  draws := (nestedKind P w).draws
  room := (nestedKind P w).room
  inj := fun x y => (nestedKind P w).inj x.1 y.1
  keeps := fun x ho hd hs => ⟨(nestedKind P w).keeps x.1 ho hd hs, x.2⟩
  pyHash := fun hr x h => (nestedKind P w).pyHash hr x.1 h
  eqBool := fun hr x y h => (nestedKind P w).eqBool hr x.1 y.1 h
  quiet := fun x h => (nestedKind P w).quiet x.1 h
theorem els_num : Els (numKind P w) where
  ofA := fun {A E s k b Q} h q => (nested_els k _ 8 s h.1.1 h.1.2 h.2).1 A E Q q
  byV := fun {A E s k b Q} h q => (nested_els k _ 8 s h.1.1 h.1.2 h.2).2 A E Q q
  stay := fun {h h' k b d o es ep t} x ho hd hs => ⟨⟨NestedIs.at (fun c oc vs n hc hdc => by
    refine (hs.2 c fun e => ?_).trans hc
    subst e
    rw [ho] at hc
    cases hc
    rw [hd] at hdc
    cases hdc) k _ x.1.1, x.1.2⟩, x.2⟩
  grow := fun x k => ⟨⟨NestedIs.at (fun c o _ _ hc _ => k c o hc) _ _ x.1.1, x.1.2⟩, x.2⟩
end

/-! ### the table -/
section
variable {P : Program} {w : World} {κ : Type} [DecidableEq κ] {knd : HeapKind P w κ} {A : Around} {E : Value → Shared → Prop} {s : Shared}
/-- the elements as the table's rows -/
def rowsK (knd : HeapKind P w κ) (L : List (κ × Addr)) : List (Int × Value) := L.map fun p => (knd.hash p.1, Value.ref p.2)
/-- the set at a, of the elements L (in the table's order) -/
structure SetK (knd : HeapKind P w κ) (h : Heap) (a : Addr) (L : List (κ × Addr)) (es : Array (Int × Value)) (ep : Nat) (t : SetTable) : Prop where
  ob : ∃ o, h.get? a = some o ∧ o.ExactSet ∧ o.data = .set es ep t
  rows : es.toList = rowsK knd L
  tab : TabOk t (L.map fun p => knd.hash p.1)
  nd : (L.map (·.1)).Nodup
  els : ∀ p ∈ L, knd.is h p.1 p.2
  pl : t.plain = true
  led : w.params.followText "set-order" = true ∨ t.led = true
  room : L.length * 5 < t.mask * 3
  few : L.length < 64
variable {a : Addr} {L : List (κ × Addr)} {es : Array (Int × Value)} {ep : Nat} {t : SetTable}
theorem rowsK_size (e : es.toList = rowsK knd L) : es.size = L.length := by
  rw [← Array.length_toList, e]
  exact List.length_map _
theorem rowsK_at (e : es.toList = rowsK knd L) (i : Nat) : es[i]? = (L[i]?).map fun p => (knd.hash p.1, Value.ref p.2) := by
  rw [← Array.getElem?_toList, e]
  exact List.getElem?_map ..
theorem fitsK (T : TabOk t (L.map fun p => knd.hash p.1)) (e : es.toList = rowsK knd L) (hm : L.length ≤ t.mask) : t.fits es.size = true := by
  have h1 : t.place.size = L.length := by
    rw [T.sz]
    exact List.length_map _
  unfold SetTable.fits SetTable.fill
  rw [T.dm, rowsK_size e, Bool.and_eq_true, beq_iff_eq, decide_eq_true_eq]
  exact ⟨h1, by show t.place.size + 0 ≤ t.mask; omega⟩
theorem SetK.fits (R : SetK knd s.heap a L es ep t) : t.fits es.size = true := fitsK R.tab R.rows (by have := R.room; omega)
/-- a search shows nothing of the elements -/
theorem unseenK (el : Els knd) {k : κ} {b : Addr} {Q : Bool → Shared → Prop} (hk : knd.is s.heap k b) {ys : List Value} (hy : ∀ y ∈ ys, ∃ j c, y = Value.ref c ∧ knd.is s.heap j c) (h : Q false s) : wpAny (model P w) A (searchCouldBeSeen (.ref b) ys) Q E s := by
  unfold searchCouldBeSeen
  refine wpAny_bind ?_
  refine wpAny_forIn_list _ (fun rest r s' => r.1 = none ∧ s' = s ∧ ∀ y ∈ rest, y ∈ ys) _ ?_ ?_ _ _ ⟨rfl, rfl, fun _ z => z⟩
  · rintro v rest r s' ⟨_, rfl, sub⟩
    obtain ⟨j, c, rfl, hc⟩ := hy v (sub v List.mem_cons_self)
    have more : ∀ y ∈ rest, y ∈ ys := fun u hu => sub u (List.mem_cons_of_mem _ hu)
    dsimp only
    by_cases hv : (b == c || (carriedByValue (.ref b) && carriedByValue (.ref c))) = true
    · exact wp_if_pos hv (wpAny_pure ⟨rfl, rfl, more⟩)
    · refine wp_if_neg hv (wpAny_bind (knd.quiet hk ?_))
      simp only [Bool.not_true, Bool.false_eq_true, if_false]
      refine wpAny_bind (knd.quiet hc ?_)
      simp only [Bool.not_true, Bool.false_eq_true, if_false]
      refine wpAny_bind (el.ofA hk ?_)
      simp only [Bool.false_eq_true, if_false]
      refine wpAny_bind (el.ofA hc ?_)
      simp only [Bool.false_eq_true, if_false]
      exact wpAny_pure ⟨rfl, rfl, more⟩
  · rintro ⟨r1, r2⟩ s' ⟨hr, rfl, _⟩
    simp only at hr
    subst hr
    exact wpAny_pure h

/-- where a search for the hash h stands behind c steps -/
abbrev stepK (t : SetTable) (h : Int) (c : Nat) : SetTable.Probe := nth t.mask (runAt t.mask (SetTable.bits h % (t.mask + 1)) (SetTable.bits h)) c
theorem stepK_add (t : SetTable) (h : Int) (c q : Nat) : nth t.mask (stepK t h c) q = stepK t h (c + q) := (nth_add t.mask c _ q).symm
theorem stepK_j (t : SetTable) (h : Int) (c q : Nat) : (nth t.mask (stepK t h c) q).j = way t.mask h (c + q) := congrArg SetTable.Probe.j (stepK_add t h c q)
theorem dummy_nth (m : Nat) : ∀ (n : Nat) (p : SetTable.Probe), p.dummy = none → (nth m p n).dummy = none
  | 0, _, h => h
  | n + 1, p, h => dummy_nth m n (adv m p) (by
    unfold adv
    split <;> exact h)
/-- THE SEARCH: with n steps to go to the first free slot -/
theorem seekK (el : Els knd) (R : SetK knd s.heap a L es ep t) {x : Addr} {k : κ} (hx : knd.is s.heap k x) (hr : knd.room A) {N : Nat} (hN : N < 10 * SetTable.turns t.mask) (hfree : way t.mask (knd.hash k) N ∉ t.place.toList)
    (htak : ∀ c, c < N → way t.mask (knd.hash k) c ∈ t.place.toList) {Q : SetFound → Shared → Prop} (qin : k ∈ L.map (·.1) → Q (.there none) s) (qout : k ∉ L.map (·.1) → Q (.free (way t.mask (knd.hash k) N) false) s) (n : Nat) :
    ∀ (c f : Nat) (stand : Option SetTable.Probe), c + n = N → n < f → stand.getD (t.probeStart (knd.hash k)) = stepK t (knd.hash k) c →
      (∀ (i : Nat) (p : κ × Addr), L[i]? = some p → p.1 = k → ∃ q, q < n ∧ t.place.toList[i]? = some (way t.mask (knd.hash k) (c + q))) →
      wpAny (model P w) A (setSearchFrom a (.ref x) (knd.hash k) true f stand) Q E s := by
  induction n using Nat.strongRecOn with
  | ind n ih =>
    intro c f stand hc hf hst hre
    obtain ⟨f, rfl⟩ : ∃ g, f = g + 1 := ⟨f - 1, by omega⟩
    obtain ⟨o, ho, hex, hd⟩ := R.ob
    rw [setSearchFrom_succ]
    refine wpAny_bind (wpAny_setState_of ho hd R.fits ?_)
    dsimp only
    refine wp_if_neg (by unfold SetTable.gaveWay; rw [mask_odd R.tab.mok]; decide) ?_
    try refine wpAny_bind (wpAny_pure ?_)
    have hAt : ∀ (i : Nat) (p : κ × Addr), L[i]? = some p → (fun i => (es[i]?.map (·.1)).getD 0) i = knd.hash p.1 := fun i p hp => by
      show (es[i]?.map (·.1)).getD 0 = _
      rw [rowsK_at R.rows, hp]
      rfl
    have spec := go_spec t R.tab.ris R.tab.dm (fun i => (es[i]?.map (·.1)).getD 0) (knd.hash k) (10 * SetTable.turns t.mask) n (stepK t (knd.hash k) c) (dummy_nth _ _ _ rfl) (by omega)
      (fun q hq => by rw [stepK_j]; exact htak _ (by omega)) (by rw [stepK_j, hc]; exact hfree)
    have pr : t.probe (fun i => (es[i]?.map (·.1)).getD 0) (knd.hash k) (stand.getD (t.probeStart (knd.hash k))) = SetTable.probe.go t (fun i => (es[i]?.map (·.1)).getD 0) (knd.hash k) (10 * SetTable.turns t.mask) (stepK t (knd.hash k) c) := by
      rw [hst]
      rfl
    rw [pr]
    rcases spec with ⟨q, i, hq, hi, _, hno, e⟩ | ⟨hno, e⟩
    · rw [e, stepK_j, stepK_add]
      rw [stepK_j] at hi
      dsimp only
      have hil : i < L.length := by
        have h1 := (List.getElem?_eq_some_iff.mp hi).1
        rw [Array.length_toList, R.tab.sz, List.length_map] at h1
        exact h1
      obtain ⟨p, hp⟩ : ∃ p, L[i]? = some p := ⟨_, List.getElem?_eq_getElem hil⟩
      have hm : p ∈ L := List.mem_of_getElem? hp
      have hei : es[i]? = some (knd.hash p.1, Value.ref p.2) := by
        rw [rowsK_at R.rows, hp]
        rfl
      have hsl : t.slot (way t.mask (knd.hash k) (c + q)) = .live i := slot_live R.tab.ris hi
      have after : wpAny (model P w) A (searchRest a (.ref x) (knd.hash k) true f es t (way t.mask (knd.hash k) (c + q)) i (stepK t (knd.hash k) (c + (q + 1)))) Q E s := by
        unfold searchRest
        rw [hei]
        dsimp only
        refine wpAny_bind (wpAny_holding (knd.eqBool hr (R.els p hm) hx ?_))
        refine wpAny_bind (wpAny_setState_of ho hd R.fits ?_)
        dsimp only
        by_cases hk : p.1 = k
        · exact wp_if_pos (by simp [hk]) (wpAny_pure (qin (List.mem_map.mpr ⟨p, hm, hk⟩)))
        · refine wp_if_neg (by simp [hk]) ?_
          try refine wpAny_bind (wpAny_pure ?_)
          rw [sameMem]
          dsimp only
          simp only [if_true, hsl, hei]
          refine wpAny_bind (wpAny_isSame_ref_self (wpAny_bind (wpAny_pure ?_)))
          simp only [if_true]
          refine wp_if_neg (by simp [hk]) ?_
          refine ih (n - (q + 1)) (by omega) (c + (q + 1)) f _ (by omega) (by omega) rfl fun i0 p0 h0 hk0 => ?_
          obtain ⟨r, hrn, hpl⟩ := hre i0 p0 h0 hk0
          rcases Nat.lt_trichotomy r q with z | z | z
          · exact absurd ((hAt i0 p0 h0).trans (congrArg knd.hash hk0)) (hno r i0 z (by rw [stepK_j]; exact hpl))
          · subst z
            have s0 := slot_live R.tab.ris hpl
            rw [hsl] at s0
            injection s0 with s0
            rw [← s0, hp] at h0
            exact absurd ((congrArg Prod.fst (Option.some.inj h0)).trans hk0) hk
          · exact ⟨r - (q + 1), by omega, by rw [show c + (q + 1) + (r - (q + 1)) = c + r by omega]; exact hpl⟩
      by_cases hl : t.led = true
      · refine wp_if_neg (by simp [hl]) ?_
        try refine wpAny_bind (wpAny_pure ?_)
        exact after
      · refine wp_if_pos (by simp [hl]) ?_
        refine wpAny_bind (unseenK el hx (fun y hy => ?_) (wp_if_neg (by decide) ?_))
        · obtain ⟨z, hz, rfl⟩ := List.mem_map.mp hy
          have hz1 : z ∈ es ∧ z.1 = knd.hash k := by simpa using hz
          have hz2 : z ∈ es.toList := by simpa using hz1.1
          rw [R.rows] at hz2
          obtain ⟨p2, hp2, rfl⟩ := List.mem_map.mp hz2
          exact ⟨p2.1, p2.2, rfl, R.els p2 hp2⟩
        · try refine wpAny_bind (wpAny_pure ?_)
          exact after
    · rw [e, stepK_j, hc]
      dsimp only
      refine wpAny_pure (qout fun hm => ?_)
      obtain ⟨p0, h0, hk0⟩ := List.mem_map.mp hm
      obtain ⟨i0, hi0, e0⟩ := List.getElem_of_mem h0
      have h00 : L[i0]? = some p0 := by rw [List.getElem?_eq_getElem hi0, e0]
      obtain ⟨r, hrn, hpl⟩ := hre i0 p0 h00 hk0
      exact hno r i0 hrn (by rw [stepK_j]; exact hpl) ((hAt i0 p0 h00).trans (congrArg knd.hash hk0))
/-- the search as adding asks for it -/
theorem lookK (el : Els knd) (R : SetK knd s.heap a L es ep t) {x : Addr} {k : κ} (hx : knd.is s.heap k x) (hr : knd.room A) {Q : SetFound → Shared → Prop} (qin : k ∈ L.map (·.1) → Q (.there none) s)
    (qout : ∀ N, k ∉ L.map (·.1) → way t.mask (knd.hash k) N ∉ t.place.toList → (∀ c, c < N → way t.mask (knd.hash k) c ∈ t.place.toList) → Q (.free (way t.mask (knd.hash k) N) false) s) :
    wpAny (model P w) A (setSearch a (.ref x) (knd.hash k) true) Q E s := by
  have room := R.room
  obtain ⟨N, h1, h2, h3⟩ := R.tab.first (by rw [List.length_map]; omega) (knd.hash k)
  have few : N < 100000 := by
    have : 10 * SetTable.turns t.mask ≤ 1420 := by
      unfold SetTable.turns
      rcases R.tab.mok with e | e | e <;> omega
    omega
  unfold setSearch
  refine seekK el R hx hr h1 h2 h3 qin (fun z => qout N z h2 h3) N 0 100000 none (Nat.zero_add N) few rfl fun i p hp hk => ?_
  have hi : (L.map fun p => knd.hash p.1)[i]? = some (knd.hash k) := by
    rw [List.getElem?_map, hp, ← hk]
    rfl
  have hil : i < t.place.toList.length := by
    rw [Array.length_toList, R.tab.sz, List.length_map]
    exact (List.getElem?_eq_some_iff.mp hp).1
  have hj := List.getElem?_eq_getElem hil
  obtain ⟨q, hq, e⟩ := R.tab.before h2 hi hj
  exact ⟨q, hq, by rw [hj, Nat.zero_add, e]⟩

theorem range_pick {α : Type} : ∀ l : List α, (List.range l.length).filterMap (fun i => l[i]?) = l
  | [] => rfl
  | x :: l => by
    rw [List.length_cons, List.range_succ_eq_map, List.filterMap_cons]
    show x :: (List.map Nat.succ (List.range l.length)).filterMap (fun i => (x :: l)[i]?) = x :: l
    rw [List.filterMap_map]
    exact congrArg (x :: ·) (range_pick l)
theorem fm_congr {α β : Type} {f g : α → Option β} : ∀ {l : List α}, (∀ x ∈ l, f x = g x) → l.filterMap f = l.filterMap g
  | [], _ => rfl
  | x :: l, h => by rw [List.filterMap_cons, List.filterMap_cons, h x List.mem_cons_self, fm_congr fun y hy => h y (List.mem_cons_of_mem _ hy)]
/-- the rows in another order -/
theorem orderK (e : es.toList = rowsK knd L) {order : Array Nat} (hp : order.toList.Perm (List.range L.length)) :
    ∃ L2, (order.filterMap (es[·]?)).toList = rowsK knd L2 ∧ L2.Perm L ∧ (L2.map fun p => knd.hash p.1) = order.toList.map fun i => (es.map (·.1)).getD i 0 := by
  refine ⟨order.toList.filterMap fun i => L[i]?, ?_, ?_, ?_⟩
  · rw [Array.toList_filterMap]
    unfold rowsK
    rw [List.map_filterMap]
    exact fm_congr fun i _ => rowsK_at e i
  · exact (hp.filterMap _).trans (List.Perm.of_eq (range_pick L))
  · rw [List.map_filterMap, ← List.filterMap_eq_map]
    refine fm_congr fun i hi => ?_
    have hlt : i < L.length := List.mem_range.mp (hp.mem_iff.mp hi)
    have h1 : (es.map (·.1))[i]? = some (knd.hash (L[i]).1) := by
      rw [Array.getElem?_map, rowsK_at e, List.getElem?_eq_getElem hlt]
      rfl
    rw [List.getElem?_eq_getElem hlt]
    show some (knd.hash (L[i]).1) = some ((es.map (·.1)).getD i 0)
    rw [Array.getD_eq_getD_getElem?, h1]
    rfl
/-- all laid anew in a larger table -/
theorem relayK (el : Els knd) {o : Obj} (ho : s.heap.get? a = some o) (hex : o.ExactSet) (hd : o.data = .set es ep t) (hrows : es.toList = rowsK knd L) (T : TabOk t (L.map fun p => knd.hash p.1)) (hm : L.length ≤ t.mask)
    (nd : (L.map (·.1)).Nodup) (els : ∀ p ∈ L, knd.is s.heap p.1 p.2) (pl : t.plain = true) (led : w.params.followText "set-order" = true ∨ t.led = true) (few : L.length < 64) {wanted M : Nat}
    (hw : SetTable.sizeAbove wanted - 1 = M) (hM : MaskOk M) (hw2 : SetTable.sizeAbove wanted ≤ 128) (hn : L.length * 5 < M * 3) {Q : Unit → Shared → Prop}
    (hQ : ∀ h' L' es' ep' t', Heap.SameBut a s.heap h' → SetK knd h' a L' es' ep' t' → L'.Perm L → Q () { s with heap := h' }) : wpAny (model P w) A (setRelay a wanted) Q E s := by
  have hsz := rowsK_size hrows
  obtain ⟨t', order, e, hp, T', em, el', ep', _⟩ := relaid_ok t (hs := es.map (·.1)) (wanted := wanted) hw hM (by rw [Array.size_map, hsz]; omega)
  rw [Array.size_map, hsz] at hp
  obtain ⟨L2, r1, r2, r3⟩ := orderK hrows hp
  rw [← r3] at T'
  have hs2 : (order.filterMap (es[·]?)).size = es.size := by rw [rowsK_size r1, r2.length_eq, hsz]
  rw [setRelay_eq]
  refine wpAny_bind (wpAny_setState_of ho hd (fitsK T hrows hm) ?_)
  dsimp only
  refine wp_if_neg (by rw [sizeLine_eq]; omega) ?_
  try refine wpAny_bind (wpAny_pure ?_)
  rw [e]
  dsimp only
  refine wpAny_bind ?_
  refine wp_if_neg (by rw [hs2]; simp) ?_
  try refine wpAny_bind (wpAny_pure ?_)
  refine wpAny_pure ?_
  dsimp only
  refine wpAny_storeSet_of ho hd ?_ (by rw [hs2, hsz, sizeLine_eq]; omega)
  have sb : Heap.SameBut a s.heap (s.heap.update a (Obj.putSet (order.filterMap (es[·]?)) t')) := Heap.SameBut.update ..
  exact hQ _ L2 _ (ep + 1) t' sb ⟨⟨_, store_at ho hd, ⟨hex.1, hex.2.1, hex.2.2⟩, rfl⟩, r1, T', (r2.map (·.1)).nodup_iff.mpr nd, fun p hpm => el.stay (els p (r2.mem_iff.mp hpm)) ho hd sb, by rw [ep']; exact pl, by rw [el']; exact led, by rw [r2.length_eq, em]; exact hn, by rw [r2.length_eq]; exact few⟩ r2
/-- ADDING an element whose hash is known -/
theorem addK (el : Els knd) (R : SetK knd s.heap a L es ep t) {x : Addr} {k : κ} (hx : knd.is s.heap k x) (hr : knd.room A) (few : L.length + 1 < 64) {Q : Bool → Shared → Prop}
    (hQ : ∀ b h' L' es' ep' t', Heap.SameBut a s.heap h' → SetK knd h' a L' es' ep' t' → (k ∈ L.map (·.1) → L' = L) → (k ∉ L.map (·.1) → L'.Perm ((k, x) :: L)) → Q b { s with heap := h' }) :
    wpAny (model P w) A (setAddHashed a (.ref x) (knd.hash k)) Q E s := by
  obtain ⟨o, ho, hex, hd⟩ := R.ob
  have room := R.room
  unfold setAddHashed
  refine wpAny_holding ?_
  rw [show (100000 : Nat) = 99999 + 1 from rfl, setAddHashedIn_succ]
  refine wpAny_bind (wpAny_setState_of ho hd R.fits ?_)
  dsimp only
  refine wp_if_neg (by simp [byScan, Value.scannable]) ?_
  try refine wpAny_bind (wpAny_pure ?_)
  refine wpAny_bind (lookK el R hx hr (fun hm => ?_) fun N hm hN hb => ?_)
  · dsimp only
    exact wpAny_pure (hQ false s.heap L es ep t (Heap.SameBut.refl a s.heap) R (fun _ => rfl) fun z => absurd hm z)
  dsimp only
  refine wpAny_bind (wpAny_setState_of ho hd R.fits ?_)
  dsimp only
  obtain ⟨q1, q2, q3, q4, q5, q6, _, _, q9⟩ := R.tab.put hN hb
  rw [← List.map_take, ← List.map_drop, ← List.map_cons (f := fun p : κ × Addr => knd.hash p.1) (a := (k, x)), ← List.map_append] at q3
  rw [List.length_map] at q9
  generalize hpt : t.put (way t.mask (knd.hash k) N) = pt at q1 q3 q4 q5 q6 q9 ⊢
  obtain ⟨t1, p⟩ := pt
  dsimp only at q1 q3 q4 q5 q6 q9 ⊢
  have pl1 : t1.plain = true := q6.trans R.pl
  have ins : (SetTable.insertAt es p (knd.hash k, Value.ref x)).toList = rowsK knd (L.take p ++ (k, x) :: L.drop p) := by
    rw [SetTable.toList_insertAt, R.rows]
    unfold rowsK
    rw [List.map_append, List.map_cons, List.map_take, List.map_drop]
  rw [← q1] at q3
  have pm : (L.take p ++ (k, x) :: L.drop p).Perm ((k, x) :: L) := by
    have h : (L.take p ++ (k, x) :: L.drop p).Perm ((k, x) :: (L.take p ++ L.drop p)) := List.perm_middle
    rwa [List.take_append_drop] at h
  first
    | (refine wpAny_bind ?_; refine wp_if_pos pl1 ?_; refine el.byV hx ?_)
    | refine wp_if_pos pl1 (wpAny_bind (el.byV hx ?_))
  simp only [if_true]
  generalize SetTable.insertAt es p (knd.hash k, Value.ref x) = es1 at ins ⊢
  generalize L.take p ++ (k, x) :: L.drop p = L1 at pm q3 ins
  have len : L1.length = L.length + 1 := pm.length_eq
  have nd1 : (L1.map (·.1)).Nodup := (pm.map (·.1)).nodup_iff.mpr (by rw [List.map_cons]; exact List.nodup_cons.mpr ⟨hm, R.nd⟩)
  have hes : es1.size = L.length + 1 := (rowsK_size ins).trans len
  refine wpAny_bind (wpAny_storeSet_of ho hd ?_ (by rw [hes, sizeLine_eq]; omega))
  have sb : Heap.SameBut a s.heap (s.heap.update a (Obj.putSet es1 t1)) := Heap.SameBut.update ..
  have ho1 := store_at (es' := es1) (t' := t1) ho hd
  generalize s.heap.update a (Obj.putSet es1 t1) = h1 at sb ho1 ⊢
  have els1 : ∀ p ∈ L1, knd.is h1 p.1 p.2 := fun p hp => by
    rcases List.mem_cons.mp (pm.mem_iff.mp hp) with e | hp
    · rw [e]
      exact el.stay hx ho hd sb
    · exact el.stay (R.els p hp) ho hd sb
  have led1 : w.params.followText "set-order" = true ∨ t1.led = true := by rw [q5]; exact R.led
  by_cases hf : t1.tooFull = true
  · have full : (L.length + 1) * 5 ≥ t1.mask * 3 := by
      have h := hf
      unfold SetTable.tooFull at h
      rw [decide_eq_true_eq, q9] at h
      exact h
    have two : (t.mask = 7 ∧ L.length = 4) ∨ (t.mask = 31 ∧ L.length = 18) := by
      rw [q4] at full
      rcases R.tab.mok with e | e | e <;> rw [e] at full room
      · exact .inl ⟨e, by omega⟩
      · exact .inr ⟨e, by omega⟩
      · omega
    have go : ∀ M, SetTable.sizeAbove (SetTable.grown (L.length + 1)) - 1 = M → MaskOk M → SetTable.sizeAbove (SetTable.grown (L.length + 1)) ≤ 128 → (L.length + 1) * 5 < M * 3 →
        wpAny (model P w) A (setRelay a (SetTable.grown (L.length + 1))) (fun _ s' => wpAny (model P w) A (pure true) Q E s') E { s with heap := h1 } := fun M z1 z2 z3 z4 => by
      refine relayK (s := { s with heap := h1 }) el ho1 ⟨hex.1, hex.2.1, hex.2.2⟩ rfl ins q3 (by rw [len, q4]; rcases two with ⟨e, e2⟩ | ⟨e, e2⟩ <;> omega) nd1 els1 pl1 led1 (by rw [len]; exact few) z1 z2 z3 (by rw [len]; exact z4) ?_
      intro h2 L2 es2 ep2 t2 sb2 R2 pm2
      exact wpAny_pure (hQ true h2 L2 es2 ep2 t2 (sb.trans sb2) R2 (fun z => absurd z hm) fun _ => pm2.trans pm)
    rw [rowsK_size R.rows]
    first
      | (refine wpAny_bind ?_; refine wp_if_pos (by simp [hf]) ?_)
      | (refine wp_if_pos (by simp [hf]) ?_; refine wpAny_bind ?_)
    rcases two with ⟨_, e2⟩ | ⟨_, e2⟩
    · exact go 31 (by rw [e2, size_20]) (.inr (.inl rfl)) (by rw [e2, size_20]; decide) (by omega)
    · exact go 127 (by rw [e2, size_76]) (.inr (.inr rfl)) (by rw [e2, size_76]; decide) (by omega)
  · have notFull : ¬ (L.length + 1) * 5 ≥ t1.mask * 3 := fun z => hf (by
      unfold SetTable.tooFull
      rw [decide_eq_true_eq, q9]
      exact z)
    first
      | refine wp_if_neg (by simp [hf]) ?_
      | (refine wpAny_bind ?_; refine wp_if_neg (by simp [hf]) ?_; refine wpAny_pure ?_)
    exact wpAny_pure (hQ true h1 L1 es1 (ep + 1) t1 sb ⟨⟨_, ho1, ⟨hex.1, hex.2.1, hex.2.2⟩, rfl⟩, ins, q3, nd1, els1, pl1, led1, by rw [len]; omega, by rw [len]; exact few⟩ (fun z => absurd z hm) fun _ => pm)
/-- a new set -/
theorem freshK {h : Heap} {a : Addr} (ho : h.get? a = some { cls := .type "set", dict := none, data := .set #[] 0 (.fresh 0 0 (!w.params.followText "set-order")) }) : SetK knd h a [] #[] 0 (.fresh 0 0 (!w.params.followText "set-order")) where
  ob := ⟨_, ho, ⟨rfl, rfl, rfl⟩, rfl⟩
  rows := rfl
  tab := ⟨List.Pairwise.nil, rfl, rfl, .inl rfl, fun x hx => (by cases hx), fun i h j hi => (by simp at hi)⟩
  nd := List.nodup_nil
  els := fun p hp => (by cases hp)
  pl := rfl
  led := by
    show _ ∨ (!w.params.followText "set-order") = true
    cases w.params.followText "set-order"
    · exact .inr rfl
    · exact .inl rfl
  room := by
    show 0 * 5 < 7 * 3
    decide
  few := by
    show 0 < 64
    decide
end
end Hb

set_option Elab.async false
set_option linter.all false
set_option maxRecDepth 100000
set_option maxHeartbeats 4000000
/-! Sets of nested tuples over the abstract heap: add, the comprehension, sorted. -/
namespace Hb
open PySem L2 PyProof.Rows

/-- the set at a: its elements' keys and addresses, in the table's order -/
structure SetK0 (P : Program) (w : World) (h : Heap) (a : Addr) (L : List (NestedKey × Addr)) : Prop where
  ex : ∃ (es : Array (Int × Value)) (ep : Nat) (t : SetTable), (∃ o, h.get? a = some o ∧ o.ExactSet ∧ o.data = .set es ep t) ∧ es.toList = rowsK (numKind P w) L ∧ TabOk t (L.map fun p => (numKind P w).hash p.1) ∧ (L.map (·.1)).Nodup ∧ t.plain = true ∧
    (w.params.followText "set-order" = true ∨ t.led = true) ∧ L.length * 5 < t.mask * 3 ∧ L.length < 64
/-- .. as an object of the abstract heap -/
def SN (P : Program) (w : World) (a : Addr) (L : List (NestedKey × Addr)) : HO := .ext fun h => SetK0 P w h a L
theorem SetK.k0 {P : Program} {w : World} {h : Heap} {a : Addr} {L : List (NestedKey × Addr)} {es : Array (Int × Value)} {ep : Nat} {t : SetTable} (R : SetK (numKind P w) h a L es ep t) : SetK0 P w h a L := ⟨es, ep, t, R.ob, R.rows, R.tab, R.nd, R.pl, R.led, R.room, R.few⟩
theorem SetK0.full {P : Program} {w : World} {h : Heap} {a : Addr} {L : List (NestedKey × Addr)} (R : SetK0 P w h a L) (he : ∀ p ∈ L, (numKind P w).is h p.1 p.2) : ∃ es ep t, SetK (numKind P w) h a L es ep t := by
  obtain ⟨es, ep, t, h1, h2, h3, h4, h5, h6, h7, h8⟩ := R.ex
  exact ⟨es, ep, t, h1, h2, h3, h4, he, h5, h6, h7, h8⟩
theorem sn_new {P : Program} {w : World} {H : Hp} {h : Heap} {a : Addr} {L : List (NestedKey × Addr)} (R : SetK0 P w h a L) : ObjOk P w H h a (SN P w a L) := by
  have ⟨es, ep, t, ⟨o, ho, r⟩, q⟩ := R.ex
  refine ⟨R, ⟨o, ho⟩, fun h1 h2 p k => ?_⟩
  have ⟨es', ep', t', ⟨o', ho', r'⟩, q'⟩ := SetK0.ex p
  exact ⟨es', ep', t', ⟨o', k o' ho', r'⟩, q'⟩
/-- an element as the abstract heap tells it -/
def ElN (H : Hp) (p : NestedKey × Addr) : Prop := NK H p.1 (.ref p.2) ∧ p.1.depth ≤ 8 ∧ noTx p.1 = true
theorem ElN.is {P : Program} {w : World} {H : Hp} {h : Heap} (ok : HOk P w H h) {p : NestedKey × Addr} (e : ElN H p) : (numKind P w).is h p.1 p.2 := ⟨⟨NK.is ok e.1 rfl, e.2.1⟩, e.2.2⟩

section
variable {X : Cx} {pins : List (Addr × Obj)} {σ : L2.St} {H : Hp} {s : Shared} {E : Value → Shared → Prop} {D : Addr} {L : List (NestedKey × Addr)}
theorem sn_get (I : Inv X pins σ H s) (hD : H D = some (SN X.prog X.w D L)) : SetK0 X.prog X.w s.heap D L := (I.hok D _ hD).1
/-- what the set is behind the adding of p -/
def AddN (L : List (NestedKey × Addr)) (p : NestedKey × Addr) (L' : List (NestedKey × Addr)) : Prop := (p.1 ∈ L.map (·.1) → L' = L) ∧ (p.1 ∉ L.map (·.1) → L'.Perm (p :: L))
/-- set.add -/
theorem addN_ok {A : Around} {p : NestedKey × Addr} {Q : Value → Shared → Prop} (hu : A.units + 64 < cLine) (I : Inv X pins σ H s) (hD : H D = some (SN X.prog X.w D L)) (hL : ∀ e ∈ L, ElN H e) (hp : ElN H p) (few : L.length + 1 < 64)
    (h : ∀ L' s', AddN L p L' → Inv X pins σ (upd H D (SN X.prog X.w D L')) s' → Q .none s') : wpAny (model X.prog X.w) A (call (.builtin "set.add") [.ref D, .ref p.2]) Q E s := by
  obtain ⟨es, ep, t, R⟩ := (sn_get I hD).full fun e he => (hL e he).is I.hok
  obtain ⟨o, ho, hex, hd⟩ := R.ob
  have hk := hp.is (P := X.prog) (w := X.w) I.hok
  refine wpAny_call_entry F.slot_set_add ⟨o, ho, hex.1⟩ F.entry_set_add ?_ (F.args_set_add_2 _ _)
  unfold Builtin.«set.add» Builtin.Frozenset.oneOther
  simp only [List.isEmpty_nil, bind_assoc]
  unfold Builtin.Frozenset.addrOf setAdd
  refine wpAny_bind (wpAny_pure ?_)
  try dsimp only
  refine wpAny_bind (wpAny_pure ?_)
  try dsimp only
  refine wpAny_bind ?_
  refine wpAny_holding ?_
  refine wpAny_bind ((numKind X.prog X.w).pyHash (by show A.in1.units + 8 < cLine; rw [Around.in1_units]; omega) hk ?_)
  refine addK (s := { s with toks := s.toks + (numKind X.prog X.w).draws p.1 }) (knd := numKind X.prog X.w) els_num R hk (by show A.in1.units + 8 < cLine; rw [Around.in1_units]; omega) few fun b h' L' es' ep' t' sb R' e1 e2 => ?_
  show wpAny _ _ (ret Value.none) _ _ _
  refine wpAny_pure ⟨_, rfl, h L' _ ⟨e1, e2⟩ ?_⟩
  have ⟨o', ho', _⟩ := R'.ob
  exact I.write (e := D) (by rw [hD]; trivial) (.inl rfl) (fun b u hb hu => (sb.2 b hb).trans hu) ⟨o', ho'⟩ (sn_new R'.k0)
end

/-! ### the comprehension -/
/-- {elt for target in iter if ..}, each elt a nested tuple -/
def tSn (P : Program) (w : World) (wi : TI) (g : TG) (tt : TT) (te : TE) (vs : List Nat) : TE := fun σ H Q => wi σ H fun J H1 => ∀ D, H1 D = none → ∃ W : Nat → Nat → Hp → Prop, (∃ m, W 0 m (upd H1 D (SN P w D []))) ∧ ∀ i m H, W i m H →
  (J.stop i H ∧ Q (.ref D) H) ∨ (J.go i H ∧ ∃ Nx : Hp → Prop, (∀ H', Nx H' → ∃ m', m' < m ∧ W (i + 1) m' H') ∧ ∀ x H', J.yld i H x H' → g x (wipe σ vs) H' fun σ2 H2 => wipe σ2 vs = wipe σ vs ∧ tt σ2 H2 fun b H3 =>
    if b = true then te σ2 H3 fun y H4 => ∃ (L : List (NestedKey × Addr)) (p : NestedKey × Addr), y = .ref p.2 ∧ H4 D = some (SN P w D L) ∧ (∀ e ∈ L, ElN H4 e) ∧ ElN H4 p ∧ L.length + 1 < 64 ∧ ∀ L', AddN L p L' → Nx (upd H4 D (SN P w D L')) else Nx H3)
section
open PpSet
variable {X : Cx}
theorem pe_sn {elt tg iter : Expr} {ifs : List Expr} {scope : Scope} {own : List (Str × Nat)} {pos : Pos} {wi : TI} {g : TG} {tt : TT} {te : TE} (hc : X.calm = true) (hu : X.A.units + 64 < cLine) (hN : X.N.Nodup) (hi : PI X tg iter wi) (ok : BlkOk X.N X.env.scope scope own)
    (hg : ∀ (s : Shared) (H : Hp) (C : Addr) (cl : List (Str × Addr)) (fp : List Addr), PG (X.blk s H scope (compEnvC scope cl C X.env) fp) tg g) (ht : ∀ (s : Shared) (H : Hp) (C : Addr) (cl : List (Str × Addr)) (fp : List Addr), PTs (X.blk s H scope (compEnvC scope cl C X.env) fp) ifs tt)
    (he : ∀ (s : Shared) (H : Hp) (C : Addr) (cl : List (Str × Addr)) (fp : List Addr), PE (X.blk s H scope (compEnvC scope cl C X.env) fp) elt te) (hs : ∀ x, foldedSetIterable iter X.env x = pure x := by intro _; rfl) :
    PE X (.SetComp elt [⟨tg, iter, ifs, 0⟩] scope pos) (tSn X.prog X.w wi g tt te (own.map (·.2))) := by
  refine ⟨fun pins s σ H Q I h => ?_⟩
  rw [eval_SetComp]
  have hfree : ∀ y ∈ scope.names, y.2 = .free → ∃ c, X.env.cells.lookup y.1 = some c := fun y hy e => by
    rcases ok.free y hy e with k | k
    · exact I.ok.has _ (.inl k)
    · exact I.ok.has _ (.inr k)
  refine wpAny_comprehension_free (use := none) rfl hs (closure_ok hfree) ok.kind (fun y hy e => by rw [ok.uniq y hy, e]) (thn (hi.run pins s σ H _ I h) fun xv s1 hx => thn hx fun itv s2 h2 => ?_)
  obtain ⟨it, fp, tn, J, H2, rfl, I2, T, st2, f2, q⟩ := h2
  refine newSet_ok (newEnv_comp ?_)
  obtain ⟨D, hD⟩ : ∃ D, D = s2.heap.objs.size := ⟨_, rfl⟩
  rw [← hD]
  obtain ⟨W, ⟨m0, w0⟩, turn⟩ := q D (I2.hok.fresh (Nat.le_of_eq hD.symm))
  have grown : ∀ b o, s2.heap.get? b = some o → (s2.heap.push { cls := .type "set", dict := none, data := .set #[] 0 (.fresh 0 0 (!X.w.params.followText "set-order")) }).get? b = some o := fun b o e => Heap.get?_push_of_some _ e
  have I3 : Inv X pins σ (upd H2 D (SN X.prog X.w D [])) { s2 with heap := s2.heap.push { cls := .type "set", dict := none, data := .set #[] 0 (.fresh 0 0 (!X.w.params.followText "set-order")) } } :=
    I2.laid (t' := s2.toks) grown (Nat.le_of_eq hD.symm) (sn_new (freshK (knd := numKind X.prog X.w) (by rw [hD]; exact Heap.get?_push_size _ rfl)).k0)
  have f3 : ∀ b ∈ fp, FpOk X pins (upd H2 D (SN X.prog X.w D [])) b ∧ b < (s2.heap.push { cls := .type "set", dict := none, data := .set #[] 0 (.fresh 0 0 (!X.w.params.followText "set-order")) }).objs.size := fun b hb => by
    obtain ⟨o, e, _⟩ := T.obj _ _ st2 b hb
    have hlt := Heap.lt_size e
    refine ⟨⟨?_, (f2 b hb).2⟩, by rw [Heap.size_push]; exact Nat.lt_succ_of_lt hlt⟩
    rw [upd_ne (by rw [hD]; exact Nat.ne_of_lt hlt)]
    exact (f2 b hb).1
  have st3 := T.keep _ _ _ st2 fun b _ o e => grown b o e
  obtain ⟨s3, hs3⟩ : ∃ s3 : Shared, s3 = { s2 with heap := s2.heap.push { cls := .type "set", dict := none, data := .set #[] 0 (.fresh 0 0 (!X.w.params.followText "set-order")) } } := ⟨_, rfl⟩
  obtain ⟨H3, hH3⟩ : ∃ H3 : Hp, H3 = upd H2 D (SN X.prog X.w D []) := ⟨_, rfl⟩
  rw [← hH3] at I3 w0
  rw [← hs3] at I3
  have st3' : tn 0 s3.heap := by rw [hs3]; exact st3
  have f3' : ∀ b ∈ fp, FpOk X pins H3 b ∧ b < s3.heap.objs.size := fun b hb => by rw [hH3, hs3]; exact f3 b hb
  have I4 := block_start I3 ok hN f3'
  show codeAny _ _ (.compStart (.SetComp elt [⟨tg, iter, ifs, 0⟩] scope pos) 0 (.ref it) (.ref D) (compEnvC scope (cellsFrom ((s2.heap.push { cls := .type "set", dict := none, data := .set #[] 0 (.fresh 0 0 (!X.w.params.followText "set-order")) }).objs.size + 1) scope.names (cloFrom X.env.cells scope.names [])) (s2.heap.push { cls := .type "set", dict := none, data := .set #[] 0 (.fresh 0 0 (!X.w.params.followText "set-order")) }).objs.size X.env))
    (compPost (model X.prog X.w) X.A X.xe none (EP X pins σ Q) (.ref D) (s2.heap.push { cls := .type "set", dict := none, data := .set #[] 0 (.fresh 0 0 (!X.w.params.followText "set-order")) }).objs.size)
    { s2 with heap := pushCells ((s2.heap.push { cls := .type "set", dict := none, data := .set #[] 0 (.fresh 0 0 (!X.w.params.followText "set-order")) }).push { cls := .type "dict", data := .dict #[] }) scope.names }
  have hh3 : s2.heap.push { cls := .type "set", dict := none, data := .set #[] 0 (.fresh 0 0 (!X.w.params.followText "set-order")) } = s3.heap := by rw [hs3]
  have hst : ({ s2 with heap := pushCells ((s2.heap.push { cls := .type "set", dict := none, data := .set #[] 0 (.fresh 0 0 (!X.w.params.followText "set-order")) }).push { cls := .type "dict", data := .dict #[] }) scope.names } : Shared) = { s3 with heap := pushCells (s3.heap.push { cls := .type "dict", data := .dict #[] }) scope.names } := by rw [hs3]
  rw [hst, hh3]
  have pg := hg s3 H3 s3.heap.objs.size (cellsFrom (s3.heap.objs.size + 1) scope.names (cloFrom X.env.cells scope.names [])) fp
  have pt := ht s3 H3 s3.heap.objs.size (cellsFrom (s3.heap.objs.size + 1) scope.names (cloFrom X.env.cells scope.names [])) fp
  have pe := he s3 H3 s3.heap.objs.size (cellsFrom (s3.heap.objs.size + 1) scope.names (cloFrom X.env.cells scope.names [])) fp
  generalize hce : compEnvC scope (cellsFrom (s3.heap.objs.size + 1) scope.names (cloFrom X.env.cells scope.names [])) s3.heap.objs.size X.env = ce at I4 pg pt pe ⊢
  have cL : ce.locals = s3.heap.objs.size := by subst hce; rfl
  generalize hs4 : ({ s3 with heap := pushCells (s3.heap.push { cls := .type "dict", data := .dict #[] }) scope.names } : Shared) = s4 at I4 ⊢
  have st4 : tn 0 s4.heap := T.keep _ _ _ st3' fun b _ o e => by rw [← hs4]; exact pushCells_keeps _ _ _ _ (Heap.get?_push_of_some _ e)
  have nfp : ∀ b ∈ fp, H3 b = none := fun b hb => (f3' b hb).1.1
  have stat : ∀ {σ' : L2.St} {H' : Hp} {s' : Shared}, Inv (X.blk s3 H3 scope ce fp) [] σ' H' s' → (∀ b ∈ fp, H' b = none) → ∀ b ∈ fp, FpOk (X.blk s3 H3 scope ce fp) [] H' b := fun {σ' H' s'} I' hn b hb =>
    ⟨hn b hb, (I'.ok.exf b hb).1, I'.ok.exfs b hb, .inl hb, fun x c e => (I'.ok.exf b hb).2 x c e, fun p hp => absurd (show p ∈ ([] : List (Addr × Obj)) ++ [] from hp) (by simp)⟩
  have loop : codeAny (model X.prog X.w) X.A (.compLoop (.SetComp elt [⟨tg, iter, ifs, 0⟩] scope pos) 0 (.ref it) (.ref D) ce) (compPost (model X.prog X.w) X.A X.xe none (EP X pins σ Q) (.ref D) s3.heap.objs.size) s4 := by
    refine compLoopS_any (fun n s' => ∃ i H', Inv (X.blk s3 H3 scope ce fp) [] (wipe σ (own.map (·.2))) H' s' ∧ tn i s'.heap ∧ (∀ b ∈ fp, H' b = none) ∧ W i n H') ?_ m0 ⟨0, H3, I4, st4, nfp, w0⟩
    rintro n s5 ⟨i, H5, I5, st5, n5, w5⟩
    rcases turn i n H5 w5 with ⟨stop, qq⟩ | ⟨go, Nx, hNx, step⟩
    · refine thnF (T.done (X.blk s3 H3 scope ce fp) rfl rfl rfl hc i [] s5 _ H5 (fun _ _ => False) I5 (stat I5 n5) st5 stop) fun r s6 ⟨hr, I6⟩ => ?_
      subst hr
      have I7 : Inv X pins σ H5 s6 := I3.call' (ch := fp) I6.os I6.base I6.hok I6.bare fun b hb => ⟨(f3' b hb).1.2.2.2.1, (f3' b hb).1.2.1, (f3' b hb).1.2.2.2.2.1, (f3' b hb).1.2.2.2.2.2⟩
      have nC : H5 s3.heap.objs.size = none := by
        have z : H5 ce.locals = none := I6.free
        rwa [cL] at z
      obtain ⟨m, hn, _⟩ := I6.loc
      have hn' : s6.heap.Ns ce.locals m := hn
      rw [cL] at hn'
      obtain ⟨z0, z1, _, z3, z4, z5⟩ := I3.fpOk (Nat.le_refl _) nC
      exact ⟨m, hn', fun h'' sb => ⟨.ref D, H5, I7.turned (t' := s6.toks) (fun b o hb e => (sb.2 b hb).trans e) z0 z1 z3 z4 z5, rfl, qq⟩⟩
    · refine thnF (T.item (X.blk s3 H3 scope ce fp) rfl rfl rfl hc i [] s5 _ H5 (fun _ _ => False) I5 (stat I5 n5) st5 go) fun r s6 ⟨u, hr, h6⟩ => ?_
      subst hr
      refine thnF h6 fun _ s7 ⟨x, H7, I7, r7, y7, st7, n7⟩ => ?_
      refine thnF (pg.run _ s7 _ H7 x u _ (I7.pinned (stat I7 n7) (T.obj _ _ st7)) r7 (step x H7 y7)) fun _ s8 ⟨σ8, H8, I8, hw8, q8⟩ => ?_
      refine thnF (pt.run _ s8 σ8 H8 _ I8 q8) fun b s9 ⟨H9, I9, q9⟩ => ?_
      have fin : ∀ {s' : Shared} {H' : Hp}, Inv (X.blk s3 H3 scope ce fp) ([] ++ pinsAt fp s7.heap) σ8 H' s' → Nx H' → ∃ m, m < n ∧ ∃ i H', Inv (X.blk s3 H3 scope ce fp) [] (wipe σ (own.map (·.2))) H' s' ∧ tn i s'.heap ∧ (∀ b ∈ fp, H' b = none) ∧ W i m H' := fun {s' H'} I' nx => by
        obtain ⟨m', hm, w'⟩ := hNx H' nx
        have pin' : ∀ b ∈ fp, ∀ o, s7.heap.get? b = some o → s'.heap.get? b = some o ∧ H' b = none := fun b hb o e =>
          let z := I'.pin (b, o) (List.mem_append_right _ (List.mem_append_right _ (mem_pinsAt hb e)))
          ⟨z.1, z.2.1⟩
        have hl : (wipe σ (own.map (·.2))).length = σ8.length := by rw [← hw8, wipe_length]
        refine ⟨m', hm, i + 1, H', (I'.unpinned (pins := [])).weak hl (fun j v e => ?_), T.keep _ _ _ st7 fun b hb o e => (pin' b hb o e).1, fun b hb => ?_, w'⟩
        · rw [← hw8] at e
          exact (wipe_some e).1
        · obtain ⟨o, e, _⟩ := T.obj _ _ st7 b hb
          exact (pin' b hb o e).2
      cases b with
      | false =>
        simp only [Bool.false_eq_true, if_false] at q9 ⊢
        exact fin I9 q9
      | true =>
        simp only [if_true] at q9 ⊢
        refine thnF (pe.run _ s9 σ8 H9 _ I9 q9) fun z s10 ⟨yv, H10, I10, r10, L, p, ey, hDL, hL, hp, few, nx⟩ => ?_
        subst ey
        obtain rfl : z = Value.ref p.2 := r10
        exact addN_ok (X := X.blk s3 H3 scope ce fp) hu I10 hDL hL hp few fun L' s11 hA I11 => fin I11 (nx L' hA)
  exact codeAny_compStart_set loop (T.self X.A 0 _ _ _ st4 loop)
end

/-! ### sorted of such a set -/
/-- sorted(s): the elements by the order of their ints, all of one shape -/
def rSortSN (P : Program) (w : World) (c : Option Nat) (sh : List (Option Nat)) : List V → Hp → VK → Prop := fun vs H Q => ∃ (a : Addr) (L : List (NestedKey × Addr)) (k : V → List Itm), vs = [V.ref a] ∧ H a = some (SN P w a L) ∧ (∀ e ∈ L, NK H e.1 (.ref e.2) ∧ e.1 = nkK (k (.ref e.2)) ∧ (k (.ref e.2)).map shp = c :: sh) ∧
  ∀ ys p, SrtO.Srtd (ltK k) ys → ys.Perm (L.map fun e => V.ref e.2) → (L.map (·.1)).Nodup → H p = none → Q (.ref p) (upd H p (.lst ys))
section
variable {X : Cx} {c : Option Nat} {sh : List (Option Nat)} {P : Program} {w : World}
theorem cr_sortSN (hc : X.calm = true) (hu : X.A.units + 64 < cLine) (hP : X.prog = P := by rfl) (hw : X.w = w := by rfl) : CallR X (.builtin "sorted") (rSortSN P w c sh) := by
  subst hP hw
  intro pins s σ H vs us Q I r h
  obtain ⟨a, L, k, rfl, ha, hx, q⟩ := h
  obtain ⟨u, rfl, ru⟩ := vals1 r
  obtain rfl : u = Value.ref a := ru
  obtain ⟨es, ep, t, ⟨o, ho, hex, hd⟩, rows, T, nd, _, led, room, few⟩ := (sn_get I ha).ex
  have hu2 : X.A.in1.in1.units + 2 < cLine := by
    have e : X.A.in1.in1.units = X.A.units + 1 + 1 := rfl
    omega
  have hsz := rowsK_size rows
  refine Calls.call_function_entry kind_sorted plain_sorted entry_sorted (args_sorted1 _) ?_
  unfold Builtin.«sorted»
  refine wpAny_bind (m := checkCount "sorted" 1 1 _) (wpAny_pure ?_)
  refine wpAny_bind (collect_set (A := X.A.in1) (I.ok.hd hc) ⟨o, ho, hex.1, hd⟩ (fitsK T rows (by omega)) (by unfold scanBound; omega) T.ris led fun s1 acc hk hz g1 o1 pm => ?_)
  have hes : es.toList.map (·.2) = L.map fun e => Value.ref e.2 := by
    rw [rows]
    unfold rowsK
    rw [List.map_map]
    rfl
  rw [hes] at pm
  have hal : acc.length = L.length := by rw [pm.length_eq, List.length_map]
  have I1 : Inv X pins σ H s1 := I.call' (ch := []) o1 (Un.kept hk) (I.hok.kept hk) (by rw [g1]; exact I.bare) (fun _ z => nomatch z)
  have mem : ∀ v ∈ acc, ∃ e ∈ L, Value.ref e.2 = v := fun v hv => List.mem_map.mp (pm.mem_iff.mp hv)
  have hp : ∀ v ∈ acc, K2Is s1.heap (k (backV v)) v ∧ (k (backV v)).map shp = c :: sh := fun v hv => by
    obtain ⟨e, he, rfl⟩ := mem v hv
    obtain ⟨g1, g2, g3⟩ := hx e he
    rw [g2] at g1
    exact ⟨NK.k2 I1.hok g1, g3⟩
  refine wpAny_bind (wpAny_newList ?_ (by rw [hal, sizeLine_eq]; omega))
  have hoL : (s1.heap.push (seqObj "list" acc.toArray 0)).get? s1.heap.objs.size = some (seqObj "list" acc.toArray 0) := Heap.get?_push_size _ rfl
  refine wpAny_bind (wpAny_holding (wpAny_call_entry slot_list_sort ⟨_, hoL, rfl⟩ entry_list_sort
    (SrtO.list_sort_ord (s := { s1 with heap := s1.heap.push (seqObj "list" acc.toArray 0) }) (ltv := fun v u => lexI (flK (k (backV v))) (flK (k (backV u)))) (swo_lexI fun v => flK (k (backV v))) hoL (by rw [hal, sizeLine_eq]; omega) (fun g0 => ?_) fun out g1' g2 => ⟨_, rfl, ?_⟩) (args_list_sort _)))
  · refine k2_sortable (s := { s1 with heap := s1.heap.push (seqObj "list" acc.toArray 0) }) hu2 (by omega) (fun v hm => ⟨(hp v hm).1.keeps fun b o e _ => Heap.get?_push_of_some _ e, (hp v hm).2⟩) fun o e => ?_
    have e' : some o = some (seqObj "list" acc.toArray 0) := e.symm.trans hoL
    cases e'
    intro cc
    exact absurd (Value.type.inj cc) (by decide)
  · obtain ⟨e', he'⟩ := sortedHeap_at (vs := acc) (out := out.toArray) hoL
    have g3 : ∀ u ∈ out, ∃ a, u = Value.ref a := fun u hu => by
      obtain ⟨e, _, rfl⟩ := mem u (g2.perm.mem_iff.mp hu)
      exact ⟨_, rfl⟩
    have hb : (out.map backV).Perm (L.map fun e => V.ref e.2) := by
      have hm := (g2.perm.trans pm).map backV
      rw [List.map_map] at hm
      exact hm
    refine wpAny_pure ⟨_, rfl, .ref s1.heap.objs.size, upd H s1.heap.objs.size (.lst (out.map backV)), I1.laid (t' := s1.toks) (fun b u e => ?_) (Nat.le_refl _)
      (show ObjOk X.prog X.w _ _ _ (.lst (out.map backV)) from ⟨?_, out, e', vals_back g3, he'⟩), rfl, q _ _ (SrtO.srtd_map g1') hb nd (I1.hok.fresh (Nat.le_refl _))⟩
    · have hlt : b < s1.heap.objs.size := Heap.lt_size e
      rw [sortedHeap_old (Nat.ne_of_lt hlt) (by rw [size_push']; exact Nat.lt_succ_of_lt hlt)]
      exact Heap.get?_push_of_some _ e
    · rw [hb.length_eq, List.length_map, sizeLine_eq]
      omega
end
end Hb

set_option Elab.async false
set_option linter.all false
set_option maxRecDepth 100000
set_option maxHeartbeats 4000000
/-! More steps: zip over tuples, a star in a display, set comprehensions; a comprehension's turns for any body. -/
namespace Hb
open PySem L2 PyProof.Rows
theorem Hs.keep {B H H' : Hp} {L : List (Addr × HO)} (hs : Hs B L H) (e : Same H H') : Hs B L H' := ⟨hs.same.trans e, hs.nd, hs.out, fun x hx => e _ _ (hs.at_ x hx)⟩

/-! ### rules that name K -/
section
variable {X : Cx} {K : PySem.W.Frag}
theorem pi_zipK {e e2 : Expr} {ta : TA} {p pos tpos : Pos} {elts : List Expr} {kk : Nat} (hg : Gl X "zip") (hm : X.mg "zip" = none) (ha : PA X [e, e2] ta) (hK : X.K = K := by rfl)
    (hs : starEach [e, e2] X.env = (false, eval e X.env) :: starEach [e2] X.env := by rfl) (hpl : (backTo pos (starEach [e2] X.env)).any (·.1) = false := by rfl) :
    PI X (.Tuple elts kk tpos) (.Call (.Name "zip" p) [e, e2] [] pos) (RZ.iZipA K ta) := by
  subst hK
  exact RZ.pi_zipA hg hm ha hs hpl
theorem pa_starK {e : Expr} {es : List Expr} {te : TE} {t : TA} {p : Pos} (he : PE X e te) (hr : PA X es t) (hK : X.K = K := by rfl) (hs : starEach (.Starred e p :: es) X.env = (true, eval e X.env) :: starEach es X.env := by rfl) : PA X (.Starred e p :: es) (StX.tStar K te t) := by
  subst hK
  exact StX.pa_star he hr hs
theorem pe_snK {P : Program} {w : World} {elt tg iter : Expr} {ifs : List Expr} {scope : Scope} {own : List (Str × Nat)} {pos : Pos} {wi : TI} {g : TG} {tt : TT} {te : TE} (hc : X.calm = true) (hu : X.A.units + 64 < cLine) (hN : X.N.Nodup) (hi : PI X tg iter wi) (ok : BlkOk X.N X.env.scope scope own)
    (hg : ∀ (s : Shared) (H : Hp) (C : Addr) (cl : List (Str × Addr)) (fp : List Addr), PG (X.blk s H scope (compEnvC scope cl C X.env) fp) tg g) (ht : ∀ (s : Shared) (H : Hp) (C : Addr) (cl : List (Str × Addr)) (fp : List Addr), PTs (X.blk s H scope (compEnvC scope cl C X.env) fp) ifs tt)
    (he : ∀ (s : Shared) (H : Hp) (C : Addr) (cl : List (Str × Addr)) (fp : List Addr), PE (X.blk s H scope (compEnvC scope cl C X.env) fp) elt te) (hP : X.prog = P := by rfl) (hw : X.w = w := by rfl) (hs : ∀ x, foldedSetIterable iter X.env x = pure x := by intro _; rfl) :
    PE X (.SetComp elt [⟨tg, iter, ifs, 0⟩] scope pos) (tSn P w wi g tt te (own.map (·.2))) := by
  subst hP hw
  exact pe_sn hc hu hN hi ok hg ht he hs
theorem cr_sumK (hc : X.calm = true) (hK : X.K = K := by rfl) : CallR X (.builtin "sum") (rSum K) := by
  subst hK
  exact cr_sum hc
theorem cr_sortedIK (hK : X.K = K := by rfl) : CallR X (.builtin "sorted") (rSortedI K) := by
  subst hK
  exact cr_sortedI
end

/-! ### the turns of a comprehension, whatever is done in each -/
section
variable {K : PySem.W.Frag} {a b : Addr} {xs ys : List V} {H0 : Hp} {Qd : Hp → Prop} {Body : (Hp → Prop) → V → Hp → Prop}
/-- what tLc, tSn, tDc ask of an iterator J -/
def Turns (J : It) (Body : (Hp → Prop) → V → Hp → Prop) (H0 : Hp) (Qd : Hp → Prop) : Prop := ∃ W : Nat → Nat → Hp → Prop, (∃ m, W 0 m H0) ∧ ∀ i m H, W i m H →
  (J.stop i H ∧ Qd H) ∨ (J.go i H ∧ ∃ Nx : Hp → Prop, (∀ H', Nx H' → ∃ m', m' < m ∧ W (i + 1) m' H') ∧ ∀ x H', J.yld i H x H' → Body Nx x H')
theorem turns_list (Pv : Nat → Hp → Prop) (h0 : Pv 0 H0) (hl : ∀ i H, i ≤ xs.length → Pv i H → SqL K H a xs) (hs : ∀ i x H, xs[i]? = some x → Pv i H → Body (Pv (i + 1)) x H) (hd : ∀ H, Pv xs.length H → Qd H) : Turns (Itl K a) Body H0 Qd := by
  refine ⟨fun i m H => m = xs.length - i ∧ i ≤ xs.length ∧ Pv i H, ⟨xs.length, by simp, Nat.zero_le _, h0⟩, ?_⟩
  rintro i m H ⟨rfl, hi, p⟩
  have q := hl i H hi p
  by_cases hlt : i < xs.length
  · refine .inr ⟨⟨xs, xs[i], q, by simp [hlt]⟩, Pv (i + 1), fun H' p' => ⟨xs.length - (i + 1), by omega, rfl, hlt, p'⟩, fun x H' y => ?_⟩
    obtain ⟨e, y⟩ := y
    subst e
    exact hs i x _ (y xs q) p
  · have e : i = xs.length := by omega
    subst e
    exact .inl ⟨⟨xs, q, Nat.le_refl _⟩, hd H p⟩
theorem turns_zip (hl : xs.length = ys.length) (Pv : Nat → Hp → Prop) (h0 : Pv 0 H0) (hq : ∀ i H, i ≤ xs.length → Pv i H → H a = some (.tup xs) ∧ H b = some (.tup ys))
    (hs : ∀ i x y T H, xs[i]? = some x → ys[i]? = some y → Pv i H → H T = none → Body (Pv (i + 1)) (.ref T) (upd H T (.tup [x, y]))) (hd : ∀ H, Pv xs.length H → Qd H) : Turns (RZ.ItzT K a b) Body H0 Qd := by
  refine ⟨fun i m H => m = xs.length - i ∧ i ≤ xs.length ∧ Pv i H, ⟨xs.length, by simp, Nat.zero_le _, h0⟩, ?_⟩
  rintro i m H ⟨rfl, hi, p⟩
  obtain ⟨q1, q2⟩ := hq i H hi p
  have qx : SqT K H a xs := SqT.of q1
  have qy : SqT K H b ys := SqT.of q2
  by_cases hlt : i < xs.length
  · have hx : xs[i]? = some xs[i] := List.getElem?_eq_getElem hlt
    have hlt2 : i < ys.length := by omega
    have hy : ys[i]? = some ys[i] := List.getElem?_eq_getElem hlt2
    refine .inr ⟨⟨xs, ys, _, _, qx, qy, hx, hy⟩, Pv (i + 1), fun H' p' => ⟨xs.length - (i + 1), by omega, rfl, hlt, p'⟩, fun v H' y => ?_⟩
    obtain ⟨T, x', y', rfl, hT, rfl, f1, f2⟩ := y
    exact hs i x' y' T H (f1 xs qx) (f2 ys qy) p hT
  · have e : i = xs.length := by omega
    subst e
    exact .inl ⟨⟨xs, ys, qx, qy, Or.inl (Nat.le_refl _)⟩, hd H p⟩
end
section
variable {H0 : Hp} {Qd : Hp → Prop} {Body : (Hp → Prop) → V → Hp → Prop} {d : Addr} {o : Obj} {kvs : List (Key × V)}
theorem turns_vals (Pv : Nat → Hp → Prop) (h0 : Pv 0 H0) (hl : ∀ i H, i ≤ kvs.length → Pv i H → H d = some (.frz o (.dK kvs))) (hs : ∀ i k x H, kvs[i]? = some (k, x) → Pv i H → Body (Pv (i + 1)) x H) (hd : ∀ H, Pv kvs.length H → Qd H) : Turns (Itd d o kvs) Body H0 Qd := by
  refine ⟨fun i m H => m = kvs.length - i ∧ i ≤ kvs.length ∧ Pv i H, ⟨kvs.length, by simp, Nat.zero_le _, h0⟩, ?_⟩
  rintro i m H ⟨rfl, hi, p⟩
  have q := hl i H hi p
  by_cases hlt : i < kvs.length
  · refine .inr ⟨⟨q, hlt⟩, Pv (i + 1), fun H' p' => ⟨kvs.length - (i + 1), by omega, rfl, hlt, p'⟩, fun x H' y => ?_⟩
    obtain ⟨rfl, k, hk⟩ := y
    exact hs i k x _ hk p
  · have e : i = kvs.length := by omega
    subst e
    exact .inl ⟨⟨q, Nat.le_refl _⟩, hd H p⟩
theorem turns_keys (Pv : Nat → Hp → Prop) (h0 : Pv 0 H0) (hl : ∀ i H, i ≤ kvs.length → Pv i H → H d = some (.frz o (.dK kvs))) (hs : ∀ i k x H, kvs[i]? = some (k, x) → Pv i H → Body (Pv (i + 1)) (kV k) H) (hd : ∀ H, Pv kvs.length H → Qd H) : Turns (Itk d o kvs) Body H0 Qd := by
  refine ⟨fun i m H => m = kvs.length - i ∧ i ≤ kvs.length ∧ Pv i H, ⟨kvs.length, by simp, Nat.zero_le _, h0⟩, ?_⟩
  rintro i m H ⟨rfl, hi, p⟩
  have q := hl i H hi p
  by_cases hlt : i < kvs.length
  · refine .inr ⟨⟨q, hlt⟩, Pv (i + 1), fun H' p' => ⟨kvs.length - (i + 1), by omega, rfl, hlt, p'⟩, fun x H' y => ?_⟩
    obtain ⟨rfl, k, v, hk, rfl⟩ := y
    exact hs i k v _ hk p
  · have e : i = kvs.length := by omega
    subst e
    exact .inl ⟨⟨q, Nat.le_refl _⟩, hd H p⟩
end
section
variable {K : PySem.W.Frag} {σ : L2.St} {H : Hp} {Q : VK} {P : Program} {w : World}
/-! ### zip of two tuples -/
def ZipR (K : PySem.W.Frag) (vs : List V) (H1 : Hp) (R : It → Hp → Prop) : Prop := ∃ a b xs ys, vs = [.ref a, .ref b] ∧ ((SqL K H1 a xs ∧ SqL K H1 b ys ∧ R (Itz K a b) H1) ∨ (SqT K H1 a xs ∧ SqT K H1 b ys ∧ R (RZ.ItzT K a b) H1))
def ForR (g : TG) (tb : TS) (D : Ends) (σ : L2.St) (J : It) (H1 : Hp) : Prop := ∃ W : Nat → Nat → L2.St → Hp → Prop, (∃ m, W 0 m σ H1) ∧ ∀ i m σ H, W i m σ H →
  (J.stop i H ∧ D.nx σ H) ∨ (J.go i H ∧ ∃ N : L2.St → Hp → Prop, (∀ σ' H', N σ' H' → ∃ m', m' < m ∧ W (i + 1) m' σ' H') ∧ ∀ x H', J.yld i H x H' → g x σ H' fun σ2 H2 => tb { D with nx := N, ct := N, bk := D.nx } σ2 H2)
theorem w_zipF {ta : TA} {g : TG} {tb : TS} {D : Ends} (q : ta σ H fun vs H1 => ZipR K vs H1 (ForR g tb D σ)) : tFor (RZ.iZipA K ta) g tb D σ H := q
theorem w_zipT {g : TG} {tb : TS} {D : Ends} {a b : Addr} {xs ys : List V} (ha : H a = some (.tup xs)) (hb : H b = some (.tup ys)) (hl : xs.length = ys.length) (Pv : Nat → L2.St → Hp → Prop) (h0 : Pv 0 σ H) (hq : ∀ i σ H, Pv i σ H → H a = some (.tup xs) ∧ H b = some (.tup ys))
    (hs : ∀ (i : Nat) (x y : V) (T : Addr) (σ : L2.St) (H : Hp), xs[i]? = some x → ys[i]? = some y → Pv i σ H → H T = none → g (.ref T) σ (upd H T (.tup [x, y])) fun σ2 H2 => tb { D with nx := Pv (i + 1), ct := Pv (i + 1), bk := D.nx } σ2 H2) (hd : ∀ σ H, Pv xs.length σ H → D.nx σ H) :
    ZipR K [.ref a, .ref b] H (ForR g tb D σ) := ⟨a, b, xs, ys, rfl, .inr ⟨SqT.of ha, SqT.of hb, RZ.for_zipT hl Pv h0 (fun i σ H p => ⟨SqT.of (hq i σ H p).1, SqT.of (hq i σ H p).2⟩) hs hd⟩⟩
/-! ### comprehensions by their turns -/
def LcBody (g : TG) (tt : TT) (te : TE) (vs : List Nat) (σ : L2.St) (D : Addr) (Nx : Hp → Prop) (x : V) (H' : Hp) : Prop := g x (wipe σ vs) H' fun σ2 H2 => wipe σ2 vs = wipe σ vs ∧ tt σ2 H2 fun b H3 =>
    if b = true then te σ2 H3 fun y H4 => ∃ acc, H4 D = some (.lst acc) ∧ acc.length < sizeLine ∧ Nx (upd H4 D (.lst (acc ++ [y]))) else Nx H3
def LcR (g : TG) (tt : TT) (te : TE) (vs : List Nat) (σ : L2.St) (Q : VK) (J : It) (H1 : Hp) : Prop := ∀ D, H1 D = none → Turns J (LcBody g tt te vs σ D) (upd H1 D (.lst [])) fun H => Q (.ref D) H
theorem w_lcZ {ta : TA} {g : TG} {tt : TT} {te : TE} {vs : List Nat} (q : ta σ H fun us H1 => ZipR K us H1 (LcR g tt te vs σ Q)) : tLc (RZ.iZipA K ta) g tt te vs σ H Q := q
theorem w_lcZT {g : TG} {tt : TT} {te : TE} {vs : List Nat} {a b : Addr} {xs ys : List V} (ha : H a = some (.tup xs)) (hb : H b = some (.tup ys)) (hl : xs.length = ys.length) (Pv : Addr → Nat → Hp → Prop) (h0 : ∀ D, H D = none → Pv D 0 (upd H D (.lst [])))
    (hq : ∀ D i H, i ≤ xs.length → Pv D i H → H a = some (.tup xs) ∧ H b = some (.tup ys)) (hs : ∀ D i x y T H, xs[i]? = some x → ys[i]? = some y → Pv D i H → H T = none → LcBody g tt te vs σ D (Pv D (i + 1)) (.ref T) (upd H T (.tup [x, y]))) (hd : ∀ D H, Pv D xs.length H → Q (.ref D) H) :
    ZipR K [.ref a, .ref b] H (LcR g tt te vs σ Q) := ⟨a, b, xs, ys, rfl, .inr ⟨SqT.of ha, SqT.of hb, fun D hD => turns_zip hl (Pv D) (h0 D hD) (hq D) (hs D) (hd D)⟩⟩
def SnBody (P : Program) (w : World) (g : TG) (tt : TT) (te : TE) (vs : List Nat) (σ : L2.St) (D : Addr) (Nx : Hp → Prop) (x : V) (H' : Hp) : Prop := g x (wipe σ vs) H' fun σ2 H2 => wipe σ2 vs = wipe σ vs ∧ tt σ2 H2 fun b H3 =>
    if b = true then te σ2 H3 fun y H4 => ∃ (L : List (NestedKey × Addr)) (p : NestedKey × Addr), y = .ref p.2 ∧ H4 D = some (SN P w D L) ∧ (∀ e ∈ L, ElN H4 e) ∧ ElN H4 p ∧ L.length + 1 < 64 ∧ ∀ L', AddN L p L' → Nx (upd H4 D (SN P w D L')) else Nx H3
def SnR (P : Program) (w : World) (g : TG) (tt : TT) (te : TE) (vs : List Nat) (σ : L2.St) (Q : VK) (J : It) (H1 : Hp) : Prop := ∀ D, H1 D = none → Turns J (SnBody P w g tt te vs σ D) (upd H1 D (SN P w D [])) fun H => Q (.ref D) H
def ListR (K : PySem.W.Frag) (x : V) (H1 : Hp) (R : It → Hp → Prop) : Prop := ∃ a, x = .ref a ∧ (∃ xs, SqL K H1 a xs) ∧ R (Itl K a) H1
theorem w_snL {tl : TE} {g : TG} {tt : TT} {te : TE} {vs : List Nat} (q : tl σ H fun x H1 => ListR K x H1 (SnR P w g tt te vs σ Q)) : tSn P w (iList K tl) g tt te vs σ H Q := q
theorem w_listR {a : Addr} {xs : List V} {R : It → Hp → Prop} (h : SqL K H a xs) (q : R (Itl K a) H) : ListR K (.ref a) H R := ⟨a, rfl, ⟨xs, h⟩, q⟩
theorem w_star {te : TE} {t : TA} {Q : List V → Hp → Prop} (q : te σ H fun x H1 => ∃ p xs, x = V.ref p ∧ (SqT K H1 p xs ∨ SqL K H1 p xs) ∧ t σ H1 fun ys H2 => Q (xs ++ ys) H2) : StX.tStar K te t σ H Q := q
/-! ### dicts: values, keys, locked; get, pop, setdefault with a default -/
def ValR (x : V) (H1 : Hp) (R : It → Hp → Prop) : Prop := ∃ d o kvs, x = .ref d ∧ H1 d = some (.frz o (.dK kvs)) ∧ R (Itd d o kvs) H1
theorem w_lcV {td : TE} {g : TG} {tt : TT} {te : TE} {vs : List Nat} (q : td σ H fun x H1 => ValR x H1 (LcR g tt te vs σ Q)) : tLc (iVals td) g tt te vs σ H Q := q
theorem w_valR {d : Addr} {o : Obj} {kvs : List (Key × V)} {R : It → Hp → Prop} (h : H d = some (.frz o (.dK kvs))) (q : R (Itd d o kvs) H) : ValR (.ref d) H R := ⟨d, o, kvs, rfl, h, q⟩
def KeyR (x : V) (H1 : Hp) (R : It → Hp → Prop) : Prop := ∃ d o, x = .ref d ∧ ((∃ kvs, H1 d = some (.frz o (.dK kvs)) ∧ R (Itk d o kvs) H1) ∨ ∃ kvs, H1 d = some (.frz o (.dT kvs)) ∧ R (Itkt d o kvs) H1)
theorem w_lcK {td : TE} {g : TG} {tt : TT} {te : TE} {vs : List Nat} (q : td σ H fun x H1 => KeyR x H1 (LcR g tt te vs σ Q)) : tLc (iKeys td) g tt te vs σ H Q := q
theorem w_keyR {d : Addr} {o : Obj} {kvs : List (Key × V)} {R : It → Hp → Prop} (h : H d = some (.frz o (.dK kvs))) (q : R (Itk d o kvs) H) : KeyR (.ref d) H R := ⟨d, o, rfl, .inl ⟨kvs, h, q⟩⟩
def DcBody (g : TG) (tt : TT) (tk tv : TE) (vs : List Nat) (σ : L2.St) (D : Addr) (Nx : Hp → Prop) (x : V) (H' : Hp) : Prop := g x (wipe σ vs) H' fun σ2 H2 => wipe σ2 vs = wipe σ vs ∧ tt σ2 H2 fun b H3 =>
    if b = true then tk σ2 H3 fun y H4 => tv σ2 H4 fun z H5 => ∃ kvs k, y = kV k ∧ H5 D = some (.dK kvs) ∧ kvs.length < sizeLine ∧ Nx (upd H5 D (.dK (putK kvs k z))) else Nx H3
def DcR (g : TG) (tt : TT) (tk tv : TE) (vs : List Nat) (σ : L2.St) (Q : VK) (J : It) (H1 : Hp) : Prop := ∀ D, H1 D = none → Turns J (DcBody g tt tk tv vs σ D) (upd H1 D (.dK [])) fun H => Q (.ref D) H
theorem w_dcK {td : TE} {g : TG} {tt : TT} {tk tv : TE} {vs : List Nat} (q : td σ H fun x H1 => KeyR x H1 (DcR g tt tk tv vs σ Q)) : tDc (iKeys td) g tt tk tv vs σ H Q := q
theorem w_lockE {B : Hp} {L : List (Addr × HO)} {L' : Obj → List (Addr × HO)} {d : Addr} {kvs : List (Key × V)} {t : TE} (hs : Hs B L H) (h : ∀ od, Put L d (.dK kvs) (.frz od (.dK kvs)) (L' od)) (q : ∀ od H', Hs B (L' od) H' → t σ H' fun v H2 => H2 d = some (.frz od (.dK kvs)) ∧ Q v (upd H2 d (.dK kvs))) : tLockE t σ H Q :=
  ⟨d, .dK kvs, hs.gets (h default), True.intro, fun od => q od _ (hs.puts (h od))⟩
def RDg2 (a : Addr) (y z : V) (H : Hp) (Q : VK) : Prop := ∃ o, DGet H a y o ∧ Q (o.getD z) H
theorem w_dget2 {td ty tx : TE} (q : td σ H fun x H1 => RPopA x H1 fun a => ty σ H1 fun y H2 => tx σ H2 fun z H3 => RDg2 a y z H3 Q) : tDGet2 td ty tx σ H Q := q
theorem w_dg2 {p : Addr} {kvs : List (Key × V)} {n : Int} {z : V} (h : H p = some (.dK kvs)) (q : Q ((valV kvs (Sum.inl n)).getD z) H) : RDg2 p (.int n) z H Q := ⟨_, DGet.k (k := Sum.inl n) h, q⟩
def RPop2 (a : Addr) (y z : V) (H : Hp) (Q : VK) : Prop := ∃ kvs k, H a = some (.dK kvs) ∧ y = kV k ∧ (∀ v, valV kvs k = some v → Q v (upd H a (.dK (dropK kvs k)))) ∧ (valV kvs k = none → Q z H)
theorem w_dpop2 {td ty tx : TE} (q : td σ H fun x H1 => RPopA x H1 fun a => ty σ H1 fun y H2 => tx σ H2 fun z H3 => RPop2 a y z H3 Q) : tDPop2 td ty tx σ H Q := q
theorem w_pop2 {B : Hp} {L L' : List (Addr × HO)} {p : Addr} {kvs : List (Key × V)} {n : Int} {z : V} (hs : Hs B L H) (h : Put L p (.dK kvs) (.dK (dropK kvs (Sum.inl n))) L') (q1 : ∀ v H', valV kvs (Sum.inl n) = some v → Hs B L' H' → Q v H') (q2 : valV kvs (Sum.inl n) = none → Q z H) : RPop2 p (.int n) z H Q :=
  ⟨kvs, Sum.inl n, hs.gets h, rfl, fun v e => q1 v _ e (hs.puts h), q2⟩
def RSetd (a : Addr) (y z : V) (H : Hp) (Q : VK) : Prop := ∃ (kvs : List (Key × V)) (k : Key), H a = some (.dK kvs) ∧ y = kV k ∧ kvs.length < sizeLine ∧ (∀ v, valV kvs k = some v → Q v H) ∧ (valV kvs k = none → Q z (upd H a (.dK (putK kvs k z))))
theorem w_dsetd {td ty tx : TE} (q : td σ H fun x H1 => RPopA x H1 fun a => ty σ H1 fun y H2 => tx σ H2 fun z H3 => RSetd a y z H3 Q) : tDSetd td ty tx σ H Q := q
/-! ### a range whose end is reckoned -/
def RngR (us : List V) (H1 : Hp) (R : It → Hp → Prop) : Prop := ∃ j : Int, us = [.int j] ∧ -(2 ^ 62) ≤ j ∧ j < 2 ^ 62 ∧ R (Itr 0 j.toNat) H1
theorem w_lcG {ta : TA} {g : TG} {tt : TT} {te : TE} {vs : List Nat} (q : ta σ H fun us H1 => RngR us H1 (LcR g tt te vs σ Q)) : tLc (iRng1 ta) g tt te vs σ H Q := q
theorem turns_range {H0 : Hp} {Qd : Hp → Prop} {Body : (Hp → Prop) → V → Hp → Prop} {n : Nat} (Pv : Nat → Hp → Prop) (h0 : Pv 0 H0) (hs : ∀ i H, i < n → Pv i H → Body (Pv (i + 1)) (.int (i : Int)) H) (hd : ∀ H, Pv n H → Qd H) : Turns (Itr 0 n) Body H0 Qd := by
  refine ⟨fun i m H => m = n - i ∧ i ≤ n ∧ Pv i H, ⟨n, by simp, Nat.zero_le _, h0⟩, ?_⟩
  rintro i m H ⟨rfl, hi, p⟩
  by_cases hlt : i < n
  · refine .inr ⟨hlt, Pv (i + 1), fun H' p' => ⟨n - (i + 1), by omega, rfl, hlt, p'⟩, fun x H' y => ?_⟩
    obtain ⟨rfl, rfl⟩ := y
    rw [show (0 : Int) + (i : Int) = (i : Int) from Int.zero_add _]
    exact hs i _ hlt p
  · have e : i = n := by omega
    subst e
    exact .inl ⟨Nat.le_refl _, hd H p⟩
theorem w_rngR {n : Int} {R : It → Hp → Prop} (h0 : 0 ≤ n) (h1 : n < 1000000) (q : R (Itr 0 n.toNat) H) : RngR [.int n] H R := ⟨n, rfl, by omega, by omega, q⟩
end
end Hb

set_option Elab.async false
set_option linter.all false
set_option maxRecDepth 100000
set_option maxHeartbeats 4000000
/-! repr of data, in a law's own body: there no display is under way, which the promise of a def does not tell; so the law's def is run where it is called. -/
namespace Hb
open PySem PySem.Spec L2 PyProof.Rows
/-- data whose text is short -/
structure Shows (d : PyData) : Prop where
  lay : d.canLay0 = true
  dep : d.depth ≤ 40
  sho : d.showable = true
  blk : d.bulk ≤ 2 ^ 20
  lvs : d.leavesShort 13 = true
def rReprD (K : PySem.W.Frag) : List V → Hp → VK → Prop := fun xs H Q => ∃ (p : Addr) (d : PyData), xs = [.ref p] ∧ Dp K H (.ref p) d ∧ Shows d ∧ Q (.str d.shown) H
theorem call_reprD {X : Cx} (hg : X.A.guards = some []) (hu : X.A.units + 64 < cLine) : CallR X (.builtin "repr") (rReprD X.K) := by
  rintro pins s σ H xs us Q I r ⟨p, d, rfl, hd, hs, q⟩
  rw [Vals.ref1 r]
  obtain ⟨as, rd⟩ := Dp.reads I d (.ref p) (.ref p) hd rfl
  have hdep := hs.dep
  refine repr_of_reads' rd hs.sho (PyData.noDict_hsm (PyData.hasDict_of_canLay d hs.lay)) hg (by omega) (fun _ _ e => e) (fun h' u tk hk => ?_) (PyData.shown_fits_bulk (B := 13) (by decide) (by decide) hs.lvs hs.blk)
  exact ⟨.str d.shown, H, I.kept (t' := tk) hk, ⟨_, rfl⟩, q⟩
theorem call_reprDK {X : Cx} {K : PySem.W.Frag} (hg : X.A.guards = some [] := by rfl) (hu : X.A.units + 64 < cLine := by assumption) (hK : X.K = K := by rfl) : CallR X (.builtin "repr") (rReprD K) := by
  subst hK
  exact call_reprD hg hu
theorem w_reprD {K : PySem.W.Frag} {H : Hp} {Q : VK} {p : Addr} {d : PyData} (h : Dp K H (.ref p) d) (hs : Shows d) (q : Q (.str d.shown) H) : rReprD K [.ref p] H Q := ⟨p, d, rfl, h, hs, q⟩

/-! ### a law's def, run where it is called -/
/-- the promise of the law's def at the call itself -/
def LawRun (P : Program) (w : World) (K : PySem.W.Frag) (mg : Str → Option Value) (base : Heap) (k : Nat)
    (f : Addr) (fd : FuncData) (ps : List Str) (sp : Sp) : Prop :=
  ∀ (s : Shared) (H : Hp) (args : Args) (us : List Value)
    (vs : List V) (Q : VK) (E : XK), Room k callerA →
    Env0 P w K mg base callerA [] s H → BindsTo s fd args (ps.zip us) →
    Vals vs us → sp vs H Q E →
    codeAny (model P w) callerA (.call (.ref f) args)
      (CR CX0 [] P w H s Q E) s
section
variable {P : Program} {w : World} {K : PySem.W.Frag} {mg : Str → Option Value} {base : Heap}
theorem law_run {x qual : Str} {st : Stmt} {f : Addr} {fd : FuncData} {N ps : List Str} {k : Nat} {sp : Sp}
    (F : Fun K x qual st f fd) (S : FnScope N ps (defScope st))
    (len : ∀ vs H Q E, sp vs H Q E → vs.length = ps.length)
    (hbody : ∀ (cdv : Value) (s : Shared) (H : Hp) (vs : List V) (Q : VK) (E : XK),
      Room k (callerA.deeper (envOfC qual (defScope st) s.heap.objs.size f cdv)) → sp vs H Q E →
      ∃ t, PSs (cxOf CX0 P w K mg base N qual (defScope st) f cdv callerA [] s H E).nox (defBody st) t ∧
        t { nx := fun _ H' => Q .non H', rt := Q } (start N vs) H) :
    LawRun P w K mg base (k + 1) f fd ps sp := by
  intro s H args us vs Q E hr en hb rv hsp
  obtain ⟨oc, od, kV, doc, pm, an, cdv, ct, osl, rfl, lk, hcd⟩ := F.ex
  have hlen := len vs H Q E hsp
  have hold : ∀ b o, base.get? b = some o → s.heap.get? b = some o := fun b o e => (en.bs b o e).1
  have kin : K.In s.heap := en.mod.kin.keeps hold
  have nolim : s.heap.NoLimit := en.mod.nolimit.keeps hold
  refine codeAny_call_function hr.depth (kin _ _ lk) rfl S.co S.gen rfl (PySem.W.codeRec_of kin hcd) (hb _ _ _ _ ?_)
  refine wpAny_newFunctionEnv_cells S.kind ?_ ?_
  · rintro ⟨n, v⟩ hy
    cases S.par n (List.of_mem_zip hy).1 with
    | inl q => exact Or.inl q
    | inr q => exact Or.inr ⟨q, PySem.W.cellsFrom_some _ _ _ (Or.inl q)⟩
  · intro env he s1 hx
    subst he
    obtain ⟨t, ht, hq⟩ := hbody cdv s H vs Q E (hr.deeper _) hsp
    have i0 := inv_start (CX := CX0) (E := E) S hr.hd en hlen rv hx
    refine ⟨nolim.keeps hx.toInCall.keep, codeAny_func ?_⟩
    refine wpAny_mono (ht.nox.run [] s1 (start N vs) H _ i0 hq) ?_ (fun _ _ q => q)
    intro fl s' hs
    cases fl with
    | ret u =>
      obtain ⟨v, σ', H', j, r1, q1⟩ := hs
      exact ⟨v, H', j.os, j.bare, j.base, j.hok, r1, q1⟩
    | next =>
      obtain ⟨σ', H', j, q1⟩ := hs
      exact ⟨.non, H', j.os, j.bare, j.base, j.hok, rfl, q1⟩
    | brk => exact (hs.choose_spec.choose_spec.2 : False).elim
    | cont => exact (hs.choose_spec.choose_spec.2 : False).elim
end

section
variable {P : Program} {w : World} {K : PySem.W.Frag} {mg mb : Str → Option Value} {k : Nat} {fa a : Addr} {fd : FuncData} {x : Str} {sp : Sp}
/-- what a law's call must show -/
def LawEnd (s₁ : Shared) (r : Result) (s' : Shared) : Prop :=
  r = .ok (.ret (.bool true)) ∧ OldK s₁.heap s'.heap ∧ s'.os = s₁.os ∧ AllBare s'.gens
/-- an abstract heap that tells at most the script, as the machine has it -/
structure Lone (P : Program) (w : World) (K : PySem.W.Frag) (a : Addr) (H : Hp) (h : Heap) : Prop where
  only : Only H
  ok : HOk P w H h
  at_ : ∀ b, H b ≠ none → b = a
  off : H a ≠ none → K.lookup a = none
theorem Lone.free {H : Hp} {s : Shared} {vs : List Value} (L : Lone P w K a H s.heap)
    (ha : s.heap.get? a = some { cls := .type "list", data := .seq vs.toArray })
    {b : Addr} {o : Obj} {es : Array DictEntry} {n : Nat}
    (e : s.heap.get? b = some o) (d : o.data = .dict es n) : H b = none := by
  apply Classical.byContradiction
  intro z
  have q := L.at_ b z
  rw [q, ha] at e
  rw [← Option.some.inj e] at d
  cases d
theorem lone_call {H : Hp} {s : Shared} {vs : List Value} {ns : List Int}
    (L : Lone P w K a H s.heap) (hin : K.In s.heap) (hm : s.heap.Ns mainGlobals mg)
    (hbn : s.heap.Ns builtinsNs mb) (hbv : ∀ y : Str, y ≠ "__name__" → mb y = bootBuiltins y)
    (hno : s.heap.NoLimit) (hgen : s.gens = #[])
    (ha : s.heap.get? a = some { cls := .type "list", data := .seq vs.toArray })
    (hS : SqL K H a (ns.map V.int)) (hr : Room k callerA)
    (F : ∀ base : Heap, K.In base → base.Ns mainGlobals mg → LawRun P w K mg base k fa fd [x] sp)
    (hbind : ∀ (s : Shared) (u : Value), BindsTo s fd ⟨[u], []⟩ [(x, u)])
    (hsp : sp [.ref a] H (fun v _ => v = .bl true) fun _ _ _ => False) :
    codeAny (model P w) callerA (.call (.ref fa) ⟨[.ref a], []⟩) (LawEnd s) s := by
  have keepNs : ∀ {b : Addr} {m : Str → Option Value}, s.heap.Ns b m → (hidT s.heap H).Ns b m := by
    rintro b m ⟨o, es, n, e, d, rest⟩
    exact ⟨o, es, n, hidT_get e (L.free ha e d), d, rest⟩
  have keepK : K.In (hidT s.heap H) := by
    intro b o e
    refine hidT_get (hin b o e) ?_
    apply Classical.byContradiction
    intro z
    have q := L.at_ b z
    rw [q] at e z
    exact absurd ((L.off z).symm.trans e) (by simp)
  have mod : Mod K mg (hidT s.heap H) := by
    obtain ⟨mc, c1, c2⟩ := hno
    exact ⟨keepK, keepNs hm, ⟨mb, keepNs hbn, hbv⟩, mc, keepNs c1, c2⟩
  have none_in : ∀ b : Addr, b ∉ frs ([] : List Env) := fun b z => by
    have z2 : b ∈ ([] : List Addr) := z
    cases z2
  have en : Env0 P w K mg (hidT s.heap H) callerA [] s H := {
    frames := rfl
    mod := mod
    bs := fun b o e => of_hidT e
    bsz := Nat.le_of_eq (hidT_size _ _)
    funs := trivial
    frf := fun b z => (none_in b z).elim
    hok := L.ok
    bare := .of_eq hgen }
  have run := F _ keepK (keepNs hm) s H ⟨[.ref a], []⟩ [.ref a] [.ref a] _ _ hr en
    (hbind s (.ref a)) (.cons rfl .nil) hsp
  refine codeAny_mono run ?_
  intro r s' done
  match r, done with
  | .ok (.ret u), done =>
    obtain ⟨v, H', os, bare, un, ok', rel, hv⟩ := done
    have hv' : v = .bl true := hv
    rw [hv'] at rel
    have hu : u = Value.bool true := rel
    refine ⟨by rw [hu], OldK.of_keep ?_, os, bare⟩
    intro b o e
    rcases L.only b with z | ⟨ob, xs, z⟩
    · exact un.keep b o e z (none_in b) List.not_mem_nil
    · have e1 := (L.ok b _ z).1
      have e2 := (ok' b _ (un.frzs b ob _ z)).1
      rw [e1] at e
      rw [← e]
      exact e2
  | .error e, done => exact (show False from done).elim
  | .ok .next, done => exact (show False from done).elim
  | .ok .brk, done => exact (show False from done).elim
  | .ok .cont, done => exact (show False from done).elim
theorem law_at_call {s : Shared} {vs : List Value} {ns : List Int}
    (hin : K.In s.heap) (hm : s.heap.Ns mainGlobals mg) (hbn : s.heap.Ns builtinsNs mb)
    (hbv : ∀ y : Str, y ≠ "__name__" → mb y = bootBuiltins y) (hno : s.heap.NoLimit) (hgen : s.gens = #[])
    (ha : s.heap.get? a = some { cls := .type "list", data := .seq vs.toArray })
    (hi : IntsAre vs ns) (hl : ns.length ≤ sizeLine) (hr : Room k callerA)
    (F : ∀ base : Heap, K.In base → base.Ns mainGlobals mg → LawRun P w K mg base k fa fd [x] sp)
    (hbind : ∀ (s : Shared) (u : Value), BindsTo s fd ⟨[u], []⟩ [(x, u)])
    (hsp : ∀ H : Hp, Only H → SqL K H a (ns.map V.int) → sp [.ref a] H (fun v _ => v = .bl true) fun _ _ _ => False) :
    codeAny (model P w) callerA (.call (.ref fa) ⟨[.ref a], []⟩) (LawEnd s) s := by
  have rv := vals_ints hi
  cases hk : K.lookup a with
  | some o =>
    have e := hin a o hk
    rw [ha] at e
    have eo := Option.some.inj e
    subst eo
    have L : Lone P w K a (fun _ => none) s.heap :=
      ⟨fun _ => Or.inl rfl, fun _ u z => absurd (show none = some u from z) (by simp), fun _ z => (z rfl).elim, fun z => (z rfl).elim⟩
    have hS : SqL K (fun _ => none) a (ns.map V.int) :=
      Or.inr ⟨_, vs.toArray, _, hk, rfl, rfl, rfl, by rw [List.size_toArray, hi.length]; exact hl, by simpa using rv⟩
    exact lone_call L hin hm hbn hbv hno hgen ha hS hr F hbind (hsp _ L.only hS)
  | none =>
    let fz : HO := .frz { cls := .type "list", data := .seq vs.toArray } (.lst (ns.map V.int))
    have self : upd (fun _ => none) a fz a = some fz := upd_same
    have others : ∀ b, b ≠ a → upd (fun _ => none) a fz b = none := fun b n => upd_ne n
    have L : Lone P w K a (upd (fun _ => none) a fz) s.heap := by
      refine ⟨fun b => ?_, fun b u z => ?_, fun b z => ?_, fun _ => hk⟩
      · by_cases q : b = a
        · rw [q]
          exact Or.inr ⟨_, _, self⟩
        · exact Or.inl (others b q)
      · by_cases q : b = a
        · rw [q] at z ⊢
          have z2 := Option.some.inj (self.symm.trans z)
          subst z2
          exact ⟨ha, by rw [List.length_map]; exact hl, vs, _, rv, ha⟩
        · exact absurd ((others b q).symm.trans z) (by simp)
      · exact Classical.byContradiction fun q => z (others b q)
    have hS : SqL K (upd (fun _ => none) a fz) a (ns.map V.int) := Or.inl (Or.inr ⟨_, self⟩)
    exact lone_call L hin hm hbn hbv hno hgen ha hS hr F hbind (hsp _ L.only hS)
end
/-- the end of a law row from the law's run -/
theorem walk_run {l : PySem.W.OpenLaw} {n k : Nat} {q : Program} {loose : List Str} {XP : (Str → Option Value) → Heap → Prop}
    {YP : World → Heap → Prop} {d : DefRec} {K : Params → PySem.W.Frag} {sp : World → Sp} {x : Str}
    (hn : l.most = some n) (hn2 : n ≤ sizeLine) (hdf : d.params.defaults = []) (hr : Room k callerA)
    (hY : ∀ (w : World) (h : Heap), YP w h → (K w.params).In h)
    (F : ∀ (w : World) (mg : Str → Option Value) (fa : Addr) (h : Heap),
      (K w.params).In h → h.Ns mainGlobals mg → mg d.name = some (.ref fa) →
      ∃ fd : FuncData, (∀ (s : Shared) (u : Value), BindsTo s fd ⟨[u], []⟩ [(x, u)]) ∧
        ∀ base : Heap, (K w.params).In base → base.Ns mainGlobals mg →
          LawRun l.prog w (K w.params) mg base k fa fd [x] (sp w))
    (hsp : ∀ (w : World) (H : Hp) (a : Addr) (ns : List Int), ns.length ≤ n → Only H →
      SqL (K w.params) H a (ns.map V.int) → sp w [.ref a] H (fun v _ => v = .bl true) fun _ _ _ => False) :
    PySem.W.WalkO q loose XP YP l.row.toRowW d [] (fun f vs => PySem.call f vs) := by
  refine Att.attach_call hn hdf ?_
  intro w s₀ s₁ mg mb fa o pm cd doc a vs ns G Y _ _ _ hmg hobj hints hlen hgen
  have hin := hY w _ Y
  obtain ⟨fd, hb, hF⟩ := F w mg fa _ hin G.T.g hmg
  exact law_at_call hin G.T.g G.T.b G.T.builtins G.T.nolimit hgen hobj hints
    (Nat.le_trans hlen hn2) hr hF hb fun H hO hS => hsp w H a ns hlen hO hS
end Hb

set_option Elab.async false
set_option linter.all false
set_option maxRecDepth 100000
set_option maxHeartbeats 4000000
/-! More of dicts with nested tuple keys: get with and without a default, list(d); tuples joined, whatever they are; truth of lists of bools. -/
namespace Hb
open PySem L2 PyProof.Rows
section
variable {X : Cx} {w : World} {o e f : Expr} {apos cpos : Pos} {td ty tx : TE}
def rNG (w : World) (x y z : V) (H : Hp) (Q : VK) : Prop := ∃ a b es k, AtN w H x y a b es k ∧ Q ((atN es k).getD z) H
def tNGet1 (w : World) (td ty : TE) : TE := fun σ H Q => td σ H fun x H1 => (∃ a es, x = .ref a ∧ H1 a = some (DN w a es)) ∧ ty σ H1 fun y H2 => rNG w x y .non H2 Q
def tNGet2 (w : World) (td ty tx : TE) : TE := fun σ H Q => td σ H fun x H1 => (∃ a es, x = .ref a ∧ H1 a = some (DN w a es)) ∧ ty σ H1 fun y H2 => tx σ H2 fun z H3 => rNG w x y z H3 Q
theorem pe_nget1 (hu : X.A.units + 64 < cLine) (ho : PE X o td) (he : PE X e ty) (m : M1 X o "get" apos e cpos) (hw : X.w = w := by rfl) : PE X (.Call (.Attribute o "get" apos) [e] [] cpos) (tNGet1 w td ty) := by
  refine ⟨fun pins s σ H Q I h => ?_⟩
  refine wpAny_Call_method m.base m.few m.line PySem.F.plainAttrs_dict PySem.F.slot_dict_get PySem.F.type_dict_get (thn (ho.run pins s σ H _ I h) ?_)
  rintro u s1 ⟨x, H1, I1, rx, ⟨a0, es0, rfl, ea⟩, q1⟩
  obtain rfl : u = Value.ref a0 := rx
  subst hw
  obtain ⟨t1, t2⟩ := dn_type I1 ea
  have hd0 : (a0 == sysModules) = false := (show ObjOk X.prog X.w H1 s1.heap a0 (DN X.w a0 es0) from I1.hok _ _ ea).1.2.1
  refine ⟨t1, t2, ?_⟩
  rw [m.trees]
  refine wpAny_dict_get1_heap (knd := nestedKind X.prog X.w) (n_room hu) hd0 (thn (he.run pins s1 σ H1 _ I1 q1) ?_)
  rintro iv s2 ⟨y, H2, I2, ry, a, b, es, k, g, q2⟩
  obtain ⟨z, hd, xs, rr, dd, hk⟩ := g.dn I2 rfl
  cases g.ex
  cases g.ey
  refine ⟨b, k, xs, ry, hk, dd, ?_⟩
  exact ⟨_, H2, I2.tok _, (rr.at k).getD (show RelV .non .none from rfl), q2⟩
theorem pe_nget2 (hu : X.A.units + 64 < cLine) (ho : PE X o td) (he : PE X e ty) (hf : PE X f tx) (m : M2 X o "get" apos e f cpos) (hw : X.w = w := by rfl) : PE X (.Call (.Attribute o "get" apos) [e, f] [] cpos) (tNGet2 w td ty tx) := by
  refine ⟨fun pins s σ H Q I h => ?_⟩
  refine wpAny_Call_method m.base m.few m.line PySem.F.plainAttrs_dict PySem.F.slot_dict_get PySem.F.type_dict_get (thn (ho.run pins s σ H _ I h) ?_)
  rintro u s1 ⟨x, H1, I1, rx, ⟨a0, es0, rfl, ea⟩, q1⟩
  obtain rfl : u = Value.ref a0 := rx
  subst hw
  obtain ⟨t1, t2⟩ := dn_type I1 ea
  have hd0 : (a0 == sysModules) = false := (show ObjOk X.prog X.w H1 s1.heap a0 (DN X.w a0 es0) from I1.hok _ _ ea).1.2.1
  refine ⟨t1, t2, ?_⟩
  rw [m.trees]
  refine wpAny_dict_get2_heap (knd := nestedKind X.prog X.w) (n_room hu) hd0 (thn (he.run pins s1 σ H1 _ I1 q1) ?_)
  rintro iv s2 ⟨y, H2, I2, ry, q2⟩
  refine thn (hf.run pins s2 σ H2 _ I2 q2) ?_
  rintro fv s3 ⟨z0, H3, I3, rz, a, b, es, k, g, q3⟩
  obtain ⟨z, hd, xs, rr, dd, hk⟩ := g.dn I3 rfl
  cases g.ex
  cases g.ey
  refine ⟨b, k, xs, ry, hk, dd, ?_⟩
  exact ⟨_, H3, I3.tok _, (rr.at k).getD rz, q3⟩
/-- list(d) -/
def rListN (w : World) : List V → Hp → VK → Prop := fun xs H Q => ∃ (p : Addr) (es : List Ent), xs = [.ref p] ∧ H p = some (DN w p es) ∧ ∀ q, H q = none → Q (.ref q) (upd H q (.lst (es.map fun e => V.ref e.2.1)))
theorem call_listN (hc : X.calm = true) (hw : X.w = w := by rfl) : CallR X (.type "list") (rListN w) := by
  subst hw
  rintro pins s σ H xs us Q I r ⟨p, es, rfl, hp, q⟩
  rw [Vals.ref1 r]
  obtain ⟨⟨z, lo, vs, rel, ob, ds, ep, h1, h2, h3, h4, h5⟩, _, _⟩ := (show ObjOk X.prog X.w H s.heap p (DN X.w p es) from I.hok _ _ hp)
  have hsz : ds.size = es.length := by
    rw [← Array.length_toList, h4, List.length_map, rel.len]
  refine PySem.W.kdl_call (kdl_raw lo h2 h3) (I.ok.hd hc) h1 (by rw [hsz]; exact z) fun h' tk acc c hk hS hacc => ?_
  have hac : acc.toList = es.map fun e => Value.ref e.2.1 := by
    refine List.ext_getElem? fun j => ?_
    rw [List.getElem?_map]
    cases e1 : acc.toList[j]? with
    | none =>
      have g1 := List.getElem?_eq_none_iff.mp e1
      rw [Array.length_toList, hacc.1, hsz] at g1
      rw [List.getElem?_eq_none g1]
      rfl
    | some v =>
      obtain ⟨en, g1, g2⟩ := hacc.2 j v (by rw [← Array.getElem?_toList]; exact e1)
      rw [← Array.getElem?_toList, h4, List.getElem?_map] at g1
      obtain ⟨x, g3, g4⟩ := Option.map_eq_some_iff.mp g1
      have g5 := congrArg (fun l => l[j]?) rel.addrs
      simp only [List.getElem?_map, g3] at g5
      rw [g2, ← g4]
      cases e2 : es[j]? with
      | none =>
        rw [e2] at g5
        simp at g5
      | some y =>
        rw [e2] at g5
        simp only [Option.map_some, Option.some.injEq, Value.ref.injEq] at g5
        simp only [Option.map_some, entN, g5]
  have vals : ∀ l : List Ent, Vals (l.map fun e => V.ref e.2.1) (l.map fun e => Value.ref e.2.1) := fun l => by
    induction l with
    | nil => exact .nil
    | cons e l ih => exact .cons rfl ih
  refine ⟨.ref s.heap.objs.size, upd H s.heap.objs.size (.lst (es.map fun e => V.ref e.2.1)), I.laid hk (Nat.le_refl _) (show ObjOk X.prog X.w _ _ _ (.lst (es.map fun e => V.ref e.2.1)) from ⟨by rw [List.length_map]; exact z, acc.toList, c, ?_, hS⟩), rfl, q _ (I.hok.fresh (Nat.le_refl _))⟩
  rw [hac]
  exact vals es
theorem op_catAK {K : PySem.W.Frag} (hK : X.K = K := by rfl) : OpR X (binaryOp .Add) (rCatA K) := by
  subst hK
  exact op_catA
theorem sl_tupAK {K : PySem.W.Frag} (hK : X.K = K := by rfl) : SlR X (rSlA K) := by
  subst hK
  exact sl_tupA
theorem ix_kdictK {K : PySem.W.Frag} (hK : X.K = K := by rfl) (hw : X.w = w := by rfl) : IxR X (rIxD K w) := by
  subst hK hw
  exact ix_kdict
theorem cr_allK {K : PySem.W.Frag} (hc : X.calm = true) (hK : X.K = K := by rfl) : CallR X (.builtin "all") (rAll K) := by
  subst hK
  exact cr_all hc
theorem cr_anyK {K : PySem.W.Frag} (hc : X.calm = true) (hK : X.K = K := by rfl) : CallR X (.builtin "any") (rAny K) := by
  subst hK
  exact cr_any hc
theorem cr_minK {K : PySem.W.Frag} (hc : X.calm = true) (hK : X.K = K := by rfl) : CallR X (.builtin "min") (rMin K) := by
  subst hK
  exact cr_min hc
theorem cr_maxK {K : PySem.W.Frag} (hc : X.calm = true) (hK : X.K = K := by rfl) : CallR X (.builtin "max") (rMax K) := by
  subst hK
  exact cr_max hc
end
end Hb

set_option Elab.async false
set_option linter.all false
set_option maxRecDepth 100000
set_option maxHeartbeats 4000000
/-! Dicts whose keys are tuples of ints and of flat tuples of ints, with any values: a plain list of pairs. -/
namespace Hb
open PySem L2 PyProof.Rows
abbrev IK := List Itm
abbrev GM := List (IK × V)
theorem nkI_depth (x : Itm) : (nkI x).depth ≤ 3 := by
  cases x with
  | inl i => simp [nkI, NestedKey.depth]
  | inr ns =>
    have h : ∀ l : List Int, NestedKey.depthAll (l.map NestedKey.num) ≤ 1 := fun l => by
      induction l with
      | nil => simp [NestedKey.depthAll]
      | cons n l ih =>
        rw [List.map_cons]
        simp only [NestedKey.depthAll, NestedKey.depth]
        omega
    have := h ns
    simp only [nkI, NestedKey.depth]
    omega
theorem nkK_depth (ks : IK) : (nkK ks).depth ≤ 8 := by
  have h : ∀ l : List Itm, NestedKey.depthAll (l.map nkI) ≤ 3 := fun l => by
    induction l with
    | nil => simp [NestedKey.depthAll]
    | cons x l ih =>
      have := nkI_depth x
      rw [List.map_cons]
      simp only [NestedKey.depthAll]
      omega
  have := h ks
  simp only [nkK, NestedKey.depth]
  omega
/-- an item of a key, as it stands -/
def ItAt (H : Hp) (v : V) : Itm → Prop
  | .inl i => v = .int i
  | .inr ns => ∃ p : Addr, v = .ref p ∧ H p = some (.tup (ns.map V.int))
theorem nks_ints {H : Hp} : ∀ ns : List Int, NKs H (ns.map NestedKey.num) (ns.map V.int)
  | [] => .nil
  | n :: ns => .cons (.int n) (nks_ints ns)
theorem nks_ints_inv {H : Hp} : ∀ {ns : List Int} {vs : List V}, NKs H (ns.map NestedKey.num) vs → vs = ns.map V.int
  | [], _, h => by cases h; rfl
  | n :: ns, _, h => by
    cases h with
    | cons h1 h2 =>
      cases h1
      rw [nks_ints_inv h2]
      rfl
theorem ItAt.nk {H : Hp} {v : V} : ∀ {x : Itm}, ItAt H v x → NK H (nkI x) v
  | .inl i, h => by
    cases h
    exact .int i
  | .inr ns, ⟨p, h1, h2⟩ => by
    cases h1
    exact .tup h2 (nks_ints ns)
theorem ItAt.of {H : Hp} {v : V} : ∀ {x : Itm}, NK H (nkI x) v → ItAt H v x
  | .inl i, h => by
    cases h
    rfl
  | .inr ns, h => by
    cases h with
    | tup h1 h2 => exact ⟨_, rfl, by rw [h1, nks_ints_inv h2]⟩
/-- the key at an address: its items -/
def KAt (H : Hp) (p : Addr) (ks : IK) : Prop := ∃ vs, H p = some (.tup vs) ∧ Paired (fun v x => ItAt H v x) vs ks
theorem KAt.nk {H : Hp} {p : Addr} {ks : IK} (h : KAt H p ks) : NK H (nkK ks) (.ref p) := by
  obtain ⟨vs, h1, h2⟩ := h
  refine .tup h1 ?_
  clear h1
  induction h2 with
  | nil => exact .nil
  | cons h _ ih => exact .cons h.nk ih
theorem KAt.of {H : Hp} {p : Addr} {ks : IK} (h : NK H (nkK ks) (.ref p)) : KAt H p ks := by
  cases h with
  | @tup _ vs _ h1 h2 =>
    refine ⟨vs, h1, ?_⟩
    clear h1
    induction ks generalizing vs with
    | nil => cases h2; exact .nil
    | cons x ks ih =>
      cases h2 with
      | cons k1 k2 => exact .cons (ItAt.of k1) (ih k2)
theorem ItAt.mono {H H' : Hp} (e : ∀ p xs, H p = some (.tup xs) → H' p = some (.tup xs)) {v : V} : ∀ {x : Itm}, ItAt H v x → ItAt H' v x
  | .inl _, h => h
  | .inr _, ⟨p, h1, h2⟩ => ⟨p, h1, e _ _ h2⟩
theorem KAt.mono {H H' : Hp} (e : ∀ p xs, H p = some (.tup xs) → H' p = some (.tup xs)) {p : Addr} {ks : IK} (h : KAt H p ks) : KAt H' p ks := by
  obtain ⟨vs, h1, h2⟩ := h
  exact ⟨vs, e _ _ h1, Paired.mapP h2 fun _ _ => ItAt.mono e⟩
theorem KAt.same {H H' : Hp} (e : Same H H') {p : Addr} {ks : IK} (h : KAt H p ks) : KAt H' p ks := h.mono fun _ _ => e _ _
/-- a flat tuple of ints as a key -/
theorem kat_ints {H : Hp} {p : Addr} {ns : List Int} (h : H p = some (.tup (ns.map V.int))) : KAt H p (ns.map Sum.inl) := by
  refine ⟨_, h, ?_⟩
  clear h
  induction ns with
  | nil => exact .nil
  | cons n ns ih => exact .cons (show ItAt H (.int n) (.inl n) from rfl) ih
theorem kat_ints_inv {H : Hp} {p : Addr} {ns : List Int} (h : KAt H p (ns.map Sum.inl)) : H p = some (.tup (ns.map V.int)) := by
  obtain ⟨vs, h1, h2⟩ := h
  rw [h1]
  congr 2
  clear h1
  induction ns generalizing vs with
  | nil => cases h2; rfl
  | cons n ns ih =>
    cases h2 with
    | cons k1 k2 =>
      rw [ih _ k2, show _ = V.int n from k1]
      rfl
/-! ### the pairs -/
def valG (M : GM) (k : IK) : Option V := (M.find? fun x => decide (x.1 = k)).map (·.2)
def putG (M : GM) (k : IK) (v : V) : GM := if (valG M k).isSome then M.map (fun x => if x.1 = k then (x.1, v) else x) else M ++ [(k, v)]
def dropG (M : GM) (k : IK) : GM := M.filter fun x => decide (x.1 ≠ k)
abbrev EntG (H : Hp) : List Ent → GM → Prop := Paired fun e x => e.1 = nkK x.1 ∧ e.2.2 = x.2 ∧ KAt H e.2.1 x.1
theorem EntG.mono {H H' : Hp} (e : ∀ p xs, H p = some (.tup xs) → H' p = some (.tup xs)) {es : List Ent} {M : GM} (h : EntG H es M) : EntG H' es M := Paired.mapP h fun _ _ ⟨h1, h2, h3⟩ => ⟨h1, h2, h3.mono e⟩
theorem EntG.same {H H' : Hp} (e : Same H H') {es : List Ent} {M : GM} (h : EntG H es M) : EntG H' es M := h.mono fun _ _ => e _ _
theorem EntG.nil {H : Hp} : EntG H [] [] := Paired.nil
theorem EntG.ok {H : Hp} {es : List Ent} {M : GM} (h : EntG H es M) : EntsOk H es := by
  induction h with
  | nil => exact EntsOk.nil
  | cons h _ ih =>
    intro e he
    rcases List.mem_cons.mp he with rfl | he
    · rw [h.1]
      exact ⟨h.2.2.nk, nkK_depth _⟩
    · exact ih e he
theorem EntG.len {H : Hp} {es : List Ent} {M : GM} (h : EntG H es M) : es.length = M.length := Paired.length h
theorem EntG.at {H : Hp} {es : List Ent} {M : GM} (h : EntG H es M) (k : IK) : atN es (nkK k) = valG M k := by
  induction h with
  | nil => rfl
  | @cons e x es xs h _ ih =>
    unfold atN valG at ih ⊢
    rw [List.find?_cons, List.find?_cons, h.1]
    by_cases hc : x.1 = k
    · rw [decide_eq_true hc, decide_eq_true (by rw [hc])]
      show some e.2.2 = some x.2
      rw [h.2.1]
    · rw [decide_eq_false hc, decide_eq_false (fun z => hc (nkK_inj z))]
      exact ih
theorem entG_map {H : Hp} {k : IK} {v : V} : ∀ {es : List Ent} {M : GM}, EntG H es M → EntG H (es.map fun e => if e.1 = nkK k then (e.1, e.2.1, v) else e) (M.map fun x => if x.1 = k then (x.1, v) else x)
  | _, _, Paired.nil => Paired.nil
  | e :: es, x :: xs, Paired.cons h t => by
    refine Paired.cons ?_ (entG_map t)
    by_cases hc : x.1 = k
    · have hc2 : e.1 = nkK k := by rw [h.1, hc]
      simp only [if_pos hc2, if_pos hc]
      exact ⟨h.1, trivial, h.2.2⟩
    · have hc2 : ¬ e.1 = nkK k := fun z => hc (nkK_inj (h.1.symm.trans z))
      simp only [if_neg hc2, if_neg hc]
      exact h
theorem EntG.put {H : Hp} {es : List Ent} {M : GM} (h : EntG H es M) {k : IK} {b : Addr} (v : V) (hk : KAt H b k) : EntG H (putN es (nkK k) b v) (putG M k v) := by
  unfold putN putG
  rw [h.at k]
  by_cases hc : (valG M k).isSome = true
  · rw [if_pos hc, if_pos hc]
    exact entG_map h
  · rw [if_neg hc, if_neg hc]
    exact paired_app h (Paired.cons ⟨rfl, rfl, hk⟩ Paired.nil)
theorem putG_len {M : GM} {k : IK} {v : V} : (putG M k v).length ≤ M.length + 1 := by
  unfold putG
  by_cases h : (valG M k).isSome = true
  · rw [if_pos h, List.length_map]
    omega
  · rw [if_neg h, List.length_append]
    exact Nat.le_refl _
theorem valG_some {M : GM} {k : IK} : (valG M k).isSome = true ↔ k ∈ M.map (·.1) := by
  unfold valG
  rw [Option.isSome_map, List.find?_isSome, List.mem_map]
  exact ⟨fun ⟨x, h1, h2⟩ => ⟨x, h1, of_decide_eq_true h2⟩, fun ⟨x, h1, h2⟩ => ⟨x, h1, decide_eq_true h2⟩⟩
theorem putG_keys (M : GM) (k : IK) (v : V) : (putG M k v).map (·.1) = if (valG M k).isSome = true then M.map (·.1) else M.map (·.1) ++ [k] := by
  unfold putG
  by_cases h : (valG M k).isSome = true
  · rw [if_pos h, if_pos h, List.map_map]
    refine List.map_congr_left fun x _ => ?_
    by_cases hc : x.1 = k
    · simp [hc]
    · simp [hc]
  · rw [if_neg h, if_neg h, List.map_append]
    rfl
theorem valG_cons (x : IK × V) (M : GM) (k : IK) : valG (x :: M) k = if x.1 = k then some x.2 else valG M k := by
  unfold valG
  rw [List.find?_cons]
  by_cases h : x.1 = k
  · rw [decide_eq_true h, if_pos h]
    rfl
  · rw [decide_eq_false h, if_neg h]
theorem valG_nil (k : IK) : valG [] k = none := rfl
theorem valG_put (M : GM) (k : IK) (v : V) (j : IK) : valG (putG M k v) j = if j = k then some v else valG M j := by
  unfold putG
  by_cases h : (valG M k).isSome = true
  · rw [if_pos h]
    by_cases hj : j = k
    · subst hj
      rw [if_pos rfl]
      induction M with
      | nil => cases h
      | cons x M ih =>
        rw [List.map_cons, valG_cons]
        rw [valG_cons] at h
        by_cases hx : x.1 = j
        · rw [if_pos hx, if_pos hx]
        · rw [if_neg hx] at h
          rw [if_neg hx, if_neg hx]
          exact ih h
    · rw [if_neg hj]
      clear h
      induction M with
      | nil => rfl
      | cons x M ih =>
        rw [List.map_cons, valG_cons, valG_cons, ih]
        by_cases hx : x.1 = k
        · rw [if_pos hx]
          by_cases hxj : x.1 = j
          · exact absurd (hxj.symm.trans hx) hj
          · rw [if_neg hxj, if_neg hxj]
        · rw [if_neg hx]
  · rw [if_neg h]
    have hn : valG M k = none := by
      cases e : valG M k with
      | none => rfl
      | some _ => exact absurd (by rw [e]; rfl) h
    clear h
    induction M with
    | nil =>
      rw [List.nil_append, valG_cons]
      by_cases hj : k = j
      · rw [if_pos hj, if_pos hj.symm]
      · rw [if_neg hj, if_neg (fun z => hj z.symm)]
    | cons x M ih =>
      rw [valG_cons] at hn
      by_cases hx : x.1 = k
      · rw [if_pos hx] at hn
        cases hn
      · rw [if_neg hx] at hn
        rw [List.cons_append, valG_cons, ih hn, valG_cons]
        by_cases hxj : x.1 = j
        · rw [if_pos hxj]
          by_cases hj : j = k
          · exact absurd (hxj.trans hj) hx
          · rw [if_neg hj, if_pos hxj]
        · rw [if_neg hxj, if_neg hxj]
/-! ### the steps -/
section
variable {w : World} {σ : L2.St} {H B : Hp} {Q : VK} {D : Ends} {td ty tv tx : TE} {L L' : List (Addr × HO)} {es : List Ent} {M : GM} {k : IK} {d b : Addr} {v : V}
theorem atG_of (h : H d = some (DN w d es)) (e : EntG H es M) (hk : KAt H b k) : AtN w H (.ref d) (.ref b) d b es (nkK k) := ⟨rfl, rfl, h, e.ok, hk.nk, nkK_depth k⟩
theorem wg_get (hs : Hs B L H) (h : H d = some (DN w d es)) (e : EntG B es M) (hk : KAt H b k) (hv : valG M k = some v) (q : Q v H) : rNGet w (.ref d) (.ref b) H Q :=
  ⟨d, b, es, nkK k, v, atG_of h (e.same hs.same) hk, by rw [e.at k, hv], q⟩
theorem wg_in {R : Bool → Prop} (hs : Hs B L H) (h : H d = some (DN w d es)) (e : EntG B es M) (hk : KAt H b k) (q : R (valG M k).isSome) : rNIn w (.ref d) (.ref b) H R :=
  ⟨d, b, es, nkK k, atG_of h (e.same hs.same) hk, by rw [e.at k]; exact q⟩
theorem wg_put {R : Hp → Prop} (hs : Hs B L H) (h : Put L d (DN w d es) (DN w d (putN es (nkK k) b v)) L') (e : EntG B es M) (hk : KAt B b k) (hl : M.length ≤ 1000000) (q : ∀ H', Hs B L' H' → EntG B (putN es (nkK k) b v) (putG M k v) → R H') : rNPut w (.ref d) (.ref b) v H R :=
  ⟨d, b, es, nkK k, atG_of (hs.gets h) (e.same hs.same) (hk.same hs.same), by rw [e.len, sizeLine_eq]; omega, q _ (hs.puts h) (e.put v hk)⟩
theorem wg_def {z : V} (hs : Hs B L H) (h : H d = some (DN w d es)) (e : EntG B es M) (hk : KAt H b k) (q : Q ((valG M k).getD z) H) : rNG w (.ref d) (.ref b) z H Q :=
  ⟨d, b, es, nkK k, atG_of h (e.same hs.same) hk, by rw [e.at k]; exact q⟩
theorem w_ng1 (q : td σ H fun x H1 => (∃ a es, x = .ref a ∧ H1 a = some (DN w a es)) ∧ ty σ H1 fun y H2 => rNG w x y .non H2 Q) : tNGet1 w td ty σ H Q := q
theorem w_ng2 (q : td σ H fun x H1 => (∃ a es, x = .ref a ∧ H1 a = some (DN w a es)) ∧ ty σ H1 fun y H2 => tx σ H2 fun z H3 => rNG w x y z H3 Q) : tNGet2 w td ty tx σ H Q := q
theorem EntG.row {es : List Ent} {M : GM} (h : EntG H es M) : Paired (fun (v : V) (x : IK) => ∃ p : Addr, v = .ref p ∧ KAt H p x) (es.map fun e => V.ref e.2.1) (M.map (·.1)) := by
  induction h with
  | nil => exact .nil
  | cons h _ ih => exact .cons ⟨_, rfl, h.2.2⟩ ih
theorem wg_list (hs : Hs B L H) (h : H d = some (DN w d es)) (q : ∀ p H', Hs B ((p, .lst (es.map fun e => V.ref e.2.1)) :: L) H' → Q (.ref p) H') : rListN w [.ref d] H Q :=
  ⟨d, es, rfl, h, fun p hp => q p _ (hs.new hp)⟩
end
end Hb

set_option Elab.async false
set_option linter.all false
set_option maxRecDepth 100000
set_option maxHeartbeats 4000000
/-! Rows of items side by side with what they tell; sorted of keys; promises joined; objects that stand. -/
namespace Hb
open PySem L2 PyProof.Rows
/-! ## data side by side -/
def Row {α : Type} (R : V → α → Prop) (us : List V) (xs : List α) : Prop := us.length = xs.length ∧ ∀ (i : Nat) (u : V) (x : α), us[i]? = some u → xs[i]? = some x → R u x
theorem Row.mono {α : Type} {R R' : V → α → Prop} (h : ∀ u x, R u x → R' u x) {us : List V} {xs : List α} (r : Row R us xs) : Row R' us xs := ⟨r.1, fun i u x h1 h2 => h _ _ (r.2 i u x h1 h2)⟩
theorem Row.get {α : Type} {R : V → α → Prop} {us : List V} {xs : List α} (r : Row R us xs) {i : Nat} {u : V} (h : us[i]? = some u) : ∃ x, xs[i]? = some x ∧ R u x := by
  have hi := (List.getElem?_eq_some_iff.mp h).1
  have h2 : xs[i]? = some (xs[i]'(by have := r.1; omega)) := List.getElem?_eq_getElem _
  exact ⟨_, h2, r.2 i _ _ h h2⟩
theorem Row.nil {α : Type} {R : V → α → Prop} : Row R [] [] := ⟨rfl, fun _ _ _ z => nomatch z⟩
theorem Row.cons {α : Type} {R : V → α → Prop} {us : List V} {xs : List α} {u : V} {x : α} (h : R u x) (r : Row R us xs) : Row R (u :: us) (x :: xs) := by
  refine ⟨by rw [List.length_cons, List.length_cons, r.1], fun i y z h1 h2 => ?_⟩
  cases i with
  | zero =>
    cases h1
    cases h2
    exact h
  | succ i => exact r.2 i y z (by simpa using h1) (by simpa using h2)
theorem Row.snoc {α : Type} {R : V → α → Prop} {us : List V} {xs : List α} {u : V} {x : α} (r : Row R us xs) (h : R u x) : Row R (us ++ [u]) (xs ++ [x]) := by
  refine ⟨by rw [List.length_append, List.length_append, r.1]; rfl, fun i y z h1 h2 => ?_⟩
  by_cases hi : i < us.length
  · rw [List.getElem?_append_left hi] at h1
    rw [List.getElem?_append_left (by rw [← r.1]; exact hi)] at h2
    exact r.2 i y z h1 h2
  · rw [List.getElem?_append_right (by omega)] at h1
    rw [List.getElem?_append_right (by rw [← r.1]; omega)] at h2
    rw [r.1] at h1
    cases hj : i - xs.length with
    | zero =>
      rw [hj] at h1 h2
      cases h1
      cases h2
      exact h
    | succ n =>
      rw [hj] at h1
      simp at h1
theorem Row.take {α : Type} {R : V → α → Prop} {us : List V} {xs : List α} (r : Row R us xs) (n : Nat) : Row R (us.take n) (xs.take n) := by
  refine ⟨by rw [List.length_take, List.length_take, r.1], fun i u x h1 h2 => ?_⟩
  rw [List.getElem?_take] at h1 h2
  by_cases h : i < n
  · rw [if_pos h] at h1 h2
    exact r.2 i u x h1 h2
  · rw [if_neg h] at h1
    cases h1
theorem Row.drop {α : Type} {R : V → α → Prop} {us : List V} {xs : List α} (r : Row R us xs) (n : Nat) : Row R (us.drop n) (xs.drop n) := by
  refine ⟨by rw [List.length_drop, List.length_drop, r.1], fun i u x h1 h2 => ?_⟩
  rw [List.getElem?_drop] at h1 h2
  exact r.2 _ u x h1 h2
theorem Row.app {α : Type} {R : V → α → Prop} {us vs : List V} {xs ys : List α} (r : Row R us xs) (q : Row R vs ys) : Row R (us ++ vs) (xs ++ ys) := by
  refine ⟨by rw [List.length_append, List.length_append, r.1, q.1], fun i u x h1 h2 => ?_⟩
  by_cases hi : i < us.length
  · rw [List.getElem?_append_left hi] at h1
    rw [List.getElem?_append_left (by rw [← r.1]; exact hi)] at h2
    exact r.2 i u x h1 h2
  · rw [List.getElem?_append_right (by omega)] at h1
    rw [List.getElem?_append_right (by rw [← r.1]; omega), ← r.1] at h2
    exact q.2 _ u x h1 h2
theorem Row.dpAll {α : Type} {K : PySem.W.Frag} {H : Hp} {R : V → α → Prop} {d : α → PyData} (hd : ∀ u x, R u x → Dp K H u (d x)) : ∀ {us : List V} {xs : List α}, Row R us xs → DpAll K H us (xs.map d)
  | [], [], _ => .nil
  | [], _ :: _, h => by cases h.1
  | _ :: _, [], h => by cases h.1
  | u :: us, x :: xs, h => .cons (hd _ _ (h.2 0 u x rfl rfl)) (Row.dpAll hd ⟨Nat.succ.inj h.1, fun i y z h1 h2 => h.2 (i + 1) y z (by simpa using h1) (by simpa using h2)⟩)
/-- what is new and stands: from a callee that only makes -/
theorem Hs_own {B H H' : Hp} {L : List (Addr × HO)} {p : Addr} {o : HO} (hs : Hs B L H) (e : Same H H') (hn : H p = none) (h : H' p = some o) : Hs B ((p, o) :: L) H' := by
  refine ⟨hs.same.trans e, ?_, fun x hx => ?_, fun x hx => ?_⟩
  · rw [List.map_cons, List.nodup_cons]
    exact ⟨hs.fresh hn, hs.nd⟩
  · rcases List.mem_cons.mp hx with rfl | hx
    · exact hs.same.free hn
    · exact hs.out x hx
  · rcases List.mem_cons.mp hx with rfl | hx
    · exact h
    · exact e _ _ (hs.at_ x hx)
theorem w_lcLR {K : PySem.W.Frag} {σ : L2.St} {H : Hp} {Q : VK} {tl : TE} {g : TG} {tt : TT} {te : TE} {vs : List Nat} (q : tl σ H fun x H1 => ListR K x H1 (LcR g tt te vs σ Q)) : tLc (iList K tl) g tt te vs σ H Q := q
/-- [e for x in us], row by row: what is told of the new items hangs on tuples alone -/
theorem w_lcRow {α : Type} {K : PySem.W.Frag} {σ : L2.St} {H : Hp} {Q : VK} {tl : TE} {te : TE} {j : Nat} {vs : List Nat} {a : Addr} {us : List V} (R : Hp → V → α → Prop) (hm : ∀ H1 H2 v y, (∀ p xs, H1 p = some (.tup xs) → H2 p = some (.tup xs)) → R H1 v y → R H2 v y) (hx : SqL K H a us) (hz : us.length ≤ 1000000) (ys : List α) (hlen : us.length = ys.length)
    (htl : ∀ Q : VK, Q (.ref a) H → tl σ H Q) (hw : ∀ v, wipe ((wipe σ vs).set j (some v)) vs = wipe σ vs)
    (he : ∀ (i : Nat) (u : V) (y : α) (H' : Hp) (Q' : VK), us[i]? = some u → ys[i]? = some y → Same H H' → (∀ v H3, Same H' H3 → R H3 v y → Q' v H3) → te ((wipe σ vs).set j (some u)) H' Q')
    (hq : ∀ D acc H', Hs H [(D, .lst acc)] H' → Row (R H') acc ys → Q (.ref D) H') : tLc (iList K tl) (gName j) tYes te vs σ H Q := by
  refine w_lcLR (htl _ (w_listR hx fun D hD => ?_))
  refine turns_list (Body := LcBody (gName j) tYes te vs σ D) (fun i H' => ∃ acc, Hs H [(D, .lst acc)] H' ∧ Row (R H') acc (ys.take i)) ⟨[], (Hs.start H).new hD, Row.nil⟩ (fun i H' _ ⟨_, h, _⟩ => h.same.seq hx) ?_ ?_
  · rintro i u H' hu ⟨acc, h1, h2⟩
    have hi := (List.getElem?_eq_some_iff.mp hu).1
    have hy : ys[i]? = some (ys[i]'(by omega)) := List.getElem?_eq_getElem _
    refine w_name ⟨hw _, w_yes (iteT (he i u _ H' _ hu hy h1.same fun v H3 s3 r => ?_))⟩
    have hD3 : H3 D = some (.lst acc) := s3 _ _ h1.g0
    have hlt : acc.length ≤ i := by
      have := h2.1
      rw [List.length_take] at this
      omega
    refine ⟨acc, hD3, szl (by omega), acc ++ [v], (h1.keep s3).p0 _, ?_⟩
    rw [List.take_add_one, hy]
    refine Row.mono (fun u x => hm H3 _ u x fun a xs => tup_but hD3 (fun _ z => by cases z) a xs) ((h2.mono fun u x => hm _ _ u x fun a xs e => s3 _ _ e).snoc r)
  · rintro H' ⟨acc, h1, h2⟩
    rw [hlen, List.take_length] at h2
    exact hq D acc H' h1 h2
def spF : Sp := fun _ _ _ _ => False
theorem fn_F {P : Program} {w : World} {K : PySem.W.Frag} {mg : Str → Option Value} {base : Heap} {k : Nat} {f : Addr} {fd : FuncData} {ps : List Str} : FnOk P w K mg base CX0 k f fd ps spF := ⟨fun _ _ _ _ h => h.elim, fun _ _ _ _ _ _ _ _ _ _ _ _ _ h => h.elim⟩
theorem fn_or {P : Program} {w : World} {K : PySem.W.Frag} {mg : Str → Option Value} {base : Heap} {k : Nat} {f : Addr} {fd : FuncData} {ps : List Str} {sp1 sp2 : Sp} (F1 : FnOk P w K mg base CX0 k f fd ps sp1) (F2 : FnOk P w K mg base CX0 k f fd ps sp2) : FnOk P w K mg base CX0 k f fd ps (fun vs H Q E => sp1 vs H Q E ∨ sp2 vs H Q E) :=
  ⟨fun vs H Q E h => h.elim (F1.len vs H Q E) (F2.len vs H Q E), fun A outer s H args us vs Q E hr he hb hv h => h.elim (F1.run A outer s H args us vs Q E hr he hb hv) (F2.run A outer s H args us vs Q E hr he hb hv)⟩
theorem w_slA {K : PySem.W.Frag} {B H : Hp} {L : List (Addr × HO)} {Q : VK} {p : Addr} {xs : List V} {lo hi : Option Int} (hs : Hs B L H) (h : SqT K H p xs) (hw : ¬ (HT.sIx xs.length 0 lo = 0 ∧ HT.sIx xs.length xs.length hi = xs.length)) (q : ∀ l H', Hs B ((l, .tup (cutV xs lo hi)) :: L) H' → Q (.ref l) H') : rSlA K (.ref p) lo hi H Q :=
  ⟨p, xs, rfl, h, fun z => absurd z hw, fun _ => w_new hs q⟩

/-! ## sorted: keys of one shape -/
def ltQ (x y : IK) : Bool := lexI (flK x) (flK y)
def SortedK (l : List IK) : Prop := l.Pairwise fun x y => ltQ y x = false
def insK (x : IK) : List IK → List IK
  | [] => [x]
  | y :: ys => if ltQ y x then y :: insK x ys else x :: y :: ys
def srtK : List IK → List IK
  | [] => []
  | x :: xs => insK x (srtK xs)
theorem insK_perm (x : IK) : ∀ ys : List IK, (insK x ys).Perm (x :: ys)
  | [] => List.Perm.refl _
  | y :: ys => by
    unfold insK
    split
    · exact ((insK_perm x ys).cons y).trans (List.Perm.swap x y ys)
    · exact List.Perm.refl _
theorem srtK_perm : ∀ ls : List IK, (srtK ls).Perm ls
  | [] => List.Perm.refl _
  | x :: xs => (insK_perm x (srtK xs)).trans ((srtK_perm xs).cons x)
theorem insK_sorted (x : IK) : ∀ ys : List IK, SortedK ys → SortedK (insK x ys)
  | [], _ => List.pairwise_singleton _ _
  | y :: ys, h => by
    have h1 := List.pairwise_cons.mp h
    unfold insK
    by_cases hc : ltQ y x = true
    · rw [if_pos hc]
      refine List.pairwise_cons.mpr ⟨fun z hz => ?_, insK_sorted x ys h1.2⟩
      rcases List.mem_cons.mp ((insK_perm x ys).mem_iff.mp hz) with rfl | hz
      · exact lexI_asym _ _ hc
      · exact h1.1 z hz
    · rw [if_neg hc]
      have hc' : ltQ y x = false := by
        cases q : ltQ y x with
        | true => exact absurd q hc
        | false => rfl
      refine List.pairwise_cons.mpr ⟨fun z hz => ?_, h⟩
      rcases List.mem_cons.mp hz with rfl | hz
      · exact hc'
      · exact lexI_tr _ _ _ hc' (h1.1 z hz)
theorem srtK_sorted : ∀ ls : List IK, SortedK (srtK ls)
  | [] => List.Pairwise.nil
  | x :: xs => insK_sorted x _ (srtK_sorted xs)
/-- of one shape, the ints tell the key -/
theorem fl_shape : ∀ {x y : IK}, x.map shp = y.map shp → flK x = flK y → x = y
  | [], [], _, _ => rfl
  | [], _ :: _, h, _ => by cases h
  | _ :: _, [], h, _ => by cases h
  | a :: x, b :: y, h, e => by
    rw [List.map_cons, List.map_cons] at h
    injection h with h1 h2
    have hl := shp_len h1
    unfold flK at e
    rw [List.flatMap_cons, List.flatMap_cons] at e
    obtain ⟨e1, e2⟩ := List.append_inj e hl
    have hx := fl_shape h2 (show flK x = flK y from e2)
    have ha : a = b := by
      cases a with
      | inl i =>
        cases b with
        | inl j =>
          injection e1 with e1
          rw [e1]
        | inr ms => cases h1
      | inr ns =>
        cases b with
        | inl j => cases h1
        | inr ms => exact congrArg Sum.inr e1
    rw [hx, ha]
theorem sortedK_uniq {sh : List (Option Nat)} : ∀ {l m : List IK}, l.Perm m → (∀ x ∈ l, x.map shp = sh) → SortedK l → SortedK m → l = m
  | [], m, p, _, _, _ => (List.Perm.eq_nil p.symm).symm
  | x :: l, [], p, _, _, _ => absurd p.length_eq (by simp)
  | x :: l, y :: m, p, hs, hl, hm => by
    have h1 := List.pairwise_cons.mp hl
    have h2 := List.pairwise_cons.mp hm
    have e : x = y := by
      rcases List.mem_cons.mp (p.mem_iff.mp List.mem_cons_self) with e | hx
      · exact e
      · have hy2 := p.mem_iff.mpr (List.mem_cons_self (a := y) (l := m))
        rcases List.mem_cons.mp hy2 with e | hy
        · exact e.symm
        · exact fl_shape ((hs x List.mem_cons_self).trans (hs y hy2).symm) (lexI_total _ _ (h2.1 x hx) (h1.1 y hy))
    subst e
    rw [sortedK_uniq p.cons_inv (fun z hz => hs z (List.mem_cons_of_mem _ hz)) h1.2 h2.2]
theorem srtK_uniq {sh : List (Option Nat)} {l ls : List IK} (p : l.Perm ls) (hs : ∀ x ∈ ls, x.map shp = sh) (h : SortedK l) : l = srtK ls :=
  sortedK_uniq (p.trans (srtK_perm ls).symm) (fun x hx => hs x (p.mem_iff.mp hx)) h (srtK_sorted ls)
/-- an item of a list that is a key -/
def KeyAt (H : Hp) (v : V) (k : IK) : Prop := ∃ p : Addr, v = .ref p ∧ KAt H p k
theorem KeyAt.mono {H H' : Hp} (e : ∀ p xs, H p = some (.tup xs) → H' p = some (.tup xs)) {v : V} {k : IK} (h : KeyAt H v k) : KeyAt H' v k := by
  obtain ⟨p, h1, h2⟩ := h
  exact ⟨p, h1, h2.mono e⟩
theorem KeyAt.inj {H : Hp} {v : V} {k k' : IK} (h : KeyAt H v k) (h' : KeyAt H v k') : k = k' := by
  obtain ⟨p, rfl, h1⟩ := h
  obtain ⟨q, e, h2⟩ := h'
  cases e
  exact nkK_inj (NK.inj h1.nk h2.nk)
theorem KeyAt.it {H : Hp} {v : V} {k : IK} (h : KeyAt H v k) : itK H v = k := by
  obtain ⟨p, rfl, h1⟩ := h
  exact itK_eq h1.nk
theorem row_perm {α : Type} {R : V → α → Prop} {us ys : List V} (p : ys.Perm us) {xs : List α} (r : Row R us xs) : ∃ zs, zs.Perm xs ∧ Row R ys zs := by
  have toP : ∀ {us : List V} {xs : List α}, Row R us xs → Paired R us xs := by
    intro us
    induction us with
    | nil =>
      intro xs r
      cases xs with
      | nil => exact .nil
      | cons _ _ => cases r.1
    | cons u us ih =>
      intro xs r
      cases xs with
      | nil => cases r.1
      | cons x xs => exact .cons (r.2 0 u x rfl rfl) (ih ⟨Nat.succ.inj r.1, fun i y z h1 h2 => r.2 (i + 1) y z (by simpa using h1) (by simpa using h2)⟩)
  have ofP : ∀ {us : List V} {xs : List α}, Paired R us xs → Row R us xs := by
    intro us xs h
    induction h with
    | nil => exact Row.nil
    | cons h _ ih => exact Row.cons h ih
  obtain ⟨zs, h1, h2⟩ := paired_perm p (toP r)
  exact ⟨zs, h1, ofP h2⟩
theorem w_sortK2 {K : PySem.W.Frag} {B H : Hp} {L : List (Addr × HO)} {Q : VK} {a : Addr} {us : List V} {ks : List IK} {c : Option Nat} {sh : List (Option Nat)} (hs : Hs B L H) (h : SqL K H a us) (r : Row (KeyAt H) us ks) (hsh : ∀ k ∈ ks, k.map shp = c :: sh)
    (q : ∀ p ys H', ys.Perm us → Hs B ((p, .lst ys) :: L) H' → Row (KeyAt H') ys (srtK ks) → Q (.ref p) H') : rSortN K c sh [.ref a] H Q := by
  refine ⟨a, us, itK H, rfl, h, fun x hx => ?_, fun ys p h1 h2 hp => ?_⟩
  · obtain ⟨i, hi, rfl⟩ := List.getElem_of_mem hx
    obtain ⟨k, hk, hat⟩ := r.get (List.getElem?_eq_getElem hi)
    rw [hat.it]
    obtain ⟨b, e, hb⟩ := hat
    exact ⟨⟨b, e⟩, by rw [e]; exact hb.nk, hsh k (List.mem_of_getElem? hk)⟩
  · obtain ⟨zs, p1, p2⟩ := row_perm h2.perm r
    have srt : SortedK zs := by
      refine List.pairwise_iff_getElem.mpr fun i j hi hj hij => ?_
      have hi' : i < ys.length := by rw [p2.1]; exact hi
      have hj' : j < ys.length := by rw [p2.1]; exact hj
      have a1 := p2.2 i ys[i] zs[i] (List.getElem?_eq_getElem hi') (List.getElem?_eq_getElem hi)
      have a2 := p2.2 j ys[j] zs[j] (List.getElem?_eq_getElem hj') (List.getElem?_eq_getElem hj)
      have := List.pairwise_iff_getElem.mp h1 i j hi' hj' hij
      unfold ltK at this
      rw [a1.it, a2.it] at this
      exact this
    have e := srtK_uniq p1 hsh srt
    subst e
    have hs2 := hs.new (o := .lst ys) hp
    exact q p ys _ h2.perm hs2 (p2.mono fun u k => KeyAt.mono fun b xs e => by rw [upd_ne (ne_of_none e hp)]; exact e)
theorem frz_hs {B H : Hp} {p : Addr} {o : HO} {L : List (Addr × HO)} (hs : Hs B ((p, o) :: L) H) : ∃ B2, Same B B2 ∧ B2 p = some o ∧ Hs B2 L H := ⟨_, hs.freeze.1, upd_same, hs.freeze.2⟩
theorem shp_can {d : PyData} (h : SeqAt.shaped d = true) : d.canLay0 = true := by
  unfold SeqAt.shaped at h
  exact (Bool.and_eq_true_iff.mp h).1
theorem w_neRefl {K : PySem.W.Frag} {H : Hp} {Q : VK} {p q : V} {d : PyData} (h1 : Dp K H p d) (h2 : Dp K H q d) (hs : SeqAt.shaped d = true) (k : Q (.bl false) H) : rNeD K p q H Q :=
  ⟨d, d, h1, h2, hs, hs, by
    rw [SeqAt.eqv_refl _ (shp_can hs)]
    exact k⟩

/-! ## for i, x in enumerate(xs) -/
theorem w_enumF {K : PySem.W.Frag} {σ : L2.St} {H : Hp} {ta : TA} {g : TG} {tb : TS} {D : Ends} {a : Addr} {xs : List V} (hx : SqL K H a xs) (Pv : Nat → L2.St → Hp → Prop) (hta : ∀ Q : List V → Hp → Prop, Q [.ref a] H → ta σ H Q) (h0 : Pv 0 σ H) (hl : ∀ i σ H, i ≤ xs.length → Pv i σ H → SqL K H a xs)
    (hs : ∀ i x T σ H, xs[i]? = some x → Pv i σ H → H T = none → g (.ref T) σ (upd H T (.tup [.int (i : Int), x])) fun σ2 H2 => tb { D with nx := Pv (i + 1), ct := Pv (i + 1), bk := D.nx } σ2 H2) (hd : ∀ σ H, Pv xs.length σ H → D.nx σ H) : tFor (iEnum K ta) g tb D σ H := by
  refine hta _ ⟨a, xs, rfl, hx, fun i m σ H => m = xs.length - i ∧ i ≤ xs.length ∧ Pv i σ H, ⟨xs.length, by simp, Nat.zero_le _, h0⟩, ?_⟩
  rintro i m σ' H' ⟨rfl, hi, p⟩
  have q := hl i σ' H' hi p
  by_cases hlt : i < xs.length
  · refine .inr ⟨⟨xs, xs[i], q, List.getElem?_eq_getElem hlt⟩, Pv (i + 1), fun σ2 H2 p2 => ⟨xs.length - (i + 1), by omega, rfl, hlt, p2⟩, fun v H2 y => ?_⟩
    obtain ⟨T, x, rfl, hT, rfl, hx2⟩ := y
    exact hs i x T _ _ (hx2 xs q) p hT
  · have e : i = xs.length := by omega
    subst e
    exact .inl ⟨⟨xs, q, Nat.le_refl _⟩, hd σ' H' p⟩
theorem w_sortK {K : PySem.W.Frag} {B H : Hp} {L : List (Addr × HO)} {Q : VK} {a : Addr} {us : List V} {ks : List IK} {c : Option Nat} {sh : List (Option Nat)} (hs : Hs B L H) (h : SqL K H a us) (r : Row (KeyAt H) us ks) (hsh : ∀ k ∈ ks, k.map shp = c :: sh)
    (q : ∀ p ys H', Hs B ((p, .lst ys) :: L) H' → Row (KeyAt H') ys (srtK ks) → Q (.ref p) H') : rSortN K c sh [.ref a] H Q := w_sortK2 hs h r hsh fun p ys H' _ => q p ys H'
/-! ## ranges with a lower end -/
theorem w_forR2 {σ : L2.St} {H : Hp} {D : Ends} {ta : TA} {g : TG} {tb : TS} {lo hi : Int} (b1 : -(2 ^ 62) ≤ lo ∧ lo < 2 ^ 62 ∧ -(2 ^ 62) ≤ hi ∧ hi < 2 ^ 62) (Pv : Nat → L2.St → Hp → Prop) (hta : ∀ Q : List V → Hp → Prop, Q [.int lo, .int hi] H → ta σ H Q) (h0 : Pv 0 σ H)
    (hs : ∀ (i : Nat) σ H, lo + (i : Int) < hi → Pv i σ H → g (.int (lo + (i : Int))) σ H fun σ2 H2 => tb { D with nx := Pv (i + 1), ct := Pv (i + 1), bk := D.nx } σ2 H2) (hd : ∀ σ H, Pv (hi - lo).toNat σ H → D.nx σ H) : tFor (iRng2 ta) g tb D σ H :=
  hta _ ⟨lo, hi, rfl, b1, for_range (lo := lo) (n := (hi - lo).toNat) Pv h0 (fun i σ' H' hi' p => hs i σ' H' (by omega) p) hd⟩
def RngR2 (us : List V) (H1 : Hp) (R : It → Hp → Prop) : Prop := ∃ lo hi : Int, us = [.int lo, .int hi] ∧ (-(2 ^ 62) ≤ lo ∧ lo < 2 ^ 62 ∧ -(2 ^ 62) ≤ hi ∧ hi < 2 ^ 62) ∧ R (Itr lo (hi - lo).toNat) H1
theorem w_lcG2 {σ : L2.St} {H : Hp} {Q : VK} {ta : TA} {g : TG} {tt : TT} {te : TE} {vs : List Nat} (q : ta σ H fun us H1 => RngR2 us H1 (LcR g tt te vs σ Q)) : tLc (iRng2 ta) g tt te vs σ H Q := q
theorem turns_rangeL {H0 : Hp} {Qd : Hp → Prop} {Body : (Hp → Prop) → V → Hp → Prop} {lo : Int} {n : Nat} (Pv : Nat → Hp → Prop) (h0 : Pv 0 H0) (hs : ∀ i H, i < n → Pv i H → Body (Pv (i + 1)) (.int (lo + (i : Int))) H) (hd : ∀ H, Pv n H → Qd H) : Turns (Itr lo n) Body H0 Qd := by
  refine ⟨fun i m H => m = n - i ∧ i ≤ n ∧ Pv i H, ⟨n, by simp, Nat.zero_le _, h0⟩, ?_⟩
  rintro i m H ⟨rfl, hi, p⟩
  by_cases hlt : i < n
  · refine .inr ⟨hlt, Pv (i + 1), fun H' p' => ⟨n - (i + 1), by omega, rfl, hlt, p'⟩, fun x H' y => ?_⟩
    obtain ⟨rfl, rfl⟩ := y
    exact hs i _ hlt p
  · have e : i = n := by omega
    subst e
    exact .inl ⟨Nat.le_refl _, hd H p⟩

/-! ## [e for x in us if t], index by index -/
theorem w_lcIx {K : PySem.W.Frag} {σ : L2.St} {H : Hp} {Q : VK} {tl : TE} {te : TE} {tt : TT} {j : Nat} {vs : List Nat} {a : Addr} {us : List V} (f : Nat → Option V) (hx : SqL K H a us) (hz : us.length ≤ 1000000)
    (htl : ∀ Q : VK, Q (.ref a) H → tl σ H Q) (hw : ∀ v, wipe ((wipe σ vs).set j (some v)) vs = wipe σ vs)
    (he : ∀ (i : Nat) (u : V) (H' : Hp) (Nx : Hp → Prop) (Ap : VK), us[i]? = some u → Same H H' → (f i = none → ∀ H2, Same H' H2 → Nx H2) → (∀ y, f i = some y → ∀ H2, Same H' H2 → Ap y H2) → tt ((wipe σ vs).set j (some u)) H' fun b H2 => if b = true then te ((wipe σ vs).set j (some u)) H2 Ap else Nx H2)
    (hq : ∀ D acc H', Hs H [(D, .lst acc)] H' → acc = (List.range us.length).filterMap f → Q (.ref D) H') : tLc (iList K tl) (gName j) tt te vs σ H Q := by
  refine w_lcLR (htl _ (w_listR hx fun D hD => ?_))
  refine turns_list (Body := LcBody (gName j) tt te vs σ D) (fun i H' => ∃ acc, Hs H [(D, .lst acc)] H' ∧ acc = (List.range i).filterMap f) ⟨[], (Hs.start H).new hD, rfl⟩ (fun i H' _ ⟨_, h, _⟩ => h.same.seq hx) ?_ ?_
  · rintro i u H' hu ⟨acc, h1, rfl⟩
    have hi := (List.getElem?_eq_some_iff.mp hu).1
    have hst : (List.range (i + 1)).filterMap f = (List.range i).filterMap f ++ (f i).toList := by
      have e1 : List.filterMap f [i] = (f i).toList := by
        rw [List.filterMap_cons]
        cases f i with
        | none => rfl
        | some y => rfl
      rw [List.range_succ, List.filterMap_append, e1]
    refine w_name ⟨hw _, he i u H' _ _ hu h1.same (fun hn H2 s2 => ?_) fun y hy H2 s2 => ?_⟩
    · refine ⟨_, h1.keep s2, ?_⟩
      rw [hst, hn]
      exact (List.append_nil _).symm
    · have hl : ((List.range i).filterMap f).length ≤ i := by
        refine Nat.le_trans (List.length_filterMap_le _ _) ?_
        rw [List.length_range]
        exact Nat.le_refl _
      refine ⟨_, s2 _ _ h1.g0, szl (by omega), _, (h1.keep s2).p0 _, ?_⟩
      rw [hst, hy]
      rfl
  · rintro H' ⟨acc, h1, h2⟩
    exact hq D acc H' h1 h2
/-- a part of the rows -/
theorem row_filter {α : Type} {R : V → α → Prop} {us : List V} {xs : List α} (r : Row R us xs) (q : α → Bool) (f : Nat → Option V) (hf : ∀ i x u, us[i]? = some u → xs[i]? = some x → f i = if q x = true then some u else none) : Row R ((List.range us.length).filterMap f) (xs.filter q) := by
  have key : ∀ n, n ≤ us.length → Row R ((List.range n).filterMap f) ((xs.take n).filter q) := fun n => by
    induction n with
    | zero => exact fun _ => Row.nil
    | succ n ih =>
      intro hn
      have hu : us[n]? = some (us[n]'(by omega)) := List.getElem?_eq_getElem _
      have hx : xs[n]? = some (xs[n]'(by have := r.1; omega)) := List.getElem?_eq_getElem _
      generalize us[n]'(by omega) = u at hu
      generalize xs[n]'(by have := r.1; omega) = x at hx
      rw [List.range_succ, List.filterMap_append, List.take_add_one, hx, List.filter_append]
      have e1 : List.filterMap f [n] = (f n).toList := by
        rw [List.filterMap_cons]
        cases f n with
        | none => rfl
        | some y => rfl
      have e2 : List.filter q (some x).toList = if q x = true then [x] else [] := by
        show List.filter q [x] = _
        rw [List.filter_cons]
        rfl
      rw [e1, e2, hf n x u hu hx]
      by_cases h : q x = true
      · rw [if_pos h, if_pos h]
        exact (ih (by omega)).snoc (r.2 n u x hu hx)
      · rw [if_neg h, if_neg h]
        show Row R (_ ++ []) (_ ++ [])
        rw [List.append_nil, List.append_nil]
        exact ih (by omega)
  have := key us.length (Nat.le_refl _)
  rw [r.1, List.take_length, ← r.1] at this
  exact this
end Hb

set_option Elab.async false
set_option linter.all false
set_option maxRecDepth 100000
set_option maxHeartbeats 4000000
/-! len(set(xs)) of tuples of ints, comprehensions with two fors -/
namespace Hb
open PySem PySem.Spec L2 PyProof.Rows
def tLenSetT (K : PySem.W.Frag) (ta : TE) : TE := fun σ H Q => ta σ H fun x H1 => ∃ (l : Addr) (ks : List (Addr × List Int)), x = V.ref l ∧ SqL K H1 l (ks.map fun p => V.ref p.1) ∧ (∀ p ∈ ks, SqT K H1 p.1 (p.2.map V.int)) ∧ ks.length < 64 ∧
  ∀ L : List (List Int), L.Nodup → (∀ x, x ∈ L ↔ x ∈ ks.map (·.2)) → Q (.int L.length) H1
section
variable {X : Cx}
theorem pe_lenSetT {a : Expr} {ta : TE} {p p2 q pos : Pos} {K : PySem.W.Frag} (hc : X.calm = true) (hu : X.A.units + 64 < cLine) (hg : Gl X "len") (hm : X.mg "len" = none) (hg2 : Gl X "set") (hm2 : X.mg "set" = none) (ha : PE X a ta)
    (na : starEach [a] X.env = (false, eval a X.env) :: starEach [] X.env := by rfl) (hK : X.K = K := by rfl) : PE X (.Call (.Name "len" p) [.Call (.Name "set" p2) [a] [] q] [] pos) (tLenSetT K ta) := by
  subst hK
  refine ⟨fun pins s σ H Q I h => ?_⟩
  refine Call_ (ld_blt I hg hm PySem.boot_len ?_)
  refine PyProof.Rows.callWith_builtin1 (PyProof.Rows.args_cons ?_ rfl) rfl rfl
  refine Call_ (ld_blt I hg2 hm2 PyProof.Rows.boot_set ?_)
  refine PyProof.Rows.callWith_type1 (PyProof.Rows.args_cons (thn (ha.run pins s σ H _ I h) fun v s1 ⟨x, H1, I1, r1, q1⟩ => PyProof.Rows.args_nil ?_) na) na rfl
  obtain ⟨l, ks, rfl, hq, hk, h1, q1⟩ := q1
  cases r1
  obtain ⟨its, rv, pl, hz⟩ := I1.list hq
  refine call_set_tups (P := X.prog) (w := X.w) ks (I1.ok.hd hc) pl.isList (by simpa using refs_of_vals rv) (fun p hp => I1.isT (hk p hp)) h1 (by omega) fun h' tk L es ep t R g hkk => ?_
  refine PyProof.Rows.args_nil ?_
  have I2 : Inv X pins σ H1 { s1 with heap := h', toks := tk } := I1.kept fun b o e => hkk b o e
  obtain ⟨o, ho, hex, hd⟩ := R.ob
  have hz2 : es.size = L.length := SetTR.size (s := { s1 with heap := h', toks := tk }) R
  refine call_len_set ho hex hd (SetTR.fits (s := { s1 with heap := h', toks := tk }) R) (by have := R.few; omega) ⟨.int (L.map (·.2)).length, H1, I2.tok _, ⟨_, by rw [hz2, List.length_map]⟩, q1 _ R.nd fun x => ⟨fun hx => ?_, fun hx => ?_⟩⟩
  · obtain ⟨p, hp, rfl⟩ := List.mem_map.mp hx
    exact List.mem_map.mpr ⟨p, List.mem_of_mem_take (g.sub p hp), rfl⟩
  · obtain ⟨p, hp, rfl⟩ := List.mem_map.mp hx
    exact g.all p (by rw [List.take_length]; exact hp)
end
/-! ### [v for t in ts for v in t if ..] -/
theorem turns_tup {K : PySem.W.Frag} {a : Addr} {xs : List V} {H0 : Hp} {Qd : Hp → Prop} {Body : (Hp → Prop) → V → Hp → Prop} (Pv : Nat → Hp → Prop) (h0 : Pv 0 H0) (hl : ∀ i H, i ≤ xs.length → Pv i H → SqT K H a xs) (hs : ∀ i x H, xs[i]? = some x → Pv i H → Body (Pv (i + 1)) x H) (hd : ∀ H, Pv xs.length H → Qd H) : Turns (Itt K a) Body H0 Qd := by
  refine ⟨fun i m H => m = xs.length - i ∧ i ≤ xs.length ∧ Pv i H, ⟨xs.length, by simp, Nat.zero_le _, h0⟩, ?_⟩
  rintro i m H ⟨rfl, hi, p⟩
  have q := hl i H hi p
  by_cases hlt : i < xs.length
  · refine .inr ⟨⟨xs, xs[i], q, by simp [hlt]⟩, Pv (i + 1), fun H' p' => ⟨xs.length - (i + 1), by omega, rfl, hlt, p'⟩, fun x H' y => ?_⟩
    obtain ⟨e, y⟩ := y
    subst e
    exact hs i x _ (y xs q) p
  · have e : i = xs.length := by omega
    subst e
    exact .inl ⟨⟨xs, q, Nat.le_refl _⟩, hd H p⟩
def Lc2In (g1 : TG) (tt1 : TT) (te : TE) (vs1 : List Nat) (σ2 : L2.St) (D : Addr) (Nx1 : Hp → Prop) (x : V) (H : Hp) : Prop := g1 x (wipe σ2 vs1) H fun σ3 H5 => wipe σ3 vs1 = wipe σ2 vs1 ∧ tt1 σ3 H5 fun b H6 =>
  if b = true then te σ3 H6 fun y H7 => ∃ acc, H7 D = some (.lst acc) ∧ acc.length < sizeLine ∧ Nx1 (upd H7 D (.lst (acc ++ [y]))) else Nx1 H6
def Lc2Out (g : TG) (tt : TT) (wi1 : TI) (g1 : TG) (tt1 : TT) (te : TE) (vs vs1 : List Nat) (σ : L2.St) (D : Addr) (Nx : Hp → Prop) (x : V) (H : Hp) : Prop := g x (wipe σ vs) H fun σ2 H2 => wipe σ2 vs = wipe σ vs ∧ tt σ2 H2 fun b H3 =>
  if b = true then wi1 σ2 H3 fun J1 H4 => Turns J1 (Lc2In g1 tt1 te vs1 σ2 D) H4 Nx else Nx H3
theorem w_lc2R {K : PySem.W.Frag} {σ : L2.St} {H : Hp} {Q : VK} {tl : TE} {g : TG} {tt : TT} {wi1 : TI} {g1 : TG} {tt1 : TT} {te : TE} {vs vs1 : List Nat} (q : tl σ H fun x H1 => ListR K x H1 fun J H1 => ∀ D, H1 D = none → Turns J (Lc2Out g tt wi1 g1 tt1 te vs vs1 σ D) (upd H1 D (.lst [])) fun H => Q (.ref D) H) : tLc2 (iList K tl) g tt wi1 g1 tt1 te vs vs1 σ H Q := q
/-- the rows are tuples; what is kept of them, in order -/
theorem w_lc2T {K : PySem.W.Frag} {σ : L2.St} {H : Hp} {Q : VK} {tl tm : TE} {tt1 : TT} {te : TE} {j j1 : Nat} {vs vs1 : List Nat} {a : Addr} {us : List V} (it : Nat → List V) (keep : Nat → Nat → Bool) (hx : SqL K H a us) (hz : us.length ≤ 100000) (h2 : ∀ i, (it i).length ≤ 10)
    (hu : ∀ (i : Nat) (u : V), us[i]? = some u → ∃ p, u = .ref p ∧ H p = some (.tup (it i)))
    (htl : ∀ Q : VK, Q (.ref a) H → tl σ H Q) (hw : ∀ v, wipe ((wipe σ vs).set j (some v)) vs = wipe σ vs)
    (htm : ∀ (v : V) (H' : Hp) (Q' : VK), Q' v H' → tm ((wipe σ vs).set j (some v)) H' Q')
    (hw1 : ∀ u v, wipe ((wipe ((wipe σ vs).set j (some u)) vs1).set j1 (some v)) vs1 = wipe ((wipe σ vs).set j (some u)) vs1)
    (he : ∀ (i k : Nat) (p : Addr) (v : V) (H' : Hp) (Nx : Hp → Prop) (Ap : VK), us[i]? = some (.ref p) → (it i)[k]? = some v → Same H H' → (keep i k = false → ∀ H2, Same H' H2 → Nx H2) → (keep i k = true → ∀ H2, Same H' H2 → Ap v H2) →
      tt1 ((wipe ((wipe σ vs).set j (some (.ref p))) vs1).set j1 (some v)) H' fun b H2 => if b = true then te ((wipe ((wipe σ vs).set j (some (.ref p))) vs1).set j1 (some v)) H2 Ap else Nx H2)
    (hq : ∀ D acc H', Hs H [(D, .lst acc)] H' → acc = (List.range us.length).flatMap (fun i => (List.range (it i).length).filterMap fun k => if keep i k = true then (it i)[k]? else none) → Q (.ref D) H') :
    tLc2 (iList K tl) (gName j) tYes (iTup K tm) (gName j1) tt1 te vs vs1 σ H Q := by
  refine w_lc2R (htl _ (w_listR hx fun D hD => ?_))
  let row : Nat → Nat → List V := fun i n => (List.range n).filterMap fun k => if keep i k = true then (it i)[k]? else none
  let done : Nat → List V := fun n => (List.range n).flatMap fun i => row i (it i).length
  have rowz : ∀ i n, (row i n).length ≤ n := fun i n => by
    refine Nat.le_trans (List.length_filterMap_le _ _) ?_
    rw [List.length_range]
    exact Nat.le_refl _
  have donez : ∀ n, (done n).length ≤ n * 10 := fun n => by
    induction n with
    | zero => exact Nat.le_refl _
    | succ n ih =>
      show ((List.range (n + 1)).flatMap fun i => row i (it i).length).length ≤ _
      rw [List.range_succ, List.flatMap_append, List.length_append]
      have h1 := rowz n (it n).length
      have h3 := h2 n
      have h4 : ([n].flatMap fun i => row i (it i).length).length = (row n (it n).length).length := by simp
      rw [h4]
      have : (List.flatMap (fun i => row i (it i).length) (List.range n)).length ≤ n * 10 := ih
      omega
  refine turns_list (Body := Lc2Out (gName j) tYes (iTup K tm) (gName j1) tt1 te vs vs1 σ D) (fun i H' => Hs H [(D, .lst (done i))] H') ((Hs.start H).new hD) (fun i H' _ h => h.same.seq hx) ?_ ?_
  · intro i u H' hui hs
    obtain ⟨p, rfl, hp⟩ := hu i u hui
    have hi := (List.getElem?_eq_some_iff.mp hui).1
    refine w_name ⟨hw _, w_yes (iteT (htm _ _ _ ⟨p, rfl, ⟨_, SqT.of (hs.same _ _ hp)⟩, ?_⟩))⟩
    refine turns_tup (xs := it i) (Body := Lc2In (gName j1) tt1 te vs1 _ D) (fun k H2 => Hs H [(D, .lst (done i ++ row i k))] H2) ?_ (fun k H2 _ h => SqT.of (h.same _ _ hp)) ?_ ?_
    · show Hs H [(D, .lst (done i ++ []))] H'
      rw [List.append_nil]
      exact hs
    · intro k v H2 hv hs2
      have hst : row i (k + 1) = row i k ++ (if keep i k = true then [v] else []) := by
        show (List.range (k + 1)).filterMap _ = _
        rw [List.range_succ, List.filterMap_append]
        congr 1
        rw [List.filterMap_cons, hv]
        cases keep i k with
        | true => rfl
        | false => rfl
      refine w_name ⟨hw1 _ _, he i k p v H2 _ _ hui hv hs2.same (fun hn H3 s3 => ?_) fun hy H3 s3 => ?_⟩
      · rw [hst, hn]
        simp only [Bool.false_eq_true, if_false, List.append_nil]
        exact hs2.keep s3
      · have z1 := donez i
        have z2 := rowz i k
        have z3 := h2 i
        have z4 := (List.getElem?_eq_some_iff.mp hv).1
        refine ⟨_, s3 _ _ hs2.g0, szl (by rw [List.length_append]; omega), ?_⟩
        rw [hst, hy]
        simp only [if_true]
        rw [← List.append_assoc]
        exact (hs2.keep s3).p0 _
    · intro H2 hs2
      have : done (i + 1) = done i ++ row i (it i).length := by
        show (List.range (i + 1)).flatMap _ = _
        rw [List.range_succ, List.flatMap_append]
        simp [done]
      show Hs H [(D, .lst (done (i + 1)))] H2
      rw [this]
      exact hs2
  · intro H' hs
    exact hq D _ H' hs rfl
end Hb

set_option Elab.async false
set_option linter.all false
set_option maxRecDepth 100000
set_option maxHeartbeats 4000000
/-! for over a tuple; a number in a list of numbers -/
namespace Hb
open PySem PySem.Spec L2 PyProof.Rows
section
variable {K : PySem.W.Frag} {σ : L2.St} {H : Hp} {Q : VK} {D : Ends} {g : TG} {tb : TS}
def TupR (K : PySem.W.Frag) (x : V) (H1 : Hp) (R : It → Hp → Prop) : Prop := ∃ a, x = V.ref a ∧ (∃ xs, SqT K H1 a xs) ∧ R (Itt K a) H1
theorem w_forTF {tl : TE} (q : tl σ H fun x H1 => TupR K x H1 (ForR g tb D σ)) : tFor (iTup K tl) g tb D σ H := q
theorem w_tupR {a : Addr} {xs : List V} {R : It → Hp → Prop} (h : SqT K H a xs) (q : R (Itt K a) H) : TupR K (.ref a) H R := ⟨a, rfl, ⟨xs, h⟩, q⟩
theorem for_tupR {a : Addr} {xs : List V} (Pv : Nat → L2.St → Hp → Prop) (h0 : Pv 0 σ H) (hl : ∀ i σ H, i ≤ xs.length → Pv i σ H → SqT K H a xs)
    (hs : ∀ i x σ H, xs[i]? = some x → Pv i σ H → g x σ H fun σ2 H2 => tb { D with nx := Pv (i + 1), ct := Pv (i + 1), bk := D.nx } σ2 H2) (hd : ∀ σ H, Pv xs.length σ H → D.nx σ H) : ForR g tb D σ (Itt K a) H := by
  refine ⟨fun i m σ H => m = xs.length - i ∧ i ≤ xs.length ∧ Pv i σ H, ⟨xs.length, by simp, Nat.zero_le _, h0⟩, ?_⟩
  rintro i m σ' H' ⟨rfl, hi, p⟩
  have q := hl i σ' H' hi p
  by_cases hlt : i < xs.length
  · refine .inr ⟨⟨xs, xs[i], q, List.getElem?_eq_getElem hlt⟩, Pv (i + 1), fun σ2 H2 p2 => ⟨xs.length - (i + 1), by omega, rfl, hlt, p2⟩, fun v H2 y => ?_⟩
    obtain ⟨rfl, y⟩ := y
    exact hs i v _ _ (y xs q) p
  · have e : i = xs.length := by omega
    subst e
    exact .inl ⟨⟨xs, q, Nat.le_refl _⟩, hd σ' H' p⟩
theorem inV_ints {n : Int} : ∀ ns : List Int, inV (.int n) (ns.map V.int) = decide (n ∈ ns)
  | [] => rfl
  | m :: ns => by
    have ih := inV_ints (n := n) ns
    unfold inV at ih ⊢
    rw [List.map_cons, List.any_cons, ih]
    have e : eqV (.int m) (.int n) = decide (n = m) := by
      by_cases h : m = n
      · subst h
        simp [eqV]
      · rw [decide_eq_false (Ne.symm h)]
        simp [eqV, h]
    rw [e]
    simp
theorem flat_ints : ∀ ns : List Int, (ns.map V.int).all flatV = true
  | [] => rfl
  | _ :: ns => by
    rw [List.map_cons, List.all_cons, flat_ints ns]
    rfl
theorem w_inIs {neg : Bool} {n : Int} {ns : List Int} {p : Addr} (h : SqL K H p (ns.map V.int)) (q : Q (.bl (if neg then !decide (n ∈ ns) else decide (n ∈ ns))) H) : rIn K neg (.int n) (.ref p) H Q := by
  refine ⟨p, _, rfl, .inl h, rfl, flat_ints ns, ?_⟩
  rw [inV_ints]
  exact q
theorem Hs.down {B B1 H : Hp} {L : List (Addr × HO)} (e : Same B B1) (hs : Hs B1 L H) : Hs B L H := ⟨e.trans hs.same, hs.nd, fun x hx => e.free (hs.out x hx), hs.at_⟩
theorem Hs.tups {B H : Hp} {L : List (Addr × HO)} (hs : Hs B L H) : ∀ p xs, B p = some (.tup xs) → H p = some (.tup xs) := fun _ _ => hs.same _ _
/-- what stands, owned for a while -/
theorem Hs.own {H : Hp} {d : Addr} {o : HO} (h : H d = some o) : ∃ B, Hs B [(d, o)] H ∧ (∀ p o', p ≠ d → H p = some o' → B p = some o') ∧ ∀ L H', Hs B (L ++ [(d, o)]) H' → Hs H L H' := by
  refine ⟨fun a => if a = d then none else H a, ⟨fun b o' hb => ?_, by simp, fun x hx => ?_, fun x hx => ?_⟩, fun p o' hp e => ?_, fun L H' hs => ⟨fun b o' hb => ?_, ?_, fun x hx => ?_, fun x hx => hs.at_ x (List.mem_append_left _ hx)⟩⟩
  · by_cases hd : b = d
    · rw [if_pos hd] at hb
      cases hb
    · rwa [if_neg hd] at hb
  · rw [List.mem_singleton.mp hx]
    exact if_pos rfl
  · rw [List.mem_singleton.mp hx]
    exact h
  · exact (if_neg hp).trans e
  · by_cases hd : b = d
    · subst hd
      rw [h] at hb
      cases hb
      exact hs.at_ (b, o) (List.mem_append_right _ (List.mem_singleton.mpr rfl))
    · exact hs.same b o' (by rw [if_neg hd]; exact hb)
  · have := hs.nd
    rw [List.map_append] at this
    exact (List.nodup_append.mp this).1
  · have h1 := hs.out x (List.mem_append_left _ hx)
    have h2 := hs.nd
    rw [List.map_append, List.nodup_append] at h2
    have h3 : x.1 ≠ d := fun e => h2.2.2 x.1 (List.mem_map_of_mem hx) d (by simp) e
    rwa [if_neg h3] at h1
/-! a dict read while it is walked -/
theorem w_dgetF {p : Addr} {kvs : List (Key × V)} {n : Int} {v : V} {od : Obj} (h : H p = some (.frz od (.dK kvs))) (hv : valV kvs (Sum.inl n) = some v) (q : Q v H) : RDget (.ref p) (.int n) H Q := ⟨p, v, rfl, .inl ⟨kvs, Sum.inl n, .inr ⟨od, h⟩, rfl, hv.symm⟩, q⟩
theorem w_ext2 {B : Hp} {L : List (Addr × HO)} {l b : Addr} {xs zs : List V} (hs : Hs B ((b, .lst zs) :: (l, .lst xs) :: L) H) (hl : xs.length + zs.length ≤ 1000000) (q : ∀ H', Hs B ((l, .lst (xs ++ zs)) :: L) H' → Q .non H') : rExtend (.ref l) [.ref b] H Q :=
  ⟨l, b, xs, zs, rfl, rfl, hs.g1, hs.g0, Nat.le_of_lt (szl (by omega)), q _ (hs.p1 _).tl⟩
theorem w_listDK {B : Hp} {L : List (Addr × HO)} {d : Addr} {kvs : List (Key × V)} (hs : Hs B L H) (h : H d = some (.dK kvs)) (q : ∀ p H', Hs B ((p, .lst (kvs.map fun kv => kV kv.1)) :: L) H' → Q (.ref p) H') : rListD [.ref d] H Q := ⟨d, kvs, rfl, h, w_new hs q⟩
theorem Hs.allin {B H : Hp} {L : List (Addr × HO)} (hs : Hs B L H) : ∃ B2, Same B B2 ∧ Hs B2 L H ∧ (∀ p o, H p = some o → p ∉ L.map (·.1) → B2 p = some o) := by
  have h := (show Hs B (L ++ []) H by rw [List.append_nil]; exact hs).frame L
  exact ⟨around L H, h.1, h.2.1, fun p o e n => by rw [around_out n]; exact e⟩
/-- a part stays one's own, the others go into the ground -/
theorem Hs.rest {B H : Hp} {R : List (Addr × HO)} (L : List (Addr × HO)) (hs : Hs B (L ++ R) H) : ∃ B2, Same B B2 ∧ Hs B2 L H ∧ ∀ e ∈ R, B2 e.1 = some e.2 := by
  have h := hs.frame L
  refine ⟨around L H, h.1, h.2.1, fun e he => ?_⟩
  have nd := hs.nd
  rw [List.map_append, List.nodup_append] at nd
  rw [around_out fun z => nd.2.2 e.1 z e.1 (List.mem_map_of_mem he) rfl]
  exact hs.at_ e (List.mem_append_right _ he)
/-! what repr shows -/
def IB (n : Int) : Prop := 0 ≤ n ∧ n ≤ 100
structure Sh (D b : Nat) (d : PyData) : Prop where
  lay : d.canLay0 = true
  dep : d.depth ≤ D
  sho : d.showable = true
  blk : d.bulk ≤ b
  lvs : d.leavesShort 13 = true
theorem Sh.mono {D D' b b' : Nat} (h1 : D ≤ D') (h2 : b ≤ b') {d : PyData} (h : Sh D b d) : Sh D' b' d := ⟨h.lay, Nat.le_trans h.dep h1, h.sho, Nat.le_trans h.blk h2, h.lvs⟩
structure ShA (D b : Nat) (xs : List PyData) : Prop where
  lay : PyData.canLayAll0 xs = true
  dep : PyData.depthAll xs ≤ D
  sho : PyData.showableAll xs = true
  blk : PyData.bulkAll xs ≤ b
  lvs : PyData.leavesShortAll 13 xs = true
theorem ShA.nil {D b : Nat} : ShA D b [] := ⟨rfl, Nat.zero_le _, rfl, Nat.zero_le _, rfl⟩
theorem ShA.cons {D b c : Nat} {x : PyData} {xs : List PyData} (h : Sh D b x) (t : ShA D c xs) : ShA D (b + 1 + c) (x :: xs) := by
  have h1 := h.dep
  have h2 := t.dep
  have h3 := h.blk
  have h4 := t.blk
  refine ⟨?_, ?_, ?_, ?_, ?_⟩
  · simp only [PyData.canLayAll0, h.lay, t.lay, Bool.and_self]
  · simp only [PyData.depthAll]
    omega
  · simp only [PyData.showableAll, h.sho, t.sho, Bool.and_self]
  · simp only [PyData.bulkAll]
    omega
  · simp only [PyData.leavesShortAll, h.lvs, t.lvs, Bool.and_self]
theorem ShA.all {D b : Nat} : ∀ {xs : List PyData}, (∀ x ∈ xs, Sh D b x) → ShA D (xs.length * (b + 1)) xs
  | [], _ => ShA.nil
  | x :: xs, h => by
    have := (h x (List.mem_cons_self ..)).dep
    have t := ShA.cons (h x (List.mem_cons_self ..)) (ShA.all fun y hy => h y (List.mem_cons_of_mem _ hy))
    rw [List.length_cons, Nat.add_mul, Nat.one_mul, Nat.add_comm]
    exact t
theorem Sh.tup {D b : Nat} {xs : List PyData} (h : ShA D b xs) : Sh (D + 1) b (.tuple xs) := by
  have := h.dep
  exact ⟨by simp only [PyData.canLay0, h.lay], by simp only [PyData.depth]; omega, by simp only [PyData.showable, h.sho], by simp only [PyData.bulk]; exact h.blk, by simp only [PyData.leavesShort, h.lvs]⟩
theorem Sh.lst {D b : Nat} {xs : List PyData} (h : ShA D b xs) : Sh (D + 1) b (.list xs) := by
  have := h.dep
  exact ⟨by simp only [PyData.canLay0, h.lay], by simp only [PyData.depth]; omega, by simp only [PyData.showable, h.sho], by simp only [PyData.bulk]; exact h.blk, by simp only [PyData.leavesShort, h.lvs]⟩
theorem small_ints : ∀ n : Fin 101, (PyData.int ((n.val : Nat) : Int)).showable = true ∧ (PyData.int ((n.val : Nat) : Int)).leavesShort 13 = true := by decide +kernel
theorem Sh.int {n : Int} (h : IB n) : Sh 0 0 (.int n) := by
  have := small_ints ⟨n.toNat, by have := h.2; omega⟩
  have e : ((n.toNat : Nat) : Int) = n := by have := h.1; omega
  rw [e] at this
  exact ⟨rfl, Nat.le_refl _, this.1, Nat.le_refl _, this.2⟩
theorem Sh.ints {ns : List Int} (h : ∀ x ∈ ns, IB x) : Sh 1 (ns.length * 1) (.tuple (ns.map .int)) := by
  have := Sh.tup (ShA.all (D := 0) (b := 0) (xs := ns.map .int) fun d hd => by
    obtain ⟨x, hx, rfl⟩ := List.mem_map.mp hd
    exact Sh.int (h x hx))
  rw [List.length_map] at this
  exact this
/-! != of two dicts that map alike: the values are data -/
theorem kv_at {ls : List (Key × V)} {vs : List (Key × Value)} (r : KV ls vs) {k : Key} {u : V} (h : valV ls k = some u) : ∃ y, valueAt vs k = some y ∧ RelV u y := by
  induction r with
  | nil => cases h
  | @cons p q ps qs h1 _ ih =>
    unfold valV at h
    rw [List.find?_cons] at h
    unfold valueAt
    rw [List.find?_cons]
    by_cases hk : q.1 = k
    · have e1 : decide (p.1 = k) = true := decide_eq_true (h1.1.trans hk)
      rw [e1] at h
      cases h
      rw [decide_eq_true hk]
      exact ⟨q.2, rfl, h1.2⟩
    · have e1 : decide (p.1 = k) = false := decide_eq_false fun z => hk (h1.1.symm.trans z)
      rw [e1] at h
      rw [decide_eq_false hk]
      exact ih h
def rNeDD (K : PySem.W.Frag) : R2 := fun x y H Q => ∃ (a b : Addr) (ks ls : List (Key × V)), x = .ref a ∧ y = .ref b ∧ H a = some (.dK ks) ∧ H b = some (.dK ls) ∧ ks.length = ls.length ∧ (∀ p ∈ ks, ∃ u d, valV ls p.1 = some u ∧ Dp K H p.2 d ∧ Dp K H u d ∧ SeqAt.shaped d = true) ∧ Q (.bl false) H
theorem op_neDD {X : Cx} (hu : X.A.units + 65 < cLine) (hK : X.K = K := by rfl) : OpR X (compareOp .NotEq) (rNeDD K) := by
  subst hK
  intro pins s σ H x y v u Q I rx ry h
  obtain ⟨a, b, ks, ls, rfl, rfl, ha, hb, hl, hall, q⟩ := h
  cases rx
  cases ry
  obtain ⟨_, na, va, ra, da⟩ := dk_of I.hok ha
  obtain ⟨_, nb, vb, rb, db⟩ := dk_of I.hok hb
  have hits : ∀ {ks : List (Key × V)} {va : List (Key × Value)}, KV ks va → (∀ p ∈ ks, ∃ u d, valV ls p.1 = some u ∧ Dp X.K H p.2 d ∧ Dp X.K H u d ∧ SeqAt.shaped d = true) → PySem.W.KeqHits X.A.in1 s vb va true := fun {ks va} r => by
    induction r with
    | nil => exact fun _ => .nil
    | @cons p z ps zs h1 _ ih =>
      intro hall
      obtain ⟨u, d, h2, h3, h4, h5⟩ := hall p List.mem_cons_self
      obtain ⟨y, hy, ry⟩ := kv_at rb h2
      obtain ⟨as, g1⟩ := Dp.reads I d _ _ h3 h1.2
      obtain ⟨bs, g2⟩ := Dp.reads I d _ _ h4 ry
      have e := PySem.W.keq_at (A := X.A) g1 g2 h5 h5 (by show X.A.units + 1 + 64 < cLine; omega)
      rw [SeqAt.eqv_refl _ (shp_can h5)] at e
      have hz : z = (z.1, z.2) := rfl
      have := PySem.W.KeqHits.hit (k := z.1) (v := z.2) (by rw [← h1.1]; exact hy) e (ih fun p hp => hall p (List.mem_cons_of_mem _ hp))
      exact this
  have len : va.length = vb.length := by
    have h1 := Paired.length ra
    have h2 := Paired.length rb
    omega
  refine PySem.W.keq_ne na nb da db (by omega) (fun _ => hits ra hall) ?_
  have e : (!(va.length == vb.length && true)) = false := by rw [len]; simp
  rw [e]
  exact ⟨.bl false, H, I, rfl, q⟩
/-! two ways to one place -/
theorem w_orD {b1 b2 : Bool} {tb : TE} (h : b1 = false → ∀ R : VK, R (.bl b2) H → tb σ H R) (q : Q (.bl (b1 || b2)) H) : ∃ k, V.bl b1 = .bl k ∧ if k = true then Q (.bl true) H else tb σ H Q := by
  refine ⟨b1, rfl, ?_⟩
  cases b1 with
  | true => exact q
  | false => exact h rfl _ q
theorem join {A G : Prop} (f : A → G) (a : A) : G := f a
/-! [x for x in us if ..], what is told of a row -/
theorem w_lcFR {α : Type} {RR : V → α → Prop} {σ : L2.St} {tl : TE} {a : Addr} {tt : TT} {us : List V} {xs : List α} {i : Nat} (p : α → Bool) (hx : SqL K H a us) (hL : Row RR us xs) (hz : us.length ≤ 1000) (htl : ∀ Q : VK, Q (.ref a) H → tl σ H Q)
    (hw : ∀ x, wipe ((wipe σ [i]).set i (some x)) [i] = wipe σ [i]) (hv : ∀ x, ((wipe σ [i]).set i (some x))[i]? = some (some x))
    (ht : ∀ u x H1, x ∈ xs → RR u x → Same H H1 → ∀ R : Bool → Hp → Prop, (∀ H2, Same H1 H2 → R (p x) H2) → tt ((wipe σ [i]).set i (some u)) H1 R)
    (hq : ∀ D acc H', Hs H [(D, .lst acc)] H' → Row RR acc (xs.filter p) → Q (.ref D) H') : tLc (iList K tl) (gName i) tt (tVar i) [i] σ H Q := by
  refine w_lc hx (fun D j H' => ∃ acc, Hs H [(D, .lst acc)] H' ∧ Row RR acc ((xs.take j).filter p)) htl (fun D hD => ⟨[], (Hs.start H).new hD, Row.nil⟩) (fun D j H' _ ⟨_, h, _⟩ => h.same.seq hx) ?_ ?_
  · rintro D j u H' hj ⟨acc, h1, h2⟩
    obtain ⟨x, hxj, hk⟩ := hL.get hj
    refine ⟨hw _, ht u x H' (List.mem_of_getElem? hxj) hk h1.same _ fun H2 sb => ?_⟩
    have hlen := h2.1
    have hj2 := (List.getElem?_eq_some_iff.mp hj).1
    have h3 : Hs H [(D, .lst acc)] H2 := h1.keep sb
    have e1 := take_filter (p := p) hxj
    by_cases hp : p x = true
    · rw [if_pos hp]
      rw [if_pos hp] at e1
      refine ⟨_, hv _, acc, h3.g0, ?_, acc ++ [u], h3.p0 _, ?_⟩
      · refine szl ?_
        have := List.length_filter_le p (xs.take j)
        rw [List.length_take] at this
        omega
      · rw [e1]
        exact h2.snoc hk
    · rw [if_neg hp]
      rw [if_neg hp, List.append_nil] at e1
      refine ⟨acc, h3, ?_⟩
      rw [e1]
      exact h2
  · rintro D H' ⟨acc, h1, h2⟩
    rw [hL.1, List.take_length] at h2
    exact hq D acc H' h1 h2
theorem op_niDT {X : Cx} (hu : X.A.units + 65 < cLine) (hK : X.K = K := by rfl) : OpR X (compareOp .NotIn) (rInDT K true) := by
  subst hK
  intro pins s σ H x y v u Q I rx ry h
  obtain ⟨d, ds, hd, he, sd, se, q⟩ := h
  obtain ⟨as, r1⟩ := Dp.reads I d x v hd rx
  obtain ⟨bs, r2⟩ := Dp.reads I (.tuple ds) y u he ry
  exact SeqAt.notIn_tuple_reads r2 r1 (SeqAt.canLay_of_shaped se) (SeqAt.canLay_of_shaped sd) (room_in_shaped sd hu) ⟨.bl _, H, I, rfl, q⟩
theorem w_isTu {p : Addr} {xs : List V} (h : H p = some (.tup xs)) (k : Q (.bl true) H) : rIsi K [.ref p, .ty "tuple"] H Q :=
  ⟨_, _, _, _, true, rfl, .ty "tuple", .base (.tup h), kit_ty (by decide +kernel), k⟩
theorem w_notBl {a b : Bool} (q : Q (.bl (!decide (a = b))) H) : rNotB (.bl a) (.bl b) H Q := ⟨a, b, rfl, rfl, q⟩
/-! one tuple of ints > another one -/
def rGtT : R2 := fun x y H Q => ∃ (a b : Addr) (ns ms : List Int), x = .ref a ∧ y = .ref b ∧ H a = some (.tup (ns.map V.int)) ∧ H b = some (.tup (ms.map V.int)) ∧ ns.length = ms.length ∧ Q (.bl (lexI ms ns)) H
theorem op_gtT {X : Cx} (hu : X.A.units + 64 < cLine) : OpR X (compareOp .Gt) rGtT := by
  intro pins s σ H x y v u Q I rx ry h
  obtain ⟨a, b, ns, ms, rfl, rfl, ha, hb, hl, q⟩ := h
  obtain ⟨as, r1⟩ := Dp.reads I (.tuple (ns.map .int)) _ _ (.tup (SqT.of ha) (im_ints ns).dp) rx
  obtain ⟨bs, r2⟩ := Dp.reads I (.tuple (ms.map .int)) _ _ (.tup (SqT.of hb) (im_ints ms).dp) ry
  refine PySem.W.gt_data r1 r2 (alike_ints hl) (by intro z; cases z) ?_ ⟨.bl (lexI ms ns), H, I, ?_, q⟩
  · have h1 := depth_ints ns
    have h2 := depth_ints ms
    simp only [PyData.depth]
    omega
  · rw [dataLt_ints]
    rfl
theorem w_gtT {a b : Addr} {ns ms : List Int} (ha : H a = some (.tup (ns.map V.int))) (hb : H b = some (.tup (ms.map V.int))) (hl : ns.length = ms.length) (q : Q (.bl (lexI ms ns)) H) : rGtT (.ref a) (.ref b) H Q := ⟨a, b, ns, ms, rfl, rfl, ha, hb, hl, q⟩
/-! a comprehension within another one's block -/
theorem look_rel {env : Env} {n : Str} : ∀ {l : List (Str × NameKind)} {k : NameKind}, l.lookup n = some k → k = .cell ∨ k = .free →
    (l.map fun x => match x with
      | (n, k) => if (k == NameKind.free && env.scope.kind == ScopeKind.function && env.kindOf n == some NameKind.cell) = true then (n, NameKind.cell) else (n, k)).lookup n = some .cell ∨
    (l.map fun x => match x with
      | (n, k) => if (k == NameKind.free && env.scope.kind == ScopeKind.function && env.kindOf n == some NameKind.cell) = true then (n, NameKind.cell) else (n, k)).lookup n = some .free
  | [], _, h, _ => nomatch h
  | (m, j) :: l, k, h, hk => by
    rw [List.lookup_cons] at h
    rw [List.map_cons]
    by_cases hm : n = m
    · subst hm
      have e : (n == n) = true := by simp
      rw [e] at h
      cases h
      by_cases hc : (j == NameKind.free && env.scope.kind == ScopeKind.function && env.kindOf n == some NameKind.cell) = true
      · left
        show List.lookup n ((if _ then _ else _) :: _) = _
        rw [if_pos hc, List.lookup_cons, e]
      · rcases hk with rfl | rfl
        · left
          show List.lookup n ((if _ then _ else _) :: _) = _
          rw [if_neg hc, List.lookup_cons, e]
        · right
          show List.lookup n ((if _ then _ else _) :: _) = _
          rw [if_neg hc, List.lookup_cons, e]
    · have e : (n == m) = false := by simpa using hm
      rw [e] at h
      have ih := look_rel (env := env) (l := l) h hk
      by_cases hc : (j == NameKind.free && env.scope.kind == ScopeKind.function && env.kindOf m == some NameKind.cell) = true
      · show List.lookup n ((if _ then _ else _) :: _) = _ ∨ List.lookup n ((if _ then _ else _) :: _) = _
        rw [if_pos hc, List.lookup_cons, e]
        exact ih
      · show List.lookup n ((if _ then _ else _) :: _) = _ ∨ List.lookup n ((if _ then _ else _) :: _) = _
        rw [if_neg hc, List.lookup_cons, e]
        exact ih
theorem blkOk_in {N : List Str} {scO scope : Scope} {own : List (Str × Nat)} {env : Env} {cl : List (Str × Addr)} {C : Addr} (h : blkC N scO scope own = true) : BlkOk N (Env.scope (compEnvC scO cl C env)) scope own := by
  have b : BlkOk N scO scope own := blkOk_by h
  exact ⟨b.kind, b.uniq, b.ix, fun y hy hk => (b.free y hy hk).elim (fun z => look_rel z (.inl rfl)) (fun z => look_rel z (.inr rfl)), b.own⟩
/-! xs[::-1] -/
theorem pe_revLK {X : Cx} {e : Expr} {te : TE} {k p1 p2 p3 pos} (he : PE X e te) (hK : X.K = K := by rfl) : PE X (.Subscript e (.Slice none none (some (.UnaryOp .USub (.Constant (.int 1) k p1) p2)) p3) pos) (tRevL K te) := by
  subst hK
  exact pe_revL he
def RevR (K : PySem.W.Frag) (x : V) (H1 : Hp) (Q : VK) : Prop := ∃ a xs, x = .ref a ∧ SqL K H1 a xs ∧ ∀ p, H1 p = none → Q (.ref p) (upd H1 p (.lst xs.reverse))
theorem w_revL {te : TE} (q : te σ H fun x H1 => RevR K x H1 Q) : tRevL K te σ H Q := q
theorem w_revR {B : Hp} {L : List (Addr × HO)} {a : Addr} {xs : List V} (hs : Hs B L H) (h : SqL K H a xs) (q : ∀ l H', Hs B ((l, .lst xs.reverse) :: L) H' → Q (.ref l) H') : RevR K (.ref a) H Q := ⟨a, xs, rfl, h, w_new hs q⟩
end
end Hb

set_option Elab.async false
set_option linter.all false
set_option maxRecDepth 100000
set_option maxHeartbeats 4000000
/-! Walks over dicts with tuple keys. -/
namespace Hb
open PySem L2 PyProof.Rows
/-- the keys' tuples of the locked dict at d, in its order -/
def Itn (w : World) (d : Addr) (o : Obj) (es : List Ent) : It :=
  ⟨fun i H => H d = some (.frz o (DN w d es)) ∧ i < es.length, fun i H x H' => H' = H ∧ ∃ e : Ent, es[i]? = some e ∧ x = .ref e.2.1, fun i H => H d = some (.frz o (DN w d es)) ∧ es.length ≤ i⟩
theorem dn_raw {X : Cx} {pins : List (Addr × Obj)} {σ : L2.St} {H : Hp} {s : Shared} {w : World} {d : Addr} {o : Obj} {es : List Ent} (I : Inv X pins σ H s) (h : H d = some (.frz o (DN w d es))) :
    (d == sysModules) = false ∧ s.heap.get? d = some o ∧ o.ExactDict ∧ ∃ (ds : Array DictEntry) (ep : Nat), o.data = .dict ds ep ∧ ds.size = es.length ∧ ∀ (i : Nat) (e : Ent), es[i]? = some e → ∃ en : DictEntry, ds[i]? = some en ∧ en.key = .ref e.2.1 := by
  obtain ⟨hd, ⟨_, hs, xs, r, o', ds, ep, ho, hx, hdt, he, _⟩, _⟩ := (show ObjOk X.prog X.w H s.heap d (.frz o (DN w d es)) from I.hok _ _ h)
  rw [hd] at ho
  cases ho
  have l1 : ds.size = xs.length := by rw [← Array.length_toList, he, List.length_map]
  refine ⟨hs, hd, hx, ds, ep, hdt, by rw [l1, r.len], fun i e hi => ?_⟩
  obtain ⟨b, hb, _, e2, _⟩ := paired_get r hi
  refine ⟨entN w b, ?_, congrArg Value.ref e2.symm⟩
  rw [← Array.getElem?_toList, he, List.getElem?_map, hb]
  rfl
section
variable {P : Program} {w : World} {K : PySem.W.Frag} {tg : Expr} {d : Addr} {o : Obj} {ds : Array DictEntry} {ep : Nat}
theorem turn_keysN {w0 : World} {es : List Ent} (it : Addr) (hod : o.data = .dict ds ep) : Turn P w K tg (Itn w0 d o es) [it] it (fun i h => h.IsKeyIter it d i es.length ep) where
  mem := List.mem_singleton.mpr rfl
  obj := fun i h st b hb => by
    obtain rfl := List.mem_singleton.mp hb
    obtain ⟨oi, e, c, dd⟩ := st
    exact ⟨oi, e, fun v z => by rw [dd] at z; cases z⟩
  keep := fun i h h' st k => st.at fun oi e => k it (List.mem_singleton.mpr rfl) oi e
  item := by
    intro X hP hw hK hc i pins s σ H E I hf st hg
    subst hP hw hK
    obtain ⟨hd, hi⟩ := hg
    obtain ⟨f0, f1, f2, f3, f4, f5⟩ := hf it (List.mem_singleton.mpr rfl)
    obtain ⟨hs, hgd, hx, ds', ep', hdt, hsz, ent⟩ := dn_raw I hd
    obtain ⟨rfl, rfl⟩ := dict_ep hod hdt
    obtain ⟨en, hen, hkey⟩ := ent i es[i] (List.getElem?_eq_getElem hi)
    refine next_key_item st hgd hdt hsz hen fun h' st' sb => ?_
    have I1 : Inv X pins σ H { s with heap := h' } := I.turned (t' := s.toks) (fun b ob hb e => (sb.2 b hb).trans e) f0 f1 f3 f4 f5
    obtain ⟨oi, e, c, dd⟩ := id st'
    exact ⟨en.key, rfl, go_of (s := { s with heap := h' }) e c dd (by decide) ⟨.ref es[i].2.1, H, I1, hkey, ⟨rfl, es[i], List.getElem?_eq_getElem hi, rfl⟩, st', fun b hb => (hf b hb).1⟩⟩
  done := by
    intro X hP hw hK hc i pins s σ H E I hf st hg
    subst hP hw hK
    obtain ⟨hd, hi⟩ := hg
    obtain ⟨f0, f1, f2, f3, f4, f5⟩ := hf it (List.mem_singleton.mpr rfl)
    obtain ⟨hs, hgd, hx, ds', ep', hdt, hsz, ent⟩ := dn_raw I hd
    obtain ⟨rfl, rfl⟩ := dict_ep hod hdt
    exact next_key_end (I.ok.hd hc) st hgd hdt hsz hi fun h' eb => ⟨rfl, I.turned (t' := s.toks) (fun b ob hb e => eb b ob hb e) f0 f1 f3 f4 f5⟩
  self := fun A i s Q E st h => wpAny_pyIter_keyiter st h
end
/-- the dict is locked where the walk begins, and stays so -/
def iKeysN (w : World) (td : TE) : TI := fun σ H R => td σ H fun x H1 => ∃ d es, x = .ref d ∧ H1 d = some (DN w d es) ∧ ∀ o, R (Itn w d o es) (upd H1 d (.frz o (DN w d es)))
theorem pi_keysN {X : Cx} {tg e : Expr} {td : TE} {w : World} (he : PE X e td) : PI X tg e (iKeysN w td) := by
  refine ⟨fun pins s σ H R I h => ?_⟩
  refine thn (he.run pins s σ H _ I h) fun u s1 ⟨x, H1, I1, rx, d, es, ex, hd1, q⟩ => ?_
  subst ex
  obtain rfl : u = Value.ref d := rx
  obtain ⟨o, I2⟩ := I1.lock hd1 True.intro
  obtain ⟨hs, hgd, hx, ds, ep, hdt, hsz, ent⟩ := dn_raw I2 upd_same
  refine iter_keys hs hgd hx hdt (pi_one (tk := s1.toks) I2 _ (turn_keysN _ hdt) ⟨_, Heap.get?_push_size _ rfl, rfl, ?_⟩ (q o))
  rw [hsz] <;> rfl
/-! {k: v for target in iter if ..}, the keys nested tuples -/
def tDcN (w : World) (wi : TI) (g : TG) (tt : TT) (tk tv : TE) (vs : List Nat) : TE := fun σ H Q => wi σ H fun J H1 => ∀ D, H1 D = none → ∃ W : Nat → Nat → Hp → Prop, (∃ m, W 0 m (upd H1 D (DN w D []))) ∧ ∀ i m H, W i m H →
  (J.stop i H ∧ Q (.ref D) H) ∨ (J.go i H ∧ ∃ Nx : Hp → Prop, (∀ H', Nx H' → ∃ m', m' < m ∧ W (i + 1) m' H') ∧ ∀ x H', J.yld i H x H' → g x (wipe σ vs) H' fun σ2 H2 => wipe σ2 vs = wipe σ vs ∧ tt σ2 H2 fun b H3 =>
    if b = true then tk σ2 H3 fun y H4 => tv σ2 H4 fun z H5 => ∃ (b : Addr) (es : List Ent) (k : NestedKey), y = .ref b ∧ H5 D = some (DN w D es) ∧ EntsOk H5 es ∧ NK H5 k (.ref b) ∧ k.depth ≤ 8 ∧ es.length < sizeLine ∧ Nx (upd H5 D (DN w D (putN es k b z))) else Nx H3)
theorem dn_dictSet {X : Cx} {pins : List (Addr × Obj)} {σ : L2.St} {H : Hp} {s : Shared} {E : Value → Shared → Prop} {D b : Addr} {es : List Ent} {k : NestedKey} {v : V} {r : Value} {Q : Unit → Shared → Prop} (hu : X.A.units + 64 < cLine) (I : Inv X pins σ H s) (hD : H D = some (DN X.w D es)) (hes : EntsOk H es) (hk : NK H k (.ref b)) (hd : k.depth ≤ 8) (hz : es.length < sizeLine)
    (rv : RelV v r) (h : ∀ s', Inv X pins σ (upd H D (DN X.w D (putN es k b v))) s' → Q () s') : wpAny (model X.prog X.w) X.A (dictSet D (.ref b) r) Q E s := by
  obtain ⟨z, y, xs, rel, dd⟩ := dn_of I.hok hD hes
  have hzv : xs.length ≤ sizeLine := by rw [← rel.len]; exact z
  have hl : (putN es k b v).length ≤ sizeLine := Nat.le_trans putN_len hz
  have hr : (nestedKind X.prog X.w).room X.A := by
    show X.A.units + 8 < cLine
    omega
  refine wpAny_dictSet_heap (hsz := hzv) hr (show (nestedKind X.prog X.w).is s.heap k b from ⟨hk.is I.hok rfl, hd⟩) dd fun h' dd' hs => h _ ?_
  have he : ∃ q, h'.get? D = some q := let ⟨q, _, _, hq, _⟩ := dd'; ⟨q, hq⟩
  exact d_write I (by rw [hD]; exact True.intro) hs he (dn_obj hl y (rel.put k b rv) dd')
section
variable {X : Cx}
theorem pe_dcN {kx vx tg iter : Expr} {ifs : List Expr} {scope : Scope} {own : List (Str × Nat)} {pos : Pos} {wi : TI} {g : TG} {tt : TT} {tk tv : TE} (hc : X.calm = true) (hu : X.A.units + 64 < cLine) (hN : X.N.Nodup) (hi : PI X tg iter wi) (ok : BlkOk X.N X.env.scope scope own)
    (hg : ∀ (s : Shared) (H : Hp) (C : Addr) (cl : List (Str × Addr)) (fp : List Addr), PG (X.blk s H scope (compEnvC scope cl C X.env) fp) tg g) (ht : ∀ (s : Shared) (H : Hp) (C : Addr) (cl : List (Str × Addr)) (fp : List Addr), PTs (X.blk s H scope (compEnvC scope cl C X.env) fp) ifs tt)
    (hk : ∀ (s : Shared) (H : Hp) (C : Addr) (cl : List (Str × Addr)) (fp : List Addr), PE (X.blk s H scope (compEnvC scope cl C X.env) fp) kx tk)
    (he : ∀ (s : Shared) (H : Hp) (C : Addr) (cl : List (Str × Addr)) (fp : List Addr), PE (X.blk s H scope (compEnvC scope cl C X.env) fp) vx tv) (hs : ∀ x, foldedSetIterable iter X.env x = pure x := by intro _; rfl) :
    PE X (.DictComp kx vx [⟨tg, iter, ifs, 0⟩] scope pos) (tDcN X.w wi g tt tk tv (own.map (·.2))) := by
  refine ⟨fun pins s σ H Q I h => ?_⟩
  rw [arm_eval_DictComp]
  have hfree : ∀ y ∈ scope.names, y.2 = .free → ∃ c, X.env.cells.lookup y.1 = some c := fun y hy e => by
    rcases ok.free y hy e with k | k
    · exact I.ok.has _ (.inl k)
    · exact I.ok.has _ (.inr k)
  refine wpAny_comprehension_free (use := none) rfl hs (closure_ok hfree) ok.kind (fun y hy e => by rw [ok.uniq y hy, e]) (thn (hi.run pins s σ H _ I h) fun xv s1 hx => thn hx fun itv s2 h2 => ?_)
  obtain ⟨it, fp, tn, J, H2, rfl, I2, T, st2, f2, q⟩ := h2
  refine wpAny_newObj_type (newEnv_comp ?_)
  obtain ⟨D, hD⟩ : ∃ D, D = s2.heap.objs.size := ⟨_, rfl⟩
  rw [← hD]
  obtain ⟨W, ⟨m0, w0⟩, turn⟩ := q D (I2.hok.fresh (Nat.le_of_eq hD.symm))
  have grown : ∀ b o, s2.heap.get? b = some o → (s2.heap.push { cls := .type "dict", data := .dict #[] }).get? b = some o := fun b o e => Heap.get?_push_of_some _ e
  have I3 : Inv X pins σ (upd H2 D (DN X.w D [])) { s2 with heap := s2.heap.push { cls := .type "dict", data := .dict #[] } } :=
    I2.laid (t' := s2.toks) grown (Nat.le_of_eq hD.symm) (hD ▸ dn_empty s2.heap I2.big)
  have f3 : ∀ b ∈ fp, FpOk X pins (upd H2 D (DN X.w D [])) b ∧ b < (s2.heap.push { cls := .type "dict", data := .dict #[] }).objs.size := fun b hb => by
    obtain ⟨o, e, _⟩ := T.obj _ _ st2 b hb
    have hlt := Heap.lt_size e
    refine ⟨⟨?_, (f2 b hb).2⟩, by rw [Heap.size_push]; exact Nat.lt_succ_of_lt hlt⟩
    rw [upd_ne (by rw [hD]; exact Nat.ne_of_lt hlt)]
    exact (f2 b hb).1
  have st3 := T.keep _ _ _ st2 fun b _ o e => grown b o e
  obtain ⟨s3, hs3⟩ : ∃ s3 : Shared, s3 = { s2 with heap := s2.heap.push { cls := .type "dict", data := .dict #[] } } := ⟨_, rfl⟩
  obtain ⟨H3, hH3⟩ : ∃ H3 : Hp, H3 = upd H2 D (DN X.w D []) := ⟨_, rfl⟩
  rw [← hH3] at I3 w0
  rw [← hs3] at I3
  have st3' : tn 0 s3.heap := by rw [hs3]; exact st3
  have f3' : ∀ b ∈ fp, FpOk X pins H3 b ∧ b < s3.heap.objs.size := fun b hb => by rw [hH3, hs3]; exact f3 b hb
  have I4 := block_start I3 ok hN f3'
  show codeAny _ _ (.compStart (.DictComp kx vx [⟨tg, iter, ifs, 0⟩] scope pos) 0 (.ref it) (.ref D) (compEnvC scope (cellsFrom ((s2.heap.push { cls := .type "dict", data := .dict #[] }).objs.size + 1) scope.names (cloFrom X.env.cells scope.names [])) (s2.heap.push { cls := .type "dict", data := .dict #[] }).objs.size X.env))
    (compPost (model X.prog X.w) X.A X.xe none (EP X pins σ Q) (.ref D) (s2.heap.push { cls := .type "dict", data := .dict #[] }).objs.size)
    { s2 with heap := pushCells ((s2.heap.push { cls := .type "dict", data := .dict #[] }).push { cls := .type "dict", data := .dict #[] }) scope.names }
  have hh3 : s2.heap.push { cls := .type "dict", data := .dict #[] } = s3.heap := by rw [hs3]
  have hst : ({ s2 with heap := pushCells ((s2.heap.push { cls := .type "dict", data := .dict #[] }).push { cls := .type "dict", data := .dict #[] }) scope.names } : Shared) = { s3 with heap := pushCells (s3.heap.push { cls := .type "dict", data := .dict #[] }) scope.names } := by rw [hs3]
  rw [hst, hh3]
  have pg := hg s3 H3 s3.heap.objs.size (cellsFrom (s3.heap.objs.size + 1) scope.names (cloFrom X.env.cells scope.names [])) fp
  have pt := ht s3 H3 s3.heap.objs.size (cellsFrom (s3.heap.objs.size + 1) scope.names (cloFrom X.env.cells scope.names [])) fp
  have pk := hk s3 H3 s3.heap.objs.size (cellsFrom (s3.heap.objs.size + 1) scope.names (cloFrom X.env.cells scope.names [])) fp
  have pe := he s3 H3 s3.heap.objs.size (cellsFrom (s3.heap.objs.size + 1) scope.names (cloFrom X.env.cells scope.names [])) fp
  generalize hce : compEnvC scope (cellsFrom (s3.heap.objs.size + 1) scope.names (cloFrom X.env.cells scope.names [])) s3.heap.objs.size X.env = ce at I4 pg pt pk pe ⊢
  have cL : ce.locals = s3.heap.objs.size := by subst hce; rfl
  generalize hs4 : ({ s3 with heap := pushCells (s3.heap.push { cls := .type "dict", data := .dict #[] }) scope.names } : Shared) = s4 at I4 ⊢
  have st4 : tn 0 s4.heap := T.keep _ _ _ st3' fun b _ o e => by rw [← hs4]; exact pushCells_keeps _ _ _ _ (Heap.get?_push_of_some _ e)
  have nfp : ∀ b ∈ fp, H3 b = none := fun b hb => (f3' b hb).1.1
  have stat : ∀ {σ' : L2.St} {H' : Hp} {s' : Shared}, Inv (X.blk s3 H3 scope ce fp) [] σ' H' s' → (∀ b ∈ fp, H' b = none) → ∀ b ∈ fp, FpOk (X.blk s3 H3 scope ce fp) [] H' b := fun {σ' H' s'} I' hn b hb =>
    ⟨hn b hb, (I'.ok.exf b hb).1, I'.ok.exfs b hb, .inl hb, fun x c e => (I'.ok.exf b hb).2 x c e, fun p hp => absurd (show p ∈ ([] : List (Addr × Obj)) ++ [] from hp) (by simp)⟩
  have loop : codeAny (model X.prog X.w) X.A (.compLoop (.DictComp kx vx [⟨tg, iter, ifs, 0⟩] scope pos) 0 (.ref it) (.ref D) ce) (compPost (model X.prog X.w) X.A X.xe none (EP X pins σ Q) (.ref D) s3.heap.objs.size) s4 := by
    refine compLoop_anyD (fun n s' => ∃ i H', Inv (X.blk s3 H3 scope ce fp) [] (wipe σ (own.map (·.2))) H' s' ∧ tn i s'.heap ∧ (∀ b ∈ fp, H' b = none) ∧ W i n H') ?_ m0 ⟨0, H3, I4, st4, nfp, w0⟩
    rintro n s5 ⟨i, H5, I5, st5, n5, w5⟩
    rcases turn i n H5 w5 with ⟨stop, qq⟩ | ⟨go, Nx, hNx, step⟩
    · refine thnF (T.done (X.blk s3 H3 scope ce fp) rfl rfl rfl hc i [] s5 _ H5 (fun _ _ => False) I5 (stat I5 n5) st5 stop) fun r s6 ⟨hr, I6⟩ => ?_
      subst hr
      have I7 : Inv X pins σ H5 s6 := I3.call' (ch := fp) I6.os I6.base I6.hok I6.bare fun b hb => ⟨(f3' b hb).1.2.2.2.1, (f3' b hb).1.2.1, (f3' b hb).1.2.2.2.2.1, (f3' b hb).1.2.2.2.2.2⟩
      have nC : H5 s3.heap.objs.size = none := by
        have z : H5 ce.locals = none := I6.free
        rwa [cL] at z
      obtain ⟨m, hn, _⟩ := I6.loc
      have hn' : s6.heap.Ns ce.locals m := hn
      rw [cL] at hn'
      obtain ⟨z0, z1, _, z3, z4, z5⟩ := I3.fpOk (Nat.le_refl _) nC
      exact ⟨m, hn', fun h'' sb => ⟨.ref D, H5, I7.turned (t' := s6.toks) (fun b o hb e => (sb.2 b hb).trans e) z0 z1 z3 z4 z5, rfl, qq⟩⟩
    · refine thnF (T.item (X.blk s3 H3 scope ce fp) rfl rfl rfl hc i [] s5 _ H5 (fun _ _ => False) I5 (stat I5 n5) st5 go) fun r s6 ⟨u, hr, h6⟩ => ?_
      subst hr
      refine thnF h6 fun _ s7 ⟨x, H7, I7, r7, y7, st7, n7⟩ => ?_
      refine thnF (pg.run _ s7 _ H7 x u _ (I7.pinned (stat I7 n7) (T.obj _ _ st7)) r7 (step x H7 y7)) fun _ s8 ⟨σ8, H8, I8, hw8, q8⟩ => ?_
      refine thnF (pt.run _ s8 σ8 H8 _ I8 q8) fun b s9 ⟨H9, I9, q9⟩ => ?_
      have fin : ∀ {s' : Shared} {H' : Hp}, Inv (X.blk s3 H3 scope ce fp) ([] ++ pinsAt fp s7.heap) σ8 H' s' → Nx H' → ∃ m, m < n ∧ ∃ i H', Inv (X.blk s3 H3 scope ce fp) [] (wipe σ (own.map (·.2))) H' s' ∧ tn i s'.heap ∧ (∀ b ∈ fp, H' b = none) ∧ W i m H' := fun {s' H'} I' nx => by
        obtain ⟨m', hm, w'⟩ := hNx H' nx
        have pin' : ∀ b ∈ fp, ∀ o, s7.heap.get? b = some o → s'.heap.get? b = some o ∧ H' b = none := fun b hb o e =>
          let z := I'.pin (b, o) (List.mem_append_right _ (List.mem_append_right _ (mem_pinsAt hb e)))
          ⟨z.1, z.2.1⟩
        have hl : (wipe σ (own.map (·.2))).length = σ8.length := by rw [← hw8, wipe_length]
        refine ⟨m', hm, i + 1, H', (I'.unpinned (pins := [])).weak hl (fun j v e => ?_), T.keep _ _ _ st7 fun b hb o e => (pin' b hb o e).1, fun b hb => ?_, w'⟩
        · rw [← hw8] at e
          exact (wipe_some e).1
        · obtain ⟨o, e, _⟩ := T.obj _ _ st7 b hb
          exact (pin' b hb o e).2
      cases b with
      | false =>
        simp only [Bool.false_eq_true, if_false] at q9 ⊢
        exact fin I9 q9
      | true =>
        simp only [if_true] at q9 ⊢
        refine thnF (pk.run _ s9 σ8 H9 _ I9 q9) fun z s10 ⟨yk, H10, I10, r10, q10⟩ => ?_
        refine thnF (pe.run _ s10 σ8 H10 _ I10 q10) fun z2 s11 ⟨yv, H11, I11, r11, b, es, k, ek, hD11, hes, hkk, hdep, hz11, nx⟩ => ?_
        subst ek
        obtain rfl : z = Value.ref b := r10
        exact dn_dictSet (X := X.blk s3 H3 scope ce fp) hu I11 hD11 hes hkk hdep hz11 r11 fun s12 I12 => fin I12 nx
  exact codeAny_compStart_dict loop (T.self X.A 0 _ _ _ st4 loop)
end
section
variable {X : Cx}
theorem pe_dcNK {w : World} {kx vx tg iter : Expr} {ifs : List Expr} {scope : Scope} {own : List (Str × Nat)} {pos : Pos} {wi : TI} {g : TG} {tt : TT} {tk tv : TE} (hc : X.calm = true) (hu : X.A.units + 64 < cLine) (hN : X.N.Nodup) (hi : PI X tg iter wi) (ok : BlkOk X.N X.env.scope scope own)
    (hg : ∀ (s : Shared) (H : Hp) (C : Addr) (cl : List (Str × Addr)) (fp : List Addr), PG (X.blk s H scope (compEnvC scope cl C X.env) fp) tg g) (ht : ∀ (s : Shared) (H : Hp) (C : Addr) (cl : List (Str × Addr)) (fp : List Addr), PTs (X.blk s H scope (compEnvC scope cl C X.env) fp) ifs tt)
    (hk : ∀ (s : Shared) (H : Hp) (C : Addr) (cl : List (Str × Addr)) (fp : List Addr), PE (X.blk s H scope (compEnvC scope cl C X.env) fp) kx tk)
    (he : ∀ (s : Shared) (H : Hp) (C : Addr) (cl : List (Str × Addr)) (fp : List Addr), PE (X.blk s H scope (compEnvC scope cl C X.env) fp) vx tv) (hw : X.w = w := by rfl) (hs : ∀ x, foldedSetIterable iter X.env x = pure x := by intro _; rfl) :
    PE X (.DictComp kx vx [⟨tg, iter, ifs, 0⟩] scope pos) (tDcN w wi g tt tk tv (own.map (·.2))) := by
  subst hw
  exact pe_dcN hc hu hN hi ok hg ht hk he hs
end
/-! ### their readings -/
section
variable {K : PySem.W.Frag} {w : World} {σ : L2.St} {H : Hp} {Q : VK}
def KeyNR (w : World) (x : V) (H1 : Hp) (R : It → Hp → Prop) : Prop := ∃ d es, x = .ref d ∧ H1 d = some (DN w d es) ∧ ∀ o, R (Itn w d o es) (upd H1 d (.frz o (DN w d es)))
theorem w_keyNR {d : Addr} {es : List Ent} {R : It → Hp → Prop} (h : H d = some (DN w d es)) (q : ∀ o, R (Itn w d o es) (upd H d (.frz o (DN w d es)))) : KeyNR w (.ref d) H R := ⟨d, es, rfl, h, q⟩
theorem turns_keysN {H0 : Hp} {Qd : Hp → Prop} {Body : (Hp → Prop) → V → Hp → Prop} {d : Addr} {o : Obj} {es : List Ent} (Pv : Nat → Hp → Prop) (h0 : Pv 0 H0) (hl : ∀ i H, i ≤ es.length → Pv i H → H d = some (.frz o (DN w d es)))
    (hs : ∀ i (e : Ent) H, es[i]? = some e → Pv i H → Body (Pv (i + 1)) (.ref e.2.1) H) (hd : ∀ H, Pv es.length H → Qd H) : Turns (Itn w d o es) Body H0 Qd := by
  refine ⟨fun i m H => m = es.length - i ∧ i ≤ es.length ∧ Pv i H, ⟨es.length, by simp, Nat.zero_le _, h0⟩, ?_⟩
  rintro i m H ⟨rfl, hi, p⟩
  by_cases hlt : i < es.length
  · refine .inr ⟨⟨hl i H hi p, hlt⟩, Pv (i + 1), fun H' p' => ⟨es.length - (i + 1), by omega, rfl, hlt, p'⟩, fun x H' y => ?_⟩
    obtain ⟨rfl, e, he, rfl⟩ := y
    exact hs i e _ he p
  · have e : i = es.length := by omega
    subst e
    exact .inl ⟨⟨hl _ H hi p, Nat.le_refl _⟩, hd H p⟩
def DcNBody (w : World) (g : TG) (tt : TT) (tk tv : TE) (vs : List Nat) (σ : L2.St) (D : Addr) (Nx : Hp → Prop) (x : V) (H' : Hp) : Prop := g x (wipe σ vs) H' fun σ2 H2 => wipe σ2 vs = wipe σ vs ∧ tt σ2 H2 fun b H3 =>
  if b = true then tk σ2 H3 fun y H4 => tv σ2 H4 fun z H5 => ∃ (b : Addr) (es : List Ent) (k : NestedKey), y = .ref b ∧ H5 D = some (DN w D es) ∧ EntsOk H5 es ∧ NK H5 k (.ref b) ∧ k.depth ≤ 8 ∧ es.length < sizeLine ∧ Nx (upd H5 D (DN w D (putN es k b z))) else Nx H3
def DcNR (w : World) (g : TG) (tt : TT) (tk tv : TE) (vs : List Nat) (σ : L2.St) (Q : VK) (J : It) (H1 : Hp) : Prop := ∀ D, H1 D = none → Turns J (DcNBody w g tt tk tv vs σ D) (upd H1 D (DN w D [])) fun H => Q (.ref D) H
theorem w_dcNN {td : TE} {g : TG} {tt : TT} {tk tv : TE} {vs : List Nat} (q : td σ H fun x H1 => KeyNR w x H1 (DcNR w g tt tk tv vs σ Q)) : tDcN w (iKeysN w td) g tt tk tv vs σ H Q := q
theorem w_dcNL {tl : TE} {g : TG} {tt : TT} {tk tv : TE} {vs : List Nat} (q : tl σ H fun x H1 => ListR K x H1 (DcNR w g tt tk tv vs σ Q)) : tDcN w (iList K tl) g tt tk tv vs σ H Q := q
theorem w_lcNN {td : TE} {g : TG} {tt : TT} {te : TE} {vs : List Nat} (q : td σ H fun x H1 => KeyNR w x H1 (LcR g tt te vs σ Q)) : tLc (iKeysN w td) g tt te vs σ H Q := q
theorem w_forKN {D : Ends} {td : TE} {g : TG} {tb : TS} (q : td σ H fun x H1 => KeyNR w x H1 (ForR g tb D σ)) : tFor (iKeysN w td) g tb D σ H := q
/-- the entry is put: the keys told as IK -/
theorem dcn_put {B : Hp} {L L' : List (Addr × HO)} {D b : Addr} {es : List Ent} {M : GM} {k : IK} {z : V} {Nx : Hp → Prop} (hs : Hs B L H) (h : Put L D (DN w D es) (DN w D (putN es (nkK k) b z)) L') (e : EntG B es M) (hk : KAt B b k) (hl : M.length ≤ 1000000) (q : ∀ H', Hs B L' H' → EntG B (putN es (nkK k) b z) (putG M k z) → Nx H') :
    ∃ (b' : Addr) (es' : List Ent) (k' : NestedKey), V.ref b = .ref b' ∧ H D = some (DN w D es') ∧ EntsOk H es' ∧ NK H k' (.ref b') ∧ k'.depth ≤ 8 ∧ es'.length < sizeLine ∧ Nx (upd H D (DN w D (putN es' k' b' z))) :=
  ⟨b, es, nkK k, rfl, hs.gets h, (e.same hs.same).ok, (hk.same hs.same).nk, nkK_depth k, by rw [e.len]; exact Nat.lt_of_le_of_lt hl (by decide), q _ (hs.puts h) (e.put z hk)⟩
end
end Hb

set_option Elab.async false
set_option linter.all false
set_option maxRecDepth 100000
set_option maxHeartbeats 4000000
/-! Dicts with tuple keys: `in` while locked, setdefault; list.index of a text; min of keys with a default; set(list of keys). -/
namespace Hb
open PySem L2 PyProof.Rows
/-! ### in, while it is walked -/
structure AtNF (w : World) (H : Hp) (x y : V) (a b : Addr) (o : Obj) (es : List Ent) (k : NestedKey) : Prop where
  ex : x = .ref a
  ey : y = .ref b
  ha : H a = some (.frz o (DN w a es))
  he : EntsOk H es
  hk : NK H k (.ref b)
  hd : k.depth ≤ 8
def rNInF (w : World) (x y : V) (H : Hp) (Q : Bool → Prop) : Prop := ∃ a b o es k, AtNF w H x y a b o es k ∧ Q (atN es k).isSome
def tNInF (w : World) (ty td : TE) : TE := fun σ H Q => ty σ H fun y H1 => td σ H1 fun x H2 => rNInF w x y H2 fun b => Q (.bl b) H2
section
variable {P : Program} {w : World} {H : Hp} {h : Heap} {a : Addr} {es : List Ent}
theorem dnx_dict (ok : HOk P w H h) (d : DNx w a es h) (hk : EntsOk H es) : es.length ≤ sizeLine ∧ (a == sysModules) = false ∧ ∃ xs, RelEs es xs ∧ h.DictOfH (nestedKind P w) a xs := by
  obtain ⟨z, y, xs, r, o, ds, ep, h1, h2, h3, h4, h5⟩ := d
  refine ⟨z, y, xs, r, o, ds, ep, h1, h2, h3, h4, ?_, h5⟩
  have all : ∀ {l : List Ent} {m : List (NestedKey × Addr × Value)}, RelEs l m → EntsOk H l → ∀ x ∈ m, (nestedKind P w).is h x.1 x.2.1 := by
    intro l m r
    induction r with
    | nil => exact fun _ _ hx => nomatch hx
    | @cons p q ps qs hpq _ ih =>
      intro hl x hx
      rcases List.mem_cons.mp hx with rfl | hx
      · obtain ⟨k1, k2⟩ := hl p List.mem_cons_self
        rw [← hpq.1, ← hpq.2.1]
        exact ⟨k1.is ok rfl, k2⟩
      · exact ih (fun e he => hl e (List.mem_cons_of_mem _ he)) x hx
  exact all r hk
end
section
variable {X : Cx} {w : World} {o i : Expr} {pos apos cpos : Pos} {td ty tx : TE}
theorem pc_ninF (hu : X.A.units + 64 < cLine) (hi : PE X i ty) (ho : PE X o td) (hw : X.w = w := by rfl) : PC X .In i o (tNInF w ty td) := by
  subst hw
  refine ⟨fun pins s σ H Q I h => ?_⟩
  refine thn (hi.run pins s σ H _ I h) fun iv s1 h1 => ?_
  obtain ⟨y, H1, I1, ry, q1⟩ := h1
  refine thn (ho.run pins s1 σ H1 _ I1 q1) fun u s2 h2 => ?_
  obtain ⟨x, H2, I2, rx, a, b, ob, es, k, g, q2⟩ := h2
  have dx : DNx X.w a es s2.heap := (show ObjOk X.prog X.w H2 s2.heap a (.frz ob (DN X.w a es)) from I2.hok _ _ g.ha).2.1
  obtain ⟨z, hd, xs, r, dd⟩ := dnx_dict I2.hok dx g.he
  cases g.ex
  cases g.ey
  obtain rfl : u = Value.ref a := rx
  obtain rfl : iv = Value.ref b := ry
  refine wpAny_in_heap (n_room hu) ⟨g.hk.is I2.hok rfl, g.hd⟩ hd dd ?_
  rw [← r.some k]
  exact ⟨.bl _, H2, I2.tok _, rfl, q2⟩
/-! ### setdefault -/
def rNSetd (w : World) (x y v : V) (H : Hp) (Q : VK) : Prop := ∃ a b es k, AtN w H x y a b es k ∧ es.length < sizeLine ∧ (∀ u, atN es k = some u → Q u H) ∧ (atN es k = none → Q v (upd H a (DN w a (putN es k b v))))
def tNSetd (w : World) (td ty tx : TE) : TE := fun σ H Q => td σ H fun x H1 => (∃ a es, x = .ref a ∧ H1 a = some (DN w a es)) ∧ ty σ H1 fun y H2 => tx σ H2 fun z H3 => rNSetd w x y z H3 Q
theorem pe_nsetd {e f : Expr} (hu : X.A.units + 64 < cLine) (ho : PE X o td) (he : PE X e ty) (hf : PE X f tx) (m : M2 X o "setdefault" apos e f cpos) (hw : X.w = w := by rfl) : PE X (.Call (.Attribute o "setdefault" apos) [e, f] [] cpos) (tNSetd w td ty tx) := by
  subst hw
  refine ⟨fun pins s σ H Q I h => ?_⟩
  refine wpAny_Call_method m.base m.few m.line PySem.F.plainAttrs_dict PySem.F.slot_dict_setdefault PySem.F.type_dict_setdefault (thn (ho.run pins s σ H _ I h) ?_)
  rintro u s1 ⟨x, H1, I1, rx, ⟨a0, es0, rfl, ea⟩, q1⟩
  obtain rfl : u = Value.ref a0 := rx
  obtain ⟨t1, t2⟩ := dn_type I1 ea
  refine ⟨t1, t2, ?_⟩
  rw [m.trees]
  refine Calls.callWith_builtin rfl (Calls.evalArgs_plain (Calls.spliced_cons (thn (he.run pins s1 σ H1 _ I1 q1) ?_)))
  rintro iv s2 ⟨y, H2, I2, ry, q2⟩
  refine Calls.spliced_cons (thn (hf.run pins s2 σ H2 _ I2 q2) ?_)
  rintro fv s3 ⟨v, H3, I3, rv, a, b, es, k, g, hl, q3, q4⟩
  refine Calls.spliced_nil ?_
  obtain ⟨z, hd, xs, rr, dd, hk⟩ := g.dn I3 rfl
  cases g.ex
  cases g.ey
  obtain rfl : iv = Value.ref b := ry
  have hz : xs.length ≤ sizeLine := by rw [← rr.len]; exact z
  have hl2 : (putN es k b v).length ≤ sizeLine := Nat.le_trans putN_len hl
  refine call_setdefault_heap (hsz := hz) (n_room hu) hk hd dd (fun p hp => ?_) fun hn h' dd' hs => ?_
  · obtain ⟨u', hu', ru'⟩ : ∃ u', atN es k = some u' ∧ RelV u' p.2 := by
      have h1 := rr.at k
      rw [hp] at h1
      cases e : atN es k with
      | none =>
        rw [e] at h1
        cases h1
      | some u' =>
        rw [e] at h1
        obtain ⟨x2, hx2, rx2⟩ := RelO.some_of h1
        cases hx2
        exact ⟨u', rfl, rx2⟩
    exact ⟨u', H3, I3.tok _, ru', q3 u' hu'⟩
  · have hne : atN es k = none := by
      have h1 := rr.some k
      rw [hn] at h1
      cases e : atN es k with
      | none => rfl
      | some _ =>
        rw [e] at h1
        cases h1
    have he : ∃ q, h'.get? a0 = some q := let ⟨q, _, _, hq, _⟩ := dd'; ⟨q, hq⟩
    exact ⟨v, _, d_write I3 (by rw [g.ha]; exact True.intro) hs he (dn_obj hl2 hd (rr.put k b rv) dd'), rv, q4 hne⟩
end
section
variable {w : World} {σ : L2.St} {H B : Hp} {Q : VK} {td ty tx : TE} {L L' : List (Addr × HO)} {es : List Ent} {M : GM} {k : IK} {d b : Addr} {v : V}
theorem w_nsetd (q : td σ H fun x H1 => (∃ a es, x = .ref a ∧ H1 a = some (DN w a es)) ∧ ty σ H1 fun y H2 => tx σ H2 fun z H3 => rNSetd w x y z H3 Q) : tNSetd w td ty tx σ H Q := q
theorem wg_inF {R : Bool → Prop} {o : Obj} (hs : Hs B L H) (h : H d = some (.frz o (DN w d es))) (e : EntG B es M) (hk : KAt H b k) (q : R (valG M k).isSome) : rNInF w (.ref d) (.ref b) H R :=
  ⟨d, b, o, es, nkK k, ⟨rfl, rfl, h, (e.same hs.same).ok, hk.nk, nkK_depth k⟩, by rw [e.at k]; exact q⟩
theorem wg_setd (hs : Hs B L H) (h : Put L d (DN w d es) (DN w d (putN es (nkK k) b v)) L') (e : EntG B es M) (hk : KAt B b k) (hl : M.length ≤ 1000000) (q1 : ∀ u, valG M k = some u → Q u H) (q2 : valG M k = none → ∀ H', Hs B L' H' → EntG B (putN es (nkK k) b v) (putG M k v) → Q v H') : rNSetd w (.ref d) (.ref b) v H Q :=
  ⟨d, b, es, nkK k, atG_of (hs.gets h) (e.same hs.same) (hk.same hs.same), by rw [e.len, sizeLine_eq]; omega, fun u hu => q1 u (by rw [← e.at k]; exact hu), fun hn => q2 (by rw [← e.at k]; exact hn) _ (hs.puts h) (e.put v hk)⟩
end
/-! ### list.index of a text -/
def rIdxS (K : PySem.W.Frag) : V → List V → Hp → VK → Prop := fun x vs H Q => ∃ (l : Addr) (xs : List PySem.Str) (t : PySem.Str), x = .ref l ∧ vs = [.str t] ∧ SqL K H l (xs.map V.str) ∧ t ∈ xs ∧ Q (.int (xs.idxOf t : Nat)) H

theorem strs_of : ∀ {xs : List PySem.Str} {us : List Value}, Vals (xs.map V.str) us → StrsAre us xs
  | [], _, h => by
    cases h
    exact .nil
  | x :: xs, _, h => by
    cases h with
    | cons h1 h2 =>
      obtain ⟨t, rfl⟩ := h1
      exact .cons x t (strs_of h2)
section
variable {X : Cx} {K : PySem.W.Frag} {P : Program} {w : World}
theorem mt_indexS (hK : X.K = K := by rfl) : MtR X "list.index" (rIdxS K) := by
  subst hK
  intro pins s σ H x vs v us Q I rx rv h
  obtain ⟨l, xs, t, rfl, rfl, hs, hm, q⟩ := h
  cases rx
  obtain ⟨u, rfl, ru⟩ := rv.one
  obtain ⟨tk, rfl⟩ := ru
  obtain ⟨its, r, hl, hz⟩ := I.list hs
  exact PySem.SeqAt.list_index_strs (vs := its) hl.isList (strs_of r) (by simpa using hz) hm ⟨.int _, H, I.tok _, ⟨_, rfl⟩, q⟩
/-! ### min(keys, default=d) -/
open PySem.SeqAt
open PySem.W (keyToksAll dataLt alike alikeAll dataLt_cons dataLt_int AlikeAll reads_keeps)
def dI : Itm → PyData
  | .inl n => .int n
  | .inr ns => .tuple (ns.map .int)
def dK (k : IK) : PyData := .tuple (k.map dI)
theorem eqvA_ints : ∀ ns ms : List Int, PyData.eqvAll (ns.map .int) (ms.map .int) = decide (ns = ms)
  | [], [] => by simp [PyData.eqvAll]
  | [], m :: ms => by simp [PyData.eqvAll]
  | n :: ns, [] => by simp [PyData.eqvAll]
  | n :: ns, m :: ms => by
    have e : PyData.eqvAll ((n :: ns).map PyData.int) ((m :: ms).map .int) = ((n == m) && PyData.eqvAll (ns.map .int) (ms.map .int)) := by simp only [List.map_cons, PyData.eqvAll, PyData.eqv]
    rw [e, eqvA_ints ns ms]
    by_cases h1 : n = m <;> by_cases h2 : ns = ms <;> simp [h1, h2]
theorem eqv_ints (ns ms : List Int) : PyData.eqv (.tuple (ns.map .int)) (.tuple (ms.map .int)) = decide (ns = ms) := by
  rw [← eqvA_ints]
  simp only [PyData.eqv]
theorem eqv_it (x y : Itm) : PyData.eqv (dI x) (dI y) = decide (x = y) := by
  cases x with
  | inl n =>
    cases y with
    | inl m =>
      have e : PyData.eqv (.int n) (.int m) = (n == m) := by simp only [PyData.eqv]
      show PyData.eqv (.int n) (.int m) = _
      rw [e]
      by_cases h : n = m <;> simp [h]
    | inr ms =>
      have e : PyData.eqv (.int n) (.tuple (ms.map .int)) = false := by simp only [PyData.eqv]
      show PyData.eqv (.int n) (.tuple (ms.map .int)) = _
      rw [e]
      simp
  | inr ns =>
    cases y with
    | inl m =>
      have e : PyData.eqv (.tuple (ns.map .int)) (.int m) = false := by simp only [PyData.eqv]
      show PyData.eqv (.tuple (ns.map .int)) (.int m) = _
      rw [e]
      simp
    | inr ms =>
      show PyData.eqv (.tuple (ns.map .int)) (.tuple (ms.map .int)) = _
      rw [eqv_ints]
      by_cases h : ns = ms <;> simp [h]
theorem eqvA_its : ∀ x y : IK, PyData.eqvAll (x.map dI) (y.map dI) = decide (x = y)
  | [], [] => by simp [PyData.eqvAll]
  | [], m :: ms => by simp [PyData.eqvAll]
  | n :: ns, [] => by simp [PyData.eqvAll]
  | n :: ns, m :: ms => by
    have e : PyData.eqvAll ((n :: ns).map dI) ((m :: ms).map dI) = (PyData.eqv (dI n) (dI m) && PyData.eqvAll (ns.map dI) (ms.map dI)) := by simp only [List.map_cons, PyData.eqvAll]
    rw [e, eqvA_its ns ms, eqv_it]
    by_cases h1 : n = m <;> by_cases h2 : ns = ms <;> simp [h1, h2]
theorem eqv_K (x y : IK) : PyData.eqv (dK x) (dK y) = decide (x = y) := by
  rw [← eqvA_its]
  show PyData.eqv (.tuple _) (.tuple _) = _
  simp only [PyData.eqv]
theorem dI_inj {x y : Itm} (h : dI x = dI y) : x = y := by
  have e := eqv_it x y
  rw [h, eqv_it] at e
  exact of_decide_eq_true (e.symm.trans (decide_eq_true rfl))
theorem dK_inj {x y : IK} (h : dK x = dK y) : x = y := by
  have e := eqv_K x y
  rw [h, eqv_K] at e
  exact of_decide_eq_true (e.symm.trans (decide_eq_true rfl))
theorem ItAt.im {H : Hp} {v : V} {x : Itm} (h : ItAt H v x) : Im K H v (dI x) := by
  cases x with
  | inl n =>
    cases h
    exact .int n
  | inr ns =>
    obtain ⟨t, rfl, ht⟩ := h
    exact .tup ht (im_ints ns)
theorem im_its {H : Hp} {vs : List V} {k : IK} (h : Paired (fun v x => ItAt H v x) vs k) : ImAll K H vs (k.map dI) := by
  induction h with
  | nil => exact .nil
  | cons h _ ih => exact .cons h.im ih
theorem KeyAt.dp {H : Hp} {v : V} {k : IK} (h : KeyAt H v k) : Dp K H v (dK k) := by
  obtain ⟨p, rfl, vs, hp, hv⟩ := h
  exact (Im.tup hp (im_its hv)).dp
theorem alike_it {x y : Itm} (h : shp x = shp y) : alike (dI x) (dI y) = true := by
  cases x with
  | inl n =>
    cases y with
    | inl m => simp only [dI, alike]
    | inr ms => cases h
  | inr ns =>
    cases y with
    | inl m => cases h
    | inr ms =>
      simp only [dI, alike]
      exact alike_ints (Option.some.inj h)
theorem toks_K : ∀ {x y : IK}, x.map shp = y.map shp → PyProof.Rows.lexLt itemOrd (keyToksAll (x.map dI)) (keyToksAll (y.map dI)) = lexI (flK x) (flK y)
  | [], [], _ => lex_irrefl _
  | [], y :: ys, h => by cases h
  | x :: xs, [], h => by cases h
  | x :: xs, y :: ys, h => by
    rw [List.map_cons, List.map_cons] at h
    injection h with h1 h2
    rw [List.map_cons, List.map_cons, dataLt_cons (alike_it h1), toks_K h2]
    show _ = lexI (flI x ++ flK xs) (flI y ++ flK ys)
    rw [lexI_app (shp_len h1)]
    cases x with
    | inl n =>
      cases y with
      | inr ms => cases h1
      | inl m =>
        show (if PyData.eqv (.int n) (.int m) = true then _ else dataLt (.int n) (.int m)) = if [n] = [m] then _ else lexI [n] [m]
        have e : PyData.eqv (.int n) (.int m) = (n == m) := by simp only [PyData.eqv]
        rw [e, dataLt_int]
        by_cases hh : n = m
        · rw [if_pos (by rw [hh]; exact beq_self_eq_true m), if_pos (by rw [hh])]
        · rw [if_neg (fun z => hh (by simpa using z)), if_neg (fun z => hh (by simpa using z)), lexI_cons, if_neg hh]
    | inr ns =>
      cases y with
      | inl m => cases h1
      | inr ms =>
        show (if PyData.eqv (.tuple (ns.map .int)) (.tuple (ms.map .int)) = true then _ else dataLt (.tuple (ns.map .int)) (.tuple (ms.map .int))) = if ns = ms then _ else lexI ns ms
        rw [dataLt_ints]
        have e : PyData.eqv (.tuple (ns.map .int)) (.tuple (ms.map .int)) = decide (ns = ms) := eqv_ints ns ms
        rw [e]
        by_cases hh : ns = ms
        · rw [if_pos (decide_eq_true hh), if_pos hh]
        · rw [if_neg (fun z => hh (of_decide_eq_true z)), if_neg hh]
theorem dataLt_K {x y : IK} (h : x.map shp = y.map shp) : dataLt (dK x) (dK y) = ltQ x y := toks_K h
theorem depth_it (x : Itm) : (dI x).depth ≤ 2 := by
  cases x with
  | inl n => simp [dI, PyData.depth]
  | inr ns =>
    have := depth_ints ns
    simp only [dI, PyData.depth]
    omega
theorem depth_its : ∀ k : IK, PyData.depthAll (k.map dI) ≤ 3
  | [] => by simp [PyData.depthAll]
  | x :: xs => by
    have := depth_its xs
    have := depth_it x
    simp only [List.map_cons, PyData.depthAll]
    omega
theorem depth_Ks : ∀ ks : List IK, PyData.depthAll (ks.map dK) ≤ 5
  | [] => by simp [PyData.depthAll]
  | x :: xs => by
    have := depth_Ks xs
    have := depth_its x
    simp only [List.map_cons, PyData.depthAll, dK, PyData.depth]
    omega
theorem alikeAll_its : ∀ {x y : IK}, x.map shp = y.map shp → alikeAll (x.map dI) (y.map dI) = true
  | [], [], _ => by simp [alikeAll]
  | [], y :: ys, h => by cases h
  | x :: xs, [], h => by cases h
  | x :: xs, y :: ys, h => by
    rw [List.map_cons, List.map_cons] at h
    injection h with h1 h2
    simp only [List.map_cons, alikeAll, alike_it h1, alikeAll_its h2, Bool.and_self]
theorem alike_Ks {ks : List IK} {sh : List (Option Nat)} (h : ∀ k ∈ ks, k.map shp = sh) : AlikeAll (ks.map dK) := by
  refine ⟨fun x hx y hy => ?_, fun x hx => ?_⟩
  · obtain ⟨a, ha, rfl⟩ := List.mem_map.mp hx
    obtain ⟨b, hb, rfl⟩ := List.mem_map.mp hy
    show alike (.tuple _) (.tuple _) = true
    simp only [alike]
    exact alikeAll_its ((h a ha).trans (h b hb).symm)
  · obtain ⟨a, ha, rfl⟩ := List.mem_map.mp hx
    exact fun z => nomatch z
def rMinDN (K : PySem.W.Frag) : List V → List V → Hp → VK → Prop := fun xs zs H Q => ∃ (a : Addr) (us : List V) (ks : List IK) (d : V) (sh : List (Option Nat)), xs = [.ref a] ∧ zs = [d] ∧ SqL K H a us ∧ Row (KeyAt H) us ks ∧ (∀ k ∈ ks, k.map shp = sh) ∧ (ks = [] → Q d H) ∧
  ∀ (k : IK) (u : V), k ∈ ks → KeyAt H u k → (∀ k' ∈ ks, ltQ k' k = false) → Q u H
theorem minK_of {sh : List (Option Nat)} : ∀ (ks : List IK) (k : IK), (∀ z ∈ k :: ks, z.map shp = sh) → ∃ m ∈ k :: ks, PySem.W.minD (dK k) (ks.map dK) = dK m ∧ ∀ z ∈ k :: ks, ltQ z m = false
  | [], k, _ => ⟨k, List.mem_cons_self, rfl, fun z hz => by
    rw [List.mem_singleton.mp hz]
    exact lexI_self _⟩
  | y :: ys, k, h => by
    have hk := h k List.mem_cons_self
    have hy := h y (List.mem_cons_of_mem _ List.mem_cons_self)
    have e : PySem.W.minD (dK k) ((y :: ys).map dK) = PySem.W.minD (if ltQ y k = true then dK y else dK k) (ys.map dK) := by
      rw [← dataLt_K (hy.trans hk.symm)]
      rfl
    rw [e]
    by_cases hc : ltQ y k = true
    · rw [if_pos hc]
      obtain ⟨m, hm, e1, e2⟩ := minK_of ys y fun z hz => h z (List.mem_cons_of_mem _ hz)
      refine ⟨m, List.mem_cons_of_mem _ hm, e1, fun z hz => ?_⟩
      rcases List.mem_cons.mp hz with rfl | hz
      · exact lexI_tr _ _ _ (e2 y List.mem_cons_self) (lexI_asym _ _ hc)
      · exact e2 z hz
    · rw [if_neg hc]
      obtain ⟨m, hm, e1, e2⟩ := minK_of ys k fun z hz => by
        rcases List.mem_cons.mp hz with rfl | hz
        · exact hk
        · exact h z (List.mem_cons_of_mem _ (List.mem_cons_of_mem _ hz))
      refine ⟨m, ?_, e1, fun z hz => ?_⟩
      · rcases List.mem_cons.mp hm with rfl | hm
        · exact List.mem_cons_self
        · exact List.mem_cons_of_mem _ (List.mem_cons_of_mem _ hm)
      · rcases List.mem_cons.mp hz with rfl | hz
        · exact e2 _ List.mem_cons_self
        · rcases List.mem_cons.mp hz with rfl | hz
          · exact lexI_tr _ _ _ (e2 k List.mem_cons_self) (Bool.not_eq_true _ ▸ hc)
          · exact e2 z (List.mem_cons_of_mem _ hz)
theorem cr_minDN (hc : X.calm = true) (hu : X.A.units + 64 < cLine) (hK : X.K = K := by rfl) : CallRK X (.builtin "min") [PySem.Str.ofString "default"] (rMinDN K) := by
  subst hK
  intro pins s σ H xs zs us ws Q I rx rz h
  obtain ⟨a, vs, ks, d, sh, rfl, rfl, hs, hr, hsh, q0, q⟩ := h
  obtain ⟨u, rfl, ru⟩ := vals1 rx
  obtain ⟨dv, rfl, rd⟩ := vals1 rz
  obtain rfl : u = Value.ref a := ru
  obtain ⟨its, rv, hl, hz⟩ := I.list hs
  have hrd : ∃ as, ReadsAll s.heap its ((ks.map dK)) as := by
    have go : ∀ {vs : List V} {its : List Value} {ks : List IK}, Vals vs its → Row (KeyAt H) vs ks → ∃ as, ReadsAll s.heap its (ks.map dK) as := by
      intro vs its ks rv
      induction rv generalizing ks with
      | nil =>
        intro hr
        have : ks = [] := List.eq_nil_of_length_eq_zero hr.1.symm
        subst this
        exact ⟨[], .nil⟩
      | @cons v u vs its h1 h2 ih =>
        intro hr
        cases ks with
        | nil => exact absurd hr.1 (by simp)
        | cons k ks =>
          obtain ⟨as, g⟩ := ih ⟨Nat.succ.inj hr.1, fun i u x e1 e2 => hr.2 (i + 1) u x e1 e2⟩
          obtain ⟨bs, g1⟩ := Dp.reads I (dK k) _ _ (hr.2 0 v k rfl rfl).dp h1
          exact ⟨_, .cons g1 g⟩
    exact go rv hr
  obtain ⟨as, g⟩ := hrd
  refine PySem.W.min_list_default (I.ok.hd hc) hl.isList (by simpa using g) (alike_Ks hsh) (by have := depth_Ks ks; omega) (fun e h' tk k => ?_) fun y ys i v h' tk bs e hi r k => ?_
  · exact ⟨d, H, I.kept k, rd, q0 (List.map_eq_nil_iff.mp e)⟩
  · cases ks with
    | nil => cases e
    | cons k0 ks =>
      rw [List.map_cons] at e
      injection e with e1 e2
      subst e1
      subst e2
      obtain ⟨m, hm, e1, e2⟩ := minK_of ks k0 hsh
      rw [e1] at r
      have hi' : its[i]? = some v := by simpa using hi
      obtain ⟨v0, hv0⟩ : ∃ v0, vs[i]? = some v0 := ⟨_, List.getElem?_eq_getElem (by rw [rv.length]; exact (List.getElem?_eq_some_iff.mp hi').1)⟩
      obtain ⟨v1, hv1, rv0⟩ := rv.get hv0
      rw [hi'] at hv1
      cases hv1
      obtain ⟨k1, hk1, hkv⟩ := hr.get hv0
      have : k1 = m := by
        obtain ⟨bs2, r2⟩ := Dp.reads I (dK k1) _ _ hkv.dp rv0
        exact dK_inj (reads_det (fun b o e _ => k b o e) r2 r).1.symm
      subst this
      exact ⟨v0, H, I.kept k, rv0, q k1 v0 hm hkv e2⟩
end

section
variable {K : PySem.W.Frag} {w : World} {σ : L2.St} {H B : Hp} {Q : VK} {L : List (Addr × HO)}
theorem w_idxS {l : Addr} {xs : List PySem.Str} {us : List V} {t : PySem.Str} (h : SqL K H l us) (e : us = xs.map V.str) (m : t ∈ xs) (q : Q (.int (xs.idxOf t : Nat)) H) : rIdxS K (.ref l) [.str t] H Q := ⟨l, xs, t, rfl, rfl, e ▸ h, m, q⟩
theorem w_minDN {l : Addr} {us : List V} {ks : List IK} {d : V} {sh : List (Option Nat)} (h : SqL K H l us) (r : Row (KeyAt H) us ks) (hs : ∀ k ∈ ks, k.map shp = sh) (q0 : ks = [] → Q d H) (q : ∀ (k : IK) (u : V), k ∈ ks → KeyAt H u k → (∀ k' ∈ ks, ltQ k' k = false) → Q u H) : rMinDN K [.ref l] [d] H Q := ⟨l, us, ks, d, sh, rfl, rfl, h, r, hs, q0, q⟩
end
/-! ### set(keys) -/
section
open PpSet
variable {P : Program} {w : World} {A : Around} {E : Value → Shared → Prop} {s : Shared}
/-- what the set holds behind i of the items -/
structure GotK (ks : List (NestedKey × Addr)) (i : Nat) (L : List (NestedKey × Addr)) : Prop where
  sub : ∀ p ∈ L, p ∈ ks.take i
  all : ∀ p ∈ ks.take i, p.1 ∈ L.map (·.1)
theorem GotK.zero (ks : List (NestedKey × Addr)) : GotK ks 0 [] := ⟨(fun p h => nomatch h), (fun p h => nomatch h)⟩
theorem GotK.next {ks : List (NestedKey × Addr)} {i : Nat} {L L' : List (NestedKey × Addr)} {p : NestedKey × Addr} (g : GotK ks i L) (hp : ks[i]? = some p) (a : AddN L p L') : GotK ks (i + 1) L' := by
  have tk : ks.take (i + 1) = ks.take i ++ [p] := by rw [List.take_add_one, hp]; rfl
  have z : (∀ q ∈ L', q ∈ ks.take i ++ [p]) ∧ ∀ q ∈ ks.take i ++ [p], q.1 ∈ L'.map (·.1) := by
    by_cases c : p.1 ∈ L.map (·.1)
    · rw [a.1 c]
      refine ⟨fun q hq => List.mem_append_left _ (g.sub q hq), fun q hq => ?_⟩
      rcases List.mem_append.mp hq with hq | hq
      · exact g.all q hq
      · rw [List.mem_singleton.mp hq]
        exact c
    · have pm := a.2 c
      refine ⟨fun q hq => ?_, fun q hq => ?_⟩
      · rcases List.mem_cons.mp (pm.mem_iff.mp hq) with rfl | hq
        · exact List.mem_append_right _ List.mem_cons_self
        · exact List.mem_append_left _ (g.sub q hq)
      · rw [(pm.map (·.1)).mem_iff, List.map_cons, List.mem_cons]
        rcases List.mem_append.mp hq with hq | hq
        · exact .inr (g.all q hq)
        · exact .inl (by rw [List.mem_singleton.mp hq])
  rw [← tk] at z
  exact ⟨z.1, z.2⟩
theorem SetK.moved {h h' : Heap} {a : Addr} {L : List (NestedKey × Addr)} {es : Array (Int × Value)} {ep : Nat} {t : SetTable} (R : SetK (numKind P w) h a L es ep t) (ha : ∀ o, h.get? a = some o → h'.get? a = some o) (hl : ∀ p ∈ L, (numKind P w).is h' p.1 p.2) : SetK (numKind P w) h' a L es ep t := by
  obtain ⟨o, ho, r⟩ := R.ob
  exact ⟨⟨o, ha o ho, r⟩, R.rows, R.tab, R.nd, hl, R.pl, R.led, R.room, R.few⟩
/-- the walk of set.update -/
theorem upd_loopK {I : Addr} {fp wr : List Addr} {G : Array GenState → Array GenState → Prop} {n : Nat} {Pv : Nat → Value → Prop} {St : Nat → Shared → Prop} {R : Result → Shared → Prop} (W : WalksS P w A.in1 I fp wr G n Pv St) (S : Addr) (hSf : S ∉ fp)
    (ks : List (NestedKey × Addr)) (hn : n = ks.length) (few : ∀ l : List NestedKey, l.Nodup → (∀ x ∈ l, x ∈ ks.map (·.1)) → l.length < 63) (hv : ∀ i v, Pv i v → ∃ p, ks[i]? = some p ∧ v = .ref p.2)
    (g0 : Heap) (hk : ∀ p ∈ ks, (numKind P w).is g0 p.1 p.2) (hS0 : g0.get? S = none) (hw0 : ∀ b ∈ wr, g0.get? b = none) (hu : A.units + 40 < cLine) :
    ∀ (m i : Nat) (s : Shared), n - i = m → i ≤ n → St i s → (∀ b o, g0.get? b = some o → s.heap.get? b = some o) → (∃ L es ep t, SetK (numKind P w) s.heap S L es ep t ∧ GotK ks i L) →
      (∀ s' L es ep t, Moved (S :: wr) G s s' → SetK (numKind P w) s'.heap S L es ep t → GotK ks n L → (∀ b o, g0.get? b = some o → s'.heap.get? b = some o) → R (.ok (.ret .none)) s') →
      codeAny (model P w) A (.builtin "set.update.loop" ⟨[.ref S, .ref I], []⟩) R s := by
  have hSw : S ∉ wr := fun z => hSf (W.sub _ z)
  have more : ∀ b ∈ wr, b ∈ S :: wr := fun b hb => List.mem_cons_of_mem _ hb
  have carry : ∀ {s s' : Shared}, Moved wr G s s' → (∀ b o, g0.get? b = some o → s.heap.get? b = some o) → ∀ b o, g0.get? b = some o → s'.heap.get? b = some o := fun hm q b o e =>
    hm.heap b o (fun hb => by rw [hw0 b hb] at e; cases e) (q b o e)
  have is_at : ∀ {h : Heap} {p : NestedKey × Addr}, (∀ b o, g0.get? b = some o → h.get? b = some o) → p ∈ ks → (numKind P w).is h p.1 p.2 := fun q hp => els_num.grow (hk _ hp) q
  intro m
  induction m with
  | zero =>
    intro i s hm hi hst hq ⟨L, es, ep, t, hS, g⟩ hR
    obtain rfl : i = n := by omega
    refine codeAny_builtin F.entry_set_update_loop ?_
    rw [Around.under_plainId F.plain_set_update_loop _]
    show wpAny _ A.in1 (pyNext (.ref I) >>= _) _ _ s
    refine wpAny_bind (W.done s _ _ hst fun s' mv => ?_)
    show wpAny _ A.in1 (ret Value.none) _ _ s'
    have q' := carry mv hq
    exact wpAny_pure (hR s' L es ep t (mv.mono more) (hS.moved (fun o e => mv.heap S o hSw e) fun p hp => is_at q' (List.mem_of_mem_take (g.sub p hp))) g q')
  | succ m ih =>
    intro i s hm hi hst hq ⟨L, es, ep, t, hS, g⟩ hR
    have hlt : i < n := by omega
    refine codeAny_builtin F.entry_set_update_loop ?_
    rw [Around.under_plainId F.plain_set_update_loop _]
    show wpAny _ A.in1 (pyNext (.ref I) >>= _) _ _ s
    refine wpAny_bind (W.item i s _ _ hlt hst fun v s' hP hst' mv => ?_)
    obtain ⟨p, hp, rfl⟩ := hv i v hP
    have q' := carry mv hq
    have hS' := hS.moved (h' := s'.heap) (fun o e => mv.heap S o hSw e) fun x hx => is_at q' (List.mem_of_mem_take (g.sub x hx))
    have hx : (numKind P w).is s'.heap p.1 p.2 := is_at q' (List.mem_of_getElem? hp)
    have room : (numKind P w).room A.in1 := by
      show A.in1.units + 8 < cLine
      have e : A.in1.units = A.units + 1 := rfl
      omega
    have hl : L.length + 1 < 64 := by
      have := few (L.map (·.1)) hS.nd fun x hx => by
        obtain ⟨y, hy, rfl⟩ := List.mem_map.mp hx
        exact List.mem_map_of_mem (List.mem_of_mem_take (g.sub y hy))
      rw [List.length_map] at this
      omega
    show wpAny _ A.in1 (holding [Value.ref p.2] (setAdd S (.ref p.2)) >>= _) _ _ s'
    refine wpAny_bind (wpAny_holding ?_)
    unfold setAdd
    refine wpAny_holding ?_
    refine wpAny_bind ((numKind P w).pyHash room hx ?_)
    refine addK (s := { s' with toks := s'.toks + (numKind P w).draws p.1 }) (knd := numKind P w) els_num hS' hx room hl fun b h' L' es' ep' t' sb hS2 c1 c2 => ?_
    have q2 : ∀ b o, g0.get? b = some o → h'.get? b = some o := fun b o e => (sb.2 b (fun z => by rw [z, hS0] at e; cases e)).trans (q' b o e)
    refine wpAny_pure ⟨plainId_quiet F.plain_set_update_loop _, ih (i + 1) _ (by omega) hlt (W.frame _ s' _ _ hst' (Nat.le_add_right _ _) fun b hb o e => ?_) q2 ⟨L', es', ep', t', hS2, g.next hp ⟨c1, c2⟩⟩ fun s'' L2 es2 ep2 t2 mv2 hS3 g3 q3 => ?_⟩
    · rw [sb.2 b (fun z : b = S => hSf (z ▸ hb))]
      exact e
    · refine hR s'' L2 es2 ep2 t2 (Moved.trans W.gtrans ((mv.mono more).then_heap (Nat.le_add_right _ _) fun b o hb e => ?_) mv2) hS3 g3 q3
      rw [sb.2 b (fun z : b = S => hb (z ▸ List.mem_cons_self))]
      exact e

theorem call_setK {l : Addr} {items : Array Value} (ks : List (NestedKey × Addr)) {Q : Value → Shared → Prop} (hh : A.handled = none) (hl : s.heap.IsList l items) (hit : items.toList = ks.map fun p => Value.ref p.2) (hk : ∀ p ∈ ks, (numKind P w).is s.heap p.1 p.2)
    (few : ∀ l : List NestedKey, l.Nodup → (∀ x ∈ l, x ∈ ks.map (·.1)) → l.length < 63) (hu : A.units + 50 < cLine)
    (h : ∀ (h' : Heap) (tk : Nat) L es ep t, SetK (numKind P w) h' s.heap.objs.size L es ep t → GotK ks ks.length L → (∀ b o, s.heap.get? b = some o → h'.get? b = some o) → Q (.ref s.heap.objs.size) { s with heap := h', toks := tk }) : wpAny (model P w) A (call (.type "set") [.ref l]) Q E s := by
  have hsz : items.size = ks.length := by
    rw [← Array.length_toList, hit, List.length_map]
  obtain ⟨c, tl, hmro⟩ := F.called_set.mro
  have m1 := F.called_set.made
  have m2 := F.called_set.sub
  refine wpAny_call (codeAny_of_tree ?_)
  show wpAny _ _ (callAny (.type "set") _) _ _ _
  refine wpAny_pure ⟨Code.quiet_builtin _ (by decide +kernel), codeAny_builtin F.entry_type_call ?_⟩
  rw [Around.under_plain (weight_type_call_type "set" [.ref l] []) rfl]
  have k1 := F.called_set.notType
  have k2 := F.called_set.canCreate
  have k3 := F.typeCall_set_1 (.ref l)
  repeat (any_goals (first | assumption | wp_step))
  generalize hN : s.heap.push { cls := .type "set", dict := none, data := .set #[] 0 (.fresh 0 0 (!w.params.followText "set-order")) } = hp
  have hS : hp.get? s.heap.objs.size = some { cls := .type "set", dict := none, data := .set #[] 0 (.fresh 0 0 (!w.params.followText "set-order")) } := hN ▸ Heap.get?_push_size _ rfl
  have hsP : hp.objs.size = s.heap.objs.size + 1 := by rw [← hN, Heap.size_push]
  have grow : ∀ b o, s.heap.get? b = some o → hp.get? b = some o := fun b o e => hN ▸ Heap.get?_push_of_some _ e
  refine codeAny_mono (code_set_led1 (.ref l) (E := E) (Q₁ := fun obj s₁ => obj = .ref s.heap.objs.size ∧ s₁ = { s with heap := hp }) ⟨rfl, by rw [← hN]⟩) fun r s₁ hr => ?_
  cases r with
  | error e => exact hr
  | ok fl =>
    cases fl with
    | ret obj =>
      obtain ⟨rfl, rfl⟩ := hr
      have hT : Shared.TypeIs { s with heap := hp } (.ref s.heap.objs.size) "set" := ⟨_, hS, rfl⟩
      have hli := F.called_set.init.lookup
      have hbi := F.called_set.init.bind (.ref s.heap.objs.size)
      repeat (any_goals (first | assumption | wp_step))
      refine codeAny_mono (codeAny_call_builtin (R := wants (fun r s₂ => r = .none ∧ ∃ h' tk L es ep t, s₂ = { s with heap := h', toks := tk } ∧ SetK (numKind P w) h' s.heap.objs.size L es ep t ∧ GotK ks ks.length L ∧
          (∀ b o, s.heap.get? b = some o → h'.get? b = some o)) E) F.called_set.init.plain F.entry_set_init (check_set_init_1 hT ?_)) fun r₂ s₂ hr₂ => ?_
      · obtain ⟨ol, hol, hcl, nl, hdl⟩ := hl
        obtain ⟨ocls, odict, odata, oslots⟩ := ol
        simp only at hcl hdl
        subst hcl; subst hdl
        have hl1 : hp.IsList l items := ⟨_, grow _ _ hol, rfl, nl, rfl⟩
        have hol' := grow _ _ hol
        have z1 := F.sub_list_set
        have z2 := F.sub_list_frozenset
        have z3 : (Value.type "list" == Value.type "dict") = false := by decide
        unfold Builtin.«set.__init__» noKeywords Builtin.Frozenset.updateFrom
        generalize hPI : pyIter = PI
        wp_walk
        subst hPI
        refine wpAny_pyIter_list hl1 ?_
        refine wpAny_bind (wpAny_runValue ?_)
        have hlS : l < s.heap.objs.size := Heap.lt_size hol
        have hI : l ≠ hp.objs.size := by
          rw [hsP]
          exact Nat.ne_of_lt (Nat.lt_succ_of_lt hlS)
        have hh3 : A.in1.in1.in1.handled = none := by simp [hh]
        have hSf : s.heap.objs.size ∉ [hp.objs.size, l] := by
          simp only [List.mem_cons, List.not_mem_nil, or_false, not_or]
          exact ⟨by rw [hsP]; exact Nat.ne_of_lt (Nat.lt_succ_self _), Nat.ne_of_gt hlS⟩
        have hval : ∀ (i : Nat) (v : Value), items[i]? = some v → ∃ p, ks[i]? = some p ∧ v = .ref p.2 := fun i v hv => by
          rw [← Array.getElem?_toList, hit, List.getElem?_map] at hv
          obtain ⟨p, hp1, hp2⟩ := Option.map_eq_some_iff.mp hv
          exact ⟨p, hp1, hp2.symm⟩
        have fresh : ∀ b, s.heap.objs.size ≤ b → s.heap.get? b = none := fun b hb => by
          cases q : s.heap.get? b with
          | none => rfl
          | some o => exact absurd (Nat.lt_of_lt_of_le (Heap.lt_size q) hb) (Nat.lt_irrefl _)
        have hl2 := hl1.push (o := { cls := .type "list_iterator", data := .fields #[.ref l, .int 0 0] })
        refine upd_loopK ((Walks.list hh3 _ l hI items).toS) s.heap.objs.size hSf ks hsz few hval s.heap hk (fresh _ (Nat.le_refl _)) (fun b hb => fresh b (by rw [List.mem_singleton.mp hb, hsP]; exact Nat.le_succ _)) (by
          show A.in1.in1.units + 40 < cLine
          have e : A.in1.in1.units = A.units + 1 + 1 := rfl
          omega) (items.size - 0) 0 _ (by omega) (Nat.zero_le _) ⟨⟨_, Heap.get?_push_size _ rfl, rfl, rfl⟩, hl2⟩ (fun b o e => Heap.get?_push_of_some _ (grow b o e)) ?_ ?_
        · exact ⟨[], #[], 0, _, freshK (Heap.get?_push_of_some _ hS), GotK.zero ks⟩
        · intro s' L es ep t hm hS' g' hq
          obtain ⟨h', g2, d', tk', os'⟩ := s'
          have eg : g2 = s.gens := hm.gens
          have ed : d' = s.drawn := hm.drawn
          have eo : os' = s.os := hm.os
          subst eg; subst ed; subst eo
          show wpAny _ _ _ _ _ _
          refine wpAny_pure ?_
          show wpAny _ _ (ret Value.none) _ _ _
          exact wpAny_pure ⟨rfl, h', tk', L, es, ep, t, rfl, hS', hsz ▸ g', hq⟩
      · cases r₂ with
        | error e => exact hr₂
        | ok fl₂ =>
          cases fl₂ with
          | ret r =>
            obtain ⟨rfl, h', tk, L, es, ep, t, rfl, hS', g', hk'⟩ := hr₂
            repeat (any_goals (first | assumption | wp_step))
            exact h h' tk L es ep t hS' g' hk'
          | _ => exact hr₂.elim
    | _ => exact hr.elim
end
end Hb

set_option Elab.async false
set_option linter.all false
set_option maxRecDepth 100000
set_option maxHeartbeats 4000000
/-! Sets of keys, told as IK; set(xs). -/
namespace Hb
open PySem L2 PyProof.Rows
/-! ## sets of keys -/
theorem noTxI (x : Itm) : noTx (nkI x) = true := by
  cases x with
  | inl n => rfl
  | inr ns =>
    show noTxs (ns.map NestedKey.num) = true
    induction ns with
    | nil => rfl
    | cons n ns ih =>
      rw [List.map_cons]
      simp only [noTxs, noTx, Bool.true_and]
      exact ih
theorem noTxK (k : IK) : noTx (nkK k) = true := by
  show noTxs (k.map nkI) = true
  induction k with
  | nil => rfl
  | cons n ns ih =>
    rw [List.map_cons]
    simp only [noTxs, noTxI, Bool.true_and]
    exact ih
theorem KAt.el {H : Hp} {p : Addr} {k : IK} (h : KAt H p k) : ElN H (nkK k, p) := ⟨h.nk, nkK_depth k, noTxK k⟩
/-- each once -/
def ndp : List IK → List IK
  | [] => []
  | x :: xs => if xs.any (fun y => decide (y = x)) then ndp xs else x :: ndp xs
theorem ndp_cons (x : IK) (xs : List IK) : ndp (x :: xs) = if xs.any (fun y => decide (y = x)) then ndp xs else x :: ndp xs := by rw [ndp]
theorem any_in {x : IK} {xs : List IK} : xs.any (fun y => decide (y = x)) = true ↔ x ∈ xs := by
  rw [List.any_eq_true]
  exact ⟨fun ⟨y, h1, h2⟩ => of_decide_eq_true h2 ▸ h1, fun h => ⟨x, h, decide_eq_true rfl⟩⟩
theorem ndp_mem : ∀ (xs : List IK) (x : IK), x ∈ ndp xs ↔ x ∈ xs
  | [], x => Iff.rfl
  | y :: xs, x => by
    have ih := ndp_mem xs
    rw [ndp_cons]
    split
    · rename_i h
      have h := any_in.mp h
      rw [ih, List.mem_cons]
      exact ⟨.inr, fun z => z.elim (fun e => e ▸ h) id⟩
    · rw [List.mem_cons, List.mem_cons, ih]
theorem ndp_nodup : ∀ xs : List IK, (ndp xs).Nodup
  | [] => List.Pairwise.nil
  | y :: xs => by
    have ih := ndp_nodup xs
    rw [ndp_cons]
    split
    · exact ih
    · rename_i h
      exact List.nodup_cons.mpr ⟨fun z => h (any_in.mpr ((ndp_mem xs y).mp z)), ih⟩
structure SK (H : Hp) (L : List (NestedKey × Addr)) (ks : List IK) : Prop where
  el : ∀ e ∈ L, ∃ x, e.1 = nkK x ∧ KAt H e.2 x
  mem : ∀ x, nkK x ∈ L.map (·.1) ↔ x ∈ ks
  len : L.length ≤ ks.length
theorem SK.nil {H : Hp} : SK H [] [] := ⟨(fun _ z => nomatch z), (fun _ => ⟨(fun z => nomatch z), (fun z => nomatch z)⟩), Nat.le_refl 0⟩
theorem SK.mono {H H' : Hp} (e : ∀ p xs, H p = some (.tup xs) → H' p = some (.tup xs)) {L : List (NestedKey × Addr)} {ks : List IK} (h : SK H L ks) : SK H' L ks :=
  ⟨fun x hx => (h.el x hx).elim fun k ⟨h1, h2⟩ => ⟨k, h1, h2.mono e⟩, h.mem, h.len⟩
theorem SK.add {H : Hp} {L L' : List (NestedKey × Addr)} {ks : List IK} {x : IK} {p : Addr} (h : SK H L ks) (hp : KAt H p x) (hA : AddN L (nkK x, p) L') : SK H L' (ks ++ [x]) := by
  by_cases hk : nkK x ∈ L.map (·.1)
  · rw [hA.1 hk]
    refine ⟨h.el, fun y => ?_, by rw [List.length_append]; exact Nat.le_add_right_of_le h.len⟩
    rw [List.mem_append, List.mem_singleton, ← h.mem]
    exact ⟨.inl, fun z => z.elim id fun e => e ▸ hk⟩
  · have pm := hA.2 hk
    refine ⟨fun e he => ?_, fun y => ?_, ?_⟩
    · rcases List.mem_cons.mp (pm.mem_iff.mp he) with rfl | he
      · exact ⟨x, rfl, hp⟩
      · exact h.el e he
    · rw [(pm.map (·.1)).mem_iff, List.map_cons, List.mem_cons, List.mem_append, List.mem_singleton, ← h.mem]
      exact ⟨fun z => z.elim (fun e => .inr (nkK_inj e)) .inl, fun z => z.elim .inr fun e => .inl (by rw [e])⟩
    · rw [pm.length_eq, List.length_cons, List.length_append]
      exact Nat.succ_le_succ h.len
theorem w_sortSK {P : Program} {w : World} {B H : Hp} {M : List (Addr × HO)} {Q : VK} {a : Addr} {L : List (NestedKey × Addr)} {ks : List IK} {c : Option Nat} {sh : List (Option Nat)} (hs : Hs B M H) (ha : H a = some (SN P w a L)) (h : SK H L ks) (hks : ∀ x ∈ ks, x.map shp = c :: sh)
    (q : ∀ p ys H', Hs B ((p, .lst ys) :: M) H' → Row (KeyAt H') ys (srtK (ndp ks)) → Q (.ref p) H') : rSortSN P w c sh [.ref a] H Q := by
  have hin : ∀ e ∈ L, ∃ x ∈ ks, e.1 = nkK x ∧ KeyAt H (.ref e.2) x := fun e he => by
    obtain ⟨x, h1, h2⟩ := h.el e he
    exact ⟨x, (h.mem x).mp (h1 ▸ List.mem_map_of_mem he), h1, _, rfl, h2⟩
  refine ⟨a, L, itK H, rfl, ha, fun e he => ?_, fun ys p hsrt hpm hnd hp => ?_⟩
  · obtain ⟨x, hx, h1, h2⟩ := hin e he
    rw [h2.it]
    obtain ⟨_, e', h3⟩ := h2
    cases e'
    exact ⟨h1 ▸ h3.nk, h1, hks x hx⟩
  · have hat : ∀ v ∈ ys, ∃ e ∈ L, v = .ref e.2 ∧ itK H v ∈ ks ∧ e.1 = nkK (itK H v) ∧ KeyAt H v (itK H v) := fun v hv => by
      obtain ⟨e, he, rfl⟩ := List.mem_map.mp (hpm.mem_iff.mp hv)
      obtain ⟨x, hx, h1, h2⟩ := hin e he
      rw [h2.it]
      exact ⟨e, he, rfl, hx, h1, h2⟩
    have hr : Row (KeyAt H) ys (ys.map (itK H)) := ⟨(List.length_map _).symm, fun i u x h1 h2 => by
      rw [List.getElem?_map, h1] at h2
      cases h2
      exact (hat u (List.mem_of_getElem? h1)).elim fun _ z => z.2.2.2.2⟩
    have hkL : ((ys.map (itK H)).map nkK).Perm (L.map (·.1)) := by
      rw [List.map_map]
      refine (hpm.map _).trans (List.Perm.of_eq ?_)
      rw [List.map_map]
      refine List.map_congr_left fun e he => ?_
      obtain ⟨x, hx, h1, h2⟩ := hin e he
      show nkK (itK H (.ref e.2)) = e.1
      rw [h2.it, h1]
    have nd : (ys.map (itK H)).Nodup := nodup_of_map (f := nkK) (hkL.nodup_iff.mpr hnd)
    have pm : (ys.map (itK H)).Perm (ndp ks) := (List.perm_ext_iff_of_nodup nd (ndp_nodup ks)).mpr fun x => by
      rw [ndp_mem, ← h.mem x, ← hkL.mem_iff]
      exact ⟨fun z => List.mem_map_of_mem z, fun z => by
        obtain ⟨y, hy, e⟩ := List.mem_map.mp z
        rw [← nkK_inj e]
        exact hy⟩
    have srt : SortedK (ys.map (itK H)) := List.pairwise_map.mpr (hsrt.imp fun z => z)
    have e := srtK_uniq (sh := c :: sh) pm (fun x hx => hks x ((ndp_mem _ _).mp hx)) srt
    rw [e] at hr
    have hs2 := hs.new (o := .lst ys) hp
    exact q p ys _ hs2 (hr.mono fun u k => KeyAt.mono fun b xs e => by rw [upd_ne (ne_of_none e hp)]; exact e)
theorem ndp_len : ∀ xs : List IK, (ndp xs).length ≤ xs.length
  | [] => Nat.le_refl _
  | x :: xs => by
    rw [ndp_cons]
    have := ndp_len xs
    split
    · exact Nat.le_succ_of_le this
    · exact Nat.succ_le_succ this

/-! ### set(xs), xs a list of keys -/
def rSetL (P : Program) (w : World) (K : PySem.W.Frag) : List V → Hp → VK → Prop := fun xs H Q => ∃ (l : Addr) (ks : List (NestedKey × Addr)), xs = [.ref l] ∧ SqL K H l (ks.map fun p => V.ref p.2) ∧ (∀ p ∈ ks, ElN H p) ∧ (∀ l : List NestedKey, l.Nodup → (∀ x ∈ l, x ∈ ks.map (·.1)) → l.length < 63) ∧
  ∀ D L, H D = none → (L.map (·.1)).Nodup → (∀ e ∈ L, e ∈ ks) → (∀ p ∈ ks, p.1 ∈ L.map (·.1)) → Q (.ref D) (upd H D (SN P w D L))
theorem call_setN {X : Cx} {P : Program} {w : World} {K : PySem.W.Frag} (hc : X.calm = true) (hu : X.A.units + 64 < cLine) (hP : X.prog = P := by rfl) (hw : X.w = w := by rfl) (hK : X.K = K := by rfl) : CallR X (.type "set") (rSetL P w K) := by
  subst hP
  subst hw
  subst hK
  intro pins s σ H xs us Q I r h
  obtain ⟨l, ks, rfl, hs, he, few, q⟩ := h
  obtain ⟨u, rfl, ru⟩ := vals1 r
  obtain rfl : u = Value.ref l := ru
  obtain ⟨its, rv, hl, hz⟩ := I.list hs
  have hit : its = ks.map fun p => Value.ref p.2 := by
    have go : ∀ {ks : List (NestedKey × Addr)} {us : List Value}, Vals (ks.map fun p => V.ref p.2) us → us = ks.map fun p => Value.ref p.2 := by
      intro ks
      induction ks with
      | nil =>
        intro us h
        cases h
        rfl
      | cons k ks ih =>
        intro us h
        cases h with
        | @cons _ u _ _ h1 h2 =>
          obtain rfl : u = Value.ref k.2 := h1
          rw [ih h2, List.map_cons]
    exact go rv
  refine call_setK ks (I.ok.hd hc) hl.isList (by simpa using hit) (fun p hp => (he p hp).is I.hok) few (by omega) fun h' tk L es ep t R g keep => ?_
  have g' : GotK ks ks.length L := g
  refine ⟨.ref s.heap.objs.size, _, I.laid (a := s.heap.objs.size) (t' := tk) keep (Nat.le_refl _) (sn_new R.k0), rfl, q _ L (I.hok.fresh (Nat.le_refl _)) R.nd (fun e m => List.mem_of_mem_take (g'.sub e m)) fun p m => g'.all p (by rw [List.take_length]; exact m)⟩
theorem w_setK {P : Program} {w : World} {K : PySem.W.Frag} {B H : Hp} {M : List (Addr × HO)} {Q : VK} {l : Addr} {us : List V} {ks : List IK} (hs : Hs B M H) (h : SqL K H l us) (r : Row (KeyAt H) us ks) (few : (ndp ks).length ≤ 60)
    (q : ∀ D L H', Hs B ((D, SN P w D L) :: M) H' → SK H' L ks → Q (.ref D) H') : rSetL P w K [.ref l] H Q := by
  obtain ⟨es, e1, e2, e3⟩ : ∃ es : List (NestedKey × Addr), us = es.map (fun p => V.ref p.2) ∧ ks.map nkK = es.map (·.1) ∧ ∀ p ∈ es, ∃ x ∈ ks, p.1 = nkK x ∧ KAt H p.2 x := by
    have go : ∀ {us : List V} {ks : List IK}, Row (KeyAt H) us ks → ∃ es : List (NestedKey × Addr), us = es.map (fun p => V.ref p.2) ∧ ks.map nkK = es.map (·.1) ∧ ∀ p ∈ es, ∃ x ∈ ks, p.1 = nkK x ∧ KAt H p.2 x := by
      intro us
      induction us with
      | nil =>
        intro ks r
        have : ks = [] := List.eq_nil_of_length_eq_zero r.1.symm
        subst this
        exact ⟨[], rfl, rfl, (fun _ z => nomatch z)⟩
      | cons u us ih =>
        intro ks r
        cases ks with
        | nil => exact absurd r.1 (by simp)
        | cons k ks =>
          obtain ⟨es, e1, e2, e3⟩ := ih (ks := ks) ⟨Nat.succ.inj r.1, fun i u x h1 h2 => r.2 (i + 1) u x h1 h2⟩
          obtain ⟨p, rfl, hp⟩ := r.2 0 u k rfl rfl
          refine ⟨(nkK k, p) :: es, by rw [List.map_cons, ← e1], by rw [List.map_cons, List.map_cons, e2], fun z hz => ?_⟩
          rcases List.mem_cons.mp hz with rfl | hz
          · exact ⟨k, List.mem_cons_self, rfl, hp⟩
          · obtain ⟨x, h1, h2⟩ := e3 z hz
            exact ⟨x, List.mem_cons_of_mem _ h1, h2⟩
    exact go r
  subst e1
  refine ⟨l, es, rfl, h, fun p hp => ?_, fun l hl hm => ?_, fun D L hD nd sub all => ?_⟩
  · obtain ⟨x, _, h1, h2⟩ := e3 p hp
    have := h2.el
    rw [← h1] at this
    exact this
  · have : ∃ ls : List IK, l = ls.map nkK ∧ ls.Nodup ∧ ∀ x ∈ ls, x ∈ ks := by
      have hm2 : ∀ x ∈ l, ∃ y ∈ ks, x = nkK y := fun x hx => by
        have := hm x hx
        rw [← e2] at this
        obtain ⟨y, hy, rfl⟩ := List.mem_map.mp this
        exact ⟨y, hy, rfl⟩
      clear hm
      induction l with
      | nil => exact ⟨[], rfl, .nil, (fun _ z => nomatch z)⟩
      | cons x l ih =>
        obtain ⟨ls, e, nd, m⟩ := ih (List.nodup_cons.mp hl).2 fun y hy => hm2 y (List.mem_cons_of_mem _ hy)
        obtain ⟨y, hy, rfl⟩ := hm2 x List.mem_cons_self
        refine ⟨y :: ls, by rw [List.map_cons, ← e], List.nodup_cons.mpr ⟨fun z => (List.nodup_cons.mp hl).1 (e ▸ List.mem_map_of_mem z), nd⟩, fun z hz => ?_⟩
        rcases List.mem_cons.mp hz with rfl | hz
        · exact hy
        · exact m z hz
    obtain ⟨ls, rfl, nd, m⟩ := this
    rw [List.length_map]
    have := nd.length_le_of_subset fun x hx => (ndp_mem ks x).mpr (m x hx)
    omega
  · refine q D L _ (hs.new hD) ⟨fun e he => ?_, fun x => ⟨fun hx => ?_, fun hx => ?_⟩, ?_⟩
    · obtain ⟨x, _, h1, h2⟩ := e3 e (sub e he)
      refine ⟨x, h1, h2.mono fun b xs e => ?_⟩
      rw [upd_ne (ne_of_none e hD)]
      exact e
    · obtain ⟨e, he, e4⟩ := List.mem_map.mp hx
      obtain ⟨y, hy, h1, _⟩ := e3 e (sub e he)
      rw [nkK_inj (e4.symm.trans h1)]
      exact hy
    · have : nkK x ∈ es.map (·.1) := e2 ▸ List.mem_map_of_mem hx
      obtain ⟨e, he, e4⟩ := List.mem_map.mp this
      rw [← e4]
      exact all e he
    · have h1 := nd.length_le_of_subset (l₂ := ks.map nkK) fun x hx => by
        obtain ⟨e, he, rfl⟩ := List.mem_map.mp hx
        rw [e2]
        exact List.mem_map_of_mem (sub e he)
      rw [List.length_map, List.length_map] at h1
      exact h1

/-! ### a walk over a dict that is locked around it -/
def iKeysNL (w : World) (td : TE) : TI := fun σ H R => td σ H fun x H1 => ∃ d o es, x = .ref d ∧ H1 d = some (.frz o (DN w d es)) ∧ R (Itn w d o es) H1
theorem pi_keysNL {X : Cx} {tg e : Expr} {td : TE} {w : World} (he : PE X e td) : PI X tg e (iKeysNL w td) := by
  refine ⟨fun pins s σ H R I h => ?_⟩
  refine thn (he.run pins s σ H _ I h) fun u s1 h1 => ?_
  obtain ⟨x, H1, I1, rx, d, o, es, ex, hd1, q⟩ := h1
  subst ex
  obtain rfl : u = Value.ref d := rx
  obtain ⟨hs, hgd, hx, ds, ep, hdt, hsz, ent⟩ := dn_raw I1 hd1
  refine iter_keys hs hgd hx hdt (pi_one (tk := s1.toks) I1 _ (turn_keysN _ hdt) ⟨_, Heap.get?_push_size _ rfl, rfl, ?_⟩ q)
  rw [hsz] <;> rfl
section
variable {K : PySem.W.Frag} {w : World} {σ : L2.St} {H B : Hp} {Q : VK} {L : List (Addr × HO)}
def KeyNLR (w : World) (x : V) (H1 : Hp) (R : It → Hp → Prop) : Prop := ∃ d o es, x = .ref d ∧ H1 d = some (.frz o (DN w d es)) ∧ R (Itn w d o es) H1
theorem w_keyNLR {d : Addr} {o : Obj} {es : List Ent} {R : It → Hp → Prop} (h : H d = some (.frz o (DN w d es))) (q : R (Itn w d o es) H) : KeyNLR w (.ref d) H R := ⟨d, o, es, rfl, h, q⟩
theorem w_lcNL {td : TE} {g : TG} {tt : TT} {te : TE} {vs : List Nat} (q : td σ H fun x H1 => KeyNLR w x H1 (LcR g tt te vs σ Q)) : tLc (iKeysNL w td) g tt te vs σ H Q := q
theorem w_forKNL {D : Ends} {td : TE} {g : TG} {tb : TS} (q : td σ H fun x H1 => KeyNLR w x H1 (ForR g tb D σ)) : tFor (iKeysNL w td) g tb D σ H := q
theorem w_lockN {L' : Obj → List (Addr × HO)} {d : Addr} {es : List Ent} {t : TE} (hs : Hs B L H) (h : ∀ od, Put L d (DN w d es) (.frz od (DN w d es)) (L' od)) (q : ∀ od H', Hs B (L' od) H' → t σ H' fun v H2 => H2 d = some (.frz od (DN w d es)) ∧ Q v (upd H2 d (DN w d es))) : tLockE t σ H Q :=
  ⟨d, _, hs.gets (h default), True.intro, fun od => q od _ (hs.puts (h od))⟩
theorem w_lockSN {D : Ends} {L' : Obj → List (Addr × HO)} {d : Addr} {es : List Ent} {t : TS} (hs : Hs B L H) (h : ∀ od, Put L d (DN w d es) (.frz od (DN w d es)) (L' od))
    (q : ∀ od H', Hs B (L' od) H' → t ⟨fun σ' H' => H' d = some (.frz od (DN w d es)) ∧ D.nx σ' (upd H' d (DN w d es)), fun v H' => H' d = some (.frz od (DN w d es)) ∧ D.rt v (upd H' d (DN w d es)), fun σ' H' => H' d = some (.frz od (DN w d es)) ∧ D.bk σ' (upd H' d (DN w d es)), fun σ' H' => H' d = some (.frz od (DN w d es)) ∧ D.ct σ' (upd H' d (DN w d es))⟩ σ H') : tLock t D σ H :=
  ⟨d, _, hs.gets (h default), True.intro, fun od => q od _ (hs.puts (h od))⟩
end

section
variable {K : PySem.W.Frag} {w : World} {σ : L2.St} {H : Hp} {Q : VK}
theorem w_ninF {ty td : TE} (q : ty σ H fun y H1 => td σ H1 fun x H2 => rNInF w x y H2 fun b => Q (.bl b) H2) : tNInF w ty td σ H Q := q
theorem w_ckw {r : List V → List V → Hp → VK → Prop} {t tk : TA} (q : t σ H fun vs H1 => tk σ H1 fun zs H2 => r vs zs H2 Q) : tCKw r t tk σ H Q := q
theorem w_lc2NN {td : TE} {g : TG} {tt : TT} {wi1 : TI} {g1 : TG} {tt1 : TT} {te : TE} {vs vs1 : List Nat} (q : td σ H fun x H1 => KeyNR w x H1 fun J H1 => ∀ D, H1 D = none → Turns J (Lc2Out g tt wi1 g1 tt1 te vs vs1 σ D) (upd H1 D (.lst [])) fun H => Q (.ref D) H) : tLc2 (iKeysN w td) g tt wi1 g1 tt1 te vs vs1 σ H Q := q
theorem w_allB {a : Addr} {bs : List Bool} {us : List V} (h : SqL K H a us) (e : us = bs.map V.bl) (q : Q (.bl (bs.all id)) H) : rAll K [.ref a] H Q := ⟨a, bs, rfl, e ▸ h, q⟩
/-- the walked row within a comprehension with two fors -/
theorem w_inL {D : Addr} {tl : TE} {g : TG} {tt : TT} {te : TE} {vs : List Nat} {Nx : Hp → Prop} (q : tl σ H fun x H1 => ListR K x H1 fun J1 H4 => Turns J1 (Lc2In g tt te vs σ D) H4 Nx) : iList K tl σ H fun J1 H4 => Turns J1 (Lc2In g tt te vs σ D) H4 Nx := q
end

theorem EntG.rowK {H : Hp} {es : List Ent} {M : GM} (h : EntG H es M) : Row (KeyAt H) (es.map fun e => V.ref e.2.1) (M.map (·.1)) := by
  induction h with
  | nil => exact Row.nil
  | cons h _ ih => exact ih.cons ⟨_, rfl, h.2.2⟩
theorem w_sortDK {w : World} {B H : Hp} {L : List (Addr × HO)} {Q : VK} {d : Addr} {es : List Ent} {M : GM} {c : Option Nat} {sh : List (Option Nat)} (hs : Hs B L H) (h : H d = some (DN w d es)) (e : EntG H es M) (hsh : ∀ x ∈ M, x.1.map shp = c :: sh)
    (q : ∀ p ys H', Hs B ((p, .lst ys) :: L) H' → Row (KeyAt H') ys (srtK (M.map (·.1))) → Q (.ref p) H') : rSortDN w c sh [.ref d] H Q := by
  have hr := e.rowK
  refine ⟨d, es, itK H, rfl, h, fun z hz => ?_, fun ys p h1 h2 hp => ?_⟩
  · obtain ⟨i, hi⟩ := List.mem_iff_getElem?.mp hz
    obtain ⟨x, hx, e1, e2, e3⟩ := paired_get e hi
    have : itK H (.ref z.2.1) = x.1 := KeyAt.it ⟨_, rfl, e3⟩
    rw [this]
    exact ⟨e3.nk, hsh x (List.mem_of_getElem? hx)⟩
  · obtain ⟨zs, pz, rz⟩ := row_perm h2.perm hr
    have hzs : zs = ys.map (itK H) := by
      refine List.ext_getElem? fun i => ?_
      rw [List.getElem?_map]
      cases hy : ys[i]? with
      | none =>
        have := List.getElem?_eq_none_iff.mp hy
        rw [rz.1] at this
        rw [List.getElem?_eq_none this]
        rfl
      | some y =>
        obtain ⟨x, hx, hk⟩ := rz.get hy
        rw [hx]
        exact congrArg some hk.it.symm
    have srt : SortedK zs := by
      rw [hzs]
      exact List.pairwise_map.mpr (h1.imp fun z => z)
    have e1 := srtK_uniq (sh := c :: sh) pz (fun x hx => by
      obtain ⟨y, hy, rfl⟩ := List.mem_map.mp hx
      exact hsh y hy) srt
    rw [e1] at rz
    exact q p ys _ (hs.new hp) (rz.mono fun u k => KeyAt.mono fun b xs e => by rw [upd_ne (ne_of_none e hp)]; exact e)
theorem w_slTF {K : PySem.W.Frag} {B H : Hp} {L : List (Addr × HO)} {Q : VK} {p : Addr} {xs : List V} {lo hi : Option Int} (hs : Hs B L H) (h : B p = some (.tup xs)) (hw : ¬ (HT.sIx xs.length 0 lo = 0 ∧ HT.sIx xs.length xs.length hi = xs.length)) (q : ∀ l B2 H', Same B B2 → Hs B2 L H' → B2 l = some (.tup (cutV xs lo hi)) → Q (.ref l) H') : rSlA K (.ref p) lo hi H Q :=
  w_slA hs (SqT.of (hs.same _ _ h)) hw fun l H' h1 => by
    obtain ⟨B2, sm, h2, h3⟩ := frz_hs h1
    exact q l B2 H' sm h3 h2
theorem w_catTF {K : PySem.W.Frag} {B H : Hp} {L : List (Addr × HO)} {Q : VK} {a b : Addr} {xs ys : List V} (hs : Hs B L H) (ha : B a = some (.tup xs)) (hb : B b = some (.tup ys)) (hz : xs.length + ys.length ≤ 100) (q : ∀ p B2 H', Same B B2 → Hs B2 L H' → B2 p = some (.tup (xs ++ ys)) → Q (.ref p) H') : rCatA K (.ref a) (.ref b) H Q := by
  refine ⟨a, b, xs, ys, rfl, rfl, SqT.of (hs.same _ _ ha), SqT.of (hs.same _ _ hb), Nat.le_trans hz (by decide), fun z => ?_, fun _ z => ?_, fun _ _ p hp => ?_⟩
  · subst z
    exact q b B H (Same.refl _) hs hb
  · subst z
    exact q a B H (Same.refl _) hs (by rw [List.append_nil]; exact ha)
  · obtain ⟨B2, sm, h1, h2⟩ := frz_hs (hs.new (o := .tup (xs ++ ys)) hp)
    exact q p B2 _ sm h2 h1

theorem for_keysN {w : World} {σ : L2.St} {H : Hp} {D : Ends} {g : TG} {tb : TS} {d : Addr} {o : Obj} {es : List Ent} (Pv : Nat → L2.St → Hp → Prop) (h0 : Pv 0 σ H) (hl : ∀ i σ H, i ≤ es.length → Pv i σ H → H d = some (.frz o (DN w d es)))
    (hs : ∀ i (e : Ent) σ H, es[i]? = some e → Pv i σ H → g (.ref e.2.1) σ H fun σ2 H2 => tb { D with nx := Pv (i + 1), ct := Pv (i + 1), bk := D.nx } σ2 H2) (hd : ∀ σ H, Pv es.length σ H → D.nx σ H) : ForR g tb D σ (Itn w d o es) H := by
  refine ⟨fun i m σ H => m = es.length - i ∧ i ≤ es.length ∧ Pv i σ H, ⟨es.length, by simp, Nat.zero_le _, h0⟩, ?_⟩
  rintro i m σ H ⟨rfl, hi, p⟩
  by_cases hlt : i < es.length
  · refine .inr ⟨⟨hl i σ H hi p, hlt⟩, Pv (i + 1), fun σ' H' p' => ⟨es.length - (i + 1), by omega, rfl, hlt, p'⟩, fun x H' y => ?_⟩
    obtain ⟨rfl, e, he, rfl⟩ := y
    exact hs i e σ _ he p
  · have e : i = es.length := by omega
    subst e
    exact .inl ⟨⟨hl _ σ H hi p, Nat.le_refl _⟩, hd σ H p⟩
end Hb

set_option Elab.async false
set_option linter.all false
set_option maxRecDepth 100000
set_option maxHeartbeats 4000000
/-! Dicts with tuple keys: read while locked, changed by an operator, len, copies; list.index of a key. -/
namespace Hb
open PySem L2 PyProof.Rows
def rNGetF (w : World) (x y : V) (H : Hp) (Q : VK) : Prop := ∃ a b o es k v, AtNF w H x y a b o es k ∧ atN es k = some v ∧ Q v H
def tNGetF (w : World) (td ty : TE) : TE := fun σ H Q => td σ H fun x H1 => ty σ H1 fun y H2 => rNGetF w x y H2 Q
def tNNotF (w : World) (ty td : TE) : TE := fun σ H Q => ty σ H fun y H1 => td σ H1 fun x H2 => rNInF w x y H2 fun b => Q (.bl (!b)) H2
section
variable {X : Cx} {w : World} {o i value : Expr} {pos pos' apos cpos : Pos} {td ty tv : TE}
theorem pe_ndgetF (hu : X.A.units + 64 < cLine) (ho : PE X o td) (hi : PE X i ty) (hs : NoSl i) (hw : X.w = w := by rfl) : PE X (.Subscript o i pos) (tNGetF w td ty) := by
  subst hw
  refine ⟨fun pins s σ H Q I h => ?_⟩
  refine subD_of PySem.F.slot_dict_getitem.lookup hs (thn (ho.run pins s σ H _ I h) fun u s1 h1 => ?_)
  obtain ⟨x, H1, I1, rx, q1⟩ := h1
  refine thn (hi.run pins s1 σ H1 _ I1 q1) fun iv s2 h2 => ?_
  obtain ⟨y, H2, I2, ry, a, b, ob, es, k, v, g, hv, q2⟩ := h2
  have dx : DNx X.w a es s2.heap := (show ObjOk X.prog X.w H2 s2.heap a (.frz ob (DN X.w a es)) from I2.hok _ _ g.ha).2.1
  obtain ⟨z, hd, xs, r, dd⟩ := dnx_dict I2.hok dx g.he
  cases g.ex
  cases g.ey
  obtain rfl : u = Value.ref a := rx
  obtain rfl : iv = Value.ref b := ry
  obtain ⟨w', hw', rw'⟩ := RelO.some_of (v := v) (o := (atKey xs k).map (·.2)) (by rw [← hv]; exact r.at k)
  obtain ⟨p, hp, hp2⟩ := Option.map_eq_some_iff.mp hw'
  refine ⟨dd.typeIs, wpAny_getItem_heap (n_room hu) ⟨g.hk.is I2.hok rfl, g.hd⟩ dd hp ?_⟩
  rw [hp2]
  exact ⟨v, H2, I2.tok _, rw', q2⟩
theorem pc_nnotF (hu : X.A.units + 64 < cLine) (hi : PE X i ty) (ho : PE X o td) (hw : X.w = w := by rfl) : PC X .NotIn i o (tNNotF w ty td) := by
  subst hw
  refine ⟨fun pins s σ H Q I h => ?_⟩
  refine thn (hi.run pins s σ H _ I h) fun iv s1 h1 => ?_
  obtain ⟨y, H1, I1, ry, q1⟩ := h1
  refine thn (ho.run pins s1 σ H1 _ I1 q1) fun u s2 h2 => ?_
  obtain ⟨x, H2, I2, rx, a, b, ob, es, k, g, q2⟩ := h2
  have dx : DNx X.w a es s2.heap := (show ObjOk X.prog X.w H2 s2.heap a (.frz ob (DN X.w a es)) from I2.hok _ _ g.ha).2.1
  obtain ⟨z, hd, xs, r, dd⟩ := dnx_dict I2.hok dx g.he
  cases g.ex
  cases g.ey
  obtain rfl : u = Value.ref a := rx
  obtain rfl : iv = Value.ref b := ry
  refine PyProof.Rows.wpAny_notIn_heap (n_room hu) ⟨g.hk.is I2.hok rfl, g.hd⟩ hd dd ?_
  rw [← r.some k]
  exact ⟨.bl _, H2, I2.tok _, rfl, q2⟩
/-! ### d[k] op= v -/
def sNAug (w : World) (td ty tv : TE) (rd : V → V → Hp → VK → Prop) : TS := fun D σ H => td σ H fun x H1 => ty σ H1 fun y H2 => rNGet w x y H2 fun u H3 => tv σ H3 fun z H4 => rd u z H4 fun v H5 => rNPut w x y v H5 fun H6 => D.nx σ H6
theorem ps_naug {op : Operator} {rd : V → V → Hp → VK → Prop} (hu : X.A.units + 64 < cLine) (ho : PE X o td) (hi : PE X i ty) (hv : PE X value tv) (hop : InOp X op rd) (hs : NoSl i)
    (ha : ∀ ov iv new, augStore i ov iv new = (do holding [new, ov, iv] (setItem ov iv new); release [new, ov, iv] []; pure .next) := by intros; rfl) (hw : X.w = w := by rfl) : PS X (.AugAssign (.Subscript o i pos') op value pos) (sNAug w td ty tv rd) := by
  subst hw
  refine ⟨fun pins s σ H D I h => ?_⟩
  refine wpAny_AugAssign_SubscriptAny (thn (ho.run pins s σ H _ I h) fun u s1 h1 => ?_) ha
  obtain ⟨x, H1, I1, rx, q1⟩ := h1
  refine thn (hi.run pins s1 σ H1 _ I1 q1) fun iv s2 h2 => ?_
  obtain ⟨y, H2, I2, ry, a, b, es, k, v, g, hv1, q2⟩ := h2
  obtain ⟨z, hd, xs, r, dd, hk⟩ := g.dn I2 rfl
  cases g.ex
  cases g.ey
  obtain rfl : u = Value.ref a := rx
  obtain rfl : iv = Value.ref b := ry
  obtain ⟨w', hw', rw'⟩ := RelO.some_of (v := v) (o := (atKey xs k).map (·.2)) (by rw [← hv1]; exact r.at k)
  obtain ⟨p, hp, hp2⟩ := Option.map_eq_some_iff.mp hw'
  refine wpAny_getItem_heap (n_room hu) hk dd hp ?_
  rw [hp2]
  refine thn (hv.run pins _ σ H2 _ (I2.tok _) q2) fun nv s3 h3 => ?_
  obtain ⟨zv, H4, I4, rz, q3⟩ := h3
  refine thn (hop pins s3 σ H4 v zv w' nv _ I4 rw' rz q3) fun new s4 h4 => ?_
  obtain ⟨nvv, H5, I5, rn, a2, b2, es2, k2, g2, hl, q4⟩ := h4
  obtain ⟨z2, hd2, xs2, r2, dd2, hk2⟩ := g2.dn I5 rfl
  cases g2.ex
  cases g2.ey
  have hz : xs2.length ≤ sizeLine := by rw [← r2.len]; exact z2
  have hl2 : (putN es2 k2 b nvv).length ≤ sizeLine := Nat.le_trans putN_len hl
  refine wpAny_setItem_heap (hsz := hz) (n_room hu) hk2 dd2 fun h' dd' hs' => ⟨σ, _, ?_, q4⟩
  have he : ∃ q, h'.get? a = some q := let ⟨q, _, _, hq, _⟩ := dd'; ⟨q, hq⟩
  exact d_write I5 (by rw [g2.ha]; exact True.intro) hs' he (dn_obj hl2 hd2 (r2.put k2 b rn) dd')
/-! ### len(d) -/
def rLenN (w : World) : List V → Hp → VK → Prop := fun xs H Q => ∃ (p : Addr) (es : List Ent), xs = [.ref p] ∧ H p = some (DN w p es) ∧ EntsOk H es ∧ Q (.int ((es.length : Nat) : Int)) H
theorem call_lenN (hw : X.w = w := by rfl) : CallR X (.builtin "len") (rLenN w) := by
  subst hw
  intro pins s σ H xs us Q I r h
  obtain ⟨p, es, rfl, hp, he, q⟩ := h
  obtain ⟨u, rfl, rx⟩ := vals1 r
  obtain rfl : u = .ref p := rx
  obtain ⟨z, hd, ys, rel, dd⟩ := dn_of I.hok hp he
  have hl : es.length = ys.length := rel.len
  refine call_len_dictH hd dd (by rw [← hl]; rw [sizeLine_eq] at z; omega) ?_
  rw [← hl]
  exact ⟨.int ((es.length : Nat) : Int), H, I.tok _, ⟨_, rfl⟩, q⟩
end

/-! ### dict(d) -/
section
open Sem (wp)
variable {P : Program} {w : World} {A : Around} {E : Value → Shared → Prop} {s : Shared} {κ : Type} [DecidableEq κ] {knd : HeapKind P w κ}
theorem call_dict_ofH {o : Addr} {xs : List (κ × Addr × Value)} {Q : Value → Shared → Prop} (hu : knd.room A.in1.in1) (hoS : (o == sysModules) = false) (ho : s.heap.DictOfH knd o xs) (hty : ∀ x ∈ xs, s.TypeIs (.ref x.2.1) "tuple") (hap : (xs.map fun x => knd.hash x.1).Nodup) (hsz : xs.length ≤ sizeLine)
    (stay : ∀ h', (∀ b o, s.heap.get? b = some o → h'.get? b = some o) → ∀ x ∈ xs, knd.is h' x.1 x.2.1)
    (h : ∀ h', h'.DictOfH knd s.heap.objs.size xs → (∀ b o, s.heap.get? b = some o → h'.get? b = some o) → Q (.ref s.heap.objs.size) { s with heap := h' }) : wpAny (model P w) A (call (.type "dict") [.ref o]) Q E s := by
  refine callType_codes (Q₁ := fun v t => v = .ref s.heap.objs.size ∧ t = { s with heap := s.heap.push { cls := .type "dict", data := .dict #[] } }) F.kt_called_dict (F.kt_typeCall_dict_1 _) F.entry_dict_init (kt_code_dict_new _ ⟨rfl, rfl⟩) ?_
  rintro v t ⟨rfl, rfl⟩
  have grow : ∀ b ob, s.heap.get? b = some ob → (s.heap.push { cls := .type "dict", data := .dict #[] }).get? b = some ob := fun b ob e => Heap.get?_push_of_some _ e
  have hT : Shared.TypeIs { s with heap := s.heap.push { cls := .type "dict", data := .dict #[] } } (.ref s.heap.objs.size) "dict" := ⟨_, Heap.get?_push_size _ rfl, rfl⟩
  refine ⟨hT, F.args_dict_init_2 _ _, ?_⟩
  unfold Builtin.«dict.__init__» Builtin.Dict.selfAndRest
  refine wpAny_bind (wpAny_bind (wpAny_notOrdered_dict hT ?_))
  show wpAny _ _ (pure (s.heap.objs.size, [Value.ref o])) _ _ _
  refine wpAny_pure ?_
  have hlt : o < s.heap.objs.size := by
    obtain ⟨ob, _, _, e, _⟩ := ho
    exact Heap.lt_size e
  have ho2 : (s.heap.push { cls := .type "dict", data := .dict #[] }).DictOfH knd o xs := by
    obtain ⟨ob, ds, ep, e1, e2, e3, e4, e5, e6⟩ := ho
    exact ⟨ob, ds, ep, grow _ _ e1, e2, e3, e4, stay _ grow, e6⟩
  refine updateFrom_dictH (knd := knd) (kvs := []) .none hu (Nat.ne_of_gt hlt) hoS (Heap.DictOfH.new s.heap) ho2 (.inr ⟨fun x hx => ?_, hap⟩) (by simpa using hsz) fun h' hd' _ hs' => ?_
  · obtain ⟨ob, e1, e2⟩ := hty x hx
    exact ⟨ob, grow _ _ e1, e2⟩
  · have nd : (xs.map (·.1)).Nodup := ho.nodup
    rw [storedAllH_nil_of_nodup xs nd] at hd'
    refine ⟨rfl, h h' hd' fun b ob e => ?_⟩
    rw [hs'.2 b (Nat.ne_of_lt (Heap.lt_size e))]
    exact grow b ob e
end

def rDictN (w : World) : List V → Hp → VK → Prop := fun xs H Q => ∃ (p : Addr) (es : List Ent), xs = [.ref p] ∧ H p = some (DN w p es) ∧ EntsOk H es ∧ (es.map fun e => e.1.hash w).Nodup ∧ ∀ q, H q = none → Q (.ref q) (upd H q (DN w q es))
theorem call_dictN {X : Cx} {w : World} (hu : X.A.units + 64 < cLine) (hw : X.w = w := by rfl) : CallR X (.type "dict") (rDictN w) := by
  subst hw
  intro pins s σ H xs us Q I r h
  obtain ⟨p, es, rfl, hp, he, hh, q⟩ := h
  obtain ⟨u, rfl, rx⟩ := vals1 r
  obtain rfl : u = .ref p := rx
  obtain ⟨z, hd, ys, rel, dd⟩ := dn_of I.hok hp he
  have hl : es.length = ys.length := rel.len
  have hk : ∀ x ∈ ys, NK H x.1 (.ref x.2.1) ∧ x.1.depth ≤ 8 := by
    have go : ∀ {l : List Ent} {m : List (NestedKey × Addr × Value)}, RelEs l m → EntsOk H l → ∀ x ∈ m, NK H x.1 (.ref x.2.1) ∧ x.1.depth ≤ 8 := by
      intro l m r
      induction r with
      | nil => exact fun _ x hx => nomatch hx
      | @cons a b as bs hab _ ih =>
        intro hl x hx
        rcases List.mem_cons.mp hx with rfl | hx
        · have := hl a List.mem_cons_self
          rw [hab.1, hab.2.1] at this
          exact this
        · exact ih (fun e he => hl e (List.mem_cons_of_mem _ he)) x hx
    exact go rel he
  have hhs : (ys.map fun x => (nestedKind X.prog X.w).hash x.1).Nodup := by
    have e : (ys.map fun x => (nestedKind X.prog X.w).hash x.1) = es.map fun e => e.1.hash X.w := by
      have := congrArg (List.map fun k : NestedKey => k.hash X.w) rel.keys
      rw [List.map_map, List.map_map] at this
      exact this
    rw [e]
    exact hh
  have tys : ∀ x ∈ ys, s.TypeIs (.ref x.2.1) "tuple" := fun x hx => by
    obtain ⟨h1, _⟩ := hk x hx
    generalize x.1 = k1 at h1
    cases h1 with
    | tup e _ =>
      obtain ⟨its, _, ht, _⟩ := I.tuple (SqT.of e)
      obtain ⟨o, ho, hc, _⟩ := ht
      exact ⟨o, ho, hc⟩
  refine call_dict_ofH (knd := nestedKind X.prog X.w) (by show X.A.in1.in1.units + 8 < cLine; have e : X.A.in1.in1.units = X.A.units + 1 + 1 := rfl; omega) hd dd tys hhs (by rw [← hl]; exact z) (fun h' keep x hx => ?_) fun h' dd' keep => ?_
  · obtain ⟨h1, h2⟩ := hk x hx
    exact ⟨NestedIs.at (fun c o _ _ hc _ => keep c o hc) _ _ (h1.is I.hok rfl), h2⟩
  · exact ⟨.ref s.heap.objs.size, _, I.laid (a := s.heap.objs.size) (t' := s.toks) keep (Nat.le_refl _) (dn_obj z (beq_eq_false_iff_ne.mpr (Ne.symm (Nat.ne_of_lt I.big))) rel dd'), rfl, q _ (I.hok.fresh (Nat.le_refl _))⟩
/-! ### list.index of a key -/
def rIdxN (K : PySem.W.Frag) : V → List V → Hp → VK → Prop := fun x vs H Q => ∃ (l : Addr) (us : List V) (ks : List IK) (v : V) (k : IK) (i : Nat), x = .ref l ∧ vs = [v] ∧ SqL K H l us ∧ Row (KeyAt H) us ks ∧ KeyAt H v k ∧ ks.Nodup ∧ ks[i]? = some k ∧ Q (.int (i : Nat)) H
theorem mt_indexN {X : Cx} {K : PySem.W.Frag} (hu : X.A.units + 64 < cLine) (hK : X.K = K := by rfl) : MtR X "list.index" (rIdxN K) := by
  subst hK
  intro pins s σ H x vs v us Q I rx rv h
  obtain ⟨l, xs, ks, y, k, i, rfl, rfl, hs, hr, hy, nd, hi, q⟩ := h
  cases rx
  obtain ⟨u, rfl, ru⟩ := rv.one
  obtain ⟨its, r, hl, hz⟩ := I.list hs
  obtain ⟨p, rfl, hp⟩ := hy
  obtain rfl : u = .ref p := ru
  have hall : NestedAll s.heap (ks.map nkK) its := by
    have go : ∀ {xs : List V} {its : List Value} {ks : List IK}, Vals xs its → Row (KeyAt H) xs ks → NestedAll s.heap (ks.map nkK) its := by
      intro xs its ks rv
      induction rv generalizing ks with
      | nil =>
        intro hr
        have : ks = [] := List.eq_nil_of_length_eq_zero hr.1.symm
        subst this
        exact .nil
      | @cons v u vs its h1 h2 ih =>
        intro hr
        cases ks with
        | nil => exact absurd hr.1 (by simp)
        | cons k ks =>
          obtain ⟨b, rfl, hb⟩ := hr.2 0 v k rfl rfl
          obtain rfl : u = .ref b := h1
          exact .cons (hb.nk.is I.hok rfl) (ih ⟨Nat.succ.inj hr.1, fun i u x e1 e2 => hr.2 (i + 1) u x e1 e2⟩)
    exact go r hr
  have hx : NestedIs s.heap (nkK k) (.ref p) := hp.nk.is I.hok rfl
  have hm : nkK k ∈ ks.map nkK := List.mem_map_of_mem (List.mem_of_getElem? hi)
  refine PySem.SeqAt.call_list_index (vs := its) (ks := ks.map nkK) hl.isList (PySem.SeqAt.ItemsEq.nested hall hx (by have := nkK_depth k; show X.A.in1.units + _ < _; have e : X.A.in1.units = X.A.units + 1 := rfl; omega)) (by rw [List.length_map, ← hr.1]; exact hz) hm ?_
  have hix : (ks.map nkK).idxOf (nkK k) = i := by
    have nd2 : (ks.map nkK).Nodup := List.pairwise_map.mpr (nd.imp fun z e => z (nkK_inj e))
    have hi2 : (ks.map nkK)[i]? = some (nkK k) := by rw [List.getElem?_map, hi]; rfl
    have h1 := List.idxOf_lt_length_iff.mpr hm
    have h2 : (ks.map nkK)[(ks.map nkK).idxOf (nkK k)]? = some (nkK k) := by
      rw [List.getElem?_eq_getElem h1, List.getElem_idxOf h1]
    have h3 := (List.getElem?_eq_some_iff.mp hi2).1
    have e1 : (ks.map nkK)[(ks.map nkK).idxOf (nkK k)]'h1 = (ks.map nkK)[i]'h3 := (List.getElem_idxOf h1).trans (List.getElem?_eq_some_iff.mp hi2).2.symm
    rcases Nat.lt_trichotomy ((ks.map nkK).idxOf (nkK k)) i with g | g | g
    · exact absurd e1 (List.pairwise_iff_getElem.mp nd2 _ _ h1 h3 g)
    · exact g
    · exact absurd e1.symm (List.pairwise_iff_getElem.mp nd2 _ _ h3 h1 g)
  rw [hix]
  exact ⟨.int _, H, I.tok _, ⟨_, rfl⟩, q⟩

section
variable {K : PySem.W.Frag} {w : World} {σ : L2.St} {H B : Hp} {Q : VK} {D : Ends} {td ty tv : TE} {L L' : List (Addr × HO)} {es : List Ent} {M : GM} {k : IK} {d b : Addr} {v : V}
theorem w_ngetF (q : td σ H fun x H1 => ty σ H1 fun y H2 => rNGetF w x y H2 Q) : tNGetF w td ty σ H Q := q
theorem w_nnotF (q : ty σ H fun y H1 => td σ H1 fun x H2 => rNInF w x y H2 fun b => Q (.bl (!b)) H2) : tNNotF w ty td σ H Q := q
theorem w_naug {rd : V → V → Hp → VK → Prop} (q : td σ H fun x H1 => ty σ H1 fun y H2 => rNGet w x y H2 fun u H3 => tv σ H3 fun z H4 => rd u z H4 fun v H5 => rNPut w x y v H5 fun H6 => D.nx σ H6) : sNAug w td ty tv rd D σ H := q
theorem wg_getF {o : Obj} (hs : Hs B L H) (h : H d = some (.frz o (DN w d es))) (e : EntG B es M) (hk : KAt H b k) (hv : valG M k = some v) (q : Q v H) : rNGetF w (.ref d) (.ref b) H Q :=
  ⟨d, b, o, es, nkK k, v, ⟨rfl, rfl, h, (e.same hs.same).ok, hk.nk, nkK_depth k⟩, by rw [e.at k, hv], q⟩
theorem w_lenN (h : H d = some (DN w d es)) (e : EntG H es M) (q : Q (.int (M.length : Nat)) H) : rLenN w [.ref d] H Q := ⟨d, es, rfl, h, e.ok, by rw [e.len]; exact q⟩
theorem w_dictN (hs : Hs B L H) (h : H d = some (DN w d es)) (e : EntG H es M) (hh : (M.map fun x => (nkK x.1).hash w).Nodup) (q : ∀ p H', Hs B ((p, DN w p es) :: L) H' → Q (.ref p) H') : rDictN w [.ref d] H Q := by
  refine ⟨d, es, rfl, h, e.ok, ?_, fun p hp => q p _ (hs.new hp)⟩
  have key : ∀ {es : List Ent} {M : GM}, EntG H es M → (es.map fun e => e.1.hash w) = M.map fun x => (nkK x.1).hash w := by
    intro es M e
    induction e with
    | nil => rfl
    | cons h _ ih => rw [List.map_cons, List.map_cons, ih, h.1]
  rw [key e]
  exact hh
theorem w_idxN {l : Addr} {us : List V} {ks : List IK} {x : V} {i : Nat} (h : SqL K H l us) (r : Row (KeyAt H) us ks) (hx : KeyAt H x k) (nd : ks.Nodup) (hi : ks[i]? = some k) (q : Q (.int (i : Nat)) H) : rIdxN K (.ref l) [x] H Q := ⟨l, us, ks, x, k, i, rfl, rfl, h, r, hx, nd, hi, q⟩
end

/-! ### name = {k: v for ..}, the keys nested tuples -/
section
variable {X : Cx}
theorem dcn_core {pins : List (Addr × Obj)} {s : Shared} {σ : L2.St} {H : Hp} {Q : VK} {use : Option (Value → Sem Unit)} {Qf : Value → Shared → Prop} {kx vx tg iter : Expr} {ifs : List Expr} {scope : Scope} {own : List (Str × Nat)} {pos pos' : Pos} {wi : TI} {g : TG} {tt : TT} {tk tv : TE} (I : Inv X pins σ H s) (hc : X.calm = true) (hu : X.A.units + 64 < cLine) (hN : X.N.Nodup) (hi : PI X tg iter wi) (ok : BlkOk X.N X.env.scope scope own)
    (hg : ∀ (s : Shared) (H : Hp) (C : Addr) (cl : List (Str × Addr)) (fp : List Addr), PG (X.blk s H scope (compEnvC scope cl C X.env) fp) tg g) (ht : ∀ (s : Shared) (H : Hp) (C : Addr) (cl : List (Str × Addr)) (fp : List Addr), PTs (X.blk s H scope (compEnvC scope cl C X.env) fp) ifs tt)
    (hk : ∀ (s : Shared) (H : Hp) (C : Addr) (cl : List (Str × Addr)) (fp : List Addr), PE (X.blk s H scope (compEnvC scope cl C X.env) fp) kx tk)
    (he : ∀ (s : Shared) (H : Hp) (C : Addr) (cl : List (Str × Addr)) (fp : List Addr), PE (X.blk s H scope (compEnvC scope cl C X.env) fp) vx tv) (hs : ∀ x, foldedSetIterable iter X.env x = pure x) (h : tDcN X.w wi g tt tk tv (own.map (·.2)) σ H Q)
    (hRR : ∀ D C s' m H', Inv X pins σ H' s' → Q (.ref D) H' → s'.heap.Ns C m → FpOk X pins H' C → compPost (model X.prog X.w) X.A X.xe use Qf (.ref D) C (.ok .next) s') :
    wpAny (model X.prog X.w) X.A (comprehension (.DictComp kx vx [⟨tg, iter, ifs, 0⟩] scope pos) scope X.env pos' (newObj (.type "dict") (.dict #[])) false (eval iter X.env) use) Qf X.xe s := by
  have hfree : ∀ y ∈ scope.names, y.2 = .free → ∃ c, X.env.cells.lookup y.1 = some c := fun y hy e => by
    rcases ok.free y hy e with k | k
    · exact I.ok.has _ (.inl k)
    · exact I.ok.has _ (.inr k)
  refine wpAny_comprehension_free (use := use) rfl hs (closure_ok hfree) ok.kind (fun y hy e => by rw [ok.uniq y hy, e]) (thn (hi.run pins s σ H _ I h) fun xv s1 hx => thn hx fun itv s2 h2 => ?_)
  obtain ⟨it, fp, tn, J, H2, rfl, I2, T, st2, f2, q⟩ := h2
  refine wpAny_newObj_type (newEnv_comp ?_)
  obtain ⟨D, hD⟩ : ∃ D, D = s2.heap.objs.size := ⟨_, rfl⟩
  rw [← hD]
  obtain ⟨W, ⟨m0, w0⟩, turn⟩ := q D (I2.hok.fresh (Nat.le_of_eq hD.symm))
  have grown : ∀ b o, s2.heap.get? b = some o → (s2.heap.push { cls := .type "dict", data := .dict #[] }).get? b = some o := fun b o e => Heap.get?_push_of_some _ e
  have I3 : Inv X pins σ (upd H2 D (DN X.w D [])) { s2 with heap := s2.heap.push { cls := .type "dict", data := .dict #[] } } :=
    I2.laid (t' := s2.toks) grown (Nat.le_of_eq hD.symm) (hD ▸ dn_empty s2.heap I2.big)
  have f3 : ∀ b ∈ fp, FpOk X pins (upd H2 D (DN X.w D [])) b ∧ b < (s2.heap.push { cls := .type "dict", data := .dict #[] }).objs.size := fun b hb => by
    obtain ⟨o, e, _⟩ := T.obj _ _ st2 b hb
    have hlt := Heap.lt_size e
    refine ⟨⟨?_, (f2 b hb).2⟩, by rw [Heap.size_push]; exact Nat.lt_succ_of_lt hlt⟩
    rw [upd_ne (by rw [hD]; exact Nat.ne_of_lt hlt)]
    exact (f2 b hb).1
  have st3 := T.keep _ _ _ st2 fun b _ o e => grown b o e
  obtain ⟨s3, hs3⟩ : ∃ s3 : Shared, s3 = { s2 with heap := s2.heap.push { cls := .type "dict", data := .dict #[] } } := ⟨_, rfl⟩
  obtain ⟨H3, hH3⟩ : ∃ H3 : Hp, H3 = upd H2 D (DN X.w D []) := ⟨_, rfl⟩
  rw [← hH3] at I3 w0
  rw [← hs3] at I3
  have st3' : tn 0 s3.heap := by rw [hs3]; exact st3
  have f3' : ∀ b ∈ fp, FpOk X pins H3 b ∧ b < s3.heap.objs.size := fun b hb => by rw [hH3, hs3]; exact f3 b hb
  have I4 := block_start I3 ok hN f3'
  show codeAny _ _ (.compStart (.DictComp kx vx [⟨tg, iter, ifs, 0⟩] scope pos) 0 (.ref it) (.ref D) (compEnvC scope (cellsFrom ((s2.heap.push { cls := .type "dict", data := .dict #[] }).objs.size + 1) scope.names (cloFrom X.env.cells scope.names [])) (s2.heap.push { cls := .type "dict", data := .dict #[] }).objs.size X.env))
    (compPost (model X.prog X.w) X.A X.xe use Qf (.ref D) (s2.heap.push { cls := .type "dict", data := .dict #[] }).objs.size)
    { s2 with heap := pushCells ((s2.heap.push { cls := .type "dict", data := .dict #[] }).push { cls := .type "dict", data := .dict #[] }) scope.names }
  have hh3 : s2.heap.push { cls := .type "dict", data := .dict #[] } = s3.heap := by rw [hs3]
  have hst : ({ s2 with heap := pushCells ((s2.heap.push { cls := .type "dict", data := .dict #[] }).push { cls := .type "dict", data := .dict #[] }) scope.names } : Shared) = { s3 with heap := pushCells (s3.heap.push { cls := .type "dict", data := .dict #[] }) scope.names } := by rw [hs3]
  rw [hst, hh3]
  have pg := hg s3 H3 s3.heap.objs.size (cellsFrom (s3.heap.objs.size + 1) scope.names (cloFrom X.env.cells scope.names [])) fp
  have pt := ht s3 H3 s3.heap.objs.size (cellsFrom (s3.heap.objs.size + 1) scope.names (cloFrom X.env.cells scope.names [])) fp
  have pk := hk s3 H3 s3.heap.objs.size (cellsFrom (s3.heap.objs.size + 1) scope.names (cloFrom X.env.cells scope.names [])) fp
  have pe := he s3 H3 s3.heap.objs.size (cellsFrom (s3.heap.objs.size + 1) scope.names (cloFrom X.env.cells scope.names [])) fp
  generalize hce : compEnvC scope (cellsFrom (s3.heap.objs.size + 1) scope.names (cloFrom X.env.cells scope.names [])) s3.heap.objs.size X.env = ce at I4 pg pt pk pe ⊢
  have cL : ce.locals = s3.heap.objs.size := by subst hce; rfl
  generalize hs4 : ({ s3 with heap := pushCells (s3.heap.push { cls := .type "dict", data := .dict #[] }) scope.names } : Shared) = s4 at I4 ⊢
  have st4 : tn 0 s4.heap := T.keep _ _ _ st3' fun b _ o e => by rw [← hs4]; exact pushCells_keeps _ _ _ _ (Heap.get?_push_of_some _ e)
  have nfp : ∀ b ∈ fp, H3 b = none := fun b hb => (f3' b hb).1.1
  have stat : ∀ {σ' : L2.St} {H' : Hp} {s' : Shared}, Inv (X.blk s3 H3 scope ce fp) [] σ' H' s' → (∀ b ∈ fp, H' b = none) → ∀ b ∈ fp, FpOk (X.blk s3 H3 scope ce fp) [] H' b := fun {σ' H' s'} I' hn b hb =>
    ⟨hn b hb, (I'.ok.exf b hb).1, I'.ok.exfs b hb, .inl hb, fun x c e => (I'.ok.exf b hb).2 x c e, fun p hp => absurd (show p ∈ ([] : List (Addr × Obj)) ++ [] from hp) (by simp)⟩
  have loop : codeAny (model X.prog X.w) X.A (.compLoop (.DictComp kx vx [⟨tg, iter, ifs, 0⟩] scope pos) 0 (.ref it) (.ref D) ce) (compPost (model X.prog X.w) X.A X.xe use Qf (.ref D) s3.heap.objs.size) s4 := by
    refine compLoop_anyD (fun n s' => ∃ i H', Inv (X.blk s3 H3 scope ce fp) [] (wipe σ (own.map (·.2))) H' s' ∧ tn i s'.heap ∧ (∀ b ∈ fp, H' b = none) ∧ W i n H') ?_ m0 ⟨0, H3, I4, st4, nfp, w0⟩
    rintro n s5 ⟨i, H5, I5, st5, n5, w5⟩
    rcases turn i n H5 w5 with ⟨stop, qq⟩ | ⟨go, Nx, hNx, step⟩
    · refine thnF (T.done (X.blk s3 H3 scope ce fp) rfl rfl rfl hc i [] s5 _ H5 (fun _ _ => False) I5 (stat I5 n5) st5 stop) fun r s6 ⟨hr, I6⟩ => ?_
      subst hr
      have I7 : Inv X pins σ H5 s6 := I3.call' (ch := fp) I6.os I6.base I6.hok I6.bare fun b hb => ⟨(f3' b hb).1.2.2.2.1, (f3' b hb).1.2.1, (f3' b hb).1.2.2.2.2.1, (f3' b hb).1.2.2.2.2.2⟩
      have nC : H5 s3.heap.objs.size = none := by
        have z : H5 ce.locals = none := I6.free
        rwa [cL] at z
      obtain ⟨m, hn, _⟩ := I6.loc
      have hn' : s6.heap.Ns ce.locals m := hn
      rw [cL] at hn'
      exact hRR D _ s6 m H5 I7 qq hn' (I3.fpOk (Nat.le_refl _) nC)
    · refine thnF (T.item (X.blk s3 H3 scope ce fp) rfl rfl rfl hc i [] s5 _ H5 (fun _ _ => False) I5 (stat I5 n5) st5 go) fun r s6 ⟨u, hr, h6⟩ => ?_
      subst hr
      refine thnF h6 fun _ s7 ⟨x, H7, I7, r7, y7, st7, n7⟩ => ?_
      refine thnF (pg.run _ s7 _ H7 x u _ (I7.pinned (stat I7 n7) (T.obj _ _ st7)) r7 (step x H7 y7)) fun _ s8 ⟨σ8, H8, I8, hw8, q8⟩ => ?_
      refine thnF (pt.run _ s8 σ8 H8 _ I8 q8) fun b s9 ⟨H9, I9, q9⟩ => ?_
      have fin : ∀ {s' : Shared} {H' : Hp}, Inv (X.blk s3 H3 scope ce fp) ([] ++ pinsAt fp s7.heap) σ8 H' s' → Nx H' → ∃ m, m < n ∧ ∃ i H', Inv (X.blk s3 H3 scope ce fp) [] (wipe σ (own.map (·.2))) H' s' ∧ tn i s'.heap ∧ (∀ b ∈ fp, H' b = none) ∧ W i m H' := fun {s' H'} I' nx => by
        obtain ⟨m', hm, w'⟩ := hNx H' nx
        have pin' : ∀ b ∈ fp, ∀ o, s7.heap.get? b = some o → s'.heap.get? b = some o ∧ H' b = none := fun b hb o e =>
          let z := I'.pin (b, o) (List.mem_append_right _ (List.mem_append_right _ (mem_pinsAt hb e)))
          ⟨z.1, z.2.1⟩
        have hl : (wipe σ (own.map (·.2))).length = σ8.length := by rw [← hw8, wipe_length]
        refine ⟨m', hm, i + 1, H', (I'.unpinned (pins := [])).weak hl (fun j v e => ?_), T.keep _ _ _ st7 fun b hb o e => (pin' b hb o e).1, fun b hb => ?_, w'⟩
        · rw [← hw8] at e
          exact (wipe_some e).1
        · obtain ⟨o, e, _⟩ := T.obj _ _ st7 b hb
          exact (pin' b hb o e).2
      cases b with
      | false =>
        simp only [Bool.false_eq_true, if_false] at q9 ⊢
        exact fin I9 q9
      | true =>
        simp only [if_true] at q9 ⊢
        refine thnF (pk.run _ s9 σ8 H9 _ I9 q9) fun z s10 ⟨yk, H10, I10, r10, q10⟩ => ?_
        refine thnF (pe.run _ s10 σ8 H10 _ I10 q10) fun z2 s11 ⟨yv, H11, I11, r11, b, es, k, ek, hD11, hes, hkk, hdep, hz11, nx⟩ => ?_
        subst ek
        obtain rfl : z = Value.ref b := r10
        exact dn_dictSet (X := X.blk s3 H3 scope ce fp) hu I11 hD11 hes hkk hdep hz11 r11 fun s12 I12 => fin I12 nx
  exact codeAny_compStart_dict loop (T.self X.A 0 _ _ _ st4 loop)
theorem sw_trueD {kx vx : Expr} {gs : List Comprehension} {scope : Scope} {pos py : Pos} {y : Str} {l : Nat} {env : Env} (hk : env.scope.kind = .function) (hy : env.scope.names.lookup y = some .local) (hl : (py.line == pos.line) = true)
    (ha : (scope.names.any fun (n, k) => n == y && (k == .local || k == .cell)) = false) : swapsWith (.DictComp kx vx gs scope pos) (some (.Name y py)) l env = pure true := by
  have ky : env.kindOf y = some .local := hy
  have hb : env.blockKind = .function := by unfold Env.blockKind; rw [hk]; rfl
  unfold swapsWith
  simp only [hb, ky, ha, Expr.pos, hl]
  rfl
theorem ps_setDcN {w : World} {i : Nat} {y : Str} {py spos : Pos} {kx vx tg iter : Expr} {ifs : List Expr} {scope : Scope} {own : List (Str × Nat)} {pos : Pos} {wi : TI} {g : TG} {tt : TT} {tk tv : TE} (hc : X.calm = true) (hu : X.A.units + 64 < cLine) (hN : X.N.Nodup) (hy : X.N[i]? = some y) (hyl : X.env.scope.names.lookup y = some .local)
    (hsw : swapsWith (.DictComp kx vx [⟨tg, iter, ifs, 0⟩] scope pos) (some (.Name y py)) spos.line X.env = pure true) (hi : PI X tg iter wi) (ok : BlkOk X.N X.env.scope scope own)
    (hg : ∀ (s : Shared) (H : Hp) (C : Addr) (cl : List (Str × Addr)) (fp : List Addr), PG (X.blk s H scope (compEnvC scope cl C X.env) fp) tg g) (ht : ∀ (s : Shared) (H : Hp) (C : Addr) (cl : List (Str × Addr)) (fp : List Addr), PTs (X.blk s H scope (compEnvC scope cl C X.env) fp) ifs tt)
    (hk : ∀ (s : Shared) (H : Hp) (C : Addr) (cl : List (Str × Addr)) (fp : List Addr), PE (X.blk s H scope (compEnvC scope cl C X.env) fp) kx tk)
    (he : ∀ (s : Shared) (H : Hp) (C : Addr) (cl : List (Str × Addr)) (fp : List Addr), PE (X.blk s H scope (compEnvC scope cl C X.env) fp) vx tv) (hw : X.w = w := by rfl) (hs : ∀ x, foldedSetIterable iter X.env x = pure x := by intro _; rfl) :
    PS X (.Assign [.Name y py] (.DictComp kx vx [⟨tg, iter, ifs, 0⟩] scope pos) spos) (tAsg (tDcN w wi g tt tk tv (own.map (·.2))) (gName i)) := by
  subst hw
  refine ⟨fun pins s σ H D I h => ?_⟩
  rw [exec_Assign_Name_used _ _ _ _ hsw]
  refine wpAny_bind (wpAny_standAt (wpAny_bind ?_))
  have h : tDcN X.w wi g tt tk tv (own.map (·.2)) σ H (fun x H1 => gName i x σ H1 D.nx) := h
  refine wpAny_bind (thn (dcn_core (Qf := fun _ s' => SP X pins D .next s') (use := some (assign (.Name y py) X.env)) I hc hu hN hi ok hg ht hk he hs h fun L C s' m H' I' q hn f => ?_) fun _ s' hq => wpAny_pure (wpAny_pure hq))
  refine (show wpAny _ _ (assign (.Name y py) X.env (.ref L)) _ _ _ from ?_)
  refine wpAny_assign_Name (store_ok2 (v := V.ref L) I' hN hy (.inl hyl) rfl (fun s2 I2 ⟨a, sb, ha⟩ => ?_) (.inr hyl))
  obtain ⟨z0, z1, z2, z3, z4, z5⟩ := f
  have haC : C ≠ a := by
    rcases ha with z | z
    · exact z ▸ z1
    · exact fun e => z4 y a z e.symm
  refine ⟨m, hn.sameBut sb haC, fun h3 sb3 => ?_⟩
  exact ⟨_, H', I2.turned (t' := s2.toks) (fun b o hb e => (sb3.2 b hb).trans e) z0 z1 z3 z4 z5, q⟩
end
end Hb

set_option Elab.async false
set_option linter.all false
set_option maxRecDepth 100000
set_option maxHeartbeats 4000000
/-! Dicts with tuple keys: isinstance; the keys' hashes, no world in them. -/
namespace Hb
open PySem L2 PyProof.Rows
/-! ### isinstance(x, c) of such a dict -/
section
variable {X : Cx}
def rIsiN (K : PySem.W.Frag) (w : World) : List V → Hp → VK → Prop := fun xs H Q => ∃ (a : Addr) (es : List Ent) (c : V) (u : Value) (b : Bool), xs = [.ref a, c] ∧ ClsV c u ∧ H a = some (DN w a es) ∧ PySem.W.kitOne K (.type "dict") u = some b ∧ Q (.bl b) H
theorem call_isiN {K : PySem.W.Frag} {w : World} (hK : X.K = K := by rfl) (hw : X.w = w := by rfl) : CallR X (.builtin "isinstance") (rIsiN K w) := by
  subst hK
  subst hw
  intro pins s σ H xs us Q I r h
  obtain ⟨a, es, c, u, b, rfl, k, hD, e, q⟩ := h
  obtain ⟨u1, u2, rfl, r1, r2⟩ := vals2 r
  have e2 := k.eq r2
  subst e2
  cases (show u1 = Value.ref a from r1)
  obtain ⟨⟨z, y, xs, r, o, ds, ep, h1, h2, h3, h4, h5⟩, _, _⟩ := (show ObjOk X.prog X.w H s.heap a (DN X.w a es) from I.hok _ _ hD)
  exact PySem.W.kia_one PySem.W.kitx_dict I.kIn ⟨o, h1, h2.1⟩ e (fun z => nomatch z) fun tk => ⟨.bl b, H, I.tok tk, rfl, q⟩
end
section
variable {K : PySem.W.Frag} {w : World} {H : Hp} {Q : VK}
theorem w_isiN {a : Addr} {es : List Ent} (h : H a = some (DN w a es)) (q : Q (.bl true) H) : rIsiN K w [.ref a, .ty "dict"] H Q := ⟨a, es, _, _, true, rfl, .ty "dict", h, kit_ty (by decide +kernel), q⟩
end

def hI : Itm → Int
  | .inl n => hashInt n
  | .inr ns => reduceHash (Builtin.Tuple.tupleHashOf (ns.map hashInt))
def hK (k : IK) : Int := reduceHash (Builtin.Tuple.tupleHashOf (k.map hI))
theorem hashes_num (w : World) : ∀ ns : List Int, NestedKey.hashes w (ns.map .num) = ns.map hashInt
  | [] => by rw [List.map_nil, List.map_nil, NestedKey.hashes]
  | n :: ns => by rw [List.map_cons, List.map_cons, NestedKey.hashes, NestedKey.hash, hashes_num w ns]
theorem hash_nkI (w : World) : ∀ x : Itm, (nkI x).hash w = hI x
  | .inl n => by rw [nkI, NestedKey.hash, hI]
  | .inr ns => by rw [nkI, NestedKey.hash, hashes_num, hI]
theorem hashes_nkI (w : World) : ∀ k : IK, NestedKey.hashes w (k.map nkI) = k.map hI
  | [] => by rw [List.map_nil, List.map_nil, NestedKey.hashes]
  | x :: k => by rw [List.map_cons, List.map_cons, NestedKey.hashes, hash_nkI, hashes_nkI w k]
theorem hash_nkK (w : World) (k : IK) : (nkK k).hash w = hK k := by
  unfold nkK hK
  rw [NestedKey.hash, hashes_nkI]
/-- keys among those of a list whose hashes differ -/
theorem hash_nodup {w : World} {A : List IK} (hA : (A.map hK).Nodup) {ks : List IK} (nd : ks.Nodup) (h : ∀ k ∈ ks, k ∈ A) : (ks.map fun k => (nkK k).hash w).Nodup := by
  have inj : ∀ a b, a ∈ A → b ∈ A → hK a = hK b → a = b := by
    clear h nd
    induction A with
    | nil => exact fun _ _ z => nomatch z
    | cons x A ih =>
      rw [List.map_cons, List.nodup_cons] at hA
      intro a b ha hb e
      rcases List.mem_cons.mp ha with ha | ha <;> rcases List.mem_cons.mp hb with hb | hb
      · rw [ha, hb]
      · exact absurd (List.mem_map.mpr ⟨b, hb, by rw [← e, ha]⟩) hA.1
      · exact absurd (List.mem_map.mpr ⟨a, ha, by rw [e, hb]⟩) hA.1
      · exact ih hA.2 a b ha hb e
  refine List.pairwise_map.mpr ?_
  refine List.Pairwise.imp_of_mem (fun {a b} ha hb hne e => ?_) nd
  rw [hash_nkK, hash_nkK] at e
  exact hne (inj a b (h a ha) (h b hb) e)
end Hb

set_option Elab.async false
set_option linter.all false
set_option maxRecDepth 100000
set_option maxHeartbeats 4000000
/-! {x} in an f-string: a text, an int, or a tuple of a text and an int. -/
namespace Hb
open PySem PySem.Spec L2 PyProof.Rows
section
variable {X : Cx}
def RFmt2 (K : PySem.W.Frag) (x : V) (H : Hp) (Q : VK) : Prop := RFmt x H Q ∨ ∃ (a : Addr) (y : Str) (n : Int), x = .ref a ∧ SqT K H a [.str y, .int n] ∧ (∀ c ∈ y.cps.toList, c < 16 ^ 8) ∧ y.length ≤ 100 ∧ 0 ≤ n ∧ n < 10 ^ 10 ∧ ∀ m : Str, m.length ≤ 2000 → Q (.str m) H
def tFmt2 (K : PySem.W.Frag) (te : TE) : TE := fun σ H Q => te σ H fun x H1 => RFmt2 K x H1 Q
theorem pe_fmt2 {K : PySem.W.Frag} {e : Expr} {te : TE} {pos : Pos} {k : Nat} (hr : Room k X.A) (he : PE X e te) (hK : X.K = K := by rfl) : PE X (.FormattedValue e (-1) none pos) (tFmt2 K te) := by
  subst hK
  refine ⟨fun pins s σ H Q I h => ?_⟩
  refine wpAny_FormattedValue_plain (thn (he.run pins s σ H _ I h) fun v s1 hv => ?_)
  obtain ⟨x, H1, I1, r1, q⟩ := hv
  rcases q with (⟨y, rfl, hz, q⟩ | ⟨i, rfl, hz, q⟩) | ⟨a, y, n, rfl, ht, hc, hy, n0, n1, q⟩
  · obtain ⟨t, rfl⟩ := r1
    exact wpAny_formatField_str ⟨.str y, H1, I1, ⟨t, rfl⟩, q⟩ ⟨.str y, H1, I1.tok _, ⟨_, rfl⟩, q⟩ hz
  · obtain ⟨t, rfl⟩ := r1
    exact wpAny_formatField_int hz ⟨.str (toString i), H1, I1.tok _, ⟨_, rfl⟩, q⟩
  · cases r1
    obtain ⟨its, rv, ⟨o, ho, hcl, m, hd⟩, _⟩ := I1.tuple ht
    obtain ⟨u1, u2, rfl, ⟨t1, r1⟩, ⟨t2, r2⟩⟩ := rv.two
    subst r1
    subst r2
    have h1 : (reprText y).length ≤ 1002 := Nat.le_trans (StrLaws.reprText_len y hc) (by omega)
    have h2 : (Str.ofString (toString n)).length ≤ 10 := toString_length_le n0 (by decide) n1
    have hp : piled [reprText y, Str.ofString (toString n)] ≤ 1016 := by
      rw [piled_cons, piled_cons, piled_nil]
      omega
    have htx := fmt_text [reprText y, Str.ofString (toString n)]
    have hu := hr.units
    refine fmt_tuple (ts := [reprText y, Str.ofString (toString n)]) (by omega) ho hcl hd (.cons (ReprIs.str y t1 (Nat.le_trans h1 (by decide))) (.cons (ReprIs.int t2 (Nat.lt_of_lt_of_le (PySem.Flt.log2_lt_of (k := 64) (by decide) (show n.natAbs < 2 ^ 64 by omega)) (by decide))) .nil)) (Nat.le_trans htx (Nat.le_trans (Nat.add_le_add_right hp 2) (by decide))) fun m u tk hm => ⟨.str m, H1, I1.tok _, ⟨u, rfl⟩, q m (by omega)⟩
theorem w_fmt2 {K : PySem.W.Frag} {te : TE} {σ : L2.St} {H : Hp} {Q : VK} (q : te σ H fun x H1 => RFmt2 K x H1 Q) : tFmt2 K te σ H Q := q
end
/-! ## an own exception whose promise hangs on the heap -/
section
variable {K : PySem.W.Frag} {H B : Hp} {L : List (Addr × HO)} {C : Addr} {f : Str} {v : V}
def spXinitG (C : Addr) (f : Str) (ok : Hp → V → Prop) : Sp := fun vs H Q _ => ∃ (B : Hp) (e : Addr) (v : V), vs = [.ref e, v] ∧ Hs B [(e, exo e C none)] H ∧ ok B v ∧ ∀ dx H', Hs B [(dx, exd dx [(f, v)]), (e, exo e C (some dx))] H' → Q .non H'
theorem w_mkXG {ok : Hp → V → Prop} {Q : XK} (hs : Hs B L H) (hm : ∀ B', Same B B' → ok B v → ok B' v) (hv : ok B v) (q : ∀ d H', Hs B ((d, .xd [(f, v)]) :: L) H' → Q (.ref C) (some d) H') : MkO C (spXinitG C f ok) [v] [] H Q := by
  refine ⟨by simp, fun a ha => ?_⟩
  have h1 := hs.new (o := exo a C none) ha
  obtain ⟨sB, h2, back⟩ := h1.frame [(a, exo a C none)]
  refine ⟨_, a, v, rfl, h2, hm _ sB hv, fun dx H2 h3 => ⟨rfl, dx, [(f, v)], h3.g1, h3.g0, ?_, ?_⟩⟩
  · have n : dx ≠ a := fun e => by
      have := h3.nd
      rw [e] at this
      simp at this
    have z := h3.out _ List.mem_cons_self
    have nm : dx ∉ [(a, exo a C none)].map (·.1) := by
      simp only [List.map_cons, List.map_nil, List.mem_singleton]
      exact n
    have z2 : upd H a (exo a C none) dx = none := (around_out nm).symm.trans z
    rwa [upd_ne n] at z2
  · have h4 := back _ _ h3
    have nd := h4.nd
    have hda : dx ≠ a := fun e => by
      rw [e] at nd
      simp at nd
    have nL : ∀ e ∈ L, e.1 ≠ dx ∧ e.1 ≠ a := fun e he => by
      simp only [List.cons_append, List.nil_append, List.map_cons, List.nodup_cons, List.mem_cons, not_or] at nd
      refine ⟨fun z => nd.1.2 ?_, fun z => nd.2.1 ?_⟩
      · rw [← z]
        exact List.mem_map.mpr ⟨e, he, rfl⟩
      · rw [← z]
        exact List.mem_map.mpr ⟨e, he, rfl⟩
    have ba : B a = none := hs.same.free ha
    have bd : B dx = none := h4.out _ List.mem_cons_self
    refine q dx _ ⟨fun b o e => ?_, ?_, fun e he => ?_, fun e he => ?_⟩
    · have n1 : b ≠ dx := fun z => by
        rw [z, bd] at e
        cases e
      have n2 : b ≠ a := fun z => by
        rw [z, ba] at e
        cases e
      rw [upd_ne n1, del_ne n2]
      exact h4.same b o e
    · simp only [List.cons_append, List.nil_append, List.map_cons, List.nodup_cons, List.mem_cons, not_or] at nd ⊢
      exact ⟨nd.1.2, nd.2.2⟩
    · rcases List.mem_cons.mp he with rfl | he
      · exact bd
      · exact hs.out e he
    · rcases List.mem_cons.mp he with rfl | he
      · exact upd_same
      · obtain ⟨n1, n2⟩ := nL e he
        rw [upd_ne n1, del_ne n2]
        exact h4.at_ e (List.mem_cons_of_mem _ (List.mem_cons_of_mem _ he))
end
/-! ## a callee that owns A and adds to the ground -/
def noTup : HO → Bool
  | .tup _ => false
  | _ => true
theorem Hs.frameG {B H : Hp} {R : List (Addr × HO)} (A : List (Addr × HO)) (hs : Hs B (A ++ R) H) (hR : R.all (fun e => noTup e.2) = true) : ∃ B', Same B B' ∧ Hs B' A H ∧ ∀ A' B2 H', Same B' B2 → Hs B2 A' H' → ∃ B3, Same B B3 ∧ Hs B3 (A' ++ R) H' ∧ ∀ p xs, B2 p = some (.tup xs) → B3 p = some (.tup xs) := by
  have fr := hs.frame A
  have nd := hs.nd
  rw [List.map_append, List.nodup_append] at nd
  obtain ⟨n1, n2, n3⟩ := nd
  refine ⟨around A H, fr.1, fr.2.1, fun A' B2 H' sm h => ?_⟩
  have rin : ∀ e ∈ R, B2 e.1 = some e.2 := fun e he => sm _ _ (by
    rw [around_out fun m => n3 _ m _ (List.mem_map.mpr ⟨e, he, rfl⟩) rfl]
    exact hs.at_ e (List.mem_append_right _ he))
  refine ⟨around R B2, fun b u e => ?_, ⟨fun b u e => ?_, ?_, fun e he => ?_, fun e he => ?_⟩, fun p xs e => ?_⟩
  · rw [around_out fun m => ?_]
    · exact sm _ _ (fr.1 _ _ e)
    · obtain ⟨z, hz, rfl⟩ := List.mem_map.mp m
      rw [hs.out z (List.mem_append_right _ hz)] at e
      cases e
  · unfold around at e
    split at e
    · cases e
    · exact h.same _ _ e
  · rw [List.map_append, List.nodup_append]
    refine ⟨h.nd, n2, fun a ha b hb q => ?_⟩
    subst q
    obtain ⟨x, hx, rfl⟩ := List.mem_map.mp ha
    obtain ⟨y, hy, q⟩ := List.mem_map.mp hb
    have h1 := h.out x hx
    rw [← q, rin y hy] at h1
    cases h1
  · rcases List.mem_append.mp he with he | he
    · unfold around
      split
      · rfl
      · exact h.out e he
    · exact if_pos (List.mem_map.mpr ⟨e, he, rfl⟩)
  · rcases List.mem_append.mp he with he | he
    · exact h.at_ e he
    · exact h.same _ _ (rin e he)
  · rw [around_out fun m => ?_]
    · exact e
    · obtain ⟨z, hz, rfl⟩ := List.mem_map.mp m
      have h1 := rin z hz
      rw [e] at h1
      have h2 := List.all_eq_true.mp hR z hz
      rw [← Option.some.inj h1] at h2
      cases h2
/-- all else into the ground; the tuples with it -/
theorem Hs.allinT {B H : Hp} {L : List (Addr × HO)} (hs : Hs B L H) (hL : L.all (fun e => noTup e.2) = true) : ∃ B2, Same B B2 ∧ Hs B2 L H ∧ ∀ p xs, H p = some (.tup xs) → B2 p = some (.tup xs) := by
  obtain ⟨B2, sm, h, hin⟩ := hs.allin
  refine ⟨B2, sm, h, fun p xs e => hin _ _ e fun m => ?_⟩
  obtain ⟨z, hz, rfl⟩ := List.mem_map.mp m
  have h1 := h.at_ z hz
  rw [e] at h1
  have h2 := List.all_eq_true.mp hL z hz
  rw [← Option.some.inj h1] at h2
  cases h2
theorem put_ix {R : List (Addr × HO)} {i : Nat} {p : Addr} {o : HO} (o' : HO) : R[i]? = some (p, o) → Put R p o o' (R.set i (p, o')) := by
  induction R generalizing i with
  | nil => intro h; simp at h
  | cons x R ih =>
    cases i with
    | zero =>
      intro h
      have e : x = (p, o) := by simpa using h
      subst e
      exact .here
    | succ i =>
      intro h
      exact .there (ih (by simpa using h))
/-! ## a test that is a if t else b -/
section
variable {X : Cx} {c a b : Expr} {pos : Pos}
def tIfT (t tA tB : TT) : TT := fun σ H Q => t σ H fun c H1 => if c = true then tA σ H1 Q else tB σ H1 Q
theorem pt_ifE {t tA tB : TT} (hc : PT X c t) (ha : PT X a tA) (hb : PT X b tB) : PT X (.IfExp c a b pos) (tIfT t tA tB) := by
  refine ⟨fun pins s σ H Q I h => ?_⟩
  refine isTrue_IfExp (thn (hc.run pins s σ H _ I h) fun d s1 ⟨H1, I1, q1⟩ => ?_)
  cases d with
  | true => exact ha.run pins s1 σ H1 Q I1 q1
  | false => exact hb.run pins s1 σ H1 Q I1 q1
theorem w_ifT {t tA tB : TT} {σ : L2.St} {H : Hp} {Q : Bool → Hp → Prop} (q : t σ H fun c H1 => if c = true then tA σ H1 Q else tB σ H1 Q) : tIfT t tA tB σ H Q := q
end
end Hb

set_option Elab.async false
set_option linter.all false
set_option maxRecDepth 100000
set_option maxHeartbeats 4000000
namespace K50
open PySem L2 Hb
class IsP (P : Program) : Prop where
  eq : P = PySem.Challenge.pw_hangbridge_k50_whole_new_policies_while
def top (i : Nat) : Stmt := PySem.Challenge.pw_hangbridge_k50_whole_new_policies_while.main.body.getD i (.Pass ⟨0, 0, 0, 0⟩)
abbrev s_peer : Stmt := (top 1)
abbrev s_StateError_init : Stmt := (inClass (top 4) 0)
abbrev s_test_holds : Stmt := (top 7)
abbrev s_with_number : Stmt := (top 8)
abbrev s_after_star : Stmt := (top 10)
abbrev s_after : Stmt := (top 11)
abbrev s_after_any : Stmt := (top 9)
abbrev s_does : Stmt := (top 12)
abbrev s_steps : Stmt := (top 15)
abbrev s_Rollout_init : Stmt := (inClass (top 19) 0)
abbrev s_Rollout_is_done_everywhere : Stmt := (inClass (top 19) 7)
abbrev s_Rollout_is_switch : Stmt := (inClass (top 19) 6)
abbrev s_Rollout_may : Stmt := (inClass (top 19) 1)
abbrev s_Rollout_perform : Stmt := (inClass (top 19) 2)
abbrev s_Rollout_has : Stmt := (inClass (top 19) 3)
abbrev s_Rollout_enter : Stmt := (inClass (top 19) 4)
abbrev s_Rollout_move : Stmt := (inClass (top 19) 5)
abbrev s__law_state : Stmt := (top 21)
abbrev s__law_draw : Stmt := (top 22)
abbrev s__law_holds : Stmt := (top 23)
abbrev s__law_after : Stmt := (top 24)
abbrev s__law_graph : Stmt := (top 25)
abbrev s__law_end : Stmt := (top 26)
abbrev s__law_local : Stmt := (top 27)
abbrev s__law_start : Stmt := (top 28)
abbrev s__law_steps : Stmt := (top 29)
abbrev s__law_may : Stmt := (top 32)
abbrev s__law_perform : Stmt := (top 33)
abbrev s__law_move : Stmt := (top 34)
abbrev s__law_wrong_move : Stmt := (top 35)
abbrev s__law_alone : Stmt := (top 36)
abbrev s__law_each_right : Stmt := (top 37)
abbrev s__law_deed : Stmt := (top 38)
abbrev s_law : Stmt := (top 39)
abbrev N_peer : List Str := ["links", "end", "one", "other"]
theorem sc_peer : FnScope N_peer ["links", "end"] (defScope s_peer) := ⟨rfl, rfl, rfl, by decide +kernel, rfl, by decide +kernel, by decide +kernel⟩
abbrev N_StateError_init : List Str := ["self", "state"]
theorem sc_StateError_init : ∃ ar, ScS N_StateError_init ["self", "state"] ar s_StateError_init := ⟨_, scS_by (by decide +kernel) (by decide +kernel) rfl (by decide +kernel) rfl (by decide +kernel)⟩
abbrev N_test_holds : List Str := ["test", "state", "name", "part"]
theorem sc_test_holds : FnScope N_test_holds ["test", "state"] (defScope s_test_holds) := ⟨rfl, rfl, rfl, by decide +kernel, rfl, by decide +kernel, by decide +kernel⟩
abbrev N_with_number : List Str := ["state", "field", "number", "place"]
theorem sc_with_number : FnScope N_with_number ["state", "field", "number"] (defScope s_with_number) := ⟨rfl, rfl, rfl, by decide +kernel, rfl, by decide +kernel, by decide +kernel⟩
abbrev N_after_star : List Str := ["policy", "state", "known", "states", "reached"]
theorem sc_after_star : FnScope N_after_star ["policy", "state"] (defScope s_after_star) := ⟨rfl, rfl, rfl, by decide +kernel, rfl, by decide +kernel, by decide +kernel⟩
abbrev N_after : List Str := ["policy", "state", "name", "states", "part"]
theorem sc_after : FnScope N_after ["policy", "state"] (defScope s_after) := ⟨rfl, rfl, rfl, by decide +kernel, rfl, by decide +kernel, by decide +kernel⟩
abbrev N_after_any : List Str := ["policies", "states", "found", "state", "policy", "reached"]
theorem sc_after_any : FnScope N_after_any ["policies", "states"] (defScope s_after_any) := ⟨rfl, rfl, rfl, by decide +kernel, rfl, by decide +kernel, by decide +kernel⟩
abbrev N_does : List Str := ["policy", "switch", "port", "header", "state"]
theorem sc_does : FnScope N_does ["policy", "switch", "port", "header"] (defScope s_does) := ⟨rfl, rfl, rfl, by decide +kernel, rfl, by decide +kernel, by decide +kernel⟩
abbrev N_steps : List Str := ["policy", "graph", "place", "switch", "port", "header", "rows", "out", "changed", "other"]
theorem sc_steps : FnScope N_steps ["policy", "graph", "place"] (defScope s_steps) := ⟨rfl, rfl, rfl, by decide +kernel, rfl, by decide +kernel, by decide +kernel⟩
abbrev N_Rollout_init : List Str := ["self", "graph", "old", "new"]
theorem sc_Rollout_init : FnScope N_Rollout_init ["self", "graph", "old", "new"] (defScope s_Rollout_init) := ⟨rfl, rfl, rfl, by decide +kernel, rfl, by decide +kernel, by decide +kernel⟩
abbrev N_Rollout_is_done_everywhere : List Str := ["self", "deed"]
theorem sc_Rollout_is_done_everywhere : FnScope N_Rollout_is_done_everywhere ["self", "deed"] (defScope s_Rollout_is_done_everywhere) := ⟨rfl, rfl, rfl, by decide +kernel, rfl, by decide +kernel, by decide +kernel⟩
abbrev N_Rollout_is_switch : List Str := ["self", "switch"]
theorem sc_Rollout_is_switch : FnScope N_Rollout_is_switch ["self", "switch"] (defScope s_Rollout_is_switch) := ⟨rfl, rfl, rfl, by decide +kernel, rfl, by decide +kernel, by decide +kernel⟩
abbrev N_Rollout_may : List Str := ["self", "deed", "switch", "_", "version"]
theorem sc_Rollout_may : FnScope N_Rollout_may ["self", "deed", "switch"] (defScope s_Rollout_may) := ⟨rfl, rfl, rfl, by decide +kernel, rfl, by decide +kernel, by decide +kernel⟩
abbrev N_Rollout_perform : List Str := ["self", "deed", "switch"]
theorem sc_Rollout_perform : FnScope N_Rollout_perform ["self", "deed", "switch"] (defScope s_Rollout_perform) := ⟨rfl, rfl, rfl, by decide +kernel, rfl, by decide +kernel, by decide +kernel⟩
abbrev N_Rollout_has : List Str := ["self", "switch", "version"]
theorem sc_Rollout_has : FnScope N_Rollout_has ["self", "switch", "version"] (defScope s_Rollout_has) := ⟨rfl, rfl, rfl, by decide +kernel, rfl, by decide +kernel, by decide +kernel⟩
abbrev N_Rollout_enter : List Str := ["self", "switch", "port", "header", "number", "version"]
theorem sc_Rollout_enter : FnScope N_Rollout_enter ["self", "switch", "port", "header"] (defScope s_Rollout_enter) := ⟨rfl, rfl, rfl, by decide +kernel, rfl, by decide +kernel, by decide +kernel⟩
abbrev N_Rollout_move : List Str := ["self", "index", "number", "version", "place", "rows", "row"]
theorem sc_Rollout_move : FnScope N_Rollout_move ["self", "index"] (defScope s_Rollout_move) := ⟨rfl, rfl, rfl, by decide +kernel, rfl, by decide +kernel, by decide +kernel⟩
abbrev N__law_state : List Str := ["script", "seed", "cell"]
theorem sc__law_state : FnScope N__law_state ["script"] (defScope s__law_state) := ⟨rfl, rfl, rfl, by decide +kernel, rfl, by decide +kernel, by decide +kernel⟩
abbrev N__law_draw : List Str := ["state", "many", "cells", "k", "amount", "mixed"]
theorem sc__law_draw : FnScope N__law_draw ["state", "many"] (defScope s__law_draw) := ⟨rfl, rfl, rfl, by decide +kernel, rfl, by decide +kernel, by decide +kernel⟩
abbrev N__law_holds : List Str := ["test", "state", "held", "part"]
theorem sc__law_holds : FnScope N__law_holds ["test", "state"] (defScope s__law_holds) := ⟨rfl, rfl, rfl, by decide +kernel, rfl, by decide +kernel, by decide +kernel⟩
abbrev N__law_after : List Str := ["policy", "states", "found", "at", "part", "turn", "more", "state"]
theorem sc__law_after : FnScope N__law_after ["policy", "states"] (defScope s__law_after) := ⟨rfl, rfl, rfl, by decide +kernel, rfl, by decide +kernel, by decide +kernel⟩
abbrev N__law_graph : List Str := ["state", "rows", "link"]
theorem sc__law_graph : FnScope N__law_graph ["state"] (defScope s__law_graph) := ⟨rfl, rfl, rfl, by decide +kernel, rfl, by decide +kernel, by decide +kernel⟩
abbrev N__law_end : List Str := ["graph", "end", "one", "other"]
theorem sc__law_end : FnScope N__law_end ["graph", "end"] (defScope s__law_end) := ⟨rfl, rfl, rfl, by decide +kernel, rfl, by decide +kernel, by decide +kernel⟩
abbrev N__law_local : List Str := ["state", "deep", "parts", "k", "tests", "acts"]
theorem sc__law_local : FnScope N__law_local ["state", "deep"] (defScope s__law_local) := ⟨rfl, rfl, rfl, by decide +kernel, rfl, by decide +kernel, by decide +kernel⟩
abbrev N__law_start : List Str := ["state", "k"]
theorem sc__law_start : FnScope N__law_start ["state"] (defScope s__law_start) := ⟨rfl, rfl, rfl, by decide +kernel, rfl, by decide +kernel, by decide +kernel⟩
abbrev N__law_steps : List Str := ["policy", "graph", "place", "found", "one", "end", "other"]
theorem sc__law_steps : FnScope N__law_steps ["policy", "graph", "place"] (defScope s__law_steps) := ⟨rfl, rfl, rfl, by decide +kernel, rfl, by decide +kernel, by decide +kernel⟩
abbrev N__law_may : List Str := ["m", "deed", "switch", "row"]
theorem sc__law_may : FnScope N__law_may ["m", "deed", "switch"] (defScope s__law_may) := ⟨rfl, rfl, rfl, by decide +kernel, rfl, by decide +kernel, by decide +kernel⟩
abbrev N__law_perform : List Str := ["net", "m", "deed", "switch", "allowed", "e"]
theorem sc__law_perform : FnScope N__law_perform ["net", "m", "deed", "switch"] (defScope s__law_perform) := ⟨rfl, rfl, rfl, by decide +kernel, rfl, by decide +kernel, by decide +kernel⟩
abbrev N__law_move : List Str := ["net", "m", "index", "policies", "graph", "number", "version", "place", "step"]
theorem sc__law_move : FnScope N__law_move ["net", "m", "index", "policies", "graph"] (defScope s__law_move) := ⟨rfl, rfl, rfl, by decide +kernel, rfl, by decide +kernel, by decide +kernel⟩
abbrev N__law_wrong_move : List Str := ["net", "m", "e"]
theorem sc__law_wrong_move : FnScope N__law_wrong_move ["net", "m"] (defScope s__law_wrong_move) := ⟨rfl, rfl, rfl, by decide +kernel, rfl, by decide +kernel, by decide +kernel⟩
abbrev N__law_alone : List Str := ["policy", "graph", "start", "moved", "flying", "told", "index", "place", "step"]
theorem sc__law_alone : FnScope N__law_alone ["policy", "graph", "start", "moved"] (defScope s__law_alone) := ⟨rfl, rfl, rfl, by decide +kernel, rfl, by decide +kernel, by decide +kernel⟩
abbrev N__law_each_right : List Str := ["m", "starts", "moves", "policies", "graph", "number", "version", "start", "flying", "told", "row"]
theorem sc__law_each_right : FnScope N__law_each_right ["m", "starts", "moves", "policies", "graph"] (defScope s__law_each_right) := ⟨rfl, rfl, rfl, by decide +kernel, rfl, by decide +kernel, by decide +kernel⟩
abbrev N__law_deed : List Str := ["state", "net", "m", "starts", "moves", "policies", "graph", "kind", "deeds", "place", "version", "index", "number", "row"]
theorem sc__law_deed : FnScope N__law_deed ["state", "net", "m", "starts", "moves", "policies", "graph"] (defScope s__law_deed) := ⟨rfl, rfl, rfl, by decide +kernel, rfl, by decide +kernel, by decide +kernel⟩
abbrev N_law : List Str := ["script", "state", "graph", "policies", "kept", "net", "m", "starts", "moves", "k", "number"]
theorem sc_law : FnScope N_law ["script"] (defScope s_law) := ⟨rfl, rfl, rfl, by decide +kernel, rfl, by decide +kernel, by decide +kernel⟩
structure Ad where
  BridgeError : Addr
  StateError : Addr
  Rollout : Addr
  peer : Addr
  fd_peer : FuncData
  StateError_init : Addr
  fd_StateError_init : FuncData
  test_holds : Addr
  fd_test_holds : FuncData
  with_number : Addr
  fd_with_number : FuncData
  after_star : Addr
  fd_after_star : FuncData
  after : Addr
  fd_after : FuncData
  after_any : Addr
  fd_after_any : FuncData
  does : Addr
  fd_does : FuncData
  steps : Addr
  fd_steps : FuncData
  Rollout_init : Addr
  fd_Rollout_init : FuncData
  Rollout_is_done_everywhere : Addr
  fd_Rollout_is_done_everywhere : FuncData
  Rollout_is_switch : Addr
  fd_Rollout_is_switch : FuncData
  Rollout_may : Addr
  fd_Rollout_may : FuncData
  Rollout_perform : Addr
  fd_Rollout_perform : FuncData
  Rollout_has : Addr
  fd_Rollout_has : FuncData
  Rollout_enter : Addr
  fd_Rollout_enter : FuncData
  Rollout_move : Addr
  fd_Rollout_move : FuncData
  _law_state : Addr
  fd__law_state : FuncData
  _law_draw : Addr
  fd__law_draw : FuncData
  _law_holds : Addr
  fd__law_holds : FuncData
  _law_after : Addr
  fd__law_after : FuncData
  _law_graph : Addr
  fd__law_graph : FuncData
  _law_end : Addr
  fd__law_end : FuncData
  _law_local : Addr
  fd__law_local : FuncData
  _law_start : Addr
  fd__law_start : FuncData
  _law_steps : Addr
  fd__law_steps : FuncData
  _law_may : Addr
  fd__law_may : FuncData
  _law_perform : Addr
  fd__law_perform : FuncData
  _law_move : Addr
  fd__law_move : FuncData
  _law_wrong_move : Addr
  fd__law_wrong_move : FuncData
  _law_alone : Addr
  fd__law_alone : FuncData
  _law_each_right : Addr
  fd__law_each_right : FuncData
  _law_deed : Addr
  fd__law_deed : FuncData
  law : Addr
  fd_law : FuncData
  K_FIELD_PLACES : Addr
structure Txt (w : World) (K : PySem.W.Frag) (mg : Str → Option Value) (a : Ad) : Prop where
  mg_BridgeError : mg "BridgeError" = some (.ref a.BridgeError)
  rd_BridgeError : ClX.CRead K a.BridgeError (.type "type")
  cv_BridgeError : PySem.W.findCls K (.ref a.BridgeError) (.type "type") "__init__" = some (.val (.builtin "ValueError.__init__"))
  mg_StateError : mg "StateError" = some (.ref a.StateError)
  ox_StateError : OexC K a.StateError
  iC_StateError : PySem.W.findIn K (.ref a.StateError) "__init__" = some (some (.ref a.StateError_init))
  tI_StateError : PySem.W.typeIn K (.ref a.StateError_init) = some (.type "function")
  no_StateError_state : PySem.W.findIn K (.ref a.StateError) "state" = some none
  xf_StateError : XfC K a.StateError
  xc_StateError : XcC K a.StateError
  te_StateError : PySem.W.exmOne K (.ref a.StateError) (.ref a.StateError) = some true
  is_StateError_BridgeError : PySem.W.kitOne K (.ref a.StateError) (.ref a.BridgeError) = some true
  cl_Rollout : Cls K a.Rollout
  mg_Rollout : mg "Rollout" = some (.ref a.Rollout)
  na_Rollout_flying : NoAttr K a.Rollout "flying"
  na_Rollout_told : NoAttr K a.Rollout "told"
  na_Rollout__graph : NoAttr K a.Rollout "_graph"
  na_Rollout__policies : NoAttr K a.Rollout "_policies"
  na_Rollout__done : NoAttr K a.Rollout "_done"
  na_Rollout__data : NoAttr K a.Rollout "_data"
  fn_peer : Fun K "peer" "peer" s_peer a.peer a.fd_peer
  bi_peer : Binds K a.fd_peer ["links", "end"] []
  mg_peer : mg "peer" = some (.ref a.peer)
  kp_peer : PySem.W.keepIn K (.ref a.peer) = true
  fn_StateError_init : FunS PySem.Challenge.pw_hangbridge_k50_whole_new_policies_while K mg "__init__" "StateError.__init__" s_StateError_init a.StateError_init a.fd_StateError_init a.StateError
  bi_StateError_init : Binds K a.fd_StateError_init ["self", "state"] []
  fn_test_holds : Fun K "test_holds" "test_holds" s_test_holds a.test_holds a.fd_test_holds
  bi_test_holds : Binds K a.fd_test_holds ["test", "state"] []
  mg_test_holds : mg "test_holds" = some (.ref a.test_holds)
  kp_test_holds : PySem.W.keepIn K (.ref a.test_holds) = true
  fn_with_number : Fun K "with_number" "with_number" s_with_number a.with_number a.fd_with_number
  bi_with_number : Binds K a.fd_with_number ["state", "field", "number"] []
  mg_with_number : mg "with_number" = some (.ref a.with_number)
  kp_with_number : PySem.W.keepIn K (.ref a.with_number) = true
  fn_after_star : Fun K "after_star" "after_star" s_after_star a.after_star a.fd_after_star
  bi_after_star : Binds K a.fd_after_star ["policy", "state"] []
  mg_after_star : mg "after_star" = some (.ref a.after_star)
  kp_after_star : PySem.W.keepIn K (.ref a.after_star) = true
  fn_after : Fun K "after" "after" s_after a.after a.fd_after
  bi_after : Binds K a.fd_after ["policy", "state"] []
  mg_after : mg "after" = some (.ref a.after)
  kp_after : PySem.W.keepIn K (.ref a.after) = true
  fn_after_any : Fun K "after_any" "after_any" s_after_any a.after_any a.fd_after_any
  bi_after_any : Binds K a.fd_after_any ["policies", "states"] []
  mg_after_any : mg "after_any" = some (.ref a.after_any)
  kp_after_any : PySem.W.keepIn K (.ref a.after_any) = true
  fn_does : Fun K "does" "does" s_does a.does a.fd_does
  bi_does : Binds K a.fd_does ["policy", "switch", "port", "header"] []
  mg_does : mg "does" = some (.ref a.does)
  kp_does : PySem.W.keepIn K (.ref a.does) = true
  fn_steps : Fun K "steps" "steps" s_steps a.steps a.fd_steps
  bi_steps : Binds K a.fd_steps ["policy", "graph", "place"] []
  mg_steps : mg "steps" = some (.ref a.steps)
  kp_steps : PySem.W.keepIn K (.ref a.steps) = true
  fn_Rollout_init : Fun K "__init__" "Rollout.__init__" s_Rollout_init a.Rollout_init a.fd_Rollout_init
  bi_Rollout_init : Binds K a.fd_Rollout_init ["self", "graph", "old", "new"] []
  mk_Rollout : Mk K a.Rollout a.Rollout_init
  fn_Rollout_is_done_everywhere : Fun K "_is_done_everywhere" "Rollout._is_done_everywhere" s_Rollout_is_done_everywhere a.Rollout_is_done_everywhere a.fd_Rollout_is_done_everywhere
  bi_Rollout_is_done_everywhere : Binds K a.fd_Rollout_is_done_everywhere ["self", "deed"] []
  me_Rollout_is_done_everywhere : Meth K a.Rollout "_is_done_everywhere" a.Rollout_is_done_everywhere
  fn_Rollout_is_switch : Fun K "_is_switch" "Rollout._is_switch" s_Rollout_is_switch a.Rollout_is_switch a.fd_Rollout_is_switch
  bi_Rollout_is_switch : Binds K a.fd_Rollout_is_switch ["self", "switch"] []
  me_Rollout_is_switch : Meth K a.Rollout "_is_switch" a.Rollout_is_switch
  fn_Rollout_may : Fun K "may" "Rollout.may" s_Rollout_may a.Rollout_may a.fd_Rollout_may
  bi_Rollout_may : Binds K a.fd_Rollout_may ["self", "deed", "switch"] []
  me_Rollout_may : Meth K a.Rollout "may" a.Rollout_may
  fn_Rollout_perform : Fun K "perform" "Rollout.perform" s_Rollout_perform a.Rollout_perform a.fd_Rollout_perform
  bi_Rollout_perform : Binds K a.fd_Rollout_perform ["self", "deed", "switch"] []
  me_Rollout_perform : Meth K a.Rollout "perform" a.Rollout_perform
  fn_Rollout_has : Fun K "has" "Rollout.has" s_Rollout_has a.Rollout_has a.fd_Rollout_has
  bi_Rollout_has : Binds K a.fd_Rollout_has ["self", "switch", "version"] []
  me_Rollout_has : Meth K a.Rollout "has" a.Rollout_has
  fn_Rollout_enter : Fun K "enter" "Rollout.enter" s_Rollout_enter a.Rollout_enter a.fd_Rollout_enter
  bi_Rollout_enter : Binds K a.fd_Rollout_enter ["self", "switch", "port", "header"] []
  me_Rollout_enter : Meth K a.Rollout "enter" a.Rollout_enter
  fn_Rollout_move : Fun K "move" "Rollout.move" s_Rollout_move a.Rollout_move a.fd_Rollout_move
  bi_Rollout_move : Binds K a.fd_Rollout_move ["self", "index"] []
  me_Rollout_move : Meth K a.Rollout "move" a.Rollout_move
  fn__law_state : Fun K "_law_state" "_law_state" s__law_state a._law_state a.fd__law_state
  bi__law_state : Binds K a.fd__law_state ["script"] []
  mg__law_state : mg "_law_state" = some (.ref a._law_state)
  kp__law_state : PySem.W.keepIn K (.ref a._law_state) = true
  fn__law_draw : Fun K "_law_draw" "_law_draw" s__law_draw a._law_draw a.fd__law_draw
  bi__law_draw : Binds K a.fd__law_draw ["state", "many"] []
  mg__law_draw : mg "_law_draw" = some (.ref a._law_draw)
  kp__law_draw : PySem.W.keepIn K (.ref a._law_draw) = true
  fn__law_holds : Fun K "_law_holds" "_law_holds" s__law_holds a._law_holds a.fd__law_holds
  bi__law_holds : Binds K a.fd__law_holds ["test", "state"] []
  mg__law_holds : mg "_law_holds" = some (.ref a._law_holds)
  kp__law_holds : PySem.W.keepIn K (.ref a._law_holds) = true
  fn__law_after : Fun K "_law_after" "_law_after" s__law_after a._law_after a.fd__law_after
  bi__law_after : Binds K a.fd__law_after ["policy", "states"] []
  mg__law_after : mg "_law_after" = some (.ref a._law_after)
  kp__law_after : PySem.W.keepIn K (.ref a._law_after) = true
  fn__law_graph : Fun K "_law_graph" "_law_graph" s__law_graph a._law_graph a.fd__law_graph
  bi__law_graph : Binds K a.fd__law_graph ["state"] []
  mg__law_graph : mg "_law_graph" = some (.ref a._law_graph)
  kp__law_graph : PySem.W.keepIn K (.ref a._law_graph) = true
  fn__law_end : Fun K "_law_end" "_law_end" s__law_end a._law_end a.fd__law_end
  bi__law_end : Binds K a.fd__law_end ["graph", "end"] []
  mg__law_end : mg "_law_end" = some (.ref a._law_end)
  kp__law_end : PySem.W.keepIn K (.ref a._law_end) = true
  fn__law_local : Fun K "_law_local" "_law_local" s__law_local a._law_local a.fd__law_local
  bi__law_local : Binds K a.fd__law_local ["state", "deep"] []
  mg__law_local : mg "_law_local" = some (.ref a._law_local)
  kp__law_local : PySem.W.keepIn K (.ref a._law_local) = true
  fn__law_start : Fun K "_law_start" "_law_start" s__law_start a._law_start a.fd__law_start
  bi__law_start : Binds K a.fd__law_start ["state"] []
  mg__law_start : mg "_law_start" = some (.ref a._law_start)
  kp__law_start : PySem.W.keepIn K (.ref a._law_start) = true
  fn__law_steps : Fun K "_law_steps" "_law_steps" s__law_steps a._law_steps a.fd__law_steps
  bi__law_steps : Binds K a.fd__law_steps ["policy", "graph", "place"] []
  mg__law_steps : mg "_law_steps" = some (.ref a._law_steps)
  kp__law_steps : PySem.W.keepIn K (.ref a._law_steps) = true
  fn__law_may : Fun K "_law_may" "_law_may" s__law_may a._law_may a.fd__law_may
  bi__law_may : Binds K a.fd__law_may ["m", "deed", "switch"] []
  mg__law_may : mg "_law_may" = some (.ref a._law_may)
  kp__law_may : PySem.W.keepIn K (.ref a._law_may) = true
  fn__law_perform : Fun K "_law_perform" "_law_perform" s__law_perform a._law_perform a.fd__law_perform
  bi__law_perform : Binds K a.fd__law_perform ["net", "m", "deed", "switch"] []
  mg__law_perform : mg "_law_perform" = some (.ref a._law_perform)
  kp__law_perform : PySem.W.keepIn K (.ref a._law_perform) = true
  fn__law_move : Fun K "_law_move" "_law_move" s__law_move a._law_move a.fd__law_move
  bi__law_move : Binds K a.fd__law_move ["net", "m", "index", "policies", "graph"] []
  mg__law_move : mg "_law_move" = some (.ref a._law_move)
  kp__law_move : PySem.W.keepIn K (.ref a._law_move) = true
  fn__law_wrong_move : Fun K "_law_wrong_move" "_law_wrong_move" s__law_wrong_move a._law_wrong_move a.fd__law_wrong_move
  bi__law_wrong_move : Binds K a.fd__law_wrong_move ["net", "m"] []
  mg__law_wrong_move : mg "_law_wrong_move" = some (.ref a._law_wrong_move)
  kp__law_wrong_move : PySem.W.keepIn K (.ref a._law_wrong_move) = true
  fn__law_alone : Fun K "_law_alone" "_law_alone" s__law_alone a._law_alone a.fd__law_alone
  bi__law_alone : Binds K a.fd__law_alone ["policy", "graph", "start", "moved"] []
  mg__law_alone : mg "_law_alone" = some (.ref a._law_alone)
  kp__law_alone : PySem.W.keepIn K (.ref a._law_alone) = true
  fn__law_each_right : Fun K "_law_each_right" "_law_each_right" s__law_each_right a._law_each_right a.fd__law_each_right
  bi__law_each_right : Binds K a.fd__law_each_right ["m", "starts", "moves", "policies", "graph"] []
  mg__law_each_right : mg "_law_each_right" = some (.ref a._law_each_right)
  kp__law_each_right : PySem.W.keepIn K (.ref a._law_each_right) = true
  fn__law_deed : Fun K "_law_deed" "_law_deed" s__law_deed a._law_deed a.fd__law_deed
  bi__law_deed : Binds K a.fd__law_deed ["state", "net", "m", "starts", "moves", "policies", "graph"] []
  mg__law_deed : mg "_law_deed" = some (.ref a._law_deed)
  kp__law_deed : PySem.W.keepIn K (.ref a._law_deed) = true
  fn_law : Fun K "law" "law" s_law a.law a.fd_law
  bi_law : Binds K a.fd_law ["script"] []
  mg_law : mg "law" = some (.ref a.law)
  kp_law : PySem.W.keepIn K (.ref a.law) = true
  mg_FIELD_PLACES : mg "FIELD_PLACES" = some (.ref a.K_FIELD_PLACES)
  kd_FIELD_PLACES_switch : KDct K w a.K_FIELD_PLACES "switch" (.int 0)
  kd_FIELD_PLACES_port : KDct K w a.K_FIELD_PLACES "port" (.int 1)
  kd_FIELD_PLACES_src : KDct K w a.K_FIELD_PLACES "src" (.int 2)
  kd_FIELD_PLACES_dst : KDct K w a.K_FIELD_PLACES "dst" (.int 3)
  kd_FIELD_PLACES_kind : KDct K w a.K_FIELD_PLACES "kind" (.int 4)
  mg_OUTSIDE : ∃ tk, mg "OUTSIDE" = some (.int 0 tk)
  mg_OLD : ∃ tk, mg "OLD" = some (.int 0 tk)
  mg_NEW : ∃ tk, mg "NEW" = some (.int 1 tk)
  mg_any : mg "any" = none
  mg_all : mg "all" = none
  mg_list : mg "list" = none
  mg_sorted : mg "sorted" = none
  mg_len : mg "len" = none
  mg_abs : mg "abs" = none
  mg_int : mg "int" = none
  mg_range : mg "range" = none
  mg_set : mg "set" = none
  mg_tuple : mg "tuple" = none
  mg_repr : mg "repr" = none
local macro_rules | `(tactic| walk_at "g") => `(tactic| first | assumption | exact Hs.g0 (by assumption) | exact Hs.g1 (by assumption) | exact Hs.g2 (by assumption) | exact Hs.g3 (by assumption) | exact Hs.g4 (by assumption) | exact Hs.g5 (by assumption) | exact Hs.g6 (by assumption) | exact Hs.g7 (by assumption) | exact Hs.g8 (by assumption) | exact Hs.g9 (by assumption) | exact Hs.g10 (by assumption) | exact Hs.g11 (by assumption) | exact Hs.g12 (by assumption) | exact Hs.g13 (by assumption) | exact Hs.g14 (by assumption) | exact Hs.g15 (by assumption) | exact Hs.old (by assumption) (by assumption))
local macro_rules | `(tactic| walk_at "l") => `(tactic| first | assumption | exact SqL.of (by walk_at "g") | exact Hs.sql (by assumption) (by assumption))
local macro_rules | `(tactic| walk_at "p") => `(tactic| first | exact .here | exact .there .here | exact .there (.there .here) | exact .there (.there (.there .here)) | exact .there (.there (.there (.there .here))) | exact .there (.there (.there (.there (.there .here)))) | exact .there (.there (.there (.there (.there (.there .here))))) | exact .there (.there (.there (.there (.there (.there (.there .here)))))) | exact .there (.there (.there (.there (.there (.there (.there (.there .here))))))) | exact .there (.there (.there (.there (.there (.there (.there (.there (.there .here)))))))) | exact .there (.there (.there (.there (.there (.there (.there (.there (.there (.there .here))))))))) | exact .there (.there (.there (.there (.there (.there (.there (.there (.there (.there (.there .here)))))))))) | exact .there (.there (.there (.there (.there (.there (.there (.there (.there (.there (.there (.there .here))))))))))) | exact .there (.there (.there (.there (.there (.there (.there (.there (.there (.there (.there (.there (.there .here)))))))))))))
local macro_rules | `(tactic| walk_at "f") => `(tactic| first | exact lk0 | exact lk1 (by decide +kernel) lk0 | exact lk1 (by decide +kernel) (lk1 (by decide +kernel) lk0) | exact lk1 (by decide +kernel) (lk1 (by decide +kernel) (lk1 (by decide +kernel) lk0)) | exact lk1 (by decide +kernel) (lk1 (by decide +kernel) (lk1 (by decide +kernel) (lk1 (by decide +kernel) lk0))) | exact lk1 (by decide +kernel) (lk1 (by decide +kernel) (lk1 (by decide +kernel) (lk1 (by decide +kernel) (lk1 (by decide +kernel) lk0)))) | exact lk1 (by decide +kernel) (lk1 (by decide +kernel) (lk1 (by decide +kernel) (lk1 (by decide +kernel) (lk1 (by decide +kernel) (lk1 (by decide +kernel) lk0))))) | exact lk1 (by decide +kernel) (lk1 (by decide +kernel) (lk1 (by decide +kernel) (lk1 (by decide +kernel) (lk1 (by decide +kernel) (lk1 (by decide +kernel) (lk1 (by decide +kernel) lk0)))))) | exact lk1 (by decide +kernel) (lk1 (by decide +kernel) (lk1 (by decide +kernel) (lk1 (by decide +kernel) (lk1 (by decide +kernel) (lk1 (by decide +kernel) (lk1 (by decide +kernel) (lk1 (by decide +kernel) lk0))))))))
local macro_rules | `(tactic| walk_at "fn") => `(tactic| first | exact lke | exact lkn (by decide +kernel) lke | exact lkn (by decide +kernel) (lkn (by decide +kernel) lke) | exact lkn (by decide +kernel) (lkn (by decide +kernel) (lkn (by decide +kernel) lke)) | exact lkn (by decide +kernel) (lkn (by decide +kernel) (lkn (by decide +kernel) (lkn (by decide +kernel) lke))) | exact lkn (by decide +kernel) (lkn (by decide +kernel) (lkn (by decide +kernel) (lkn (by decide +kernel) (lkn (by decide +kernel) lke)))) | exact lkn (by decide +kernel) (lkn (by decide +kernel) (lkn (by decide +kernel) (lkn (by decide +kernel) (lkn (by decide +kernel) (lkn (by decide +kernel) lke))))) | exact lkn (by decide +kernel) (lkn (by decide +kernel) (lkn (by decide +kernel) (lkn (by decide +kernel) (lkn (by decide +kernel) (lkn (by decide +kernel) (lkn (by decide +kernel) lke)))))) | exact lkn (by decide +kernel) (lkn (by decide +kernel) (lkn (by decide +kernel) (lkn (by decide +kernel) (lkn (by decide +kernel) (lkn (by decide +kernel) (lkn (by decide +kernel) (lkn (by decide +kernel) lke))))))))
local macro_rules | `(tactic| walk_at "fp") => `(tactic| first | exact pue | exact pu0 | exact pu2 (by decide +kernel) pue | exact pu2 (by decide +kernel) pu0 | exact pu2 (by decide +kernel) (pu2 (by decide +kernel) pue) | exact pu2 (by decide +kernel) (pu2 (by decide +kernel) pu0) | exact pu2 (by decide +kernel) (pu2 (by decide +kernel) (pu2 (by decide +kernel) pue)) | exact pu2 (by decide +kernel) (pu2 (by decide +kernel) (pu2 (by decide +kernel) pu0)) | exact pu2 (by decide +kernel) (pu2 (by decide +kernel) (pu2 (by decide +kernel) (pu2 (by decide +kernel) pue))) | exact pu2 (by decide +kernel) (pu2 (by decide +kernel) (pu2 (by decide +kernel) (pu2 (by decide +kernel) pu0))) | exact pu2 (by decide +kernel) (pu2 (by decide +kernel) (pu2 (by decide +kernel) (pu2 (by decide +kernel) (pu2 (by decide +kernel) pue)))) | exact pu2 (by decide +kernel) (pu2 (by decide +kernel) (pu2 (by decide +kernel) (pu2 (by decide +kernel) (pu2 (by decide +kernel) pu0)))) | exact pu2 (by decide +kernel) (pu2 (by decide +kernel) (pu2 (by decide +kernel) (pu2 (by decide +kernel) (pu2 (by decide +kernel) (pu2 (by decide +kernel) pue))))) | exact pu2 (by decide +kernel) (pu2 (by decide +kernel) (pu2 (by decide +kernel) (pu2 (by decide +kernel) (pu2 (by decide +kernel) (pu2 (by decide +kernel) pu0))))) | exact pu2 (by decide +kernel) (pu2 (by decide +kernel) (pu2 (by decide +kernel) (pu2 (by decide +kernel) (pu2 (by decide +kernel) (pu2 (by decide +kernel) (pu2 (by decide +kernel) pue)))))) | exact pu2 (by decide +kernel) (pu2 (by decide +kernel) (pu2 (by decide +kernel) (pu2 (by decide +kernel) (pu2 (by decide +kernel) (pu2 (by decide +kernel) (pu2 (by decide +kernel) pu0)))))))
local macro_rules | `(tactic| walk_at "c") => `(tactic| first | assumption | omega | (dsimp only; omega) | (unfold CMul; omega))
local macro_rules | `(tactic| walk_at "z") => `(tactic| first | assumption | (refine sz ?_; first | decide | omega | (simp only [List.length_map, List.length_append] <;> omega) | (simp only [List.length_cons, List.length_nil, List.length_map, List.length_append] <;> omega)) | (refine szl ?_; first | decide | omega | (simp only [List.length_map, List.length_append] <;> omega) | (simp only [List.length_cons, List.length_nil, List.length_map, List.length_append] <;> omega)))
local macro_rules | `(tactic| walk_at "s") => `(tactic| first
  | with_reducible refine w_seq ?_
  | ((with_reducible refine' w_var ?h ?_); case h => exact rfl)
  | with_reducible refine w_c ?_
  | with_reducible refine w_name ?_
  | with_reducible refine w_asg ?_
  | with_reducible refine w_op ?_
  | with_reducible refine w_I0 ?_
  | with_reducible refine w_exb ?_
  | with_reducible refine w_if ?_
  | with_reducible refine w_test ?_
  | with_reducible refine w_fld ?_
  | ((with_reducible refine' w_fl ?h ?hc ?hn ?hl ?_); (case h => walk_at "g"); (case hc => assumption); (case hn => assumption); (case hl => walk_at "f"))
  | with_reducible refine w_nil ?_
  | with_reducible refine w_cons ?_
  | with_reducible refine w_cb ?_
  | with_reducible refine w_call ?_
  | with_reducible refine w_meth ?_
  | with_reducible refine w_make ?_
  | ((with_reducible refine' w_rc ?h ?hl ?_); (case h => walk_at "g"); (case hl => walk_at "fn"))
  | with_reducible refine w_drop ?_
  | with_reducible refine w_ret ?_
  | with_reducible refine w_retN ?_
  | with_reducible refine w_next ?_
  | with_reducible refine w_brk ?_
  | with_reducible refine w_cont ?_
  | with_reducible refine w_eqI ?_
  | with_reducible refine w_neI ?_
  | with_reducible refine w_neB ?_
  | with_reducible refine w_isi ?_
  | ((with_reducible refine' w_len ?h ?_); case h => walk_at "l")
  | ((with_reducible refine' w_ixL ?h ?a ?_); (case h => walk_at "l"); (case a => first | exact at0 | exact at1 | exact at2 | exact at3 | assumption))
  | with_reducible refine w_bm ?_
  | with_reducible refine w_bm0 ?_
  | ((with_reducible refine' w_tyL ?h ?_); case h => walk_at "l")
  | with_reducible refine w_B ?_
  | with_reducible refine w_not ?_
  | with_reducible refine w_and ?_
  | with_reducible refine w_or ?_
  | with_reducible refine w_andV ?_
  | with_reducible refine w_orV ?_
  | with_reducible refine w_notV ?_
  | with_reducible refine w_ifE ?_
  | with_reducible refine w_chain ?_
  | with_reducible refine w_un ?_
  | with_reducible refine w_U ?_
  | with_reducible refine w_int ?_
  | with_reducible refine w_abs ?_
  | with_reducible refine w_tup ?_
  | with_reducible refine w_lst ?_
  | with_reducible refine w_sl ?_
  | with_reducible refine w_noPart ?_
  | with_reducible refine w_part ?_
  | with_reducible refine w_exi ?_
  | ((with_reducible refine' w_newL ?hs ?hl ?_); (case hs => assumption); (case hl => walk_at "z"); intro _ _ _)
  | ((with_reducible refine' w_newT ?hs ?hl ?_); (case hs => assumption); (case hl => walk_at "z"); intro _ _ _)
  | ((with_reducible refine' w_slL ?hs ?h ?_); (case hs => assumption); (case h => walk_at "l"); intro _ _ _)
  | ((with_reducible refine' w_cat ?hs ?ha ?hb ?hl ?_); (case hs => assumption); (case ha => walk_at "g"); (case hb => walk_at "g"); (case hl => walk_at "z"); intro _ _ _)
  | ((with_reducible refine' w_app ?hs ?h ?hl ?_); (case hs => assumption); (case h => walk_at "p"); (case hl => walk_at "z"); intro _ _)
  | ((with_reducible refine' w_clear ?hs ?h ?_); (case hs => assumption); (case h => walk_at "p"); intro _ _)
  | with_reducible refine w_sfld ?_
  | ((with_reducible refine' w_fsP ?hs ?h ?hc ?hn ?hl ?hg ?_); (case hs => assumption); (case h => walk_at "p"); (case hc => assumption); (case hn => assumption); (case hl => exact Nat.lt_of_lt_of_le (by simp only [List.length_cons, List.length_nil]; omega) (Nat.le_refl 1000)); (case hg => walk_at "fp"); intro _ _)
  | with_reducible refine w_lpb ?_
  | with_reducible refine w_yes ?_
  | with_reducible refine w_sub ?_
  | with_reducible refine w_delL0 ?_
  | ((with_reducible refine' w_I ?h ?_); case h => walk_at "c"))
local macro_rules | `(tactic| walk_at "ss") => `(tactic| repeat walk_at "s")

local macro_rules | `(tactic| walk_at "t") => `(tactic| first | assumption | exact SqT.of (by walk_at "g"))
local macro_rules | `(tactic| walk_at "s") => `(tactic| first
  | with_reducible refine iteT ?_
  | with_reducible refine iteF ?_
  | with_reducible refine w_din ?_
  | with_reducible refine w_dni ?_
  | ((with_reducible refine' w_dinI ?h ?_); case h => walk_at "g")
  | ((with_reducible refine' w_dniI ?h ?_); case h => walk_at "g")
  | with_reducible refine w_dput ?_
  | ((with_reducible refine' w_dputI ?hs ?h ?hl ?_); (case hs => assumption); (case h => walk_at "p"); (case hl => walk_at "z"); intro _ _)
  | with_reducible refine w_dpop ?_
  | ((with_reducible refine' w_dpopA ?h ?_); case h => walk_at "g")
  | with_reducible refine w_dnew ?_
  | ((with_reducible refine' w_newD ?hs ?_); (case hs => assumption); intro _ _ _)
  | with_reducible refine w_faug ?_
  | ((with_reducible refine' w_fa1 ?h ?hc ?hn ?hl ?_); (case h => walk_at "g"); (case hc => assumption); (case hn => assumption); (case hl => walk_at "f"))
  | ((with_reducible refine' w_fa2 ?hs ?h ?hl ?hg ?_); (case hs => assumption); (case h => walk_at "p"); (case hl => exact Nat.lt_of_lt_of_le (by simp only [List.length_cons, List.length_nil]; omega) (Nat.le_refl 1000)); (case hg => walk_at "fp"); intro _ _)
  | with_reducible refine w_rAdd ?_
  | with_reducible refine w_rSub ?_
  | with_reducible refine w_max ?_
  | with_reducible refine w_min ?_
  | with_reducible refine w_eqB ?_
  | with_reducible refine w_methQ ?_
  | with_reducible refine w_xf0 ?_
  | ((with_reducible refine' w_xf ?h ?hl ?_); (case h => walk_at "g"); (case hl => walk_at "f"))
  | with_reducible refine w_eqSt ?_
  | with_reducible refine w_isN ?_
  | with_reducible refine w_notN ?_
  | ((with_reducible refine' w_gtup ?h ?hl ?_); (case h => walk_at "t"); (case hl => rfl))
  | with_reducible refine w_gnil ?_
  | with_reducible refine w_gcons ?_
  | with_reducible refine w_par3 ?_
  | with_reducible refine w_ex3 ?_
  | with_reducible refine w_par2 ?_
  | with_reducible refine w_ex2 ?_
  | ((with_reducible refine' w_ixT ?h ?a ?_); (case h => walk_at "t"); (case a => first | exact at0 | exact at1 | exact at2 | exact at3 | assumption))
  | ((with_reducible refine' w_lenT ?h ?_); case h => walk_at "t")
  | ((with_reducible refine' w_set0 ?hs ?h ?_); (case hs => assumption); (case h => walk_at "p"); intro _ _)
  | ((with_reducible refine' w_set1 ?hs ?h ?_); (case hs => assumption); (case h => walk_at "p"); intro _ _)
  | ((with_reducible refine' w_set2 ?hs ?h ?_); (case hs => assumption); (case h => walk_at "p"); intro _ _)
  | ((with_reducible refine' w_set3 ?hs ?h ?_); (case hs => assumption); (case h => walk_at "p"); intro _ _)
  | ((with_reducible refine' w_set4 ?hs ?h ?_); (case hs => assumption); (case h => walk_at "p"); intro _ _)
  | with_reducible refine w_vei ?_
  | with_reducible refine w_ost0 ?_
  | with_reducible refine w_mko ?_
  | with_reducible refine w_raise ?_
  | with_reducible refine w_js ?_
  | with_reducible refine w_js0 ?_
  | with_reducible refine w_fmt ?_)

local macro_rules | `(tactic| walk_at "v") => `(tactic| first | exact v0 | exact v1 | exact v2 | exact v3 | exact v4 | exact v5 | exact v6 | exact v7 | exact v8)
local macro_rules | `(tactic| walk_at "vs") => `(tactic| first | exact st0 | exact st1 | exact st2 | exact st3 | exact st4 | exact st5 | exact st6 | exact st7 | exact st8)
local macro_rules | `(tactic| walk_at "s") => `(tactic| first
  | with_reducible refine w_dget ?_
  | ((with_reducible refine' w_dgetZ ?h ?nd ?hk ?hv ?_); (case h => walk_at "g"); (case nd => walk_at "nd"); (case hk => walk_at "k"); (case hv => walk_at "v"))
  | ((with_reducible refine' w_dputZ ?hs ?h ?nd ?hk ?hv ?hu ?hl ?_); (case hs => assumption); (case h => walk_at "p"); (case nd => walk_at "nd"); (case hk => walk_at "k"); (case hv => walk_at "v"); (case hu => walk_at "vs"); (case hl => decide); intro _ _)
  | with_reducible refine w_gsub ?_
  | with_reducible refine w_setD ?_
  | with_reducible refine w_disp ?_
  | ((with_reducible refine' w_newP ?hs ?_); (case hs => assumption); intro _ _ _)
  | with_reducible refine w_pcons ?_
  | with_reducible refine w_pnil ?_)

local macro_rules | `(tactic| walk_at "s") => `(tactic| first
  | with_reducible refine w_nget ?_
  | with_reducible refine w_nin ?_
  | with_reducible refine w_nnot ?_
  | with_reducible refine w_nput ?_
  | with_reducible refine w_ndel ?_
  | with_reducible refine w_npop ?_
  | ((with_reducible refine' w_nnew ?hs ?_); (case hs => assumption); intro _ _ _))

/-! ## tests -/
def fldN : Nat → Str
  | 0 => "switch"
  | 1 => "port"
  | 2 => "src"
  | 3 => "dst"
  | _ => "kind"
inductive Tst
  | is (f : Nat) (n : Int)
  | neg (f : Nat) (n : Int)
  | all (xs : List (Nat × Int))
def isH (s : List Int) (f : Nat) (n : Int) : Bool := decide (s.getD f 0 = n)
def holds : Tst → List Int → Bool
  | .is f n, s => isH s f n
  | .neg f n, s => !isH s f n
  | .all xs, s => xs.all fun x => isH s x.1 x.2
def IsAt (H : Hp) (v : V) (f : Nat) (n : Int) : Prop := ∃ p : Addr, v = .ref p ∧ H p = some (.tup [.str "is", .str (fldN f), .int n]) ∧ f < 5
def TstAt (H : Hp) (v : V) : Tst → Prop
  | .is f n => IsAt H v f n
  | .neg f n => ∃ (p : Addr) (u : V), v = .ref p ∧ H p = some (.tup [.str "not", u]) ∧ IsAt H u f n
  | .all xs => ∃ (p l : Addr) (us : List V), v = .ref p ∧ H p = some (.tup [.str "all", .ref l]) ∧ H l = some (.lst us) ∧ Row (fun u x => IsAt H u x.1 x.2) us xs ∧ us.length ≤ 1000
theorem IsAt.same {H H' : Hp} (e : Same H H') {v : V} {f : Nat} {n : Int} (h : IsAt H v f n) : IsAt H' v f n := by
  obtain ⟨p, h1, h2, h3⟩ := h
  exact ⟨p, h1, e _ _ h2, h3⟩
theorem TstAt.same {H H' : Hp} (e : Same H H') {v : V} : ∀ {t : Tst}, TstAt H v t → TstAt H' v t
  | .is f n, h => IsAt.same e h
  | .neg f n, ⟨p, u, h1, h2, h3⟩ => ⟨p, u, h1, e _ _ h2, h3.same e⟩
  | .all xs, ⟨p, l, us, h1, h2, h3, h4, h5⟩ => ⟨p, l, us, h1, e _ _ h2, e _ _ h3, h4.mono fun _ _ => IsAt.same e, h5⟩
section
variable {P : Program} [IsP P] {w : World} {K : PySem.W.Frag} {mg : Str → Option Value} {base : Heap} {a : Ad}
theorem kd_fld (T : Txt w K mg a) : ∀ {f : Nat}, f < 5 → KDct K w a.K_FIELD_PLACES (fldN f) (.int (f : Int))
  | 0, _ => T.kd_FIELD_PLACES_switch
  | 1, _ => T.kd_FIELD_PLACES_port
  | 2, _ => T.kd_FIELD_PLACES_src
  | 3, _ => T.kd_FIELD_PLACES_dst
  | 4, _ => T.kd_FIELD_PLACES_kind
theorem w_ixd {H : Hp} {Q : VK} {p : Addr} {z : Str} {v : V} (h : KDct K w p z v) (q : Q v H) : rIxD K w (.ref p) (.str z) H Q := ⟨p, z, v, rfl, rfl, h, q⟩
theorem at_st {s : List Int} {f : Nat} (h : f < s.length) : atI (s.map V.int) (f : Int) = some (.int (s.getD f 0)) := at_of (j := f) rfl (by
  rw [List.getElem?_map, List.getElem?_eq_getElem h, List.getD_eq_getElem?_getD, List.getElem?_eq_getElem h]
  rfl)
def sp_is : Sp := fun vs H Q _ => ∃ (v : V) (th : Addr) (f : Nat) (n : Int) (s : List Int), vs = [v, .ref th] ∧ IsAt H v f n ∧ H th = some (.tup (s.map V.int)) ∧ s.length = 5 ∧ Q (.bl (isH s f n)) H
def sp_test_holds : Sp := fun vs H Q _ => ∃ (v : V) (th : Addr) (t : Tst) (s : List Int), vs = [v, .ref th] ∧ TstAt H v t ∧ H th = some (.tup (s.map V.int)) ∧ s.length = 5 ∧ ∀ H', Same H H' → Q (.bl (holds t s)) H'
theorem ok_is (T : Txt w K mg a) : FnOk P w K mg base CX0 1 a.test_holds a.fd_test_holds ["test", "state"] sp_is := by
  have G_test_holds : FnOk P w K mg base CX0 0 a.test_holds a.fd_test_holds ["test", "state"] spF := fn_F
  refine T.fn_test_holds.ok sc_test_holds (fun vs H Q E h => ?_) (fun cdv A outer s H vs Q E hr h => ?_)
  · obtain ⟨_, _, _, _, _, rfl, _⟩ := h
    rfl
  · obtain ⟨_, th, f, n, s, rfl, ⟨p, rfl, hp, hf⟩, hth, hl, k⟩ := h
    refine ⟨_, (pss_cons (ps_set (i := 2) sc_test_holds.nd rfl (Or.inl rfl) (pe_ix (ix_tupK (K := K)) (pv 0) pe_int (fun _ _ => rfl)))
  (pss_cons (ps_if (pt_cmpR op_eq (pv 2) pe_str (nomark _))
  (pss_one (ps_ret (pe_cmpR op_eq (pe_ix (ix_tupK (K := K)) (pv 1) (pe_ix (ix_kdictK (K := K) (w := w)) (pe_glob (v := .ref a.K_FIELD_PLACES) rfl T.mg_FIELD_PLACES rfl) (pe_ix (ix_tupK (K := K)) (pv 0) pe_int (fun _ _ => rfl)) (fun _ _ => rfl)) (fun _ _ => rfl)) (pe_ix (ix_tupK (K := K)) (pv 0) pe_int (fun _ _ => rfl)) (nomark _))))
  pss_nil)
  (pss_cons (ps_if (pt_cmpR op_eq (pv 2) pe_str (nomark _))
  (pss_one (ps_ret (pe_not (pe_call G_test_holds (hr.mono (by first | decide | omega)) rfl T.mg_test_holds T.kp_test_holds T.bi_test_holds .nil pass0 (pa_cons (pe_ix (ix_tupK (K := K)) (pv 0) pe_int (fun _ _ => rfl)) (pa_cons (pv 1) pa_nil))))))
  pss_nil)
  (pss_cons (ps_if (pt_cmpR op_eq (pv 2) pe_str (nomark _))
  (pss_one (ps_ret (pe_callB (cr_allK (K := K) rfl) (by rfl) T.mg_all (by decide +kernel) (pa_cons (pe_lc (own := [("part", 3)]) (g := (gName 3)) (tt := tYes) rfl sc_test_holds.nd (pi_listK (K := K) (pe_ix (ix_tupK (K := K)) (pv 0) pe_int (fun _ _ => rfl))) (blkOk_by (own := [("part", 3)]) (N := N_test_holds) (sc := defScope s_test_holds) (by decide +kernel)) (fun _ _ _ _ _ => by exact (pg_name (i := 3) sc_test_holds.nd rfl (Or.inl rfl))) (fun _ _ _ _ _ => pts_nil) (fun _ _ _ _ _ => by exact (pe_call G_test_holds (hr.mono (by first | decide | omega)) rfl T.mg_test_holds T.kp_test_holds T.bi_test_holds .nil pass0 (pa_cons (pv 3) (pa_cons (pv 1) pa_nil))))) pa_nil))))
  pss_nil)
  (pss_one (ps_ret (pe_callB (cr_anyK (K := K) rfl) (by rfl) T.mg_any (by decide +kernel) (pa_cons (pe_lc (own := [("part", 3)]) (g := (gName 3)) (tt := tYes) rfl sc_test_holds.nd (pi_listK (K := K) (pe_ix (ix_tupK (K := K)) (pv 0) pe_int (fun _ _ => rfl))) (blkOk_by (own := [("part", 3)]) (N := N_test_holds) (sc := defScope s_test_holds) (by decide +kernel)) (fun _ _ _ _ _ => by exact (pg_name (i := 3) sc_test_holds.nd rfl (Or.inl rfl))) (fun _ _ _ _ _ => pts_nil) (fun _ _ _ _ _ => by exact (pe_call G_test_holds (hr.mono (by first | decide | omega)) rfl T.mg_test_holds T.kp_test_holds T.bi_test_holds .nil pass0 (pa_cons (pv 3) (pa_cons (pv 1) pa_nil))))) pa_nil)))))))), ?_⟩
    have hs := Hs.start H
    walk_at "ss"
    refine ifd (fun _ => ?_) (fun h => absurd rfl h)
    walk_at "ss"
    refine w_ixd (kd_fld T hf) ?_
    refine w_ixT (SqT.of hth) (at_st (by omega)) ?_
    walk_at "ss"
    exact k
theorem ok_test_holds (T : Txt w K mg a) : FnOk P w K mg base CX0 2 a.test_holds a.fd_test_holds ["test", "state"] sp_test_holds := by
  have G_test_holds := ok_is (P := P) (w := w) (base := base) T
  refine T.fn_test_holds.ok sc_test_holds (fun vs H Q E h => ?_) (fun cdv A outer s H vs Q E hr h => ?_)
  · obtain ⟨_, _, _, _, rfl, _⟩ := h
    rfl
  · obtain ⟨v, th, t, s, rfl, ht, hth, hl, k⟩ := h
    refine ⟨_, (pss_cons (ps_set (i := 2) sc_test_holds.nd rfl (Or.inl rfl) (pe_ix (ix_tupK (K := K)) (pv 0) pe_int (fun _ _ => rfl)))
  (pss_cons (ps_if (pt_cmpR op_eq (pv 2) pe_str (nomark _))
  (pss_one (ps_ret (pe_cmpR op_eq (pe_ix (ix_tupK (K := K)) (pv 1) (pe_ix (ix_kdictK (K := K) (w := w)) (pe_glob (v := .ref a.K_FIELD_PLACES) rfl T.mg_FIELD_PLACES rfl) (pe_ix (ix_tupK (K := K)) (pv 0) pe_int (fun _ _ => rfl)) (fun _ _ => rfl)) (fun _ _ => rfl)) (pe_ix (ix_tupK (K := K)) (pv 0) pe_int (fun _ _ => rfl)) (nomark _))))
  pss_nil)
  (pss_cons (ps_if (pt_cmpR op_eq (pv 2) pe_str (nomark _))
  (pss_one (ps_ret (pe_not (pe_call G_test_holds (hr.mono (by first | decide | omega)) rfl T.mg_test_holds T.kp_test_holds T.bi_test_holds .nil pass0 (pa_cons (pe_ix (ix_tupK (K := K)) (pv 0) pe_int (fun _ _ => rfl)) (pa_cons (pv 1) pa_nil))))))
  pss_nil)
  (pss_cons (ps_if (pt_cmpR op_eq (pv 2) pe_str (nomark _))
  (pss_one (ps_ret (pe_callB (cr_allK (K := K) rfl) (by rfl) T.mg_all (by decide +kernel) (pa_cons (pe_lc (own := [("part", 3)]) (g := (gName 3)) (tt := tYes) rfl sc_test_holds.nd (pi_listK (K := K) (pe_ix (ix_tupK (K := K)) (pv 0) pe_int (fun _ _ => rfl))) (blkOk_by (own := [("part", 3)]) (N := N_test_holds) (sc := defScope s_test_holds) (by decide +kernel)) (fun _ _ _ _ _ => by exact (pg_name (i := 3) sc_test_holds.nd rfl (Or.inl rfl))) (fun _ _ _ _ _ => pts_nil) (fun _ _ _ _ _ => by exact (pe_call G_test_holds (hr.mono (by first | decide | omega)) rfl T.mg_test_holds T.kp_test_holds T.bi_test_holds .nil pass0 (pa_cons (pv 3) (pa_cons (pv 1) pa_nil))))) pa_nil))))
  pss_nil)
  (pss_one (ps_ret (pe_callB (cr_anyK (K := K) rfl) (by rfl) T.mg_any (by decide +kernel) (pa_cons (pe_lc (own := [("part", 3)]) (g := (gName 3)) (tt := tYes) rfl sc_test_holds.nd (pi_listK (K := K) (pe_ix (ix_tupK (K := K)) (pv 0) pe_int (fun _ _ => rfl))) (blkOk_by (own := [("part", 3)]) (N := N_test_holds) (sc := defScope s_test_holds) (by decide +kernel)) (fun _ _ _ _ _ => by exact (pg_name (i := 3) sc_test_holds.nd rfl (Or.inl rfl))) (fun _ _ _ _ _ => pts_nil) (fun _ _ _ _ _ => by exact (pe_call G_test_holds (hr.mono (by first | decide | omega)) rfl T.mg_test_holds T.kp_test_holds T.bi_test_holds .nil pass0 (pa_cons (pv 3) (pa_cons (pv 1) pa_nil))))) pa_nil)))))))), ?_⟩
    have hs := Hs.start H
    cases t with
    | is f n =>
      obtain ⟨p, rfl, hp, hf⟩ := ht
      walk_at "ss"
      refine ifd (fun _ => ?_) (fun h => absurd rfl h)
      walk_at "ss"
      refine w_ixd (kd_fld T hf) ?_
      refine w_ixT (SqT.of hth) (at_st (by omega)) ?_
      walk_at "ss"
      exact k _ hs.same
    | neg f n =>
      obtain ⟨p, u, rfl, hp, hu⟩ := ht
      walk_at "ss"
      refine ifd (fun h => absurd h (by decide)) (fun _ => ?_)
      walk_at "ss"
      refine ifd (fun _ => ?_) (fun h => absurd rfl h)
      walk_at "ss"
      refine ⟨u, th, f, n, s, rfl, hu, hth, hl, ?_⟩
      walk_at "ss"
      exact k _ hs.same
    | all xs =>
      obtain ⟨p, l, us, rfl, hp, hul, hro, hz⟩ := ht
      walk_at "ss"
      refine ifd (fun h => absurd h (by decide)) (fun _ => ?_)
      walk_at "ss"
      refine ifd (fun h => absurd h (by decide)) (fun _ => ?_)
      walk_at "ss"
      refine ifd (fun _ => ?_) (fun h => absurd rfl h)
      refine w_cb ?_
      refine w_cons ?_
      refine w_lcRow (fun _ v b => v = .bl b) (fun _ _ _ _ _ h => h) (SqL.of hul) (by omega) (xs.map fun x => isH s x.1 x.2) (by rw [List.length_map, hro.1]) (fun Q' q => ?_) (fun _ => rfl) (fun i u y H' Q' hu hy sm k' => ?_) (fun D acc H' hs' hr' => ?_)
      · walk_at "ss"
        exact q
      · obtain ⟨x, hx, hat⟩ := hro.get hu
        rw [List.getElem?_map, hx] at hy
        cases hy
        walk_at "ss"
        exact ⟨u, th, x.1, x.2, s, rfl, hat.same sm, sm _ _ hth, hl, k' _ _ (Same.refl _) rfl⟩
      · walk_at "ss"
        have e : acc = (xs.map fun x => isH s x.1 x.2).map V.bl := by
          refine List.ext_getElem? fun i => ?_
          cases h : acc[i]? with
          | none =>
            have := List.getElem?_eq_none_iff.mp h
            rw [List.getElem?_eq_none (by rw [List.length_map, ← hr'.1]; omega)]
          | some v =>
            obtain ⟨b, hb, rfl⟩ := hr'.get h
            rw [List.getElem?_map, hb]
            rfl
        refine ⟨D, xs.map fun x => isH s x.1 x.2, rfl, ?_, ?_⟩
        · rw [← e]
          exact SqL.of hs'.g0
        · have e2 : (xs.map fun x => isH s x.1 x.2).all id = holds (.all xs) s := by
            rw [List.all_map]
            rfl
          rw [e2]
          exact k _ hs'.same
end
local macro_rules | `(tactic| walk_at "v") => `(tactic| first | exact v0 | exact v1 | exact v2 | exact v3 | exact v4 | exact v5 | exact v6 | exact v7 | exact v8)
local macro_rules | `(tactic| walk_at "vs") => `(tactic| first | exact st0 | exact st1 | exact st2 | exact st3 | exact st4 | exact st5 | exact st6 | exact st7 | exact st8)
local macro_rules | `(tactic| walk_at "s") => `(tactic| first
  | with_reducible refine w_dget ?_
  | ((with_reducible refine' w_dgetZ ?h ?nd ?hk ?hv ?_); (case h => walk_at "g"); (case nd => walk_at "nd"); (case hk => walk_at "k"); (case hv => walk_at "v"))
  | ((with_reducible refine' w_dputZ ?hs ?h ?nd ?hk ?hv ?hu ?hl ?_); (case hs => assumption); (case h => walk_at "p"); (case nd => walk_at "nd"); (case hk => walk_at "k"); (case hv => walk_at "v"); (case hu => walk_at "vs"); (case hl => decide); intro _ _)
  | with_reducible refine w_gsub ?_
  | with_reducible refine w_setD ?_
  | with_reducible refine w_disp ?_
  | ((with_reducible refine' w_newP ?hs ?_); (case hs => assumption); intro _ _ _)
  | with_reducible refine w_pcons ?_
  | with_reducible refine w_pnil ?_)

local macro_rules | `(tactic| walk_at "s") => `(tactic| first
  | with_reducible refine w_nget ?_
  | with_reducible refine w_nin ?_
  | with_reducible refine w_nnot ?_
  | with_reducible refine w_nput ?_
  | with_reducible refine w_ndel ?_
  | with_reducible refine w_npop ?_
  | ((with_reducible refine' w_nnew ?hs ?_); (case hs => assumption); intro _ _ _))

/-! ## policies -/
abbrev S5 := List Int
def StAt (H : Hp) (u : V) (s : S5) : Prop := ∃ t : Addr, u = .ref t ∧ H t = some (.tup (s.map V.int))
theorem StAt.mono {H H' : Hp} (e : ∀ p xs, H p = some (.tup xs) → H' p = some (.tup xs)) {u : V} {s : S5} (h : StAt H u s) : StAt H' u s := by
  obtain ⟨t, h1, h2⟩ := h
  exact ⟨t, h1, e _ _ h2⟩
inductive Act
  | test (t : Tst)
  | set (f : Nat) (n : Int)
inductive Part
  | act (x : Act)
  | seq (xs : List Act)
def actM : Act → S5 → Option S5
  | .test t, s => if holds t s = true then some s else none
  | .set f n, s => some (s.set f n)
def seqM : List Act → S5 → Option S5
  | [], s => some s
  | x :: xs, s => (actM x s).bind (seqM xs)
def partM : Part → S5 → Option S5
  | .act x, s => actM x s
  | .seq xs, s => seqM xs s
/-- each once, in the order in which they come -/
def ddA (acc : List S5) (xs : List S5) : List S5 := xs.foldl (fun acc x => if x ∈ acc then acc else acc ++ [x]) acc
def dd (xs : List S5) : List S5 := ddA [] xs
def polM (ps : List Part) (s : S5) : List S5 := dd (ps.filterMap fun p => partM p s)
def ActAt (H : Hp) (v : V) : Act → Prop
  | .test t => ∃ (p : Addr) (u : V), v = .ref p ∧ H p = some (.tup [.str "test", u]) ∧ TstAt H u t
  | .set f n => ∃ p : Addr, v = .ref p ∧ H p = some (.tup [.str "set", .str (fldN f), .int n]) ∧ f < 5
def PartAt (H : Hp) (v : V) : Part → Prop
  | .act x => ActAt H v x
  | .seq xs => ∃ (p l : Addr) (us : List V), v = .ref p ∧ H p = some (.tup [.str "seq", .ref l]) ∧ H l = some (.lst us) ∧ Row (ActAt H) us xs ∧ us.length ≤ 100
def PolAt (H : Hp) (v : V) (ps : List Part) : Prop := ∃ (p l : Addr) (us : List V), v = .ref p ∧ H p = some (.tup [.str "sum", .ref l]) ∧ H l = some (.lst us) ∧ Row (PartAt H) us ps ∧ us.length ≤ 100
theorem ActAt.same {H H' : Hp} (e : Same H H') {v : V} : ∀ {x : Act}, ActAt H v x → ActAt H' v x
  | .test t, ⟨p, u, h1, h2, h3⟩ => ⟨p, u, h1, e _ _ h2, h3.same e⟩
  | .set f n, ⟨p, h1, h2, h3⟩ => ⟨p, h1, e _ _ h2, h3⟩
theorem PartAt.same {H H' : Hp} (e : Same H H') {v : V} : ∀ {x : Part}, PartAt H v x → PartAt H' v x
  | .act x, h => ActAt.same e (show ActAt _ _ x from h)
  | .seq xs, ⟨p, l, us, h1, h2, h3, h4, h5⟩ => ⟨p, l, us, h1, e _ _ h2, e _ _ h3, h4.mono fun _ _ => ActAt.same e, h5⟩
theorem PolAt.same {H H' : Hp} (e : Same H H') {v : V} {ps : List Part} (h : PolAt H v ps) : PolAt H' v ps := by
  obtain ⟨p, l, us, h1, h2, h3, h4, h5⟩ := h
  exact ⟨p, l, us, h1, e _ _ h2, e _ _ h3, h4.mono fun _ _ => PartAt.same e, h5⟩
theorem actM_len {x : Act} {s s' : S5} (h : s.length = 5) (e : actM x s = some s') : s'.length = 5 := by
  cases x with
  | test t =>
    have e2 : (if holds t s = true then some s else none) = some s' := e
    by_cases hc : holds t s = true
    · rw [if_pos hc] at e2
      cases e2
      exact h
    · rw [if_neg hc] at e2
      cases e2
  | set f n =>
    have e2 : some (s.set f n) = some s' := e
    cases e2
    rw [List.length_set]
    exact h
theorem seqM_len : ∀ {xs : List Act} {s s' : S5}, s.length = 5 → seqM xs s = some s' → s'.length = 5
  | [], s, s', h, e => by
    cases e
    exact h
  | x :: xs, s, s', h, e => by
    unfold seqM at e
    cases h1 : actM x s with
    | none =>
      rw [h1] at e
      cases e
    | some z =>
      rw [h1] at e
      exact seqM_len (actM_len h h1) e
theorem partM_len {p : Part} {s s' : S5} (h : s.length = 5) (e : partM p s = some s') : s'.length = 5 := by
  cases p with
  | act x => exact actM_len h e
  | seq xs => exact seqM_len h e
theorem dd_app (acc xs ys : List S5) : ddA acc (xs ++ ys) = ddA (ddA acc xs) ys := List.foldl_append
theorem ddA_len : ∀ (xs acc : List S5), (ddA acc xs).length ≤ acc.length + xs.length
  | [], acc => Nat.le_refl _
  | x :: xs, acc => by
    show (ddA (if x ∈ acc then acc else acc ++ [x]) xs).length ≤ _
    have := ddA_len xs (if x ∈ acc then acc else acc ++ [x])
    rw [List.length_cons]
    by_cases h : x ∈ acc
    · rw [if_pos h] at this ⊢
      omega
    · rw [if_neg h] at this ⊢
      rw [List.length_append, List.length_singleton] at this
      omega
section
variable {P : Program} [IsP P] {w : World} {K : PySem.W.Frag} {mg : Str → Option Value} {base : Heap} {a : Ad}
def sp_with_number : Sp := fun vs H Q _ => ∃ (th : Addr) (f : Nat) (n : Int) (s : S5), vs = [.ref th, .str (fldN f), .int n] ∧ f < 5 ∧ H th = some (.tup (s.map V.int)) ∧ s.length = 5 ∧ ∀ t H', Same H H' → H t = none → H' t = some (.tup ((s.set f n).map V.int)) → Q (.ref t) H'
theorem ok_with_number (T : Txt w K mg a) : FnOk P w K mg base CX0 1 a.with_number a.fd_with_number ["state", "field", "number"] sp_with_number := by
  refine T.fn_with_number.ok sc_with_number (fun vs H Q E h => ?_) (fun cdv A outer s H vs Q E hr h => ?_)
  · obtain ⟨_, _, _, _, rfl, _⟩ := h
    rfl
  · obtain ⟨th, f, n, s, rfl, hf, hth, hl, k⟩ := h
    refine ⟨_, (pss_cons (ps_set (i := 3) sc_with_number.nd rfl (Or.inl rfl) (pe_ix (ix_kdictK (K := K) (w := w)) (pe_glob (v := .ref a.K_FIELD_PLACES) rfl T.mg_FIELD_PLACES rfl) (pv 1) (fun _ _ => rfl)))
  (pss_one (ps_ret (pe_tup (pa_starK (K := K) (pe_slice (sl_tupAK (K := K)) (pv 0) po_none (po_some (pv 3))) (pa_cons (pv 2) (pa_starK (K := K) (pe_slice (sl_tupAK (K := K)) (pv 0) (po_some (pe_op op_add (pv 3) pe_int)) po_none) pa_nil))))))), ?_⟩
    have hs := Hs.start H
    walk_at "ss"
    refine w_ixd (kd_fld T hf) ?_
    walk_at "ss"
    refine w_star ?_
    walk_at "ss"
    refine w_slA hs (SqT.of hth) (fun z => ?_) fun l1 H1 hs1 => ?_
    · have := z.2
      rw [HT.sIx_nat, List.length_map] at this
      omega
    refine ⟨l1, _, rfl, .inl (SqT.of hs1.g0), ?_⟩
    clear hs
    walk_at "ss"
    refine w_star ?_
    walk_at "ss"
    refine w_slA hs1 (SqT.of (hs1.same _ _ hth)) (fun z => ?_) fun l2 H2 hs2 => ?_
    · have := z.1
      rw [show (f : Int) + 1 = ((f + 1 : Nat) : Int) from rfl, HT.sIx_nat, List.length_map] at this
      omega
    refine ⟨l2, _, rfl, .inl (SqT.of hs2.g0), ?_⟩
    clear hs1
    rw [cut_to f rfl, cut_from (j := (f : Int) + 1) (f + 1) rfl]
    have e : List.take f (s.map V.int) ++ (V.int n :: (List.drop (f + 1) (s.map V.int) ++ [])) = (s.set f n).map V.int := by
      rw [List.append_nil, List.set_eq_take_append_cons_drop, if_pos (by omega), List.map_append, List.map_take, List.map_cons, List.map_drop]
    walk_at "ss"
    rw [e]
    refine w_newT hs2 (by rw [List.length_map, List.length_set, hl]; exact sz (by decide)) fun t H3 hs3 => ?_
    exact k t H3 hs3.same (hs3.out _ List.mem_cons_self) hs3.g0
end
local macro_rules | `(tactic| walk_at "v") => `(tactic| first | exact v0 | exact v1 | exact v2 | exact v3 | exact v4 | exact v5 | exact v6 | exact v7 | exact v8)
local macro_rules | `(tactic| walk_at "vs") => `(tactic| first | exact st0 | exact st1 | exact st2 | exact st3 | exact st4 | exact st5 | exact st6 | exact st7 | exact st8)
local macro_rules | `(tactic| walk_at "s") => `(tactic| first
  | with_reducible refine w_dget ?_
  | ((with_reducible refine' w_dgetZ ?h ?nd ?hk ?hv ?_); (case h => walk_at "g"); (case nd => walk_at "nd"); (case hk => walk_at "k"); (case hv => walk_at "v"))
  | ((with_reducible refine' w_dputZ ?hs ?h ?nd ?hk ?hv ?hu ?hl ?_); (case hs => assumption); (case h => walk_at "p"); (case nd => walk_at "nd"); (case hk => walk_at "k"); (case hv => walk_at "v"); (case hu => walk_at "vs"); (case hl => decide); intro _ _)
  | with_reducible refine w_gsub ?_
  | with_reducible refine w_setD ?_
  | with_reducible refine w_disp ?_
  | ((with_reducible refine' w_newP ?hs ?_); (case hs => assumption); intro _ _ _)
  | with_reducible refine w_pcons ?_
  | with_reducible refine w_pnil ?_)

local macro_rules | `(tactic| walk_at "s") => `(tactic| first
  | with_reducible refine w_nget ?_
  | with_reducible refine w_nin ?_
  | with_reducible refine w_nnot ?_
  | with_reducible refine w_nput ?_
  | with_reducible refine w_ndel ?_
  | with_reducible refine w_npop ?_
  | ((with_reducible refine' w_nnew ?hs ?_); (case hs => assumption); intro _ _ _))

section
variable {P : Program} [IsP P] {w : World} {K : PySem.W.Frag} {mg : Str → Option Value} {base : Heap} {a : Ad}
/-- what after(..) promises of policies of one sort -/
def sp_afterG {β : Type} (R : Hp → V → β → Prop) (f : β → S5 → Option S5) : Sp := fun vs H Q _ => ∃ (v : V) (th : Addr) (x : β) (s : S5), vs = [v, .ref th] ∧ R H v x ∧ H th = some (.tup (s.map V.int)) ∧ s.length = 5 ∧
  ∀ l us H', Same H H' → H l = none → H' l = some (.lst us) → Row (StAt H') us (f x s).toList → Q (.ref l) H'
def sp_anyG {β : Type} (R : Hp → V → β → Prop) (f : β → S5 → Option S5) : Sp := fun vs H Q _ => ∃ (lp ls : Addr) (us ss : List V) (xs : List β) (sts : List S5), vs = [.ref lp, .ref ls] ∧ H lp = some (.lst us) ∧ Row (R H) us xs ∧ us.length ≤ 100 ∧ H ls = some (.lst ss) ∧ Row (StAt H) ss sts ∧ ss.length ≤ 100 ∧ (∀ s ∈ sts, s.length = 5) ∧
  ∀ l ys H', Same H H' → H l = none → H' l = some (.lst ys) → Row (StAt H') ys (dd (sts.flatMap fun s => xs.filterMap fun x => f x s)) → Q (.ref l) H'
/-- the keys of found -/
def mS (sts : List S5) : GM := sts.map fun s => (s.map Sum.inl, .bl true)
theorem inl_inj {s t : S5} (h : s.map (Sum.inl : Int → Itm) = t.map Sum.inl) : s = t := by
  induction s generalizing t with
  | nil =>
    cases t with
    | nil => rfl
    | cons _ _ => cases h
  | cons x s ih =>
    cases t with
    | nil => cases h
    | cons y t =>
      rw [List.map_cons, List.map_cons] at h
      injection h with h1 h2
      injection h1 with h1
      rw [h1, ih h2]
theorem mS_val (sts : List S5) (s : S5) : (valG (mS sts) (s.map Sum.inl)).isSome = decide (s ∈ sts) := by
  rw [Bool.eq_iff_iff, valG_some, decide_eq_true_iff]
  unfold mS
  rw [List.map_map, List.mem_map]
  exact ⟨fun ⟨t, h1, h2⟩ => inl_inj h2 ▸ h1, fun h => ⟨s, h, rfl⟩⟩
theorem mS_put (sts : List S5) (s : S5) : putG (mS sts) (s.map Sum.inl) (.bl true) = mS (if s ∈ sts then sts else sts ++ [s]) := by
  unfold putG
  rw [mS_val]
  by_cases h : s ∈ sts
  · rw [decide_eq_true h, if_pos rfl, if_pos h]
    unfold mS
    rw [List.map_map]
    refine List.map_congr_left fun t _ => ?_
    by_cases hc : t.map (Sum.inl : Int → Itm) = s.map Sum.inl
    · simp [hc]
    · simp [hc]
  · rw [decide_eq_false h, if_neg (by decide), if_neg h]
    unfold mS
    rw [List.map_append]
    rfl
theorem ok_any {β : Type} {R : Hp → V → β → Prop} {f : β → S5 → Option S5} {k : Nat} (T : Txt w K mg a) (hR : ∀ H H' v x, Same H H' → R H v x → R H' v x) (hf5 : ∀ x s s', s.length = 5 → f x s = some s' → s'.length = 5)
    (G_after : FnOk P w K mg base CX0 k a.after a.fd_after ["policy", "state"] (sp_afterG R f)) : FnOk P w K mg base CX0 (k + 1) a.after_any a.fd_after_any ["policies", "states"] (sp_anyG R f) := by
  refine T.fn_after_any.ok sc_after_any (fun vs H Q E h => ?_) (fun cdv A outer s H vs Q E hr h => ?_)
  · obtain ⟨_, _, _, _, _, _, rfl, _⟩ := h
    rfl
  · obtain ⟨lp, ls, us, ss, xs, sts, rfl, hlp, hro, hz, hls, hrs, hzs, h5, kq⟩ := h
    refine ⟨_, (pss_cons (ps_set (i := 2) sc_after_any.nd rfl (Or.inl rfl) (pe_nnew (w := w)))
  (pss_cons (ps_for PassesOwn.never rfl (pi_listK (K := K) (pv 1)) (pg_name (i := 3) sc_after_any.nd rfl (Or.inl rfl))
  (pss_one (ps_for PassesOwn.never rfl (pi_listK (K := K) (pv 0)) (pg_name (i := 4) sc_after_any.nd rfl (Or.inl rfl))
  (pss_one (ps_for PassesOwn.never rfl (pi_listK (K := K) (pe_call G_after (hr.mono (by first | decide | omega)) rfl T.mg_after T.kp_after T.bi_after .nil pass0 (pa_cons (pv 4) (pa_cons (pv 3) pa_nil)))) (pg_name (i := 5) sc_after_any.nd rfl (Or.inl rfl))
  (pss_one (ps_nput (w := w) (r64 hr) (pv 2) (pv 5) pe_bl rfl)))))))
  (pss_one (ps_ret (pe_callTy (call_listN (w := w) rfl) (by rfl) T.mg_list (by decide +kernel) (pa_cons (pv 2) pa_nil)))))), ?_⟩
    have hs := Hs.start H
    walk_at "ss"
    rename_i d H1 hs1
    clear hs
    -- found holds the states so far
    refine w_forL (SqL.of (hs1.same _ _ hls)) (fun i σ' H' => ∃ (B : Hp) (es : List Ent) (v3 v4 v5 : Option V), σ' = [some (.ref lp), some (.ref ls), some (.ref d), v3, v4, v5] ∧ Same H B ∧ Hs B [(d, DN w d es)] H' ∧ EntG B es (mS (dd ((sts.take i).flatMap fun s => xs.filterMap fun x => f x s))))
      (fun Q' q => ?_) ⟨H, [], none, none, none, rfl, Same.refl _, hs1, EntG.nil⟩ (fun i σ' H' _ ⟨B, es, v3, v4, v5, _, sm, h, _⟩ => SqL.of (h.same _ _ (sm _ _ hls))) ?_ ?_
    · walk_at "ss"
      exact q
    · clear hs1
      rintro i u σ' H' hu ⟨B, es, v3, v4, v5, rfl, sm, hs2, he⟩
      obtain ⟨st, hst, t, rfl, ht⟩ := hrs.get hu
      have hst5 := h5 st (List.mem_of_getElem? hst)
      walk_at "ss"
      have etk : (sts.take (i + 1)).flatMap (fun s => xs.filterMap fun x => f x s) = ((sts.take i).flatMap fun s => xs.filterMap fun x => f x s) ++ xs.filterMap fun x => f x st := by
        rw [List.take_add_one, hst, List.flatMap_append]
        simp
      have hib : i < 100 := by
        have := (List.getElem?_eq_some_iff.mp hu).1
        omega
      generalize hacc : dd ((sts.take i).flatMap fun s => xs.filterMap fun x => f x s) = acc at he
      have hal : acc.length ≤ 10000 := by
        rw [← hacc]
        refine Nat.le_trans (ddA_len _ _) ?_
        rw [List.length_nil, Nat.zero_add, List.length_flatMap]
        have : ∀ l : List S5, (l.map fun s => (xs.filterMap fun x => f x s).length).sum ≤ l.length * 100 := fun l => by
          induction l with
          | nil => exact Nat.le_refl _
          | cons s l ih =>
            rw [List.map_cons, List.sum_cons, List.length_cons]
            have := List.length_filterMap_le (fun x => f x s) xs
            have := hro.1
            omega
        have h1 := this (sts.take i)
        rw [List.length_take] at h1
        have h2 : min i sts.length ≤ 100 := by omega
        omega
      refine w_forL (SqL.of (hs2.same _ _ (sm _ _ hlp))) (fun j σ' H' => ∃ (B : Hp) (es : List Ent) (v4 v5 : Option V), σ' = [some (.ref lp), some (.ref ls), some (.ref d), some (.ref t), v4, v5] ∧ Same H B ∧ Hs B [(d, DN w d es)] H' ∧ EntG B es (mS (ddA acc ((xs.take j).filterMap fun x => f x st))))
        (fun Q' q => ?_) ⟨B, es, v4, v5, rfl, sm, hs2, he⟩ (fun i σ' H' _ ⟨B, es, v4, v5, _, sm, h, _⟩ => SqL.of (h.same _ _ (sm _ _ hlp))) ?_ ?_
      · walk_at "ss"
        exact q
      · clear hs2 he sm
        clear B es v3 v4 v5
        rintro j v σ' H2 hv ⟨B, es, v4, v5, rfl, sm, hs3, he⟩
        obtain ⟨x, hx, hRx⟩ := hro.get hv
        have hjb : j < 100 := by
          have := (List.getElem?_eq_some_iff.mp hv).1
          omega
        walk_at "ss"
        refine w_forS ?_
        walk_at "ss"
        refine ⟨v, t, x, st, rfl, hR _ _ _ _ (sm.trans hs3.same) hRx, (sm.trans hs3.same) _ _ ht, hst5, fun l ys H3 sm3 hln hl hry => ?_⟩
        have hs4 := (Hs_own hs3 sm3 hln hl).m1
        clear hs3
        have etk2 : (xs.take (j + 1)).filterMap (fun x => f x st) = ((xs.take j).filterMap fun x => f x st) ++ (f x st).toList := by
          rw [List.take_add_one, hx, List.filterMap_append]
          show _ ++ List.filterMap _ [x] = _
          rw [List.filterMap_cons]
          cases f x st with
          | none => rfl
          | some z => rfl
        generalize hacc2 : ddA acc ((xs.take j).filterMap fun x => f x st) = acc2 at he
        have hal2 : acc2.length ≤ 20000 := by
          rw [← hacc2]
          refine Nat.le_trans (ddA_len _ _) ?_
          have := List.length_filterMap_le (fun x => f x st) (xs.take j)
          rw [List.length_take] at this
          omega
        obtain ⟨B2, smB, hs5, hgt⟩ := hs4.ground rfl
        have he2 := he.same smB
        have hry2 : Row (StAt B2) ys (f x st).toList := hry.mono fun u s => StAt.mono hgt
        clear hs4 he
        have sm2 := sm.trans smB
        refine w_forL (SqL.of hs5.g1) (fun m σ' H' => ∃ (es : List Ent) (v5 : Option V), σ' = [some (.ref lp), some (.ref ls), some (.ref d), some (.ref t), some v, v5] ∧ Hs B2 [(d, DN w d es), (l, .lst ys)] H' ∧ EntG B2 es (mS (ddA acc2 ((f x st).toList.take m))))
          (fun Q' q => q) ⟨es, v5, rfl, hs5, by rw [List.take_zero]; exact he2⟩ (fun i σ' H' _ ⟨es, v5, _, h, _⟩ => SqL.of h.g1) ?_ ?_
        · clear hs5 he2
          rintro m y σ' H4 hy ⟨es, v5, rfl, hs6, he3⟩
          obtain ⟨s2, hs2', t2, rfl, ht2⟩ := hry2.get hy
          have hm1 : m = 0 := by
            have h1 := (List.getElem?_eq_some_iff.mp hs2').1
            have h2 : (f x st).toList.length ≤ 1 := by
              cases f x st with
              | none => exact Nat.zero_le _
              | some z => exact Nat.le_refl _
            omega
          walk_at "ss"
          refine wg_put hs6 .here he3 (kat_ints ht2) ?_ fun H5 hs7 he4 => ?_
          · unfold mS
            rw [List.length_map]
            have := ddA_len ((f x st).toList.take m) acc2
            rw [List.length_take] at this
            omega
          rw [mS_put] at he4
          refine ⟨_, _, rfl, hs7, ?_⟩
          have e3 : ddA acc2 ((f x st).toList.take (m + 1)) = if s2 ∈ ddA acc2 ((f x st).toList.take m) then ddA acc2 ((f x st).toList.take m) else ddA acc2 ((f x st).toList.take m) ++ [s2] := by
            rw [List.take_add_one, hs2', dd_app]
            rfl
          rw [e3]
          exact he4
        · rintro σ' H4 ⟨es, v5, rfl, hs6, he3⟩
          rw [hry.1, List.take_length] at he3
          refine ⟨B2, es, some v, v5, rfl, sm2, hs6.sel [0], ?_⟩
          rw [etk2, dd_app, hacc2]
          exact he3
      · rintro σ' H2 ⟨B, es, v4, v5, rfl, sm, hs3, he⟩
        rw [hro.1, List.take_length] at he
        refine ⟨B, es, some (.ref t), v4, v5, rfl, sm, hs3, ?_⟩
        rw [etk]
        unfold dd at hacc ⊢
        rw [dd_app, hacc]
        exact he
    · rintro σ' H' ⟨B, es, v3, v4, v5, rfl, sm, hs2, he⟩
      rw [hrs.1, List.take_length] at he
      walk_at "ss"
      refine wg_list hs2 hs2.g0 fun l H2 hs3 => ?_
      refine kq l _ H2 (sm.trans hs3.same) (sm.free (hs3.out _ List.mem_cons_self)) hs3.g0 ?_
      have hrow := he.row
      unfold mS at hrow
      rw [List.map_map] at hrow
      generalize dd (sts.flatMap fun s => xs.filterMap fun x => f x s) = out at hrow
      generalize (es.map fun e => V.ref e.2.1) = ys at hrow
      have key : ∀ {ys : List V} {out : List S5}, Paired (fun (v : V) (x : IK) => ∃ p : Addr, v = .ref p ∧ KAt B p x) ys (out.map ((fun x : IK × V => x.1) ∘ fun s : S5 => (s.map Sum.inl, V.bl true))) → Row (StAt H2) ys out := by
        intro ys out h
        induction out generalizing ys with
        | nil =>
          cases h
          exact Row.nil
        | cons s out ih =>
          cases h with
          | cons h1 h2 =>
            obtain ⟨p, rfl, hp⟩ := h1
            exact Row.cons ⟨p, rfl, hs3.same _ _ (kat_ints_inv hp)⟩ (ih h2)
      exact key hrow
end
local macro_rules | `(tactic| walk_at "v") => `(tactic| first | exact v0 | exact v1 | exact v2 | exact v3 | exact v4 | exact v5 | exact v6 | exact v7 | exact v8)
local macro_rules | `(tactic| walk_at "vs") => `(tactic| first | exact st0 | exact st1 | exact st2 | exact st3 | exact st4 | exact st5 | exact st6 | exact st7 | exact st8)
local macro_rules | `(tactic| walk_at "s") => `(tactic| first
  | with_reducible refine w_dget ?_
  | ((with_reducible refine' w_dgetZ ?h ?nd ?hk ?hv ?_); (case h => walk_at "g"); (case nd => walk_at "nd"); (case hk => walk_at "k"); (case hv => walk_at "v"))
  | ((with_reducible refine' w_dputZ ?hs ?h ?nd ?hk ?hv ?hu ?hl ?_); (case hs => assumption); (case h => walk_at "p"); (case nd => walk_at "nd"); (case hk => walk_at "k"); (case hv => walk_at "v"); (case hu => walk_at "vs"); (case hl => decide); intro _ _)
  | with_reducible refine w_gsub ?_
  | with_reducible refine w_setD ?_
  | with_reducible refine w_disp ?_
  | ((with_reducible refine' w_newP ?hs ?_); (case hs => assumption); intro _ _ _)
  | with_reducible refine w_pcons ?_
  | with_reducible refine w_pnil ?_)

local macro_rules | `(tactic| walk_at "s") => `(tactic| first
  | with_reducible refine w_nget ?_
  | with_reducible refine w_nin ?_
  | with_reducible refine w_nnot ?_
  | with_reducible refine w_nput ?_
  | with_reducible refine w_ndel ?_
  | with_reducible refine w_npop ?_
  | ((with_reducible refine' w_nnew ?hs ?_); (case hs => assumption); intro _ _ _))

section
variable {P : Program} [IsP P] {w : World} {K : PySem.W.Frag} {mg : Str → Option Value} {base : Heap} {a : Ad}
theorem ok_after_act (T : Txt w K mg a) : FnOk P w K mg base CX0 3 a.after a.fd_after ["policy", "state"] (sp_afterG ActAt actM) := by
  have G_test_holds := ok_test_holds (P := P) (w := w) (base := base) T
  have G_with_number := ok_with_number (P := P) (w := w) (base := base) T
  have G_after_any : FnOk P w K mg base CX0 0 a.after_any a.fd_after_any ["policies", "states"] spF := fn_F
  have G_after_star : FnOk P w K mg base CX0 0 a.after_star a.fd_after_star ["policy", "state"] spF := fn_F
  refine T.fn_after.ok sc_after (fun vs H Q E h => ?_) (fun cdv A outer s H vs Q E hr h => ?_)
  · obtain ⟨_, _, _, _, rfl, _⟩ := h
    rfl
  · obtain ⟨v, th, x, s, rfl, hx, hth, hl, k⟩ := h
    refine ⟨_, (pss_cons (ps_set (i := 2) sc_after.nd rfl (Or.inl rfl) (pe_ix (ix_tupK (K := K)) (pv 0) pe_int (fun _ _ => rfl)))
  (pss_cons (ps_if (pt_cmpR op_eq (pv 2) pe_str (nomark _))
  (pss_one (ps_ret (pe_ifExp (pt_val (pe_call G_test_holds (hr.mono (by first | decide | omega)) rfl T.mg_test_holds T.kp_test_holds T.bi_test_holds .nil pass0 (pa_cons (pe_ix (ix_tupK (K := K)) (pv 0) pe_int (fun _ _ => rfl)) (pa_cons (pv 1) pa_nil)))) (pe_lst (pa_cons (pv 1) pa_nil)) (pe_lst pa_nil))))
  pss_nil)
  (pss_cons (ps_if (pt_cmpR op_eq (pv 2) pe_str (nomark _))
  (pss_one (ps_ret (pe_lst (pa_cons (pe_call G_with_number (hr.mono (by first | decide | omega)) rfl T.mg_with_number T.kp_with_number T.bi_with_number .nil pass0 (pa_cons (pv 1) (pa_cons (pe_ix (ix_tupK (K := K)) (pv 0) pe_int (fun _ _ => rfl)) (pa_cons (pe_ix (ix_tupK (K := K)) (pv 0) pe_int (fun _ _ => rfl)) pa_nil)))) pa_nil))))
  pss_nil)
  (pss_cons (ps_if (pt_cmpR op_eq (pv 2) pe_str (nomark _))
  (pss_one (ps_ret (pe_call G_after_any (hr.mono (by first | decide | omega)) rfl T.mg_after_any T.kp_after_any T.bi_after_any .nil pass0 (pa_cons (pe_ix (ix_tupK (K := K)) (pv 0) pe_int (fun _ _ => rfl)) (pa_cons (pe_lst (pa_cons (pv 1) pa_nil)) pa_nil)))))
  pss_nil)
  (pss_cons (ps_if (pt_cmpR op_eq (pv 2) pe_str (nomark _))
  (pss_one (ps_ret (pe_call G_after_star (hr.mono (by first | decide | omega)) rfl T.mg_after_star T.kp_after_star T.bi_after_star .nil pass0 (pa_cons (pe_ix (ix_tupK (K := K)) (pv 0) pe_int (fun _ _ => rfl)) (pa_cons (pv 1) pa_nil)))))
  pss_nil)
  (pss_cons (ps_set (i := 3) sc_after.nd rfl (Or.inl rfl) (pe_lst (pa_cons (pv 1) pa_nil)))
  (pss_cons (ps_for PassesOwn.never rfl (pi_listK (K := K) (pe_ix (ix_tupK (K := K)) (pv 0) pe_int (fun _ _ => rfl))) (pg_name (i := 4) sc_after.nd rfl (Or.inl rfl))
  (pss_one (ps_set (i := 3) sc_after.nd rfl (Or.inl rfl) (pe_call G_after_any (hr.mono (by first | decide | omega)) rfl T.mg_after_any T.kp_after_any T.bi_after_any .nil pass0 (pa_cons (pe_lst (pa_cons (pv 4) pa_nil)) (pa_cons (pv 3) pa_nil))))))
  (pss_one (ps_ret (pv 3)))))))))), ?_⟩
    have hs := Hs.start H
    cases x with
    | test t =>
      obtain ⟨p, u, rfl, hp, hu⟩ := hx
      walk_at "ss"
      refine ifd (fun _ => ?_) (fun h => absurd rfl h)
      walk_at "ss"
      refine ⟨u, th, t, s, rfl, hu, hth, hl, fun H1 sm1 => ?_⟩
      have hs1 := hs.keep sm1
      clear hs
      walk_at "ss"
      cases hh : holds t s with
      | true =>
        refine iteT ?_
        walk_at "ss"
        rename_i l H2 hs2
        refine k l _ H2 hs2.same (hs2.out _ List.mem_cons_self) hs2.g0 ?_
        have e : actM (.test t) s = some s := if_pos hh
        rw [e]
        exact Row.cons ⟨th, rfl, hs2.same _ _ hth⟩ Row.nil
      | false =>
        refine iteF ?_
        walk_at "ss"
        rename_i l H2 hs2
        refine k l _ H2 hs2.same (hs2.out _ List.mem_cons_self) hs2.g0 ?_
        have e : actM (.test t) s = none := if_neg (by rw [hh]; decide)
        rw [e]
        exact Row.nil
    | set f n =>
      obtain ⟨p, rfl, hp, hf⟩ := hx
      walk_at "ss"
      refine ifd (fun h => absurd h (by decide)) (fun _ => ?_)
      walk_at "ss"
      refine ifd (fun _ => ?_) (fun h => absurd rfl h)
      walk_at "ss"
      refine ⟨th, f, n, s, rfl, hf, hth, hl, fun t H1 sm1 ht0 ht => ?_⟩
      have hs1 := Hs_own hs sm1 ht0 ht
      clear hs
      walk_at "ss"
      rename_i l H2 hs2
      exact k l _ H2 hs2.same (hs2.out _ List.mem_cons_self) hs2.g0 (Row.cons ⟨t, rfl, hs2.g1⟩ Row.nil)
theorem ok_any_act (T : Txt w K mg a) : FnOk P w K mg base CX0 4 a.after_any a.fd_after_any ["policies", "states"] (sp_anyG ActAt actM) := ok_any T (fun _ _ _ _ e h => ActAt.same e h) (fun _ _ _ h e => actM_len h e) (ok_after_act T)
def sp_after_seq : Sp := fun vs H Q _ => ∃ (v : V) (th : Addr) (xs : List Act) (s : S5), vs = [v, .ref th] ∧ PartAt H v (.seq xs) ∧ H th = some (.tup (s.map V.int)) ∧ s.length = 5 ∧
  ∀ l us H', Same H H' → H l = none → H' l = some (.lst us) → Row (StAt H') us (seqM xs s).toList → Q (.ref l) H'
/-- one state or none, through a list of acts -/
def stepO (o : Option S5) (x : Act) : Option S5 := o.bind (actM x)
theorem seq_fold : ∀ (xs : List Act) (o : Option S5), xs.foldl stepO o = o.bind (seqM xs)
  | [], o => by
    cases o with
    | none => rfl
    | some s => rfl
  | x :: xs, o => by
    rw [List.foldl_cons, seq_fold xs]
    cases o with
    | none => rfl
    | some s => rfl
theorem dd_one (o : Option S5) (x : Act) : dd (o.toList.flatMap fun s => [x].filterMap fun y => actM y s) = (stepO o x).toList := by
  cases o with
  | none => rfl
  | some s =>
    show dd (([x].filterMap fun y => actM y s) ++ []) = (actM x s).toList
    rw [List.append_nil, List.filterMap_cons]
    cases h : actM x s with
    | none => rfl
    | some z => rfl
theorem ok_after_seq (T : Txt w K mg a) : FnOk P w K mg base CX0 5 a.after a.fd_after ["policy", "state"] sp_after_seq := by
  have G_test_holds := ok_test_holds (P := P) (w := w) (base := base) T
  have G_with_number := ok_with_number (P := P) (w := w) (base := base) T
  have G_after_any := ok_any_act (P := P) (w := w) (base := base) T
  have G_after_star : FnOk P w K mg base CX0 0 a.after_star a.fd_after_star ["policy", "state"] spF := fn_F
  refine T.fn_after.ok sc_after (fun vs H Q E h => ?_) (fun cdv A outer s H vs Q E hr h => ?_)
  · obtain ⟨_, _, _, _, rfl, _⟩ := h
    rfl
  · obtain ⟨v, th, xs, s, rfl, ⟨p, l0, us, rfl, hp, hl0, hro, hz⟩, hth, hl, k⟩ := h
    refine ⟨_, (pss_cons (ps_set (i := 2) sc_after.nd rfl (Or.inl rfl) (pe_ix (ix_tupK (K := K)) (pv 0) pe_int (fun _ _ => rfl)))
  (pss_cons (ps_if (pt_cmpR op_eq (pv 2) pe_str (nomark _))
  (pss_one (ps_ret (pe_ifExp (pt_val (pe_call G_test_holds (hr.mono (by first | decide | omega)) rfl T.mg_test_holds T.kp_test_holds T.bi_test_holds .nil pass0 (pa_cons (pe_ix (ix_tupK (K := K)) (pv 0) pe_int (fun _ _ => rfl)) (pa_cons (pv 1) pa_nil)))) (pe_lst (pa_cons (pv 1) pa_nil)) (pe_lst pa_nil))))
  pss_nil)
  (pss_cons (ps_if (pt_cmpR op_eq (pv 2) pe_str (nomark _))
  (pss_one (ps_ret (pe_lst (pa_cons (pe_call G_with_number (hr.mono (by first | decide | omega)) rfl T.mg_with_number T.kp_with_number T.bi_with_number .nil pass0 (pa_cons (pv 1) (pa_cons (pe_ix (ix_tupK (K := K)) (pv 0) pe_int (fun _ _ => rfl)) (pa_cons (pe_ix (ix_tupK (K := K)) (pv 0) pe_int (fun _ _ => rfl)) pa_nil)))) pa_nil))))
  pss_nil)
  (pss_cons (ps_if (pt_cmpR op_eq (pv 2) pe_str (nomark _))
  (pss_one (ps_ret (pe_call G_after_any (hr.mono (by first | decide | omega)) rfl T.mg_after_any T.kp_after_any T.bi_after_any .nil pass0 (pa_cons (pe_ix (ix_tupK (K := K)) (pv 0) pe_int (fun _ _ => rfl)) (pa_cons (pe_lst (pa_cons (pv 1) pa_nil)) pa_nil)))))
  pss_nil)
  (pss_cons (ps_if (pt_cmpR op_eq (pv 2) pe_str (nomark _))
  (pss_one (ps_ret (pe_call G_after_star (hr.mono (by first | decide | omega)) rfl T.mg_after_star T.kp_after_star T.bi_after_star .nil pass0 (pa_cons (pe_ix (ix_tupK (K := K)) (pv 0) pe_int (fun _ _ => rfl)) (pa_cons (pv 1) pa_nil)))))
  pss_nil)
  (pss_cons (ps_set (i := 3) sc_after.nd rfl (Or.inl rfl) (pe_lst (pa_cons (pv 1) pa_nil)))
  (pss_cons (ps_for PassesOwn.never rfl (pi_listK (K := K) (pe_ix (ix_tupK (K := K)) (pv 0) pe_int (fun _ _ => rfl))) (pg_name (i := 4) sc_after.nd rfl (Or.inl rfl))
  (pss_one (ps_set (i := 3) sc_after.nd rfl (Or.inl rfl) (pe_call G_after_any (hr.mono (by first | decide | omega)) rfl T.mg_after_any T.kp_after_any T.bi_after_any .nil pass0 (pa_cons (pe_lst (pa_cons (pv 4) pa_nil)) (pa_cons (pv 3) pa_nil))))))
  (pss_one (ps_ret (pv 3)))))))))), ?_⟩
    have hs := Hs.start H
    walk_at "ss"
    refine ifd (fun h => absurd h (by decide)) (fun _ => ?_)
    walk_at "ss"
    refine ifd (fun h => absurd h (by decide)) (fun _ => ?_)
    walk_at "ss"
    refine ifd (fun h => absurd h (by decide)) (fun _ => ?_)
    walk_at "ss"
    refine ifd (fun h => absurd h (by decide)) (fun _ => ?_)
    walk_at "ss"
    rename_i l1 H1 hs1
    clear hs
    refine w_forL (SqL.of (hs1.same _ _ hl0)) (fun i σ' H' => ∃ (l : Addr) (ys : List V) (v4 : Option V), σ' = [some (.ref p), some (.ref th), some (.str "seq"), some (.ref l), v4] ∧ Same H H' ∧ H l = none ∧ H' l = some (.lst ys) ∧ Row (StAt H') ys ((xs.take i).foldl stepO (some s)).toList ∧ ∀ z, (xs.take i).foldl stepO (some s) = some z → z.length = 5)
      (fun Q' q => ?_) ⟨l1, _, none, rfl, hs1.same, hs1.out _ List.mem_cons_self, hs1.g0, Row.cons ⟨th, rfl, hs1.same _ _ hth⟩ Row.nil, fun z hz => by cases hz; exact hl⟩ (fun i σ' H' _ ⟨_, _, _, _, sm, _⟩ => SqL.of (sm _ _ hl0)) ?_ ?_
    · walk_at "ss"
      exact q
    · clear hs1
      rintro i v σ' H2 hv ⟨l, ys, v4, rfl, sm, hl0n, hly, hry, h5⟩
      obtain ⟨x, hx, hRx⟩ := hro.get hv
      have hs2 := Hs.start H2
      walk_at "ss"
      rename_i lp H3 hs3
      have hry3 := hry.mono fun u s => StAt.mono (H' := H3) fun _ _ e => hs3.same _ _ e
      refine ⟨lp, l, [v], ys, [x], _, rfl, hs3.g0, Row.cons (ActAt.same (sm.trans hs3.same) hRx) Row.nil, (show 1 ≤ 100 by decide), hs3.same _ _ hly, hry3, ?_, ?_, fun l2 zs H4 sm4 hn4 h4 hr4 => ?_⟩
      · rw [hry.1]
        cases (xs.take i).foldl stepO (some s) with
        | none => exact Nat.zero_le _
        | some z => exact (by decide : 1 ≤ 100)
      · intro z hz
        cases hq : (xs.take i).foldl stepO (some s) with
        | none =>
          rw [hq] at hz
          cases hz
        | some z2 =>
          rw [hq] at hz
          rw [List.mem_singleton.mp (show z ∈ [z2] from hz)]
          exact h5 z2 hq
      · rw [dd_one] at hr4
        have efold : (xs.take (i + 1)).foldl stepO (some s) = stepO ((xs.take i).foldl stepO (some s)) x := by
          rw [List.take_add_one, hx, List.foldl_append]
          rfl
        have sm5 := hs3.same.trans sm4
        walk_at "ss"
        refine ⟨l2, zs, some v, rfl, sm.trans sm5, (sm.trans hs3.same).free hn4, h4, by rw [efold]; exact hr4, fun z hz => ?_⟩
        rw [efold] at hz
        cases hq : (xs.take i).foldl stepO (some s) with
        | none =>
          rw [hq] at hz
          cases hz
        | some z2 =>
          rw [hq] at hz
          exact actM_len (h5 z2 hq) hz
    · rintro σ' H' ⟨l, ys, v4, rfl, sm, hl0n, hly, hry, h5⟩
      rw [hro.1, List.take_length, seq_fold] at hry
      walk_at "ss"
      exact k l ys H' sm hl0n hly hry
theorem ok_after_part (T : Txt w K mg a) : FnOk P w K mg base CX0 5 a.after a.fd_after ["policy", "state"] (sp_afterG PartAt partM) :=
  (fn_or ((ok_after_act T).mono (by decide)) (ok_after_seq T)).imp fun vs H Q E ⟨v, th, x, s, e, hx, hth, hl, k⟩ => by
    cases x with
    | act y => exact .inl ⟨v, th, y, s, e, hx, hth, hl, k⟩
    | seq xs => exact .inr ⟨v, th, xs, s, e, hx, hth, hl, k⟩
theorem ok_any_part (T : Txt w K mg a) : FnOk P w K mg base CX0 6 a.after_any a.fd_after_any ["policies", "states"] (sp_anyG PartAt partM) := ok_any T (fun _ _ _ _ e h => PartAt.same e h) (fun _ _ _ h e => partM_len h e) (ok_after_part T)
def sp_after_pol : Sp := fun vs H Q _ => ∃ (v : V) (th : Addr) (ps : List Part) (s : S5), vs = [v, .ref th] ∧ PolAt H v ps ∧ H th = some (.tup (s.map V.int)) ∧ s.length = 5 ∧
  ∀ l us H', Same H H' → H l = none → H' l = some (.lst us) → Row (StAt H') us (polM ps s) → Q (.ref l) H'
theorem ok_after_pol (T : Txt w K mg a) : FnOk P w K mg base CX0 7 a.after a.fd_after ["policy", "state"] sp_after_pol := by
  have G_test_holds := ok_test_holds (P := P) (w := w) (base := base) T
  have G_with_number := ok_with_number (P := P) (w := w) (base := base) T
  have G_after_any := ok_any_part (P := P) (w := w) (base := base) T
  have G_after_star : FnOk P w K mg base CX0 0 a.after_star a.fd_after_star ["policy", "state"] spF := fn_F
  refine T.fn_after.ok sc_after (fun vs H Q E h => ?_) (fun cdv A outer s H vs Q E hr h => ?_)
  · obtain ⟨_, _, _, _, rfl, _⟩ := h
    rfl
  · obtain ⟨v, th, ps, s, rfl, ⟨p, l0, us, rfl, hp, hl0, hro, hz⟩, hth, hl, k⟩ := h
    refine ⟨_, (pss_cons (ps_set (i := 2) sc_after.nd rfl (Or.inl rfl) (pe_ix (ix_tupK (K := K)) (pv 0) pe_int (fun _ _ => rfl)))
  (pss_cons (ps_if (pt_cmpR op_eq (pv 2) pe_str (nomark _))
  (pss_one (ps_ret (pe_ifExp (pt_val (pe_call G_test_holds (hr.mono (by first | decide | omega)) rfl T.mg_test_holds T.kp_test_holds T.bi_test_holds .nil pass0 (pa_cons (pe_ix (ix_tupK (K := K)) (pv 0) pe_int (fun _ _ => rfl)) (pa_cons (pv 1) pa_nil)))) (pe_lst (pa_cons (pv 1) pa_nil)) (pe_lst pa_nil))))
  pss_nil)
  (pss_cons (ps_if (pt_cmpR op_eq (pv 2) pe_str (nomark _))
  (pss_one (ps_ret (pe_lst (pa_cons (pe_call G_with_number (hr.mono (by first | decide | omega)) rfl T.mg_with_number T.kp_with_number T.bi_with_number .nil pass0 (pa_cons (pv 1) (pa_cons (pe_ix (ix_tupK (K := K)) (pv 0) pe_int (fun _ _ => rfl)) (pa_cons (pe_ix (ix_tupK (K := K)) (pv 0) pe_int (fun _ _ => rfl)) pa_nil)))) pa_nil))))
  pss_nil)
  (pss_cons (ps_if (pt_cmpR op_eq (pv 2) pe_str (nomark _))
  (pss_one (ps_ret (pe_call G_after_any (hr.mono (by first | decide | omega)) rfl T.mg_after_any T.kp_after_any T.bi_after_any .nil pass0 (pa_cons (pe_ix (ix_tupK (K := K)) (pv 0) pe_int (fun _ _ => rfl)) (pa_cons (pe_lst (pa_cons (pv 1) pa_nil)) pa_nil)))))
  pss_nil)
  (pss_cons (ps_if (pt_cmpR op_eq (pv 2) pe_str (nomark _))
  (pss_one (ps_ret (pe_call G_after_star (hr.mono (by first | decide | omega)) rfl T.mg_after_star T.kp_after_star T.bi_after_star .nil pass0 (pa_cons (pe_ix (ix_tupK (K := K)) (pv 0) pe_int (fun _ _ => rfl)) (pa_cons (pv 1) pa_nil)))))
  pss_nil)
  (pss_cons (ps_set (i := 3) sc_after.nd rfl (Or.inl rfl) (pe_lst (pa_cons (pv 1) pa_nil)))
  (pss_cons (ps_for PassesOwn.never rfl (pi_listK (K := K) (pe_ix (ix_tupK (K := K)) (pv 0) pe_int (fun _ _ => rfl))) (pg_name (i := 4) sc_after.nd rfl (Or.inl rfl))
  (pss_one (ps_set (i := 3) sc_after.nd rfl (Or.inl rfl) (pe_call G_after_any (hr.mono (by first | decide | omega)) rfl T.mg_after_any T.kp_after_any T.bi_after_any .nil pass0 (pa_cons (pe_lst (pa_cons (pv 4) pa_nil)) (pa_cons (pv 3) pa_nil))))))
  (pss_one (ps_ret (pv 3)))))))))), ?_⟩
    have hs := Hs.start H
    walk_at "ss"
    refine ifd (fun h => absurd h (by decide)) (fun _ => ?_)
    walk_at "ss"
    refine ifd (fun h => absurd h (by decide)) (fun _ => ?_)
    walk_at "ss"
    refine ifd (fun _ => ?_) (fun h => absurd rfl h)
    walk_at "ss"
    rename_i l1 H1 hs1
    refine ⟨l0, l1, us, _, ps, [s], rfl, hs1.same _ _ hl0, hro.mono fun _ _ => PartAt.same hs1.same, hz, hs1.g0, Row.cons ⟨th, rfl, hs1.same _ _ hth⟩ Row.nil, (show 1 ≤ 100 by decide), fun z hz => by rw [List.mem_singleton.mp hz]; exact hl, fun l ys H2 sm2 hn2 h2 hr2 => ?_⟩
    refine k l ys H2 (hs1.same.trans sm2) (hs1.same.free hn2) h2 ?_
    have e : dd ([s].flatMap fun s => ps.filterMap fun x => partM x s) = polM ps s := by
      unfold polM
      rw [List.flatMap_cons, List.flatMap_nil, List.append_nil]
    rw [← e]
    exact hr2
end
local macro_rules | `(tactic| walk_at "v") => `(tactic| first | exact v0 | exact v1 | exact v2 | exact v3 | exact v4 | exact v5 | exact v6 | exact v7 | exact v8)
local macro_rules | `(tactic| walk_at "vs") => `(tactic| first | exact st0 | exact st1 | exact st2 | exact st3 | exact st4 | exact st5 | exact st6 | exact st7 | exact st8)
local macro_rules | `(tactic| walk_at "s") => `(tactic| first
  | with_reducible refine w_dget ?_
  | ((with_reducible refine' w_dgetZ ?h ?nd ?hk ?hv ?_); (case h => walk_at "g"); (case nd => walk_at "nd"); (case hk => walk_at "k"); (case hv => walk_at "v"))
  | ((with_reducible refine' w_dputZ ?hs ?h ?nd ?hk ?hv ?hu ?hl ?_); (case hs => assumption); (case h => walk_at "p"); (case nd => walk_at "nd"); (case hk => walk_at "k"); (case hv => walk_at "v"); (case hu => walk_at "vs"); (case hl => decide); intro _ _)
  | with_reducible refine w_gsub ?_
  | with_reducible refine w_setD ?_
  | with_reducible refine w_disp ?_
  | ((with_reducible refine' w_newP ?hs ?_); (case hs => assumption); intro _ _ _)
  | with_reducible refine w_pcons ?_
  | with_reducible refine w_pnil ?_)

local macro_rules | `(tactic| walk_at "s") => `(tactic| first
  | with_reducible refine w_nget ?_
  | with_reducible refine w_nin ?_
  | with_reducible refine w_nnot ?_
  | with_reducible refine w_nput ?_
  | with_reducible refine w_ndel ?_
  | with_reducible refine w_npop ?_
  | ((with_reducible refine' w_nnew ?hs ?_); (case hs => assumption); intro _ _ _))

/-! ## what a policy does at a place -/
def itS (s : S5) : IK := [.inl (s.getD 1 0), .inr (s.drop 2)]
def doesM (ps : List Part) (sw port : Int) (h : List Int) : List IK := srtK ((polM ps (sw :: port :: h)).map itS)
theorem dd_mem : ∀ (xs acc : List S5) (s : S5), s ∈ ddA acc xs ↔ s ∈ acc ∨ s ∈ xs
  | [], acc, s => by
    show s ∈ acc ↔ _
    simp
  | x :: xs, acc, s => by
    show s ∈ ddA (if x ∈ acc then acc else acc ++ [x]) xs ↔ _
    rw [dd_mem xs]
    by_cases h : x ∈ acc
    · rw [if_pos h, List.mem_cons]
      constructor
      · rintro (h1 | h1)
        · exact .inl h1
        · exact .inr (.inr h1)
      · rintro (h1 | h1 | h1)
        · exact .inl h1
        · exact .inl (h1 ▸ h)
        · exact .inr h1
    · rw [if_neg h, List.mem_cons, List.mem_append, List.mem_singleton]
      constructor
      · rintro ((h1 | h1) | h1)
        · exact .inl h1
        · exact .inr (.inl h1)
        · exact .inr (.inr h1)
      · rintro (h1 | h1 | h1)
        · exact .inl (.inl h1)
        · exact .inl (.inr h1)
        · exact .inr h1
theorem pol_len {ps : List Part} {s z : S5} (h : s.length = 5) (hz : z ∈ polM ps s) : z.length = 5 := by
  unfold polM dd at hz
  rw [dd_mem] at hz
  rcases hz with hz | hz
  · cases hz
  · obtain ⟨p, _, hp⟩ := List.mem_filterMap.mp hz
    exact partM_len h hp
theorem pol_few (ps : List Part) (s : S5) : (polM ps s).length ≤ ps.length := by
  unfold polM dd
  refine Nat.le_trans (ddA_len _ _) ?_
  rw [List.length_nil, Nat.zero_add]
  exact List.length_filterMap_le _ _
theorem itS_shape {s : S5} (h : s.length = 5) : (itS s).map shp = [none, some 3] := by
  unfold itS
  rw [List.map_cons, List.map_cons, List.map_nil]
  show [none, some (s.drop 2).length] = _
  rw [List.length_drop, h]
section
variable {P : Program} [IsP P] {w : World} {K : PySem.W.Frag} {mg : Str → Option Value} {base : Heap} {a : Ad}
def sp_does : Sp := fun vs H Q _ => ∃ (v : V) (th : Addr) (ps : List Part) (sw port : Int) (h : List Int), vs = [v, .int sw, .int port, .ref th] ∧ PolAt H v ps ∧ H th = some (.tup (h.map V.int)) ∧ h.length = 3 ∧
  ∀ l us H', Same H H' → H l = none → H' l = some (.lst us) → Row (KeyAt H') us (doesM ps sw port h) → Q (.ref l) H'
theorem ok_does (T : Txt w K mg a) : FnOk P w K mg base CX0 8 a.does a.fd_does ["policy", "switch", "port", "header"] sp_does := by
  have G_after := ok_after_pol (P := P) (w := w) (base := base) T
  refine T.fn_does.ok sc_does (fun vs H Q E h => ?_) (fun cdv A outer s H vs Q E hr h => ?_)
  · obtain ⟨_, _, _, _, _, _, rfl, _⟩ := h
    rfl
  · obtain ⟨v, th, ps, sw, port, h, rfl, hp, hth, hl, k⟩ := h
    refine ⟨_, (pss_one (ps_ret (pe_callB (cr_sortN (K := K) (c := none) (sh := [some 3]) (r64 hr)) (by rfl) T.mg_sorted (by decide +kernel) (pa_cons (pe_lc (own := [("state", 4)]) (g := (gName 4)) (tt := tYes) rfl sc_does.nd (pi_listK (K := K) (pe_call G_after (hr.mono (by first | decide | omega)) rfl T.mg_after T.kp_after T.bi_after .nil pass0 (pa_cons (pv 0) (pa_cons (pe_tup (pa_cons (pv 1) (pa_cons (pv 2) (pa_starK (K := K) (pv 3) pa_nil)))) pa_nil)))) (blkOk_by (own := [("state", 4)]) (N := N_does) (sc := defScope s_does) (by decide +kernel)) (fun _ _ _ _ _ => by exact (pg_name (i := 4) sc_does.nd rfl (Or.inl rfl))) (fun _ _ _ _ _ => pts_nil) (fun _ _ _ _ _ => by exact (pe_tup (pa_cons (pe_ix (ix_tupK (K := K)) (pv 4) pe_int (fun _ _ => rfl)) (pa_cons (pe_slice (sl_tupAK (K := K)) (pv 4) (po_some pe_int) po_none) pa_nil))))) pa_nil)))), ?_⟩
    have hs := Hs.start H
    walk_at "ss"
    refine w_lcLR ?_
    walk_at "ss"
    refine w_star ?_
    walk_at "ss"
    refine ⟨th, _, rfl, .inl (SqT.of hth), ?_⟩
    walk_at "ss"
    rename_i t H1 hs1
    rw [List.append_nil] at hs1
    have hst : H1 t = some (.tup ((sw :: port :: h).map V.int)) := hs1.g0
    refine ⟨v, t, ps, sw :: port :: h, rfl, hp.same hs1.same, hst, by rw [List.length_cons, List.length_cons, hl], fun l us H2 sm2 hn2 h2 hr2 => ?_⟩
    have hs2 := Hs_own hs1 sm2 hn2 h2
    clear hs1
    have hz : us.length ≤ 100 := by
      obtain ⟨_, _, us', _, _, _, hro, hz⟩ := hp
      have := pol_few ps (sw :: port :: h)
      have := hr2.1
      have := hro.1
      omega
    refine w_listR (SqL.of hs2.g0) fun D hD => ?_
    generalize hpm : polM ps (sw :: port :: h) = sts at hr2
    have h5 : ∀ z ∈ sts, z.length = 5 := fun z hz => by
      rw [← hpm] at hz
      exact pol_len (by rw [List.length_cons, List.length_cons, hl]) hz
    refine turns_list (Body := LcBody (gName 4) tYes _ _ _ D) (fun i H' => ∃ (B : Hp) (acc : List V), Same H2 B ∧ Hs B [(D, .lst acc)] H' ∧ Row (KeyAt B) acc ((sts.take i).map itS)) ⟨H2, [], Same.refl _, (Hs.start H2).new hD, Row.nil⟩ (fun i H' _ ⟨B, acc, sm, h, _⟩ => SqL.of (h.same _ _ (sm _ _ hs2.g0))) ?_ ?_
    · rintro i u H' hu ⟨B, acc, sm, hs3, hra⟩
      obtain ⟨z, hzi, q, rfl, hq⟩ := hr2.get hu
      have hz5 := h5 z (List.mem_of_getElem? hzi)
      have hq' : H' q = some (.tup (z.map V.int)) := hs3.same _ _ (sm _ _ hq)
      have a1 : atI (z.map V.int) 1 = some (.int (z.getD 1 0)) := at_st (f := 1) (by omega)
      walk_at "ss"
      refine ⟨rfl, ?_⟩
      walk_at "ss"
      refine w_slA hs3 (SqT.of hq') (fun y => ?_) fun l2 H4 hs4 => ?_
      · have := y.1
        rw [show (2 : Int) = ((2 : Nat) : Int) from rfl, HT.sIx_nat, List.length_map] at this
        omega
      rw [cut_from (j := 2) 2 rfl] at hs4
      walk_at "ss"
      rename_i t3 H5 hs5
      obtain ⟨B2, sm2', ht3, hs6⟩ := frz_hs hs5
      obtain ⟨B3, sm3', hl2, hs7⟩ := frz_hs hs6
      have sm23 := sm2'.trans sm3'
      have hlen : acc.length < sizeLine := szl (by
        have h1 := hra.1
        rw [List.length_map, List.length_take] at h1
        have h2 := (List.getElem?_eq_some_iff.mp hu).1
        omega)
      have hkey : KeyAt B3 (.ref t3) (itS z) := by
        refine ⟨t3, rfl, _, sm3' _ _ ht3, .cons rfl (.cons ⟨l2, rfl, ?_⟩ .nil)⟩
        rw [hl2, List.map_drop]
      refine ⟨acc, hs7.g0, hlen, B3, acc ++ [.ref t3], sm.trans sm23, hs7.p0 _, ?_⟩
      rw [List.take_add_one, hzi, List.map_append]
      exact (hra.mono fun u k => KeyAt.mono fun _ _ e => sm23 _ _ e).snoc hkey
    · rintro H' ⟨B, acc, sm, hs3, hra⟩
      rw [hr2.1, List.take_length] at hra
      walk_at "ss"
      refine w_sortK hs3 (SqL.of hs3.g0) (hra.mono fun u k => KeyAt.mono fun _ _ e => hs3.same _ _ e) (fun x hx => ?_) fun p ys H6 hs6 hr6 => ?_
      · obtain ⟨z, hz, rfl⟩ := List.mem_map.mp hx
        exact itS_shape (h5 z hz)
      · walk_at "ss"
        refine k p ys H6 ((hs2.same.trans sm).trans hs6.same) ((hs2.same.trans sm).free (hs6.out _ List.mem_cons_self)) hs6.g0 ?_
        unfold doesM
        rw [hpm]
        exact hr6
/-! ## links -/
abbrev peerM (ls : List Lk) (x : E2) : Option E2 := (ls.find? (has x)).map fun l => if l.1 = x then l.2 else l.1
def OptE (H : Hp) (v : V) : Option E2 → Prop
  | none => v = .non
  | some e => ∃ q : Addr, v = .ref q ∧ H q = some (endO e)
def sp_peer : Sp := fun vs H Q _ => ∃ (r e : Addr) (us : List V) (ls : List Lk) (x : E2), vs = [.ref r, .ref e] ∧ H r = some (.lst us) ∧ LkL H us ls ∧ H e = some (endO x) ∧ ∀ v, OptE H v (peerM ls x) → Q v H
theorem find_take {α : Type} {p : α → Bool} : ∀ {ls : List α} {i : Nat} {l : α}, ls[i]? = some l → (ls.take i).find? p = none → p l = true → ls.find? p = some l
  | y :: ys, 0, l, e, _, h => by
    cases e
    rw [List.find?_cons, h]
  | y :: ys, i + 1, l, e, h0, h => by
    rw [List.take_succ_cons, List.find?_cons] at h0
    cases hy : p y with
    | true =>
      rw [hy] at h0
      cases h0
    | false =>
      rw [hy] at h0
      rw [List.find?_cons, hy]
      exact find_take (by simpa using e) h0 h
theorem find_more {α : Type} {p : α → Bool} {ls : List α} {i : Nat} {l : α} (e : ls[i]? = some l) (h0 : (ls.take i).find? p = none) (h : p l = false) : (ls.take (i + 1)).find? p = none := by
  rw [List.take_add_one, e, List.find?_append, h0]
  show List.find? p [l] = none
  rw [List.find?_cons, h]
  rfl
theorem ok_peer (T : Txt w K mg a) : FnOk P w K mg base CX0 1 a.peer a.fd_peer ["links", "end"] sp_peer := by
  refine T.fn_peer.ok sc_peer (fun vs H Q E h => ?_) (fun cdv A outer s H vs Q E hr h => ?_)
  · obtain ⟨_, _, _, _, _, rfl, _⟩ := h
    rfl
  · obtain ⟨r, e, us, ls, x, rfl, hr0, hL, he, k⟩ := h
    refine ⟨_, (pss_cons (ps_for PassesOwn.never rfl (pi_listK (K := K) (pv 0)) (pg_tupK (K := K) rfl (pgs_cons (pg_name (i := 2) sc_peer.nd rfl (Or.inl rfl)) (pgs_cons (pg_name (i := 3) sc_peer.nd rfl (Or.inl rfl)) pgs_nil)))
  (pss_cons (ps_if (pt_cmpR (op_eqDK (K := K) hr.units) (pv 2) (pv 1) (nomark _))
  (pss_one (ps_ret (pv 3)))
  pss_nil)
  (pss_one (ps_if (pt_cmpR (op_eqDK (K := K) hr.units) (pv 3) (pv 1) (nomark _))
  (pss_one (ps_ret (pv 2)))
  pss_nil))))
  (pss_one (ps_ret pe_non))), ?_⟩
    walk_at "ss"
    refine w_forL (SqL.of hr0) (fun i σ H' => H' = H ∧ ∃ v2 v3, σ = [some (.ref r), some (.ref e), v2, v3] ∧ (ls.take i).find? (has x) = none) (fun Q q => ⟨_, rfl, q⟩) ⟨rfl, none, none, rfl, rfl⟩ (fun i σ H' _ ⟨e, _⟩ => by rw [e]; exact SqL.of hr0) ?_ ?_
    · rintro i y σ H1 hi ⟨rfl, v2, v3, rfl, hf⟩
      obtain ⟨t, l, rfl, hli, hk⟩ := LkL.get hL hi
      obtain ⟨p, q, ht, hp, hq⟩ := nk_link hk
      walk_at "ss"
      refine w_eqE (x := l.1) (y := x) hp he ?_
      refine ⟨_, rfl, ifd (fun h1 => ?_) (fun h1 => ?_)⟩
      · have hh : has x l = true := by
          unfold has
          rw [decide_eq_true h1]
          rfl
        walk_at "ss"
        refine k _ ?_
        unfold peerM
        rw [find_take hli hf hh]
        refine ⟨q, rfl, ?_⟩
        show H1 q = some (endO (if l.1 = x then l.2 else l.1))
        rw [if_pos h1]
        exact hq
      · walk_at "ss"
        refine w_eqE (x := l.2) (y := x) hq he ?_
        refine ⟨_, rfl, ifd (fun h2 => ?_) (fun h2 => ?_)⟩
        · have hh : has x l = true := by
            unfold has
            rw [decide_eq_true h2, Bool.or_true]
          walk_at "ss"
          refine k _ ?_
          unfold peerM
          rw [find_take hli hf hh]
          refine ⟨p, rfl, ?_⟩
          show H1 p = some (endO (if l.1 = x then l.2 else l.1))
          rw [if_neg h1]
          exact hp
        · have hh : has x l = false := by
            unfold has
            rw [decide_eq_false h1, decide_eq_false h2]
            rfl
          walk_at "ss"
          exact ⟨rfl, _, _, rfl, find_more hli hf hh⟩
    · rintro σ H1 ⟨rfl, v2, v3, rfl, hf⟩
      walk_at "ss"
      refine k _ ?_
      rw [LkL.len hL, List.take_length] at hf
      unfold peerM
      rw [hf]
      rfl
end
local macro_rules | `(tactic| walk_at "v") => `(tactic| first | exact v0 | exact v1 | exact v2 | exact v3 | exact v4 | exact v5 | exact v6 | exact v7 | exact v8)
local macro_rules | `(tactic| walk_at "vs") => `(tactic| first | exact st0 | exact st1 | exact st2 | exact st3 | exact st4 | exact st5 | exact st6 | exact st7 | exact st8)
local macro_rules | `(tactic| walk_at "s") => `(tactic| first
  | with_reducible refine w_dget ?_
  | ((with_reducible refine' w_dgetZ ?h ?nd ?hk ?hv ?_); (case h => walk_at "g"); (case nd => walk_at "nd"); (case hk => walk_at "k"); (case hv => walk_at "v"))
  | ((with_reducible refine' w_dputZ ?hs ?h ?nd ?hk ?hv ?hu ?hl ?_); (case hs => assumption); (case h => walk_at "p"); (case nd => walk_at "nd"); (case hk => walk_at "k"); (case hv => walk_at "v"); (case hu => walk_at "vs"); (case hl => decide); intro _ _)
  | with_reducible refine w_gsub ?_
  | with_reducible refine w_setD ?_
  | with_reducible refine w_disp ?_
  | ((with_reducible refine' w_newP ?hs ?_); (case hs => assumption); intro _ _ _)
  | with_reducible refine w_pcons ?_
  | with_reducible refine w_pnil ?_)

local macro_rules | `(tactic| walk_at "s") => `(tactic| first
  | with_reducible refine w_nget ?_
  | with_reducible refine w_nin ?_
  | with_reducible refine w_nnot ?_
  | with_reducible refine w_nput ?_
  | with_reducible refine w_ndel ?_
  | with_reducible refine w_npop ?_
  | ((with_reducible refine' w_nnew ?hs ?_); (case hs => assumption); intro _ _ _))

/-! ## steps -/
def GrAt (H : Hp) (v : V) (cnt : Int) (ls : List Lk) : Prop := ∃ (p lr : Addr) (us : List V), v = .ref p ∧ H p = some (.tup [.str "graph", .int cnt, .ref lr]) ∧ H lr = some (.lst us) ∧ LkL H us ls ∧ ls.length ≤ 100
theorem GrAt.same {H H' : Hp} (s : Same H H') {v : V} {cnt : Int} {ls : List Lk} (h : GrAt H v cnt ls) : GrAt H' v cnt ls := by
  obtain ⟨p, lr, us, h1, h2, h3, h4, h5⟩ := h
  exact ⟨p, lr, us, h1, s _ _ h2, s _ _ h3, h4.same s, h5⟩
/-- a place: a switch, a port, a header -/
abbrev Plc := Int × Int × List Int
def plK (p : Plc) : IK := [.inl p.1, .inl p.2.1, .inr p.2.2]
theorem plK_inj {p q : Plc} (h : plK p = plK q) : p = q := by
  obtain ⟨a, b, c⟩ := p
  obtain ⟨a', b', c'⟩ := q
  unfold plK at h
  simp at h
  obtain ⟨rfl, rfl, rfl⟩ := h
  rfl
inductive Stp where
  | out (sw : Int) (h : List Int)
  | lost (e : E2) (h : List Int)
  | inn (p : Plc)
def StpAt (H : Hp) (v : V) : Stp → Prop
  | .out sw h => ∃ p t : Addr, v = .ref p ∧ H p = some (.tup [.str "out", .int sw, .ref t]) ∧ H t = some (.tup (h.map V.int))
  | .lost e h => ∃ p q t : Addr, v = .ref p ∧ H p = some (.tup [.str "lost", .ref q, .ref t]) ∧ H q = some (endO e) ∧ H t = some (.tup (h.map V.int))
  | .inn e => ∃ p q : Addr, v = .ref p ∧ H p = some (.tup [.str "in", .ref q]) ∧ KeyAt H (.ref q) (plK e)
theorem StpAt.mono {H H' : Hp} (e : ∀ p xs, H p = some (.tup xs) → H' p = some (.tup xs)) {v : V} : ∀ {x : Stp}, StpAt H v x → StpAt H' v x
  | .out _ _, ⟨p, t, h1, h2, h3⟩ => ⟨p, t, h1, e _ _ h2, e _ _ h3⟩
  | .lost _ _, ⟨p, q, t, h1, h2, h3, h4⟩ => ⟨p, q, t, h1, e _ _ h2, e _ _ h3, e _ _ h4⟩
  | .inn _, ⟨p, q, h1, h2, h3⟩ => ⟨p, q, h1, e _ _ h2, h3.mono e⟩
def stpOf (ls : List Lk) (sw : Int) (k : IK) : Stp :=
  match k with
  | [.inl out, .inr ch] => if out = 0 then .out sw ch else match peerM ls (sw, out) with
    | none => .lost (sw, out) ch
    | some e => .inn (e.1, e.2, ch)
  | _ => .out 0 []
theorem stp_eq (ls : List Lk) (sw o : Int) (c : List Int) : stpOf ls sw [.inl o, .inr c] = if o = 0 then .out sw c else match peerM ls (sw, o) with
    | none => .lost (sw, o) c
    | some e => .inn (e.1, e.2, c) := rfl
def stepsM (ps : List Part) (ls : List Lk) (p : Plc) : List Stp := (doesM ps p.1 p.2.1 p.2.2).map (stpOf ls p.1)
theorem does_form {ps : List Part} {sw port : Int} {h : List Int} (hl : h.length = 3) {k : IK} (hk : k ∈ doesM ps sw port h) : ∃ (o : Int) (c : List Int), k = [.inl o, .inr c] ∧ c.length = 3 := by
  unfold doesM at hk
  obtain ⟨z, hz, rfl⟩ := List.mem_map.mp ((srtK_perm _).mem_iff.mp hk)
  have h5 := pol_len (by rw [List.length_cons, List.length_cons, hl]) hz
  exact ⟨_, _, rfl, by rw [List.length_drop, h5]⟩
theorem does_few (ps : List Part) (sw port : Int) (h : List Int) : (doesM ps sw port h).length ≤ ps.length := by
  unfold doesM
  rw [(srtK_perm _).length_eq, List.length_map]
  exact pol_few _ _
theorem key2 {H : Hp} {v : V} {o : Int} {c : List Int} (h : KeyAt H v [.inl o, .inr c]) : ∃ p t : Addr, v = .ref p ∧ H p = some (.tup [.int o, .ref t]) ∧ H t = some (.tup (c.map V.int)) := by
  obtain ⟨p, rfl, vs, hp, hv⟩ := h
  cases hv with
  | cons h1 h2 =>
    cases h2 with
    | cons h3 h4 =>
      cases h4
      obtain ⟨t, rfl, ht⟩ := h3
      cases h1
      exact ⟨p, t, rfl, hp, ht⟩
theorem key3 {H : Hp} {v : V} {e : Plc} (h : KeyAt H v (plK e)) : ∃ p t : Addr, v = .ref p ∧ H p = some (.tup [.int e.1, .int e.2.1, .ref t]) ∧ H t = some (.tup (e.2.2.map V.int)) := by
  obtain ⟨p, rfl, vs, hp, hv⟩ := h
  cases hv with
  | cons h1 h2 =>
    cases h2 with
    | cons h3 h4 =>
      cases h4 with
      | cons h5 h6 =>
        cases h6
        obtain ⟨t, rfl, ht⟩ := h5
        cases h1
        cases h3
        exact ⟨p, t, rfl, hp, ht⟩
section
variable {P : Program} [IsP P] {w : World} {K : PySem.W.Frag} {mg : Str → Option Value} {base : Heap} {a : Ad}
def sp_steps : Sp := fun vs H Q _ => ∃ (v g e : V) (ps : List Part) (cnt : Int) (ls : List Lk) (p : Plc), vs = [v, g, e] ∧ PolAt H v ps ∧ GrAt H g cnt ls ∧ KeyAt H e (plK p) ∧ p.2.2.length = 3 ∧
  ∀ l us H', Same H H' → H l = none → H' l = some (.lst us) → Row (StpAt H') us (stepsM ps ls p) → Q (.ref l) H'
theorem ok_steps (T : Txt w K mg a) : FnOk P w K mg base CX0 9 a.steps a.fd_steps ["policy", "graph", "place"] sp_steps := by
  have G_does := ok_does (P := P) (w := w) (base := base) T
  have G_peer := ok_peer (P := P) (w := w) (base := base) T
  refine T.fn_steps.ok sc_steps (fun vs H Q E h => ?_) (fun cdv A outer s H vs Q E hr h => ?_)
  · obtain ⟨_, _, _, _, _, _, _, rfl, _⟩ := h
    rfl
  · obtain ⟨v, g, e, ps, cnt, ls, pl, rfl, hp, hg, hpl, hl3, k⟩ := h
    refine ⟨_, (pss_cons (ps_asg (pv 2) (pg_tupK (K := K) rfl (pgs_cons (pg_name (i := 3) sc_steps.nd rfl (Or.inl rfl)) (pgs_cons (pg_name (i := 4) sc_steps.nd rfl (Or.inl rfl)) (pgs_cons (pg_name (i := 5) sc_steps.nd rfl (Or.inl rfl)) pgs_nil)))))
  (pss_cons (ps_set (i := 6) sc_steps.nd rfl (Or.inl rfl) (pe_lst pa_nil))
  (pss_cons (ps_for PassesOwn.never rfl (pi_listK (K := K) (pe_call G_does (hr.mono (by first | decide | omega)) rfl T.mg_does T.kp_does T.bi_does .nil pass0 (pa_cons (pv 0) (pa_cons (pv 3) (pa_cons (pv 4) (pa_cons (pv 5) pa_nil)))))) (pg_tupK (K := K) rfl (pgs_cons (pg_name (i := 7) sc_steps.nd rfl (Or.inl rfl)) (pgs_cons (pg_name (i := 8) sc_steps.nd rfl (Or.inl rfl)) pgs_nil)))
  (pss_cons (ps_set (i := 9) sc_steps.nd rfl (Or.inl rfl) (pe_call G_peer (hr.mono (by first | decide | omega)) rfl T.mg_peer T.kp_peer T.bi_peer .nil pass0 (pa_cons (pe_ix (ix_tupK (K := K)) (pv 1) pe_int (fun _ _ => rfl)) (pa_cons (pe_tup (pa_cons (pv 3) (pa_cons (pv 7) pa_nil))) pa_nil))))
  (pss_one (ps_if (pt_cmpR op_eq (pv 7) (pe_glob (v := .int 0) rfl (Exists.choose_spec T.mg_OUTSIDE) ⟨_, rfl⟩) (nomark _))
  (pss_one (ps_expr (pe_bmK (K := K) PySem.F.plainAttrs_list PySem.F.slot_list_append PySem.F.type_list_append mt_append (pv 6) (pa_cons (pe_tup (pa_cons pe_str (pa_cons (pv 3) (pa_cons (pv 8) pa_nil)))) pa_nil))))
  (pss_one (ps_if (pt_cmpR op_isNQ (pv 9) pe_non (nomark _))
  (pss_one (ps_expr (pe_bmK (K := K) PySem.F.plainAttrs_list PySem.F.slot_list_append PySem.F.type_list_append mt_append (pv 6) (pa_cons (pe_tup (pa_cons pe_str (pa_cons (pe_tup (pa_cons (pv 3) (pa_cons (pv 7) pa_nil))) (pa_cons (pv 8) pa_nil)))) pa_nil))))
  (pss_one (ps_expr (pe_bmK (K := K) PySem.F.plainAttrs_list PySem.F.slot_list_append PySem.F.type_list_append mt_append (pv 6) (pa_cons (pe_tup (pa_cons pe_str (pa_cons (pe_tup (pa_starK (K := K) (pv 9) (pa_cons (pv 8) pa_nil))) pa_nil))) pa_nil))))))))))
  (pss_one (ps_ret (pv 6)))))), ?_⟩
    have hs := Hs.start H
    obtain ⟨pa, ta, rfl, hpa, hta⟩ := key3 hpl
    walk_at "ss"
    rename_i pr H1 hs1
    refine w_forS ?_
    walk_at "ss"
    refine ⟨v, ta, ps, pl.1, pl.2.1, pl.2.2, rfl, hp.same hs1.same, hs1.same _ _ hta, hl3, fun l us H2 sm2 hn2 h2 hr2 => ?_⟩
    obtain ⟨B1, sB1, hlB1, hs2'⟩ := frz_hs (Hs_own hs1 sm2 hn2 h2)
    obtain ⟨B2, sB2', hs2, hin⟩ := hs2'.allin
    have sB2 := sB1.trans sB2'
    have hlB := sB2' _ _ hlB1
    have tpB2 : ∀ p xs, H2 p = some (.tup xs) → B2 p = some (.tup xs) := fun p xs e => hin _ _ e fun z => by
      rw [List.map_cons, List.map_nil, List.mem_singleton] at z
      rw [z, hs2.g0] at e
      cases e
    have hz : us.length ≤ 100 := by
      obtain ⟨_, _, us', _, _, _, hro, hz⟩ := hp
      have := does_few ps pl.1 pl.2.1 pl.2.2
      have := hr2.1
      have := hro.1
      omega
    refine w_forL (SqL.of h2) (fun i σ H' => ∃ (B : Hp) (acc : List V) (v7 v8 v9 : Option V), σ = [some v, some g, some (.ref pa), some (.int pl.1), some (.int pl.2.1), some (.ref ta), some (.ref pr), v7, v8, v9] ∧ Same B2 B ∧ (∀ p xs, H2 p = some (.tup xs) → B p = some (.tup xs)) ∧ Hs B [(pr, .lst acc)] H' ∧ Row (StpAt B) acc ((stepsM ps ls pl).take i)) (fun Q q => q) ⟨B2, [], none, none, none, rfl, Same.refl _, ?_, hs2, Row.nil⟩ (fun i σ H' _ ⟨B, acc, _, _, _, _, sm, _, h, _⟩ => SqL.of (h.same _ _ (sm _ _ hlB))) ?_ ?_
    · exact tpB2
    · rintro i u σ H' hu ⟨B, acc, v7, v8, v9, rfl, smB, tpB, hs3, hra⟩
      obtain ⟨kx, hxi, hku⟩ := hr2.get hu
      obtain ⟨o, c, rfl, hc3⟩ := does_form hl3 (List.mem_of_getElem? hxi)
      obtain ⟨q, t, rfl, hqB, htB⟩ := key2 (hku.mono tpB)
      have hq := hs3.same _ _ hqB
      obtain ⟨pg, lr, gs, rfl, hpgB, hlrB, hgs, hgz⟩ := (hg.same sB2).same smB
      have hpg := hs3.same _ _ hpgB
      have hxs : (stepsM ps ls pl)[i]? = some (stpOf ls pl.1 [.inl o, .inr c]) := by
        unfold stepsM
        rw [List.getElem?_map, hxi]
        rfl
      have hlen : acc.length < sizeLine := szl (by
        have h1 := hra.1
        rw [List.length_take] at h1
        have h2 := (List.getElem?_eq_some_iff.mp hu).1
        omega)
      have fin : ∀ (B' : Hp) (u' : V) (H' : Hp) (v7 v8 v9 : Option V), Same B B' → Hs B' [(pr, .lst (acc ++ [u']))] H' → StpAt B' u' (stpOf ls pl.1 [.inl o, .inr c]) → ∃ (B : Hp) (acc : List V) (w7 w8 w9 : Option V), ([some v, some (.ref pg), some (.ref pa), some (.int pl.1), some (.int pl.2.1), some (.ref ta), some (.ref pr), v7, v8, v9] : L2.St) = [some v, some (.ref pg), some (.ref pa), some (.int pl.1), some (.int pl.2.1), some (.ref ta), some (.ref pr), w7, w8, w9] ∧ Same B2 B ∧ (∀ p xs, H2 p = some (.tup xs) → B p = some (.tup xs)) ∧ Hs B [(pr, .lst acc)] H' ∧ Row (StpAt B) acc ((stepsM ps ls pl).take (i + 1)) := fun B' u' H' v7 v8 v9 sm h hk => by
        refine ⟨B', acc ++ [u'], v7, v8, v9, rfl, smB.trans sm, fun p xs e => sm _ _ (tpB p xs e), h, ?_⟩
        rw [List.take_add_one, hxs]
        exact (hra.mono fun u x k => StpAt.mono (fun _ _ e => sm _ _ e) k).snoc hk
      clear k
      walk_at "ss"
      rename_i tq H3 hs4
      refine ⟨lr, tq, gs, ls, (pl.1, o), rfl, hs4.same _ _ hlrB, hgs.same hs4.same, hs4.g0, fun vo hvo => ?_⟩
      obtain ⟨B4, sB4, htq, hs5⟩ := frz_hs hs4
      walk_at "ss"
      refine ifd (fun h0 => ?_) (fun h0 => ?_)
      · walk_at "ss"
        rename_i t5 H5 hs6 H6 hs7
        obtain ⟨B5, sB5, ht5, hs8⟩ := frz_hs hs7
        refine fin B5 (.ref t5) _ _ _ _ (sB4.trans sB5) hs8 ?_
        rw [stp_eq, if_pos h0]
        exact ⟨t5, t, rfl, ht5, (sB4.trans sB5) _ _ htB⟩
      · cases hpe : peerM ls (pl.1, o) with
        | none =>
          rw [hpe] at hvo
          cases hvo
          walk_at "ss"
          refine ifd (fun _ => ?_) (fun z => absurd rfl z)
          walk_at "ss"
          rename_i t4 H4 hs4' t5 H5 hs6 H6 hs7
          obtain ⟨B5, sB5, ht5, hs8⟩ := frz_hs hs7
          obtain ⟨B6, sB6, ht4, hs9⟩ := frz_hs hs8
          have sm := sB4.trans (sB5.trans sB6)
          refine fin B6 (.ref t5) _ _ _ _ sm hs9 ?_
          rw [stp_eq, if_neg h0, hpe]
          exact ⟨t5, t4, t, rfl, sB6 _ _ ht5, ht4, sm _ _ htB⟩
        | some e =>
          rw [hpe] at hvo
          obtain ⟨qe, rfl, hqe⟩ := hvo
          walk_at "ss"
          refine ifd (fun z => by cases z) (fun _ => ?_)
          walk_at "ss"
          refine w_star ?_
          walk_at "ss"
          refine ⟨qe, _, rfl, .inl (SqT.of hqe), ?_⟩
          walk_at "ss"
          rename_i t4 H4 hs4' t5 H5 hs6 H6 hs7
          obtain ⟨B5, sB5, ht5, hs8⟩ := frz_hs hs7
          obtain ⟨B6, sB6, ht4, hs9⟩ := frz_hs hs8
          have sm := sB4.trans (sB5.trans sB6)
          refine fin B6 (.ref t5) _ _ _ _ sm hs9 ?_
          rw [stp_eq, if_neg h0, hpe]
          exact ⟨t5, t4, rfl, sB6 _ _ ht5, t4, rfl, _, ht4, .cons rfl (.cons rfl (.cons ⟨t, rfl, sm _ _ htB⟩ .nil))⟩
    · rintro σ H' ⟨B, acc, v7, v8, v9, rfl, smB, tpB, hs3, hra⟩
      rw [hr2.1] at hra
      walk_at "ss"
      refine k pr acc H' (sB2.trans (smB.trans hs3.same)) ((sB2.trans smB).free (hs3.out _ List.mem_cons_self)) hs3.g0 ?_
      unfold stepsM at hra ⊢
      rw [← List.length_map (f := stpOf ls pl.1), List.take_length] at hra
      exact hra.mono fun u x h => h.mono hs3.tups
end
local macro_rules | `(tactic| walk_at "v") => `(tactic| first | exact v0 | exact v1 | exact v2 | exact v3 | exact v4 | exact v5 | exact v6 | exact v7 | exact v8)
local macro_rules | `(tactic| walk_at "vs") => `(tactic| first | exact st0 | exact st1 | exact st2 | exact st3 | exact st4 | exact st5 | exact st6 | exact st7 | exact st8)
local macro_rules | `(tactic| walk_at "s") => `(tactic| first
  | with_reducible refine w_dget ?_
  | ((with_reducible refine' w_dgetZ ?h ?nd ?hk ?hv ?_); (case h => walk_at "g"); (case nd => walk_at "nd"); (case hk => walk_at "k"); (case hv => walk_at "v"))
  | ((with_reducible refine' w_dputZ ?hs ?h ?nd ?hk ?hv ?hu ?hl ?_); (case hs => assumption); (case h => walk_at "p"); (case nd => walk_at "nd"); (case hk => walk_at "k"); (case hv => walk_at "v"); (case hu => walk_at "vs"); (case hl => decide); intro _ _)
  | with_reducible refine w_gsub ?_
  | with_reducible refine w_setD ?_
  | with_reducible refine w_disp ?_
  | ((with_reducible refine' w_newP ?hs ?_); (case hs => assumption); intro _ _ _)
  | with_reducible refine w_pcons ?_
  | with_reducible refine w_pnil ?_)

local macro_rules | `(tactic| walk_at "s") => `(tactic| first
  | with_reducible refine w_nget ?_
  | with_reducible refine w_nin ?_
  | with_reducible refine w_nnot ?_
  | with_reducible refine w_nput ?_
  | with_reducible refine w_ndel ?_
  | with_reducible refine w_npop ?_
  | ((with_reducible refine' w_nnew ?hs ?_); (case hs => assumption); intro _ _ _))

section
variable {P : Program} [IsP P] {w : World} {K : PySem.W.Frag} {mg : Str → Option Value} {base : Heap} {a : Ad}
/-! ### the draws of the law -/
/-- what a state may be -/
def Good (m : Int) (cells : List Int) : Prop := 0 ≤ m ∧ m < 2147483648 ∧ cells.length ≤ 1000
abbrev sto (c : Addr) (m : Int) : HO := .lst [.ref c, .int m]
abbrev clo (cells : List Int) : HO := .lst (cells.map V.int)
def sp__law_state (K : PySem.W.Frag) : Sp := fun vs H Q _ => ∃ (x : Addr) (ns : List Int), vs = [.ref x] ∧ SqL K H x (ns.map V.int) ∧ ns.length ≤ 1000 ∧ ∀ s c m cells H', Hs H [(s, sto c m), (c, clo cells)] H' → Good m cells → Q (.ref s) H'
def sp__law_draw : Sp := fun vs H Q _ => ∃ (B : Hp) (s c : Addr) (m many : Int) (cells : List Int), vs = [.ref s, .int many] ∧ Hs B [(s, sto c m), (c, clo cells)] H ∧ Good m cells ∧ many < 1000000000 ∧
  ∀ r m' cells' H', Hs B [(s, sto c m'), (c, clo cells')] H' → Good m' cells' → (many < 1 → r = 0) → (1 ≤ many → 0 ≤ r ∧ r < many) → Q (.int r) H'
theorem abs_map (ns : List Int) (i : Nat) {x : V} (h : (ns.map V.int)[i]? = some x) : ∃ n, ns[i]? = some n ∧ x = .int n := by
  rw [List.getElem?_map] at h
  cases e : ns[i]? with
  | none =>
    rw [e] at h
    cases h
  | some n =>
    rw [e] at h
    exact ⟨n, rfl, (Option.some.inj h).symm⟩
theorem ok__law_state (T : Txt w K mg a) : FnOk P w K mg base CX0 1 a._law_state a.fd__law_state ["script"] (sp__law_state K) := by
  refine T.fn__law_state.ok sc__law_state (fun vs H Q E h => ?_) (fun cdv A outer s H vs Q E hr h => ?_)
  · obtain ⟨_, _, rfl, _⟩ := h
    rfl
  · obtain ⟨x, ns, rfl, hx, hl, k⟩ := h
    refine ⟨_, (pss_cons (ps_set (i := 1) sc__law_state.nd rfl (Or.inl rfl) pe_int)
  (pss_cons (ps_for PassesOwn.never rfl (pi_listK (K := K) (pv 0)) (pg_name (i := 2) sc__law_state.nd rfl (Or.inl rfl))
  (pss_one (ps_set (i := 1) sc__law_state.nd rfl (Or.inl rfl) (pe_op op_mod (pe_callTy call_intQ (by rfl) T.mg_int (by decide +kernel) (pa_cons (pe_op op_add (pe_op op_mul (pv 1) pe_int) (pv 2)) pa_nil)) pe_int))))
  (pss_one (ps_ret (pe_lst (pa_cons (pe_lc (own := [("cell", 2)]) (g := (gName 2)) (tt := tYes) rfl sc__law_state.nd (pi_listK (K := K) (pv 0)) (blkOk_by (own := [("cell", 2)]) (N := N__law_state) (sc := defScope s__law_state) (by decide +kernel)) (fun _ _ _ _ _ => by exact (pg_name (i := 2) sc__law_state.nd rfl (Or.inl rfl))) (fun _ _ _ _ _ => pts_nil) (fun _ _ _ _ _ => by exact (pe_callB call_absQ (by rfl) T.mg_abs (by decide +kernel) (pa_cons (pv 2) pa_nil)))) (pa_cons (pe_op op_add (pv 1) pe_int) pa_nil))))))), ?_⟩
    have hs : Hs H [] H := Hs.start H
    walk_at "ss"
    refine w_forL hx (fun i σ H' => ∃ (m : Int) (v : Option V), σ = [some (.ref x), some (.int m), v] ∧ 0 ≤ m ∧ m < 1000003 ∧ Hs H [] H') (fun Q q => ⟨_, rfl, q⟩) ⟨11, none, rfl, by omega, by omega, hs⟩ (fun i σ H' _ ⟨_, _, _, _, _, hs⟩ => hs.sql hx) ?_ ?_
    · rintro i y σ H' hi ⟨m, v, rfl, h0, h1, hs⟩
      obtain ⟨n, _, rfl⟩ := abs_map ns i hi
      walk_at "ss"
      refine ⟨(m * 37 + n) % 1000003, _, rfl, ?_, ?_, hs⟩
      · exact Int.emod_nonneg _ (by decide)
      · exact Int.emod_lt_of_pos _ (by decide)
    · rintro σ H' ⟨m, v, rfl, h0, h1, hs⟩
      walk_at "ss"
      have hx1 : SqL K H' x (ns.map V.int) := Hs.sql (by assumption) hx
      refine w_lc hx1 (fun D i H2 => ∃ acc : List Int, acc.length = i ∧ Hs H [(D, clo acc)] H2) (fun Q q => ⟨_, rfl, q⟩) (fun D hD => ⟨[], rfl, Hs.new (by assumption) hD⟩) (fun D i H2 _ ⟨_, _, hs⟩ => hs.sql hx) ?_ ?_
      · rintro D i y H2 hi ⟨acc, ha, hs⟩
        obtain ⟨n, _, rfl⟩ := abs_map ns i hi
        have hin : i < ns.length := by
          have := (List.getElem?_eq_some_iff.mp hi).1
          rwa [List.length_map] at this
        walk_at "ss"
        refine ⟨rfl, ?_⟩
        walk_at "ss"
        try (with_reducible refine iteT ?_)
        walk_at "ss"
        refine ⟨_, hs.g0, ?_, acc ++ [if n < 0 then -n else n], ?_, ?_⟩
        · refine szl ?_
          rw [List.length_map]
          omega
        · rw [List.length_append, ha]
          rfl
        · have := hs.p0 (.lst ((acc.map V.int) ++ [V.int (if n < 0 then -n else n)]))
          unfold clo
          rw [List.map_append]
          exact this
      · rintro D H2 ⟨acc, ha, hs⟩
        rw [List.length_map] at ha
        walk_at "ss"
        refine k _ D (m + 1) acc _ (by assumption) ⟨by omega, by omega, by omega⟩
theorem ok__law_draw (T : Txt w K mg a) : FnOk P w K mg base CX0 1 a._law_draw a.fd__law_draw ["state", "many"] sp__law_draw := by
  refine T.fn__law_draw.ok sc__law_draw (fun vs H Q E h => ?_) (fun cdv A outer s H vs Q E hr h => ?_)
  · obtain ⟨_, _, _, _, _, _, rfl, _⟩ := h
    rfl
  · obtain ⟨B, s, c, m, many, cells, rfl, hs, ⟨hm0, hm1, hl⟩, hmany, k⟩ := h
    refine ⟨_, (pss_cons (ps_if (pt_cmpR op_lt (pv 1) pe_int (nomark _))
  (pss_one (ps_ret pe_int))
  pss_nil)
  (pss_cons (ps_set (i := 2) sc__law_draw.nd rfl (Or.inl rfl) (pe_ix (ix_listK (K := K)) (pv 0) pe_int (fun _ _ => rfl)))
  (pss_cons (ps_for PassesOwn.never rfl (pi_range1 rfl T.mg_range (pa_cons (pe_callB (call_lenK (K := K)) (by rfl) T.mg_len PySem.boot_len (pa_cons (pv 2) pa_nil)) pa_nil)) (pg_name (i := 3) sc__law_draw.nd rfl (Or.inl rfl))
  (pss_one (ps_if (PW.pt (pw_and (pt_cmpR op_eq (pe_ix (ix_listK (K := K)) (pv 2) pe_int (fun _ _ => rfl)) pe_int (nomark _)) (pw_and1 (pt_cmpR op_gt (pe_callB (call_lenK (K := K)) (by rfl) T.mg_len PySem.boot_len (pa_cons (pv 2) pa_nil)) pe_int (nomark _)))))
  (pss_one (ps_expr (pe_bmK (K := K) PySem.F.plainAttrs_list PySem.F.slot_list_pop PySem.F.type_list_pop mt_popAt (pv 2) (pa_cons pe_int pa_nil))))
  pss_nil)))
  (pss_cons (ps_if (PW.pt (pw_and (pt_cmpR op_gt (pe_callB (call_lenK (K := K)) (by rfl) T.mg_len PySem.boot_len (pa_cons (pv 2) pa_nil)) pe_int (nomark _)) (pw_and1 (pt_cmpR op_gt (pe_ix (ix_listK (K := K)) (pv 2) pe_int (fun _ _ => rfl)) pe_int (nomark _)))))
  (pss_cons (ps_set (i := 4) sc__law_draw.nd rfl (Or.inl rfl) (pe_ix (ix_listK (K := K)) (pv 2) pe_int (fun _ _ => rfl)))
  (pss_cons (ps_asg (pe_op op_fdivW (pv 4) (pv 1)) (pg_sub (pv 2) pe_int set_list))
  (pss_one (ps_ret (pe_op op_mod (pe_callTy call_intQ (by rfl) T.mg_int (by decide +kernel) (pa_cons (pv 4) pa_nil)) (pv 1))))))
  pss_nil)
  (pss_cons (ps_set (i := 5) sc__law_draw.nd rfl (Or.inl rfl) (pe_op op_mod (pe_callTy call_intQ (by rfl) T.mg_int (by decide +kernel) (pa_cons (pe_op op_add (pe_op op_mul (pe_ix (ix_listK (K := K)) (pv 0) pe_int (fun _ _ => rfl)) pe_int) pe_int) pa_nil)) pe_int))
  (pss_cons (ps_asg (pv 5) (pg_sub (pv 0) pe_int set_list))
  (pss_one (ps_ret (pe_op op_mod (pe_callTy call_intQ (by rfl) T.mg_int (by decide +kernel) (pa_cons (pe_op op_fdivW (pv 5) pe_int) pa_nil)) (pv 1)))))))))), ?_⟩
    walk_at "ss"
    refine ifd (fun h => ?_) (fun h => ?_)
    · walk_at "ss"
      exact k 0 m cells _ hs ⟨hm0, hm1, hl⟩ (fun _ => rfl) (fun q => by omega)
    walk_at "ss"
    refine w_for1 ?_
    walk_at "ss"
    refine w_forR (n := ((cells.map V.int).length : Int)) (by rw [List.length_map]; omega) (fun i σ H' => ∃ (cl : List Int) (v3 : Option V), σ = [some (.ref s), some (.int many), some (.ref c), v3, none, none] ∧ Hs B [(s, sto c m), (c, clo cl)] H' ∧ cl.length ≤ 1000 ∧ (cells ≠ [] → cl ≠ [])) (fun Q q => q) (by omega) ⟨cells, none, rfl, hs, hl, id⟩ ?_ ?_
    · rintro i σ H' hi ⟨cl, v3, rfl, hs2, hl2, hne⟩
      have hc0 : cells ≠ [] := fun z => by
        rw [z] at hi
        exact absurd hi (by simp)
      cases cl with
      | nil => exact absurd rfl (hne hc0)
      | cons z cl =>
        clear hs
        rw [List.length_cons] at hl2
        walk_at "ss"
        refine ifd (fun h0 => ?_) (fun h0 => ?_)
        · walk_at "ss"
          refine ifd (fun h1 => ?_) (fun h1 => ?_)
          · walk_at "ss"
            refine w_popAt (k := 0) hs2 (by walk_at "p") rfl rfl (by walk_at "z") fun H3 hs3 => ?_
            refine ⟨cl, _, rfl, hs3, by omega, fun _ z => ?_⟩
            rw [z] at h1
            exact absurd (show (1 : Int) < ((1 : Nat) : Int) from h1) (by decide)
          · walk_at "ss"
            exact ⟨z :: cl, _, rfl, hs2, by rw [List.length_cons]; exact hl2, fun _ => List.cons_ne_nil _ _⟩
        · walk_at "ss"
          exact ⟨z :: cl, _, rfl, hs2, by rw [List.length_cons]; exact hl2, fun _ => List.cons_ne_nil _ _⟩
    · rintro σ H' ⟨cl, v3, rfl, hs2, hl2, hne⟩
      clear hs
      cases cl with
      | nil =>
        walk_at "ss"
        refine ifd (fun z => absurd (show (0 : Int) < ((0 : Nat) : Int) from z) (by decide)) (fun _ => ?_)
        walk_at "ss"
        have e1 : 0 ≤ (m * 48271 + 12345) % 2147483647 := Int.emod_nonneg _ (by decide)
        have e2 : (m * 48271 + 12345) % 2147483647 < 2147483647 := Int.emod_lt_of_pos _ (by decide)
        rename_i H2 hs4
        clear hs2
        generalize (m * 48271 + 12345) % 2147483647 = mm at e1 e2 hs4 ⊢
        refine w_I ⟨by decide, by decide⟩ ?_
        walk_at "ss"
        exact k _ mm [] _ hs4 ⟨e1, by omega, hl2⟩ (fun q => by omega) fun q => ⟨Int.emod_nonneg _ (by omega), Int.emod_lt_of_pos _ (by omega)⟩
      | cons z cl =>
        walk_at "ss"
        refine ifd (fun _ => ?_) (fun q => absurd (show (0 : Int) < _ from by simp only [List.map_cons, List.length_cons]; omega) q)
        walk_at "ss"
        refine ifd (fun hz => ?_) (fun hz => ?_)
        · walk_at "ss"
          refine w_I ⟨by omega, ?_⟩ ?_
          · refine PySem.Flt.log2_lt_of (by decide) (Nat.lt_of_lt_of_le (show many.natAbs < 2 ^ 30 by omega) (Nat.pow_le_pow_right (by decide) (by decide)))
          walk_at "ss"
          rename_i H3 hs3
          refine k _ m ((z / many) :: cl) _ hs3 ⟨hm0, hm1, by simpa using hl2⟩ (fun q => by omega) fun q => ⟨Int.emod_nonneg _ (by omega), Int.emod_lt_of_pos _ (by omega)⟩
        · walk_at "ss"
          have e1 : 0 ≤ (m * 48271 + 12345) % 2147483647 := Int.emod_nonneg _ (by decide)
          have e2 : (m * 48271 + 12345) % 2147483647 < 2147483647 := Int.emod_lt_of_pos _ (by decide)
          rename_i H2 hs4
          clear hs2
          generalize (m * 48271 + 12345) % 2147483647 = mm at e1 e2 hs4 ⊢
          refine w_I ⟨by decide, by decide⟩ ?_
          walk_at "ss"
          exact k _ mm (z :: cl) _ hs4 ⟨e1, by omega, hl2⟩ (fun q => by omega) fun q => ⟨Int.emod_nonneg _ (by omega), Int.emod_lt_of_pos _ (by omega)⟩
theorem w_draw {B H : Hp} {Q : VK} {E : XK} {s c : Addr} {m many : Int} {cells : List Int} {R : List (Addr × HO)} (hs : Hs B ((s, sto c m) :: (c, clo cells) :: R) H) (g : Good m cells) (hm : many < 1000000000)
    (q : ∀ r m' cells' H', Hs B ((s, sto c m') :: (c, clo cells') :: R) H' → Good m' cells' → (many < 1 → r = 0) → (1 ≤ many → 0 ≤ r ∧ r < many) → Q (.int r) H') : sp__law_draw [.ref s, .int many] H Q E := by
  obtain ⟨B', _, h1, back⟩ := hs.frame2
  exact ⟨B', s, c, m, many, cells, rfl, h1, g, hm, fun r m' cells' H' h2 => q r m' cells' H' (back _ _ h2)⟩
/-! ## what the law's makers promise: what they make is new, or was given -/
def mix (G B B2 : Hp) : Hp := fun p => if B p = none then B2 p else G p
theorem mix_new {G B B2 : Hp} {p : Addr} (h : B p = none) : mix G B B2 p = B2 p := if_pos h
theorem mix_old {G B B2 : Hp} (e : Same G B) : Same G (mix G B B2) := fun b o h => by
  unfold mix
  rw [if_neg (by rw [e _ _ h]; simp)]
  exact h
theorem mix_mono {G B B2 B3 : Hp} (e : Same B2 B3) : Same (mix G B B2) (mix G B B3) := fun b o h => by
  unfold mix at h ⊢
  by_cases hb : B b = none
  · rw [if_pos hb] at h ⊢
    exact e _ _ h
  · rw [if_neg hb] at h ⊢
    exact h
theorem mix_le {G B B2 : Hp} (e : Same G B) (s : Same B B2) : Same (mix G B B2) B2 := fun b o h => by
  unfold mix at h
  by_cases hb : B b = none
  · rw [if_pos hb] at h
    exact h
  · rw [if_neg hb] at h
    exact s _ _ (e _ _ h)
theorem frz_mix {G B B1 H : Hp} {p : Addr} {o : HO} {L : List (Addr × HO)} (e : Same B B1) (hs : Hs B1 ((p, o) :: L) H) : ∃ B2, Same B1 B2 ∧ mix G B B2 p = some o ∧ Same (mix G B B1) (mix G B B2) ∧ Hs B2 L H := by
  obtain ⟨B2, sm, hp, hs2⟩ := frz_hs hs
  refine ⟨B2, sm, ?_, mix_mono sm, hs2⟩
  rw [mix_new (e.free (hs.out _ List.mem_cons_self))]
  exact hp
def spS {γ : Type} (ar : γ → Hp → List V → Prop) (Post : γ → Hp → V → Prop) : Sp := fun vs H Q _ => ∃ (x : γ) (G B : Hp) (s c : Addr) (m : Int) (cells : List Int) (args : List V), vs = .ref s :: args ∧ Same G B ∧ Hs B [(s, sto c m), (c, clo cells)] H ∧ Good m cells ∧ ar x G args ∧
  ∀ B2 v m' cells' H', Same B B2 → Hs B2 [(s, sto c m'), (c, clo cells')] H' → Good m' cells' → Post x (mix G B B2) v → Q v H'
theorem w_spS {γ : Type} {ar : γ → Hp → List V → Prop} {Post : γ → Hp → V → Prop} (x : γ) {B H : Hp} {Q : VK} {E : XK} {s c : Addr} {m : Int} {cells : List Int} {R : List (Addr × HO)} {args : List V} (hs : Hs B ((s, sto c m) :: (c, clo cells) :: R) H) (g : Good m cells) (ha : ar x B args)
    (hm : ∀ H1 H2 v, Same H1 H2 → Post x H1 v → Post x H2 v)
    (q : ∀ B2 v m' cells' H', Same B B2 → Hs B2 ((s, sto c m') :: (c, clo cells') :: R) H' → Good m' cells' → Post x B2 v → Q v H') : spS ar Post (.ref s :: args) H Q E := by
  have fr : ∃ B', B' = around [(s, sto c m), (c, clo cells)] H ∧ Same B B' ∧ Hs B' [(s, sto c m), (c, clo cells)] H ∧ ∀ A' H', Hs B' A' H' → Hs B (A' ++ R) H' := ⟨_, rfl, hs.frame [(s, sto c m), (c, clo cells)]⟩
  obtain ⟨B', eB, smB, h1, back⟩ := fr
  refine ⟨x, B, B', s, c, m, cells, args, rfl, smB, h1, g, ha, fun B2 v m' cells' H' sm h2 g2 post => ?_⟩
  have nd := hs.nd
  have hRB : ∀ e ∈ R, B' e.1 = some e.2 := fun e he => by
    have nm : e.1 ∉ [(s, sto c m), (c, clo cells)].map (·.1) := fun z => by
      rw [List.map_cons, List.map_cons, List.nodup_cons, List.nodup_cons] at nd
      have h3 : e.1 ∈ R.map (·.1) := List.mem_map.mpr ⟨e, he, rfl⟩
      rcases List.mem_cons.mp z with z | z
      · rw [z] at h3
        exact nd.1 (List.mem_cons_of_mem _ h3)
      · rw [List.mem_singleton.mp z] at h3
        exact nd.2.1 h3
    rw [eB, around_out nm]
    exact hs.at_ e (List.mem_cons_of_mem _ (List.mem_cons_of_mem _ he))
  have hb := back _ _ (Hs.base sm h2)
  have hmix : Same (mix B B' B2) (around R B2) := fun p o hp => by
    rw [around_out fun z => ?_]
    · exact mix_le smB sm _ _ hp
    · obtain ⟨e, he, rfl⟩ := List.mem_map.mp z
      unfold mix at hp
      rw [if_neg (by rw [hRB e he]; simp)] at hp
      have := hs.out e (List.mem_cons_of_mem _ (List.mem_cons_of_mem _ he))
      rw [this] at hp
      cases hp
  refine q (around R B2) v m' cells' H' (fun b o e => hmix _ _ (mix_old smB _ _ e)) ⟨fun b o e => ?_, hb.nd, fun e he => ?_, hb.at_⟩ g2 (hm _ _ _ hmix post)
  · unfold around at e
    split at e
    · cases e
    · exact h2.same _ _ e
  · rcases List.mem_append.mp (show e ∈ [(s, sto c m'), (c, clo cells')] ++ R from he) with he | he
    · unfold around
      split
      · rfl
      · exact h2.out e he
    · unfold around
      rw [if_pos (List.mem_map.mpr ⟨e, he, rfl⟩)]
/-- the same, seen from a maker -/
theorem w_spM {γ : Type} {ar : γ → Hp → List V → Prop} {Post : γ → Hp → V → Prop} (x : γ) {G B0 B H : Hp} {Q : VK} {E : XK} {s c : Addr} {m : Int} {cells : List Int} {R : List (Addr × HO)} {args : List V} (eG : Same G B0) (e0 : Same B0 B) (hs : Hs B ((s, sto c m) :: (c, clo cells) :: R) H) (g : Good m cells) (ha : ar x (mix G B0 B) args)
    (hm : ∀ H1 H2 v, Same H1 H2 → Post x H1 v → Post x H2 v)
    (q : ∀ B2 v m' cells' H', Same B B2 → Hs B2 ((s, sto c m') :: (c, clo cells') :: R) H' → Good m' cells' → Post x (mix G B0 B2) v → Q v H') : spS ar Post (.ref s :: args) H Q E := by
  have fr : ∃ B', B' = around [(s, sto c m), (c, clo cells)] H ∧ Same B B' ∧ Hs B' [(s, sto c m), (c, clo cells)] H ∧ ∀ A' H', Hs B' A' H' → Hs B (A' ++ R) H' := ⟨_, rfl, hs.frame [(s, sto c m), (c, clo cells)]⟩
  obtain ⟨B', eB, smB, h1, back⟩ := fr
  have eM : Same (mix G B0 B) B := mix_le eG e0
  refine ⟨x, mix G B0 B, B', s, c, m, cells, args, rfl, eM.trans smB, h1, g, ha, fun B2 v m' cells' H' sm h2 g2 post => ?_⟩
  have nd := hs.nd
  have hRB : ∀ e ∈ R, B' e.1 = some e.2 := fun e he => by
    have nm : e.1 ∉ [(s, sto c m), (c, clo cells)].map (·.1) := fun z => by
      rw [List.map_cons, List.map_cons, List.nodup_cons, List.nodup_cons] at nd
      have h3 : e.1 ∈ R.map (·.1) := List.mem_map.mpr ⟨e, he, rfl⟩
      rcases List.mem_cons.mp z with z | z
      · rw [z] at h3
        exact nd.1 (List.mem_cons_of_mem _ h3)
      · rw [List.mem_singleton.mp z] at h3
        exact nd.2.1 h3
    rw [eB, around_out nm]
    exact hs.at_ e (List.mem_cons_of_mem _ (List.mem_cons_of_mem _ he))
  have hb := back _ _ (Hs.base sm h2)
  have outR : ∀ p o, B p = some o → p ∉ R.map (·.1) := fun p o hp z => by
    obtain ⟨e, he, rfl⟩ := List.mem_map.mp z
    have := hs.out e (List.mem_cons_of_mem _ (List.mem_cons_of_mem _ he))
    rw [this] at hp
    cases hp
  have sBB : Same B (around R B2) := fun b o e => by
    rw [around_out (outR b o e)]
    exact sm _ _ (smB _ _ e)
  have hmix : Same (mix (mix G B0 B) B' B2) (mix G B0 (around R B2)) := fun p o hp => by
    by_cases hB : B' p = none
    · rw [mix_new hB] at hp
      have hp0 : B0 p = none := e0.free (smB.free hB)
      rw [mix_new hp0, around_out fun z => ?_]
      · exact hp
      · obtain ⟨e, he, rfl⟩ := List.mem_map.mp z
        rw [hRB e he] at hB
        cases hB
    · have e1 : mix (mix G B0 B) B' B2 p = mix G B0 B p := if_neg hB
      rw [e1] at hp
      exact mix_mono sBB _ _ hp
  refine q (around R B2) v m' cells' H' sBB ⟨fun b o e => ?_, hb.nd, fun e he => ?_, hb.at_⟩ g2 (hm _ _ _ hmix post)
  · unfold around at e
    split at e
    · cases e
    · exact h2.same _ _ e
  · rcases List.mem_append.mp (show e ∈ [(s, sto c m'), (c, clo cells')] ++ R from he) with he | he
    · unfold around
      split
      · rfl
      · exact h2.out e he
    · unfold around
      rw [if_pos (List.mem_map.mpr ⟨e, he, rfl⟩)]
end
local macro_rules | `(tactic| walk_at "v") => `(tactic| first | exact v0 | exact v1 | exact v2 | exact v3 | exact v4 | exact v5 | exact v6 | exact v7 | exact v8)
local macro_rules | `(tactic| walk_at "vs") => `(tactic| first | exact st0 | exact st1 | exact st2 | exact st3 | exact st4 | exact st5 | exact st6 | exact st7 | exact st8)
local macro_rules | `(tactic| walk_at "s") => `(tactic| first
  | with_reducible refine w_dget ?_
  | ((with_reducible refine' w_dgetZ ?h ?nd ?hk ?hv ?_); (case h => walk_at "g"); (case nd => walk_at "nd"); (case hk => walk_at "k"); (case hv => walk_at "v"))
  | ((with_reducible refine' w_dputZ ?hs ?h ?nd ?hk ?hv ?hu ?hl ?_); (case hs => assumption); (case h => walk_at "p"); (case nd => walk_at "nd"); (case hk => walk_at "k"); (case hv => walk_at "v"); (case hu => walk_at "vs"); (case hl => decide); intro _ _)
  | with_reducible refine w_gsub ?_
  | with_reducible refine w_setD ?_
  | with_reducible refine w_disp ?_
  | ((with_reducible refine' w_newP ?hs ?_); (case hs => assumption); intro _ _ _)
  | with_reducible refine w_pcons ?_
  | with_reducible refine w_pnil ?_)

local macro_rules | `(tactic| walk_at "s") => `(tactic| first
  | with_reducible refine w_nget ?_
  | with_reducible refine w_nin ?_
  | with_reducible refine w_nnot ?_
  | with_reducible refine w_nput ?_
  | with_reducible refine w_ndel ?_
  | with_reducible refine w_npop ?_
  | ((with_reducible refine' w_nnew ?hs ?_); (case hs => assumption); intro _ _ _))

local macro_rules | `(tactic| walk_at "s") => `(tactic| first
  | with_reducible refine w_ninF ?_
  | with_reducible refine w_nsetd ?_
  | with_reducible refine w_ckw ?_)

def arNone (_ : Unit) (_ : Hp) (args : List V) : Prop := args = []
/-- as a start may be -/
def StOk (p : Plc) : Prop := 1 ≤ p.1 ∧ p.1 ≤ 3 ∧ 0 ≤ p.2.1 ∧ p.2.1 ≤ 3 ∧ p.2.2.length = 3 ∧ ∀ x ∈ p.2.2, 0 ≤ x ∧ x ≤ 2
section
variable {P : Program} [IsP P] {w : World} {K : PySem.W.Frag} {mg : Str → Option Value} {base : Heap} {a : Ad}
abbrev sp__law_start : Sp := spS arNone fun _ H v => ∃ p, KeyAt H v (plK p) ∧ StOk p
theorem ok__law_start (T : Txt w K mg a) : FnOk P w K mg base CX0 3 a._law_start a.fd__law_start ["state"] sp__law_start := by
  have G__law_draw := ok__law_draw (P := P) (w := w) (base := base) T
  refine T.fn__law_start.ok sc__law_start (fun vs H Q E h => ?_) (fun cdv A outer s H vs Q E hr h => ?_)
  · obtain ⟨_, _, _, _, _, _, _, _, rfl, _, _, _, rfl, _⟩ := h
    rfl
  · obtain ⟨_, G, B, s, c, m, cells, _, rfl, sG, hs, g, rfl, k⟩ := h
    refine ⟨_, (pss_one (ps_ret (pe_tup (pa_cons (pe_op op_add pe_int (pe_call G__law_draw (hr.mono (by first | decide | omega)) rfl T.mg__law_draw T.kp__law_draw T.bi__law_draw .nil pass0 (pa_cons (pv 0) (pa_cons pe_int pa_nil)))) (pa_cons (pe_call G__law_draw (hr.mono (by first | decide | omega)) rfl T.mg__law_draw T.kp__law_draw T.bi__law_draw .nil pass0 (pa_cons (pv 0) (pa_cons pe_int pa_nil))) (pa_cons (pe_callTy call_tuple_of (by rfl) T.mg_tuple (by decide +kernel) (pa_cons (pe_lc (own := [("k", 1)]) (g := (gName 1)) (tt := tYes) rfl sc__law_start.nd (pi_range1 rfl T.mg_range (pa_cons pe_int pa_nil)) (blkOk_by (own := [("k", 1)]) (N := N__law_start) (sc := defScope s__law_start) (by decide +kernel)) (fun _ _ _ _ _ => by exact (pg_name (i := 1) sc__law_start.nd rfl (Or.inl rfl))) (fun _ _ _ _ _ => pts_nil) (fun _ _ _ _ _ => by exact (pe_call G__law_draw (hr.mono (by first | decide | omega)) rfl T.mg__law_draw T.kp__law_draw T.bi__law_draw .nil pass0 (pa_cons (pv 0) (pa_cons pe_int pa_nil))))) pa_nil)) pa_nil)))))), ?_⟩
    walk_at "ss"
    refine w_draw hs g (by omega) fun sw m1 c1 H1 hs1 g1 _ d1 => ?_
    obtain ⟨s0, s1⟩ := d1 (by omega)
    clear hs g
    walk_at "ss"
    refine w_draw hs1 g1 (by omega) fun pt m2 c2 H2 hs2 g2 _ d2 => ?_
    obtain ⟨p0, p1⟩ := d2 (by omega)
    clear hs1 g1
    walk_at "ss"
    refine w_lcG ?_
    walk_at "ss"
    refine w_rngR (by decide) (by decide) fun D hD => ?_
    refine turns_range (Body := LcBody (gName 1) tYes _ _ _ D) (fun i H' => ∃ (m' : Int) (c' : List Int) (ns : List Int), Hs B [(D, .lst (ns.map V.int)), (s, sto c m'), (c, clo c')] H' ∧ Good m' c' ∧ ns.length = i ∧ ∀ x ∈ ns, 0 ≤ x ∧ x ≤ 2) ⟨m2, c2, [], hs2.new hD, g2, rfl, (fun _ z => nomatch z)⟩ ?_ ?_
    · clear hs2 hD
      rintro i H' hi ⟨m', c', ns, hs3, g3, hn, hns⟩
      refine ⟨rfl, ?_⟩
      have hs4 := hs3.m1.m2.m1
      walk_at "ss"
      try (with_reducible refine iteT ?_)
      walk_at "ss"
      refine w_draw hs4 g3 (by omega) fun x m4 c4 H4 hs5 g4 _ d3 => ?_
      obtain ⟨x0, x1⟩ := d3 (by omega)
      clear hs3 hs4
      have hs6 := hs5.m2
      have hi3 : i < 3 := hi
      refine ⟨_, hs6.g0, szl (by rw [List.length_map]; omega), m4, c4, ns ++ [x], ?_, g4, by rw [List.length_append, hn]; rfl, fun z hz => ?_⟩
      · rw [List.map_append]
        exact hs6.p0 _
      · rcases List.mem_append.mp hz with hz | hz
        · exact hns z hz
        · rw [List.mem_singleton.mp hz]
          omega
    · rintro H' ⟨m', c', ns, hs3, g3, hn, hns⟩
      have hn3 : ns.length = 3 := hn
      clear hs2 hD
      walk_at "ss"
      refine ⟨D, _, rfl, .inl ⟨SqL.of hs3.g0, fun l hl => ?_⟩⟩
      have hs4 := hs3.new (o := .tup (ns.map V.int)) hl
      generalize upd H' l (.tup (ns.map V.int)) = H5 at hs4 ⊢
      clear hs3 hl
      walk_at "ss"
      rename_i t H6 hs5
      clear hs4
      obtain ⟨B1, sm1, h1, mm1, hs6⟩ := frz_mix (G := G) (Same.refl B) hs5
      obtain ⟨B2, sm2, h2, mm2, hs7⟩ := frz_mix (G := G) sm1 hs6
      exact k B2 _ m' c' H6 (sm1.trans sm2) hs7.tl g3 ⟨(1 + sw, pt, ns), ⟨t, rfl, _, mm2 _ _ h1, .cons rfl (.cons rfl (.cons ⟨l, rfl, h2⟩ .nil))⟩, by show 1 ≤ 1 + sw; omega, by show 1 + sw ≤ 3; omega, p0, by show pt ≤ 3; omega, hn3, hns⟩
/-! ## the net -/
def rows3 : List Lk := [((1, 1), (2, 1)), ((2, 2), (3, 1)), ((1, 2), (3, 2))]
theorem nkL {H : Hp} {t p q : Addr} {l : Lk} (h : H t = some (.tup [.ref p, .ref q])) (hp : H p = some (.tup [.int l.1.1, .int l.1.2])) (hq : H q = some (.tup [.int l.2.1, .int l.2.2])) : NK H (lkK l) (.ref t) :=
  KAt.nk (ks := itL l) ⟨_, h, .cons ⟨p, rfl, hp⟩ (.cons ⟨q, rfl, hq⟩ .nil)⟩
abbrev sp__law_graph : Sp := spS arNone fun _ H v => ∃ ls, GrAt H v 3 ls ∧ ls.Sublist rows3
theorem ok__law_graph (T : Txt w K mg a) : FnOk P w K mg base CX0 3 a._law_graph a.fd__law_graph ["state"] sp__law_graph := by
  have G__law_draw := ok__law_draw (P := P) (w := w) (base := base) T
  refine T.fn__law_graph.ok sc__law_graph (fun vs H Q E h => ?_) (fun cdv A outer s H vs Q E hr h => ?_)
  · obtain ⟨_, _, _, _, _, _, _, _, rfl, _, _, _, rfl, _⟩ := h
    rfl
  · obtain ⟨_, G, B, s, c, m, cells, _, rfl, sG, hs, g, rfl, k⟩ := h
    refine ⟨_, (pss_cons (ps_set (i := 1) sc__law_graph.nd rfl (Or.inl rfl) (pe_lst (pa_cons (pe_tup (pa_cons (pe_tup (pa_cons pe_int (pa_cons pe_int pa_nil))) (pa_cons (pe_tup (pa_cons pe_int (pa_cons pe_int pa_nil))) pa_nil))) (pa_cons (pe_tup (pa_cons (pe_tup (pa_cons pe_int (pa_cons pe_int pa_nil))) (pa_cons (pe_tup (pa_cons pe_int (pa_cons pe_int pa_nil))) pa_nil))) (pa_cons (pe_tup (pa_cons (pe_tup (pa_cons pe_int (pa_cons pe_int pa_nil))) (pa_cons (pe_tup (pa_cons pe_int (pa_cons pe_int pa_nil))) pa_nil))) pa_nil)))))
  (pss_one (ps_ret (pe_tup (pa_cons pe_str (pa_cons pe_int (pa_cons (pe_lc (own := [("link", 2)]) (g := (gName 2)) rfl sc__law_graph.nd (pi_listK (K := K) (pv 1)) (blkOk_by (own := [("link", 2)]) (N := N__law_graph) (sc := defScope s__law_graph) (by decide +kernel)) (fun _ _ _ _ _ => by exact (pg_name (i := 2) sc__law_graph.nd rfl (Or.inl rfl))) (fun _ _ _ _ _ => by exact pts_one (pt_cmpR op_gt (pe_call G__law_draw (hr.mono (by first | decide | omega)) rfl T.mg__law_draw T.kp__law_draw T.bi__law_draw .nil pass0 (pa_cons (pv 0) (pa_cons pe_int pa_nil))) pe_int (nomark _))) (fun _ _ _ _ _ => by exact (pv 2))) pa_nil))))))), ?_⟩
    walk_at "ss"
    rename_i e1 _ _ e2 _ _ t1 _ _ e3 _ _ e4 _ _ t2 _ _ e5 _ _ e6 _ _ t3 _ _ rl H1 hs1
    obtain ⟨B1, sm1, h1, mm1, hs2⟩ := frz_mix (G := G) (Same.refl B) hs1
    obtain ⟨B2, sm2, h2, mm2, hs3⟩ := frz_mix (G := G) sm1 hs2
    obtain ⟨B3, sm3, h3, mm3, hs4⟩ := frz_mix (G := G) (sm1.trans sm2) hs3
    obtain ⟨B4, sm4, h4, mm4, hs5⟩ := frz_mix (G := G) (sm1.trans (sm2.trans sm3)) hs4
    obtain ⟨B5, sm5, h5, mm5, hs6⟩ := frz_mix (G := G) (sm1.trans (sm2.trans (sm3.trans sm4))) hs5
    obtain ⟨B6, sm6, h6, mm6, hs7⟩ := frz_mix (G := G) (sm1.trans (sm2.trans (sm3.trans (sm4.trans sm5)))) hs6
    obtain ⟨B7, sm7, h7, mm7, hs8⟩ := frz_mix (G := G) (sm1.trans (sm2.trans (sm3.trans (sm4.trans (sm5.trans sm6))))) hs7
    obtain ⟨B8, sm8, h8, mm8, hs9⟩ := frz_mix (G := G) (sm1.trans (sm2.trans (sm3.trans (sm4.trans (sm5.trans (sm6.trans sm7)))))) hs8
    obtain ⟨B9, sm9, h9, mm9, hs10⟩ := frz_mix (G := G) (sm1.trans (sm2.trans (sm3.trans (sm4.trans (sm5.trans (sm6.trans (sm7.trans sm8))))))) hs9
    obtain ⟨B10, sm10, h10, mm10, hsF⟩ := frz_mix (G := G) (sm1.trans (sm2.trans (sm3.trans (sm4.trans (sm5.trans (sm6.trans (sm7.trans (sm8.trans sm9)))))))) hs10
    have sm : Same B B10 := sm1.trans (sm2.trans (sm3.trans (sm4.trans (sm5.trans (sm6.trans (sm7.trans (sm8.trans (sm9.trans sm10))))))))
    have hrl : mix G B B10 rl = some (.lst [.ref t1, .ref t2, .ref t3]) := mm10 _ _ (mm9 _ _ (mm8 _ _ (mm7 _ _ (mm6 _ _ (mm5 _ _ (mm4 _ _ (mm3 _ _ (mm2 _ _ h1))))))))
    have hL : LkL (mix G B B10) [.ref t1, .ref t2, .ref t3] rows3 :=
      .cons ⟨t1, rfl, nkL (l := ((1, 1), (2, 1))) (mm10 _ _ (mm9 _ _ h8)) h10 (mm10 _ _ h9)⟩ (.cons ⟨t2, rfl, nkL (l := ((2, 2), (3, 1))) (mm10 _ _ (mm9 _ _ (mm8 _ _ (mm7 _ _ (mm6 _ _ h5))))) (mm10 _ _ (mm9 _ _ (mm8 _ _ h7))) (mm10 _ _ (mm9 _ _ (mm8 _ _ (mm7 _ _ h6))))⟩ (.cons ⟨t3, rfl, nkL (l := ((1, 2), (3, 2))) (mm10 _ _ (mm9 _ _ (mm8 _ _ (mm7 _ _ (mm6 _ _ (mm5 _ _ (mm4 _ _ (mm3 _ _ h2)))))))) (mm10 _ _ (mm9 _ _ (mm8 _ _ (mm7 _ _ (mm6 _ _ (mm5 _ _ h4)))))) (mm10 _ _ (mm9 _ _ (mm8 _ _ (mm7 _ _ (mm6 _ _ (mm5 _ _ (mm4 _ _ h3)))))))⟩ .nil))
    have hrlB : B10 rl = some (.lst [.ref t1, .ref t2, .ref t3]) := mix_le sG sm _ _ hrl
    clear hs1 hs2 hs3 hs4 hs5 hs6 hs7 hs8 hs9 hs10 mm1 mm2 mm3 mm4 mm5 mm6 mm7 mm8 mm9 mm10 h1 h2 h3 h4 h5 h6 h7 h8 h9 h10
    refine w_lcLR ?_
    walk_at "ss"
    refine w_listR (SqL.of (hsF.same _ _ hrlB)) fun D hD => ?_
    refine turns_list (Body := LcBody (gName 2) _ _ _ _ D) (fun i H' => ∃ (m' : Int) (c' : List Int) (us : List V) (ls : List Lk), Hs B10 [(D, .lst us), (s, sto c m'), (c, clo c')] H' ∧ Good m' c' ∧ LkL (mix G B B10) us ls ∧ ls.Sublist (rows3.take i)) ⟨m, cells, [], [], hsF.new hD, g, .nil, List.Sublist.refl _⟩ (fun i H' _ ⟨_, _, _, _, h, _⟩ => SqL.of (h.same _ _ hrlB)) ?_ ?_
    · clear hsF hD g
      rintro i u H' hu ⟨m', c', us, ls, hs3, g3, hL3, hsub⟩
      obtain ⟨t, l, rfl, hl, hk⟩ := LkL.get hL hu
      have hi3 : i < 3 := (List.getElem?_eq_some_iff.mp hu).1
      have tk : rows3.take (i + 1) = rows3.take i ++ [l] := by
        rw [List.take_add_one, hl]
        rfl
      have hus : us.length ≤ 3 := by
        have := LkL.len hL3
        have h2 := hsub.length_le
        rw [List.length_take] at h2
        omega
      refine ⟨rfl, ?_⟩
      have hs4 := hs3.m1.m2.m1
      walk_at "ss"
      refine w_draw hs4 g3 (by omega) fun x m4 c4 H4 hs5 g4 _ d3 => ?_
      clear hs3 hs4
      have hs6 := hs5.m2
      walk_at "ss"
      refine ifd (fun hx => ?_) (fun hx => ?_)
      · walk_at "ss"
        refine ⟨us, hs6.g0, szl (by omega), m4, c4, _, ls ++ [l], hs6.p0 _, g4, hL3.snoc hk, ?_⟩
        rw [tk]
        exact hsub.append (List.Sublist.refl _)
      · refine ⟨m4, c4, us, ls, hs6, g4, hL3, ?_⟩
        rw [tk]
        exact hsub.trans (List.sublist_append_left _ _)
    · rintro H' ⟨m', c', us, ls, hs3, g3, hL3, hsub⟩
      clear hsF hD g
      walk_at "ss"
      rename_i t H6 hs5
      clear hs3
      obtain ⟨B11, sm11, h11, mm11, hs6⟩ := frz_mix (G := G) sm hs5
      obtain ⟨B12, sm12, h12, mm12, hs7⟩ := frz_mix (G := G) (sm.trans sm11) hs6
      have hus : us.length ≤ 3 := by
        have := LkL.len hL3
        have h2 := hsub.length_le
        rw [List.length_take] at h2
        have : rows3.length = 3 := rfl
        omega
      refine k B12 _ m' c' H6 (sm.trans (sm11.trans sm12)) hs7 g3 ⟨ls, ⟨t, D, us, rfl, mm12 _ _ h11, h12, (hL3.same mm11).same mm12, ?_⟩, hsub⟩
      have := LkL.len hL3
      omega
end
local macro_rules | `(tactic| walk_at "v") => `(tactic| first | exact v0 | exact v1 | exact v2 | exact v3 | exact v4 | exact v5 | exact v6 | exact v7 | exact v8)
local macro_rules | `(tactic| walk_at "vs") => `(tactic| first | exact st0 | exact st1 | exact st2 | exact st3 | exact st4 | exact st5 | exact st6 | exact st7 | exact st8)
local macro_rules | `(tactic| walk_at "s") => `(tactic| first
  | with_reducible refine w_dget ?_
  | ((with_reducible refine' w_dgetZ ?h ?nd ?hk ?hv ?_); (case h => walk_at "g"); (case nd => walk_at "nd"); (case hk => walk_at "k"); (case hv => walk_at "v"))
  | ((with_reducible refine' w_dputZ ?hs ?h ?nd ?hk ?hv ?hu ?hl ?_); (case hs => assumption); (case h => walk_at "p"); (case nd => walk_at "nd"); (case hk => walk_at "k"); (case hv => walk_at "v"); (case hu => walk_at "vs"); (case hl => decide); intro _ _)
  | with_reducible refine w_gsub ?_
  | with_reducible refine w_setD ?_
  | with_reducible refine w_disp ?_
  | ((with_reducible refine' w_newP ?hs ?_); (case hs => assumption); intro _ _ _)
  | with_reducible refine w_pcons ?_
  | with_reducible refine w_pnil ?_)

local macro_rules | `(tactic| walk_at "s") => `(tactic| first
  | with_reducible refine w_nget ?_
  | with_reducible refine w_nin ?_
  | with_reducible refine w_nnot ?_
  | with_reducible refine w_nput ?_
  | with_reducible refine w_ndel ?_
  | with_reducible refine w_npop ?_
  | ((with_reducible refine' w_nnew ?hs ?_); (case hs => assumption); intro _ _ _))

local macro_rules | `(tactic| walk_at "s") => `(tactic| first
  | with_reducible refine w_ninF ?_
  | with_reducible refine w_nsetd ?_
  | with_reducible refine w_ckw ?_)

/-! ## local policies of the law -/
def TstOk : Tst → Prop
  | .is f n => f < 5 ∧ 0 ≤ n ∧ n ≤ 3
  | .neg _ _ => False
  | .all xs => xs.length ≤ 2 ∧ ∀ x ∈ xs, x.1 < 5 ∧ 0 ≤ x.2 ∧ x.2 ≤ 3
def ActOk : Act → Prop
  | .test t => TstOk t
  | .set f n => (f = 1 ∧ 0 ≤ n ∧ n ≤ 3) ∨ (f = 4 ∧ 0 ≤ n ∧ n ≤ 1)
def PartOk : Part → Prop
  | .act x => ActOk x
  | .seq xs => xs.length ≤ 3 ∧ ∀ x ∈ xs, ActOk x
def LocOk (ps : List Part) : Prop := ps.length ≤ 6 ∧ ∀ p ∈ ps, PartOk p
def arDeep (_ : Unit) (_ : Hp) (args : List V) : Prop := args = [.int 2]
section
variable {P : Program} [IsP P] {w : World} {K : PySem.W.Frag} {mg : Str → Option Value} {base : Heap} {a : Ad}
abbrev sp__law_local : Sp := spS arDeep fun _ H v => ∃ ps, PolAt H v ps ∧ LocOk ps
theorem ok__law_local (T : Txt w K mg a) : FnOk P w K mg base CX0 3 a._law_local a.fd__law_local ["state", "deep"] sp__law_local := by
  have G__law_draw := ok__law_draw (P := P) (w := w) (base := base) T
  refine T.fn__law_local.ok sc__law_local (fun vs H Q E h => ?_) (fun cdv A outer s H vs Q E hr h => ?_)
  · obtain ⟨_, _, _, _, _, _, _, _, rfl, _, _, _, rfl, _⟩ := h
    rfl
  · obtain ⟨_, G, B, s, c, m, cells, _, rfl, sG, hs, g, rfl, k⟩ := h
    refine ⟨_, (pss_cons (ps_set (i := 2) sc__law_local.nd rfl (Or.inl rfl) (pe_lst pa_nil))
  (pss_cons (ps_for PassesOwn.never rfl (pi_range1 rfl T.mg_range (pa_cons (pe_op op_add pe_int (pe_call G__law_draw (hr.mono (by first | decide | omega)) rfl T.mg__law_draw T.kp__law_draw T.bi__law_draw .nil pass0 (pa_cons (pv 0) (pa_cons pe_int pa_nil)))) pa_nil)) (pg_name (i := 3) sc__law_local.nd rfl (Or.inl rfl))
  (pss_cons (ps_set (i := 4) sc__law_local.nd rfl (Or.inl rfl) (pe_lst (pa_cons (pe_tup (pa_cons pe_str (pa_cons pe_str (pa_cons (pe_op op_add pe_int (pe_call G__law_draw (hr.mono (by first | decide | omega)) rfl T.mg__law_draw T.kp__law_draw T.bi__law_draw .nil pass0 (pa_cons (pv 0) (pa_cons pe_int pa_nil)))) pa_nil)))) pa_nil)))
  (C8.pss_cut (ps_if (pt_cmpR op_eq (pe_call G__law_draw (hr.mono (by first | decide | omega)) rfl T.mg__law_draw T.kp__law_draw T.bi__law_draw .nil pass0 (pa_cons (pv 0) (pa_cons pe_int pa_nil))) pe_int (nomark _))
  (pss_one (ps_expr (pe_bmK (K := K) PySem.F.plainAttrs_list PySem.F.slot_list_append PySem.F.type_list_append mt_append (pv 4) (pa_cons (pe_tup (pa_cons pe_str (pa_cons (pe_ix (ix_listK (K := K)) (pe_lst (pa_cons pe_str (pa_cons pe_str (pa_cons pe_str pa_nil)))) (pe_call G__law_draw (hr.mono (by first | decide | omega)) rfl T.mg__law_draw T.kp__law_draw T.bi__law_draw .nil pass0 (pa_cons (pv 0) (pa_cons pe_int pa_nil))) (fun _ _ => rfl)) (pa_cons (pe_call G__law_draw (hr.mono (by first | decide | omega)) rfl T.mg__law_draw T.kp__law_draw T.bi__law_draw .nil pass0 (pa_cons (pv 0) (pa_cons pe_int pa_nil))) pa_nil)))) pa_nil))))
  pss_nil)
  (pss_cons (ps_set (i := 5) sc__law_local.nd rfl (Or.inl rfl) (pe_lst (pa_cons (pe_tup (pa_cons pe_str (pa_cons (pe_tup (pa_cons pe_str (pa_cons (pv 4) pa_nil))) pa_nil))) (pa_cons (pe_tup (pa_cons pe_str (pa_cons pe_str (pa_cons (pe_ix (ix_listK (K := K)) (pe_lst (pa_cons pe_int (pa_cons pe_int (pa_cons pe_int (pa_cons pe_int pa_nil))))) (pe_call G__law_draw (hr.mono (by first | decide | omega)) rfl T.mg__law_draw T.kp__law_draw T.bi__law_draw .nil pass0 (pa_cons (pv 0) (pa_cons pe_int pa_nil))) (fun _ _ => rfl)) pa_nil)))) pa_nil))))
  (C8.pss_cut (ps_if (pt_cmpR op_eq (pe_call G__law_draw (hr.mono (by first | decide | omega)) rfl T.mg__law_draw T.kp__law_draw T.bi__law_draw .nil pass0 (pa_cons (pv 0) (pa_cons pe_int pa_nil))) pe_int (nomark _))
  (pss_one (ps_expr (pe_bmK (K := K) PySem.F.plainAttrs_list PySem.F.slot_list_append PySem.F.type_list_append mt_append (pv 5) (pa_cons (pe_tup (pa_cons pe_str (pa_cons pe_str (pa_cons (pe_call G__law_draw (hr.mono (by first | decide | omega)) rfl T.mg__law_draw T.kp__law_draw T.bi__law_draw .nil pass0 (pa_cons (pv 0) (pa_cons pe_int pa_nil))) pa_nil)))) pa_nil))))
  pss_nil)
  (pss_one (ps_expr (pe_bmK (K := K) PySem.F.plainAttrs_list PySem.F.slot_list_append PySem.F.type_list_append mt_append (pv 2) (pa_cons (pe_tup (pa_cons pe_str (pa_cons (pv 5) pa_nil))) pa_nil)))))))))
  (C8.pss_cut (ps_if (pt_cmpR op_eq (pe_call G__law_draw (hr.mono (by first | decide | omega)) rfl T.mg__law_draw T.kp__law_draw T.bi__law_draw .nil pass0 (pa_cons (pv 0) (pa_cons pe_int pa_nil))) pe_int (nomark _))
  (pss_one (ps_expr (pe_bmK (K := K) PySem.F.plainAttrs_list PySem.F.slot_list_append PySem.F.type_list_append mt_append (pv 2) (pa_cons (pe_tup (pa_cons pe_str (pa_cons (pe_tup (pa_cons pe_str (pa_cons pe_str (pa_cons pe_int pa_nil)))) pa_nil))) pa_nil))))
  pss_nil)
  (pss_one (ps_ret (pe_tup (pa_cons pe_str (pa_cons (pv 2) pa_nil)))))))), ?_⟩
    walk_at "ss"
    rename_i pl H1 hs1
    clear hs
    refine w_for1 ?_
    walk_at "ss"
    refine w_draw hs1.m1.m2.m1 g (by omega) fun n m1 c1 H2 hs2 g1 _ hn => ?_
    obtain ⟨n0, n1⟩ := hn (by omega)
    clear hs1 g
    walk_at "ss"
    refine w_forR (n := 1 + n) (by omega) (fun i σ H' => ∃ (B2 : Hp) (m : Int) (cells : List Int) (us : List V) (ps : List Part) (v3 v4 v5 : Option V), σ = [some (.ref s), some (.int 2), some (.ref pl), v3, v4, v5] ∧ Same B B2 ∧ Hs B2 [(s, sto c m), (c, clo cells), (pl, .lst us)] H' ∧ Good m cells ∧ Row (PartAt (mix G B B2)) us ps ∧ ps.length = i ∧ ∀ p ∈ ps, PartOk p) (fun Q q => q) (by omega)
      ⟨B, m1, c1, [], [], none, none, none, rfl, Same.refl _, hs2, g1, Row.nil, rfl, (fun _ z => nomatch z)⟩ ?_ ?_
    · clear hs2 g1
      clear m1 c1 m cells
      rintro i σ' H3 hi ⟨B2, m, cells, us, ps, v3, v4, v5, rfl, sm, hs3, g3, hro, hlen, hok⟩
      have hi5 : (i : Int) < 6 := by omega
      walk_at "ss"
      refine w_draw hs3 g3 (by omega) fun sw m2 c2 H4 hs4 g4 _ hsw => ?_
      obtain ⟨sw0, sw1⟩ := hsw (by omega)
      clear hs3 g3
      walk_at "ss"
      rename_i it H5 _ tl H6 hs6
      clear hs4
      obtain ⟨B3, sm3, hit, mm3, hs7⟩ := frz_mix (G := G) sm hs6.m1
      have sm03 := sm.trans sm3
      have hia : IsAt (mix G B B3) (.ref it) 0 (1 + sw) := ⟨it, rfl, hit, by decide⟩
      have hro3 := hro.mono fun _ _ => PartAt.same mm3
      clear hs6 hro
      refine w_cut (fun σ' H' => ∃ (B5 : Hp) (m : Int) (cells : List Int) (rs : List V) (xs : List (Nat × Int)), σ' = [some (.ref s), some (.int 2), some (.ref pl), some (.int (i : Int)), some (.ref tl), v5] ∧ Same B B5 ∧ Hs B5 [(s, sto c m), (c, clo cells), (pl, .lst us), (tl, .lst rs)] H' ∧ Good m cells ∧ Row (PartAt (mix G B B5)) us ps ∧ Row (fun u x => IsAt (mix G B B5) u x.1 x.2) rs xs ∧ xs.length ≤ 2 ∧ ∀ x ∈ xs, x.1 < 5 ∧ 0 ≤ x.2 ∧ x.2 ≤ 3) ?_ ?_
      · walk_at "ss"
        have hs8 : Hs B3 [(s, sto c m2), (c, clo c2), (pl, .lst us), (tl, .lst [.ref it])] H6 := hs7.m3.m3.m3
        clear hs7
        refine w_draw hs8 g4 (by omega) fun d2 m5 c5 H7 hs9 g5 _ _ => ?_
        clear hs8 g4
        walk_at "ss"
        refine ifd (fun h0 => ?_) (fun h0 => ?_)
        · walk_at "ss"
          rename_i l0 H8 hs10
          clear hs9
          have hs11 : Hs B3 [(s, sto c m5), (c, clo c5), (pl, .lst us), (tl, .lst [.ref it]), (l0, .lst [.str "dst", .str "kind", .str "port"])] H8 := hs10.sel [1, 2, 3, 4, 0]
          clear hs10
          refine w_draw hs11 g5 (by omega) fun d3 m6 c6 H9 hs12 g6 _ hd3 => ?_
          obtain ⟨d30, d31⟩ := hd3 (by omega)
          clear hs11 g5
          walk_at "ss"
          obtain ⟨f, hf, hat⟩ : ∃ f, f < 5 ∧ atI [V.str "dst", .str "kind", .str "port"] d3 = some (.str (fldN f)) := by
            have : d3 = 0 ∨ d3 = 1 ∨ d3 = 2 := by omega
            rcases this with rfl | rfl | rfl
            · exact ⟨3, by decide, at0⟩
            · exact ⟨4, by decide, at1⟩
            · exact ⟨1, by decide, at2⟩
          refine w_ixL (SqL.of hs12.g4) hat ?_
          walk_at "ss"
          refine w_draw hs12 g6 (by omega) fun d4 m7 c7 H10 hs13 g7 _ hd4 => ?_
          obtain ⟨d40, d41⟩ := hd4 (by omega)
          clear hs12 g6
          walk_at "ss"
          rename_i t3 H11 _ H12 hs14
          clear hs13
          obtain ⟨B5, sm5, ht3, mm5, hs15⟩ := frz_mix (G := G) sm03 hs14
          refine ⟨B5, m7, c7, [.ref it] ++ [.ref t3], [(0, 1 + sw)] ++ [(f, d4)], rfl, sm03.trans sm5, hs15.d4, g7, hro3.mono fun _ _ => PartAt.same mm5, (Row.cons (hia.same mm5) Row.nil).snoc (show IsAt _ _ f d4 from ⟨t3, rfl, ht3, hf⟩), Nat.le_refl _, fun x hx => ?_⟩
          rcases List.mem_append.mp hx with hx | hx
          · rw [List.mem_singleton.mp hx]
            exact ⟨(by decide : 0 < 5), by show 0 ≤ 1 + sw; omega, by show 1 + sw ≤ 3; omega⟩
          · rw [List.mem_singleton.mp hx]
            exact ⟨hf, d40, by show d4 ≤ 3; omega⟩
        · walk_at "ss"
          refine ⟨B3, m5, c5, [.ref it], [(0, 1 + sw)], rfl, sm03, hs9, g5, hro3, Row.cons hia Row.nil, (by decide : 1 ≤ 2), fun x hx => ?_⟩
          rw [List.mem_singleton.mp hx]
          exact ⟨(by decide : 0 < 5), by show 0 ≤ 1 + sw; omega, by show 1 + sw ≤ 3; omega⟩
      · clear hs7 g4 hro3 hia
        rintro σ' H7 ⟨B5, m5, c5, rs, xs, rfl, sm5, hs8, g5, hro5, hra, hxz, hxs⟩
        walk_at "ss"
        rename_i ta H8 _ tt H9 _ lp H10 hs9
        clear hs8
        have hs10 : Hs B5 [(s, sto c m5), (c, clo c5), (pl, .lst us), (tl, .lst rs), (ta, .tup [.str "all", .ref tl]), (tt, .tup [.str "test", .ref ta]), (lp, .lst [.int 1, .int 2, .int 0, .int 3])] H10 := hs9.sel [3, 4, 5, 6, 2, 1, 0]
        clear hs9
        refine w_draw hs10 g5 (by omega) fun d6 m6 c6 H11 hs11 g6 _ hd6 => ?_
        obtain ⟨d60, d61⟩ := hd6 (by omega)
        clear hs10 g5
        obtain ⟨pt, hpt0, hpt1, hat⟩ : ∃ pt : Int, 0 ≤ pt ∧ pt ≤ 3 ∧ atI [V.int 1, .int 2, .int 0, .int 3] d6 = some (.int pt) := by
          have : d6 = 0 ∨ d6 = 1 ∨ d6 = 2 ∨ d6 = 3 := by omega
          rcases this with rfl | rfl | rfl | rfl
          · exact ⟨1, by decide, by decide, at0⟩
          · exact ⟨2, by decide, by decide, at1⟩
          · exact ⟨0, by decide, by decide, at2⟩
          · exact ⟨3, by decide, by decide, at3⟩
        refine w_ixL (SqL.of hs11.g6) hat ?_
        walk_at "ss"
        rename_i tp H12 _ al H13 hs12
        clear hs11
        have hs13 : Hs B5 [(tp, .tup [.str "set", .str "port", .int pt]), (tl, .lst rs), (ta, .tup [.str "all", .ref tl]), (tt, .tup [.str "test", .ref ta]), (s, sto c m6), (c, clo c6), (pl, .lst us), (al, .lst [.ref tt, .ref tp])] H13 := hs12.sel [1, 5, 6, 7, 2, 3, 4, 0]
        clear hs12
        obtain ⟨B6, sm6, htp, mm6, hs14⟩ := frz_mix (G := G) sm5 hs13
        obtain ⟨B7, sm7, htl, mm7, hs15⟩ := frz_mix (G := G) (sm5.trans sm6) hs14
        obtain ⟨B8, sm8, hta, mm8, hs16⟩ := frz_mix (G := G) (sm5.trans (sm6.trans sm7)) hs15
        obtain ⟨B9, sm9, htt, mm9, hs17⟩ := frz_mix (G := G) (sm5.trans (sm6.trans (sm7.trans sm8))) hs16
        clear hs13 hs14 hs15 hs16
        have sm09 : Same B B9 := sm5.trans (sm6.trans (sm7.trans (sm8.trans sm9)))
        have mm59 : Same (mix G B B5) (mix G B B9) := mm6.trans (mm7.trans (mm8.trans mm9))
        have hro9 := hro5.mono fun _ _ => PartAt.same mm59
        have hact1 : ActAt (mix G B B9) (.ref tt) (.test (.all xs)) := ⟨tt, _, rfl, htt, ta, tl, rs, rfl, mm9 _ _ hta, mm9 _ _ (mm8 _ _ htl), hra.mono fun _ _ => IsAt.same mm59, by
          have := hra.1
          omega⟩
        have hact2 : ActAt (mix G B B9) (.ref tp) (.set 1 pt) := ⟨tp, rfl, mm9 _ _ (mm8 _ _ (mm7 _ _ htp)), by decide⟩
        have hok1 : ActOk (.test (.all xs)) := ⟨hxz, hxs⟩
        have hok2 : ActOk (.set 1 pt) := .inl ⟨rfl, hpt0, hpt1⟩
        refine w_cut (fun σ' H' => ∃ (B5 : Hp) (m : Int) (cells : List Int) (rs : List V) (xs : List Act), σ' = [some (.ref s), some (.int 2), some (.ref pl), some (.int (i : Int)), some (.ref tl), some (.ref al)] ∧ Same B B5 ∧ Hs B5 [(s, sto c m), (c, clo cells), (pl, .lst us), (al, .lst rs)] H' ∧ Good m cells ∧ Row (PartAt (mix G B B5)) us ps ∧ Row (ActAt (mix G B B5)) rs xs ∧ xs.length ≤ 3 ∧ ∀ x ∈ xs, ActOk x) ?_ ?_
        · walk_at "ss"
          refine w_draw hs17 g6 (by omega) fun d7 m7 c7 H14 hs18 g7 _ _ => ?_
          clear hs17 g6
          walk_at "ss"
          refine ifd (fun h0 => ?_) (fun h0 => ?_)
          · walk_at "ss"
            refine w_draw hs18 g7 (by omega) fun kd m8 c8 H15 hs19 g8 _ hkd => ?_
            obtain ⟨kd0, kd1⟩ := hkd (by omega)
            clear hs18 g7
            walk_at "ss"
            rename_i t3 H16 _ H17 hs20
            clear hs19
            obtain ⟨B10, sm10, ht3, mm10, hs21⟩ := frz_mix (G := G) sm09 hs20
            refine ⟨B10, m8, c8, _, [.test (.all xs), .set 1 pt] ++ [.set 4 kd], rfl, sm09.trans sm10, hs21, g8, hro9.mono fun _ _ => PartAt.same mm10, (Row.cons (hact1.same mm10) (Row.cons (hact2.same mm10) Row.nil)).snoc (show ActAt _ _ (.set 4 kd) from ⟨t3, rfl, ht3, by decide⟩), Nat.le_refl _, fun x hx => ?_⟩
            rcases List.mem_append.mp hx with hx | hx
            · rcases List.mem_cons.mp hx with rfl | hx
              · exact hok1
              · rw [List.mem_singleton.mp hx]
                exact hok2
            · rw [List.mem_singleton.mp hx]
              exact .inr ⟨rfl, kd0, by omega⟩
          · walk_at "ss"
            refine ⟨B9, m7, c7, _, [.test (.all xs), .set 1 pt], rfl, sm09, hs18, g7, hro9, Row.cons hact1 (Row.cons hact2 Row.nil), (by decide : 2 ≤ 3), fun x hx => ?_⟩
            rcases List.mem_cons.mp hx with rfl | hx
            · exact hok1
            · rw [List.mem_singleton.mp hx]
              exact hok2
        · clear hs17 g6 hro9 hact1 hact2
          rintro σ' H14 ⟨B10, m7, c7, as, acts, rfl, sm10, hs18, g7, hro10, hra2, haz, hao⟩
          have huz : us.length ≤ 5 := by
            rw [hro10.1, hlen]
            omega
          walk_at "ss"
          rename_i t4 H15 _ H16 hs19
          clear hs18
          have hs20 : Hs B10 [(t4, .tup [.str "seq", .ref al]), (al, .lst as), (s, sto c m7), (c, clo c7), (pl, .lst (us ++ [.ref t4]))] H16 := hs19.sel [0, 4, 1, 2, 3]
          clear hs19
          obtain ⟨B11, sm11, ht4, mm11, hs21⟩ := frz_mix (G := G) sm10 hs20
          obtain ⟨B12, sm12, hal, mm12, hs22⟩ := frz_mix (G := G) (sm10.trans sm11) hs21
          have mm := mm11.trans mm12
          refine ⟨B12, m7, c7, us ++ [.ref t4], ps ++ [.seq acts], _, _, _, rfl, sm10.trans (sm11.trans sm12), hs22, g7, Row.snoc (hro10.mono fun _ _ => PartAt.same mm) (show PartAt _ (.ref t4) (.seq acts) from ⟨t4, al, as, rfl, mm12 _ _ ht4, hal, hra2.mono fun _ _ => ActAt.same mm, by have := hra2.1; omega⟩), by rw [List.length_append, hlen]; rfl, fun p hp => ?_⟩
          rcases List.mem_append.mp hp with hp | hp
          · exact hok p hp
          · rw [List.mem_singleton.mp hp]
            exact ⟨haz, hao⟩
    · clear hs2 g1
      rintro σ' H3 ⟨B2, m, cells, us, ps, v3, v4, v5, rfl, sm, hs3, g3, hro, hlen, hok⟩
      have hlen5 : ps.length ≤ 5 := by omega
      refine w_cut (fun σ' H' => ∃ (B5 : Hp) (m : Int) (cells : List Int) (us : List V) (ps : List Part), σ' = [some (.ref s), some (.int 2), some (.ref pl), v3, v4, v5] ∧ Same B B5 ∧ Hs B5 [(s, sto c m), (c, clo cells), (pl, .lst us)] H' ∧ Good m cells ∧ Row (PartAt (mix G B B5)) us ps ∧ LocOk ps) ?_ ?_
      · walk_at "ss"
        refine w_draw hs3 g3 (by omega) fun d2 m5 c5 H7 hs9 g5 _ _ => ?_
        clear hs3 g3
        walk_at "ss"
        have huz : us.length ≤ 5 := by
          rw [hro.1]
          exact hlen5
        refine ifd (fun h0 => ?_) (fun h0 => ?_)
        · walk_at "ss"
          rename_i t1 H8 _ t2 H9 _ H10 hs10
          clear hs9
          have hs11 : Hs B2 [(t2, .tup [.str "test", .ref t1]), (t1, .tup [.str "is", .str "src", .int 1]), (s, sto c m5), (c, clo c5), (pl, .lst (us ++ [.ref t2]))] H10 := hs10
          obtain ⟨B11, sm11, ht2, mm11, hs21⟩ := frz_mix (G := G) sm hs11
          obtain ⟨B12, sm12, ht1, mm12, hs22⟩ := frz_mix (G := G) (sm.trans sm11) hs21
          refine ⟨B12, m5, c5, us ++ [.ref t2], ps ++ [.act (.test (.is 2 1))], rfl, sm.trans (sm11.trans sm12), hs22, g5, (hro.mono fun _ _ => PartAt.same (mm11.trans mm12)).snoc (show PartAt _ (.ref t2) (.act (.test (.is 2 1))) from ⟨t2, .ref t1, rfl, mm12 _ _ ht2, t1, rfl, ht1, by decide⟩), by rw [List.length_append]; exact Nat.succ_le_succ hlen5, fun p hp => ?_⟩
          rcases List.mem_append.mp hp with hp | hp
          · exact hok p hp
          · rw [List.mem_singleton.mp hp]
            exact ⟨(by decide : 2 < 5), by decide, by decide⟩
        · walk_at "ss"
          exact ⟨B2, m5, c5, us, ps, rfl, sm, hs9, g5, hro, by omega, hok⟩
      · clear hs3 g3
        rintro σ' H4 ⟨B5, m5, c5, us, ps, rfl, sm5, hs4, g5, hro5, hlo⟩
        walk_at "ss"
        rename_i t H5 hs5
        clear hs4
        obtain ⟨B11, sm11, ht, mm11, hs6⟩ := frz_mix (G := G) sm5 hs5
        obtain ⟨B12, sm12, hl, mm12, hs7⟩ := frz_mix (G := G) (sm5.trans sm11) hs6.m2
        exact k B12 _ m5 c5 H5 (sm5.trans (sm11.trans sm12)) hs7 g5 ⟨ps, ⟨t, pl, us, rfl, mm12 _ _ ht, hl, hro5.mono fun _ _ => PartAt.same (mm11.trans mm12), by have := hro5.1; have := hlo.1; omega⟩, hlo⟩
end
local macro_rules | `(tactic| walk_at "v") => `(tactic| first | exact v0 | exact v1 | exact v2 | exact v3 | exact v4 | exact v5 | exact v6 | exact v7 | exact v8)
local macro_rules | `(tactic| walk_at "vs") => `(tactic| first | exact st0 | exact st1 | exact st2 | exact st3 | exact st4 | exact st5 | exact st6 | exact st7 | exact st8)
local macro_rules | `(tactic| walk_at "s") => `(tactic| first
  | with_reducible refine w_dget ?_
  | ((with_reducible refine' w_dgetZ ?h ?nd ?hk ?hv ?_); (case h => walk_at "g"); (case nd => walk_at "nd"); (case hk => walk_at "k"); (case hv => walk_at "v"))
  | ((with_reducible refine' w_dputZ ?hs ?h ?nd ?hk ?hv ?hu ?hl ?_); (case hs => assumption); (case h => walk_at "p"); (case nd => walk_at "nd"); (case hk => walk_at "k"); (case hv => walk_at "v"); (case hu => walk_at "vs"); (case hl => decide); intro _ _)
  | with_reducible refine w_gsub ?_
  | with_reducible refine w_setD ?_
  | with_reducible refine w_disp ?_
  | ((with_reducible refine' w_newP ?hs ?_); (case hs => assumption); intro _ _ _)
  | with_reducible refine w_pcons ?_
  | with_reducible refine w_pnil ?_)

local macro_rules | `(tactic| walk_at "s") => `(tactic| first
  | with_reducible refine w_nget ?_
  | with_reducible refine w_nin ?_
  | with_reducible refine w_nnot ?_
  | with_reducible refine w_nput ?_
  | with_reducible refine w_ndel ?_
  | with_reducible refine w_npop ?_
  | ((with_reducible refine' w_nnew ?hs ?_); (case hs => assumption); intro _ _ _))

local macro_rules | `(tactic| walk_at "s") => `(tactic| first
  | with_reducible refine w_ninF ?_
  | with_reducible refine w_nsetd ?_
  | with_reducible refine w_ckw ?_)

section
variable {P : Program} [IsP P] {w : World} {K : PySem.W.Frag} {mg : Str → Option Value} {base : Heap} {a : Ad}
/-! ## the law's tests -/
def names5 : List Str := ["switch", "port", "src", "dst", "kind"]
theorem idx_fld : ∀ {f : Nat}, f < 5 → fldN f ∈ names5 ∧ names5.idxOf (fldN f) = f
  | 0, _ => by decide +kernel
  | 1, _ => by decide +kernel
  | 2, _ => by decide +kernel
  | 3, _ => by decide +kernel
  | 4, _ => by decide +kernel
theorem inV_bls : ∀ bs : List Bool, inV (.bl false) (bs.map V.bl) = !bs.all id
  | [] => rfl
  | b :: bs => by
    have ih := inV_bls bs
    unfold inV at ih ⊢
    rw [List.map_cons, List.any_cons, ih]
    cases b <;> rfl
theorem flat_bls : ∀ bs : List Bool, (bs.map V.bl).all flatV = true
  | [] => rfl
  | b :: bs => by
    rw [List.map_cons, List.all_cons, flat_bls bs]
    rfl
def sp_lis : Sp := fun vs H Q _ => ∃ (v : V) (th : Addr) (f : Nat) (n : Int) (s : List Int), vs = [v, .ref th] ∧ IsAt H v f n ∧ H th = some (.tup (s.map V.int)) ∧ s.length = 5 ∧ ∀ H', Same H H' → Q (.bl (isH s f n)) H'
def sp_lholds : Sp := fun vs H Q _ => ∃ (v : V) (th : Addr) (t : Tst) (s : List Int), vs = [v, .ref th] ∧ TstAt H v t ∧ TstOk t ∧ H th = some (.tup (s.map V.int)) ∧ s.length = 5 ∧ ∀ H', Same H H' → Q (.bl (holds t s)) H'
theorem ok_lis (T : Txt w K mg a) : FnOk P w K mg base CX0 1 a._law_holds a.fd__law_holds ["test", "state"] sp_lis := by
  have G__law_holds : FnOk P w K mg base CX0 0 a._law_holds a.fd__law_holds ["test", "state"] spF := fn_F
  refine T.fn__law_holds.ok sc__law_holds (fun vs H Q E h => ?_) (fun cdv A outer s H vs Q E hr h => ?_)
  · obtain ⟨_, _, _, _, _, rfl, _⟩ := h
    rfl
  · obtain ⟨_, th, f, n, s, rfl, ⟨p, rfl, hp, hf⟩, hth, hl, k⟩ := h
    refine ⟨_, (pss_cons (ps_if (pt_cmpR op_eq (pe_ix (ix_tupK (K := K)) (pv 0) pe_int (fun _ _ => rfl)) pe_str (nomark _))
  (pss_one (ps_ret (pe_cmpR op_eq (pe_ix (ix_tupK (K := K)) (pv 1) (pe_bmK (K := K) PySem.F.plainAttrs_list PySem.F.slot_list_index PySem.F.type_list_index (mt_indexS (K := K)) (pe_lst (pa_cons pe_str (pa_cons pe_str (pa_cons pe_str (pa_cons pe_str (pa_cons pe_str pa_nil)))))) (pa_cons (pe_ix (ix_tupK (K := K)) (pv 0) pe_int (fun _ _ => rfl)) pa_nil)) (fun _ _ => rfl)) (pe_ix (ix_tupK (K := K)) (pv 0) pe_int (fun _ _ => rfl)) (nomark _))))
  pss_nil)
  (pss_cons (ps_if (pt_cmpR op_eq (pe_ix (ix_tupK (K := K)) (pv 0) pe_int (fun _ _ => rfl)) pe_str (nomark _))
  (pss_one (ps_ret (pe_not (pe_call G__law_holds (hr.mono (by first | decide | omega)) rfl T.mg__law_holds T.kp__law_holds T.bi__law_holds .nil pass0 (pa_cons (pe_ix (ix_tupK (K := K)) (pv 0) pe_int (fun _ _ => rfl)) (pa_cons (pv 1) pa_nil))))))
  pss_nil)
  (pss_cons (ps_setLc (i := 2) (own := [("part", 3)]) (g := (gName 3)) (tt := tYes) rfl sc__law_holds.nd rfl rfl (sw_true rfl rfl rfl (by decide +kernel)) (pi_listK (K := K) (pe_ix (ix_tupK (K := K)) (pv 0) pe_int (fun _ _ => rfl))) (blkOk_by (own := [("part", 3)]) (N := N__law_holds) (sc := defScope s__law_holds) (by decide +kernel)) (fun _ _ _ _ _ => by exact (pg_name (i := 3) sc__law_holds.nd rfl (Or.inl rfl))) (fun _ _ _ _ _ => pts_nil) (fun _ _ _ _ _ => by exact (pe_call G__law_holds (hr.mono (by first | decide | omega)) rfl T.mg__law_holds T.kp__law_holds T.bi__law_holds .nil pass0 (pa_cons (pv 3) (pa_cons (pv 1) pa_nil)))))
  (pss_one (ps_ret (pe_ifExp (pt_cmpR op_eq (pe_ix (ix_tupK (K := K)) (pv 0) pe_int (fun _ _ => rfl)) pe_str (nomark _)) (pe_cmpR (op_niK (K := K)) pe_bl (pv 2) (by rfl)) (pe_cmpR (op_inK (K := K)) pe_bl (pv 2) (by rfl)))))))), ?_⟩
    have hs := Hs.start H
    walk_at "ss"
    refine ifd (fun _ => ?_) (fun h => absurd rfl h)
    walk_at "ss"
    rename_i l H1 hs1
    refine w_idxS (xs := names5) (SqL.of hs1.g0) rfl (idx_fld hf).1 ?_
    rw [(idx_fld hf).2]
    refine w_ixT (SqT.of (hs1.same _ _ hth)) (at_st (by omega)) ?_
    walk_at "ss"
    exact k _ hs1.same
theorem ok__law_holds (T : Txt w K mg a) : FnOk P w K mg base CX0 2 a._law_holds a.fd__law_holds ["test", "state"] sp_lholds := by
  have G__law_holds := ok_lis (P := P) (w := w) (base := base) T
  refine T.fn__law_holds.ok sc__law_holds (fun vs H Q E h => ?_) (fun cdv A outer s H vs Q E hr h => ?_)
  · obtain ⟨_, _, _, _, rfl, _⟩ := h
    rfl
  · obtain ⟨v, th, t, s, rfl, ht, hok, hth, hl, k⟩ := h
    refine ⟨_, (pss_cons (ps_if (pt_cmpR op_eq (pe_ix (ix_tupK (K := K)) (pv 0) pe_int (fun _ _ => rfl)) pe_str (nomark _))
  (pss_one (ps_ret (pe_cmpR op_eq (pe_ix (ix_tupK (K := K)) (pv 1) (pe_bmK (K := K) PySem.F.plainAttrs_list PySem.F.slot_list_index PySem.F.type_list_index (mt_indexS (K := K)) (pe_lst (pa_cons pe_str (pa_cons pe_str (pa_cons pe_str (pa_cons pe_str (pa_cons pe_str pa_nil)))))) (pa_cons (pe_ix (ix_tupK (K := K)) (pv 0) pe_int (fun _ _ => rfl)) pa_nil)) (fun _ _ => rfl)) (pe_ix (ix_tupK (K := K)) (pv 0) pe_int (fun _ _ => rfl)) (nomark _))))
  pss_nil)
  (pss_cons (ps_if (pt_cmpR op_eq (pe_ix (ix_tupK (K := K)) (pv 0) pe_int (fun _ _ => rfl)) pe_str (nomark _))
  (pss_one (ps_ret (pe_not (pe_call G__law_holds (hr.mono (by first | decide | omega)) rfl T.mg__law_holds T.kp__law_holds T.bi__law_holds .nil pass0 (pa_cons (pe_ix (ix_tupK (K := K)) (pv 0) pe_int (fun _ _ => rfl)) (pa_cons (pv 1) pa_nil))))))
  pss_nil)
  (pss_cons (ps_setLc (i := 2) (own := [("part", 3)]) (g := (gName 3)) (tt := tYes) rfl sc__law_holds.nd rfl rfl (sw_true rfl rfl rfl (by decide +kernel)) (pi_listK (K := K) (pe_ix (ix_tupK (K := K)) (pv 0) pe_int (fun _ _ => rfl))) (blkOk_by (own := [("part", 3)]) (N := N__law_holds) (sc := defScope s__law_holds) (by decide +kernel)) (fun _ _ _ _ _ => by exact (pg_name (i := 3) sc__law_holds.nd rfl (Or.inl rfl))) (fun _ _ _ _ _ => pts_nil) (fun _ _ _ _ _ => by exact (pe_call G__law_holds (hr.mono (by first | decide | omega)) rfl T.mg__law_holds T.kp__law_holds T.bi__law_holds .nil pass0 (pa_cons (pv 3) (pa_cons (pv 1) pa_nil)))))
  (pss_one (ps_ret (pe_ifExp (pt_cmpR op_eq (pe_ix (ix_tupK (K := K)) (pv 0) pe_int (fun _ _ => rfl)) pe_str (nomark _)) (pe_cmpR (op_niK (K := K)) pe_bl (pv 2) (by rfl)) (pe_cmpR (op_inK (K := K)) pe_bl (pv 2) (by rfl)))))))), ?_⟩
    have hs := Hs.start H
    cases t with
    | is f n =>
      obtain ⟨p, rfl, hp, hf⟩ := ht
      walk_at "ss"
      refine ifd (fun _ => ?_) (fun h => absurd rfl h)
      walk_at "ss"
      rename_i l H1 hs1
      refine w_idxS (xs := names5) (SqL.of hs1.g0) rfl (idx_fld hf).1 ?_
      rw [(idx_fld hf).2]
      refine w_ixT (SqT.of (hs1.same _ _ hth)) (at_st (by omega)) ?_
      walk_at "ss"
      exact k _ hs1.same
    | neg f n => exact hok.elim
    | all xs =>
      obtain ⟨p, l, us, rfl, hp, hul, hro, hz⟩ := ht
      walk_at "ss"
      refine ifd (fun h => absurd h (by decide)) (fun _ => ?_)
      walk_at "ss"
      refine ifd (fun h => absurd h (by decide)) (fun _ => ?_)
      walk_at "ss"
      refine w_lcRow (fun _ v b => v = .bl b) (fun _ _ _ _ _ h => h) (SqL.of hul) (by omega) (xs.map fun x => isH s x.1 x.2) (by rw [List.length_map, hro.1]) (fun Q' q => ?_) (fun _ => rfl) (fun i u y H' Q' hu hy sm k' => ?_) (fun D acc H' hs' hr' => ?_)
      · walk_at "ss"
        exact q
      · obtain ⟨x, hx, hat⟩ := hro.get hu
        rw [List.getElem?_map, hx] at hy
        cases hy
        walk_at "ss"
        exact ⟨u, th, x.1, x.2, s, rfl, hat.same sm, sm _ _ hth, hl, fun H3 sm3 => k' _ _ sm3 rfl⟩
      · have hp' := hs'.same _ _ hp
        have e : acc = (xs.map fun x => isH s x.1 x.2).map V.bl := by
          refine List.ext_getElem? fun i => ?_
          cases h : acc[i]? with
          | none =>
            have := List.getElem?_eq_none_iff.mp h
            rw [List.getElem?_eq_none (by rw [List.length_map, ← hr'.1]; omega)]
          | some v =>
            obtain ⟨b, hb, rfl⟩ := hr'.get h
            rw [List.getElem?_map, hb]
            rfl
        walk_at "ss"
        refine ifd (fun _ => ?_) (fun h => absurd rfl h)
        walk_at "ss"
        subst e
        refine ⟨D, _, rfl, .inl (SqL.of hs'.g0), rfl, flat_bls _, ?_⟩
        rw [inV_bls, if_pos rfl, Bool.not_not]
        have e2 : (xs.map fun x => isH s x.1 x.2).all id = holds (.all xs) s := by
          rw [List.all_map]
          rfl
        rw [e2]
        exact k _ hs'.same
end
local macro_rules | `(tactic| walk_at "v") => `(tactic| first | exact v0 | exact v1 | exact v2 | exact v3 | exact v4 | exact v5 | exact v6 | exact v7 | exact v8)
local macro_rules | `(tactic| walk_at "vs") => `(tactic| first | exact st0 | exact st1 | exact st2 | exact st3 | exact st4 | exact st5 | exact st6 | exact st7 | exact st8)
local macro_rules | `(tactic| walk_at "s") => `(tactic| first
  | with_reducible refine w_dget ?_
  | ((with_reducible refine' w_dgetZ ?h ?nd ?hk ?hv ?_); (case h => walk_at "g"); (case nd => walk_at "nd"); (case hk => walk_at "k"); (case hv => walk_at "v"))
  | ((with_reducible refine' w_dputZ ?hs ?h ?nd ?hk ?hv ?hu ?hl ?_); (case hs => assumption); (case h => walk_at "p"); (case nd => walk_at "nd"); (case hk => walk_at "k"); (case hv => walk_at "v"); (case hu => walk_at "vs"); (case hl => decide); intro _ _)
  | with_reducible refine w_gsub ?_
  | with_reducible refine w_setD ?_
  | with_reducible refine w_disp ?_
  | ((with_reducible refine' w_newP ?hs ?_); (case hs => assumption); intro _ _ _)
  | with_reducible refine w_pcons ?_
  | with_reducible refine w_pnil ?_)

local macro_rules | `(tactic| walk_at "s") => `(tactic| first
  | with_reducible refine w_nget ?_
  | with_reducible refine w_nin ?_
  | with_reducible refine w_nnot ?_
  | with_reducible refine w_nput ?_
  | with_reducible refine w_ndel ?_
  | with_reducible refine w_npop ?_
  | ((with_reducible refine' w_nnew ?hs ?_); (case hs => assumption); intro _ _ _))

local macro_rules | `(tactic| walk_at "s") => `(tactic| first
  | with_reducible refine w_ninF ?_
  | with_reducible refine w_nsetd ?_
  | with_reducible refine w_ckw ?_)

/-! ## the law's policies -/
theorem map_of {α β : Type} {f : α → β} {P : α → Prop} : ∀ {xs : List β}, (∀ x ∈ xs, ∃ q, x = f q ∧ P q) → ∃ qs : List α, xs = qs.map f ∧ ∀ q ∈ qs, P q
  | [], _ => ⟨[], rfl, (fun _ z => nomatch z)⟩
  | x :: xs, h => by
    obtain ⟨q, rfl, hq⟩ := h x List.mem_cons_self
    obtain ⟨qs, rfl, hqs⟩ := map_of (P := P) fun y hy => h y (List.mem_cons_of_mem _ hy)
    refine ⟨q :: qs, rfl, fun z hz => ?_⟩
    rcases List.mem_cons.mp hz with rfl | hz
    · exact hq
    · exact hqs z hz
def sK (s : S5) : IK := s.map Sum.inl
theorem sK_inj {s t : S5} (h : sK s = sK t) : s = t := inl_inj h
theorem stK {H : Hp} {u : V} {s : S5} (h : StAt H u s) : KeyAt H u (sK s) := by
  obtain ⟨t, rfl, ht⟩ := h
  exact ⟨t, rfl, kat_ints ht⟩
theorem stK_inv {H : Hp} {u : V} {s : S5} (h : KeyAt H u (sK s)) : StAt H u s := by
  obtain ⟨t, rfl, ht⟩ := h
  exact ⟨t, rfl, kat_ints_inv ht⟩
theorem shp_sK {s : S5} (h : s.length = 5) : (sK s).map shp = none :: [none, none, none, none] := by
  unfold sK
  match s, h with
  | [a, b, c, d, e], _ => rfl
/-- what `sorted(set(..))` makes of the states -/
structure LaOut (H : Hp) (us : List V) (out : List S5) : Prop where
  row : Row (StAt H) us out
  srt : SortedK (out.map sK)
  nd : out.Nodup
def sp_la {β : Type} (R : Hp → V → β → Prop) (f : β → S5 → S5 → Prop) : Sp := fun vs H Q _ => ∃ (v : V) (sl : Addr) (x : β) (ss : List V) (X : List S5), vs = [v, .ref sl] ∧ R H v x ∧ H sl = some (.lst ss) ∧ Row (StAt H) ss X ∧ X.length ≤ 8 ∧ (∀ s ∈ X, s.length = 5) ∧
  ∀ l us out H', Same H H' → H l = none → H' l = some (.lst us) → LaOut H' us out → (∀ s', s' ∈ out ↔ ∃ s ∈ X, f x s s') → Q (.ref l) H'
section
variable {P : Program} [IsP P] {w : World} {K : PySem.W.Frag} {mg : Str → Option Value} {base : Heap} {a : Ad}
theorem la_tail {H0 H : Hp} {Q : VK} {D : Ends} {v : V} {sl fl : Addr} {v3 v4 v5 v6 v7 : Option V} {us : List V} {fnd : List S5} (sm : Same H0 H) (hf : H fl = some (.lst us)) (hr : Row (StAt H) us fnd) (hz : fnd.length ≤ 60) (h5 : ∀ s ∈ fnd, s.length = 5) (hD : D.rt = Q)
    (k : ∀ l us out H', Same H0 H' → H0 l = none → H' l = some (.lst us) → LaOut H' us out → (∀ s', s' ∈ out ↔ s' ∈ fnd) → Q (.ref l) H') :
    (tRet (tCB (rSortSN P w none [none, none, none, none]) (tCons (tCB (rSetL P w K) (tCons (tVar 2) tNil)) tNil))) D [some v, some (.ref sl), some (.ref fl), v3, v4, v5, v6, v7] H := by
  subst hD
  have hs := Hs.of_same sm
  walk_at "ss"
  have hk : Row (KeyAt H) us (fnd.map sK) := ⟨by rw [hr.1, List.length_map], fun i u x h1 h2 => by
    rw [List.getElem?_map] at h2
    obtain ⟨s, hs1, rfl⟩ := Option.map_eq_some_iff.mp h2
    exact stK (hr.2 i u s h1 hs1)⟩
  refine w_setK hs (SqL.of hf) hk (Nat.le_trans (ndp_len _) (by rw [List.length_map]; exact hz)) fun Da L H1 hs1 hL => ?_
  walk_at "ss"
  refine w_sortSK hs1 hs1.g0 hL (fun x hx => ?_) fun p ys H2 hs2 hrow => ?_
  · obtain ⟨s, hs, rfl⟩ := List.mem_map.mp hx
    exact shp_sK (h5 s hs)
  · obtain ⟨out, ho, hom⟩ := map_of (f := sK) (P := fun s => s ∈ fnd) (xs := srtK (ndp (fnd.map sK))) fun x hx => by
      have := (ndp_mem _ _).mp ((srtK_perm _).mem_iff.mp hx)
      obtain ⟨s, hs, rfl⟩ := List.mem_map.mp this
      exact ⟨s, rfl, hs⟩
    have hst : SortedK (out.map sK) := ho ▸ srtK_sorted _
    have hnd : (out.map sK).Nodup := ho ▸ (srtK_perm _).nodup_iff.mpr (ndp_nodup _)
    rw [ho] at hrow
    refine k p ys out H2 hs2.same (hs2.out _ List.mem_cons_self) hs2.g0 ⟨⟨by rw [hrow.1, List.length_map], fun i u s h1 h2 => stK_inv (hrow.2 i u _ h1 (by rw [List.getElem?_map, h2]; rfl))⟩, hst, nodup_of_map (f := sK) hnd⟩ fun s' => ⟨hom s', fun hs' => ?_⟩
    have : sK s' ∈ srtK (ndp (fnd.map sK)) := (srtK_perm _).mem_iff.mpr ((ndp_mem _ _).mpr (List.mem_map_of_mem hs'))
    rw [ho] at this
    obtain ⟨z, hz, e⟩ := List.mem_map.mp this
    exact sK_inj e ▸ hz
theorem ok_lact (n : Nat) (T : Txt w K mg a) : FnOk P w K mg base CX0 (n + 3) a._law_after a.fd__law_after ["policy", "states"] (sp_la (fun H v x => ActAt H v x ∧ ActOk x) fun x s s' => actM x s = some s') := by
  have G__law_holds := ok__law_holds (P := P) (w := w) (base := base) T
  have G__law_after : FnOk P w K mg base CX0 (n + 2) a._law_after a.fd__law_after ["policy", "states"] spF := fn_F
  refine T.fn__law_after.ok sc__law_after (fun vs H Q E h => ?_) (fun cdv A outer s H vs Q E hr h => ?_)
  · obtain ⟨_, _, _, _, _, rfl, _⟩ := h
    rfl
  · obtain ⟨v, sl, x, ss, X, rfl, ⟨hx, hok⟩, hsl, hrX, hXz, hX5, k⟩ := h
    refine ⟨_, (pss_cons (ps_set (i := 2) sc__law_after.nd rfl (Or.inl rfl) (pe_lst pa_nil))
  (C8.pss_cut (ps_if (pt_cmpR op_eq (pe_ix (ix_tupK (K := K)) (pv 0) pe_int (fun _ _ => rfl)) pe_str (nomark _))
  (pss_one (ps_setLc (i := 2) (own := [("state", 7)]) (g := (gName 7)) rfl sc__law_after.nd rfl rfl (sw_true rfl rfl rfl (by decide +kernel)) (pi_listK (K := K) (pv 1)) (blkOk_by (own := [("state", 7)]) (N := N__law_after) (sc := defScope s__law_after) (by decide +kernel)) (fun _ _ _ _ _ => by exact (pg_name (i := 7) sc__law_after.nd rfl (Or.inl rfl))) (fun _ _ _ _ _ => by exact pts_one (pt_val (pe_call G__law_holds (hr.mono (by first | decide | omega)) rfl T.mg__law_holds T.kp__law_holds T.bi__law_holds .nil pass0 (pa_cons (pe_ix (ix_tupK (K := K)) (pv 0) pe_int (fun _ _ => rfl)) (pa_cons (pv 7) pa_nil))))) (fun _ _ _ _ _ => by exact (pv 7))))
  (pss_one (ps_if (pt_cmpR op_eq (pe_ix (ix_tupK (K := K)) (pv 0) pe_int (fun _ _ => rfl)) pe_str (nomark _))
  (pss_cons (ps_set (i := 3) sc__law_after.nd rfl (Or.inr rfl) (pe_bmK (K := K) PySem.F.plainAttrs_list PySem.F.slot_list_index PySem.F.type_list_index (mt_indexS (K := K)) (pe_lst (pa_cons pe_str (pa_cons pe_str (pa_cons pe_str (pa_cons pe_str (pa_cons pe_str pa_nil)))))) (pa_cons (pe_ix (ix_tupK (K := K)) (pv 0) pe_int (fun _ _ => rfl)) pa_nil)))
  (pss_one (ps_setLc (i := 2) (own := [("state", 7)]) (g := (gName 7)) (tt := tYes) rfl sc__law_after.nd rfl rfl (sw_true rfl rfl rfl (by decide +kernel)) (pi_listK (K := K) (pv 1)) (blkOk_by (own := [("state", 7)]) (N := N__law_after) (sc := defScope s__law_after) (by decide +kernel)) (fun _ _ _ _ _ => by exact (pg_name (i := 7) sc__law_after.nd rfl (Or.inl rfl))) (fun _ _ _ _ _ => pts_nil) (fun _ _ _ _ _ => by exact (pe_op (op_catAK (K := K)) (pe_op (op_catAK (K := K)) (pe_slice (sl_tupAK (K := K)) (pv 7) po_none (po_some (pv 3))) (pe_tup (pa_cons (pe_ix (ix_tupK (K := K)) (pv 0) pe_int (fun _ _ => rfl)) pa_nil))) (pe_slice (sl_tupAK (K := K)) (pv 7) (po_some (pe_op op_add (pv 3) pe_int)) po_none))))))
  (pss_one (ps_if (pt_cmpR op_eq (pe_ix (ix_tupK (K := K)) (pv 0) pe_int (fun _ _ => rfl)) pe_str (nomark _))
  (pss_one (ps_for PassesOwn.never rfl (pi_listK (K := K) (pe_ix (ix_tupK (K := K)) (pv 0) pe_int (fun _ _ => rfl))) (pg_name (i := 4) sc__law_after.nd rfl (Or.inl rfl))
  (pss_one (ps_set (i := 2) sc__law_after.nd rfl (Or.inl rfl) (pe_op op_cat (pv 2) (pe_call G__law_after (hr.mono (by first | decide | omega)) rfl T.mg__law_after T.kp__law_after T.bi__law_after .nil pass0 (pa_cons (pv 4) (pa_cons (pv 1) pa_nil))))))))
  (pss_one (ps_if (pt_cmpR op_eq (pe_ix (ix_tupK (K := K)) (pv 0) pe_int (fun _ _ => rfl)) pe_str (nomark _))
  (pss_cons (ps_set (i := 2) sc__law_after.nd rfl (Or.inl rfl) (pe_callTy call_list_of (by rfl) T.mg_list (by decide +kernel) (pa_cons (pv 1) pa_nil)))
  (pss_one (ps_for PassesOwn.never rfl (pi_listK (K := K) (pe_ix (ix_tupK (K := K)) (pv 0) pe_int (fun _ _ => rfl))) (pg_name (i := 4) sc__law_after.nd rfl (Or.inl rfl))
  (pss_one (ps_set (i := 2) sc__law_after.nd rfl (Or.inl rfl) (pe_call G__law_after (hr.mono (by first | decide | omega)) rfl T.mg__law_after T.kp__law_after T.bi__law_after .nil pass0 (pa_cons (pv 4) (pa_cons (pv 2) pa_nil))))))))
  (pss_cons (ps_set (i := 2) sc__law_after.nd rfl (Or.inl rfl) (pe_callTy call_list_of (by rfl) T.mg_list (by decide +kernel) (pa_cons (pv 1) pa_nil)))
  (pss_one (ps_for PassesOwn.never rfl (pi_range1 rfl T.mg_range (pa_cons pe_int pa_nil)) (pg_name (i := 5) sc__law_after.nd rfl (Or.inl rfl))
  (pss_cons (ps_set (i := 6) sc__law_after.nd rfl (Or.inl rfl) (pe_callB (cr_sortSN (P := P) (w := w) (c := none) (sh := [none, none, none, none]) rfl (r64 hr)) (by rfl) T.mg_sorted (by decide +kernel) (pa_cons (pe_callTy (call_setN (P := P) (w := w) (K := K) rfl (r64 hr)) (by rfl) T.mg_set (by decide +kernel) (pa_cons (pe_op op_cat (pv 2) (pe_call G__law_after (hr.mono (by first | decide | omega)) rfl T.mg__law_after T.kp__law_after T.bi__law_after .nil pass0 (pa_cons (pe_ix (ix_tupK (K := K)) (pv 0) pe_int (fun _ _ => rfl)) (pa_cons (pv 2) pa_nil)))) pa_nil)) pa_nil)))
  (pss_cons (ps_if (pt_cmpR op_eq (pe_callB (call_lenK (K := K)) (by rfl) T.mg_len PySem.boot_len (pa_cons (pv 6) pa_nil)) (pe_lenSetT (K := K) rfl (r64 hr) (by rfl) T.mg_len (by rfl) T.mg_set (pv 2)) (nomark _))
  (pss_one ps_break)
  pss_nil)
  (pss_one (ps_set (i := 2) sc__law_after.nd rfl (Or.inl rfl) (pv 6)))))))))))))))
  (pss_one (ps_ret (pe_callB (cr_sortSN (P := P) (w := w) (c := none) (sh := [none, none, none, none]) rfl (r64 hr)) (by rfl) T.mg_sorted (by decide +kernel) (pa_cons (pe_callTy (call_setN (P := P) (w := w) (K := K) rfl (r64 hr)) (by rfl) T.mg_set (by decide +kernel) (pa_cons (pv 2) pa_nil)) pa_nil)))))), ?_⟩
    have hs := Hs.start H
    have hz : ss.length = X.length := hrX.1
    walk_at "ss"
    rename_i f0 H1 hs1
    refine w_cut (fun σ' H' => ∃ (fl : Addr) (us : List V) (fnd : List S5) (v3 v4 v5 v6 v7 : Option V), σ' = [some v, some (.ref sl), some (.ref fl), v3, v4, v5, v6, v7] ∧ Same H H' ∧ H' fl = some (.lst us) ∧ Row (StAt H') us fnd ∧ fnd.length ≤ 8 ∧ (∀ s ∈ fnd, s.length = 5) ∧ ∀ s', s' ∈ fnd ↔ ∃ s ∈ X, actM x s = some s') ?_ ?_
    · cases x with
      | test tt =>
        obtain ⟨p, u, rfl, hp, hu⟩ := hx
        have hp1 := hs1.same _ _ hp
        walk_at "ss"
        refine ifd (fun _ => ?_) (fun h => absurd rfl h)
        walk_at "ss"
        refine w_lcFR (RR := StAt H) (fun s => holds tt s) (SqL.of (hs1.same _ _ hsl)) hrX (by omega) (fun Q q => ⟨_, rfl, q⟩) (fun _ => rfl) (fun _ => rfl) (fun u2 s H2 hsX hst sm2 R hR => ?_) fun Da acc H2 hs2 hacc => ?_
        · obtain ⟨th, rfl, hth⟩ := hst
          have hp2 := sm2 _ _ hp1
          walk_at "ss"
          refine ⟨u, th, tt, s, rfl, hu.same (hs1.same.trans sm2), hok, sm2 _ _ (hs1.same _ _ hth), hX5 s hsX, fun H3 sm3 => ⟨_, rfl, hR H3 sm3⟩⟩
        · walk_at "ss"
          refine ⟨Da, acc, X.filter fun s => holds tt s, _, _, _, _, _, rfl, hs1.same.trans hs2.same, hs2.g0, hacc.mono fun u x => StAt.mono fun p xs e => hs2.same _ _ (hs1.same _ _ e), Nat.le_trans (List.length_filter_le _ _) hXz, fun s hs => hX5 s (List.mem_filter.mp hs).1, fun s' => ?_⟩
          rw [List.mem_filter]
          refine ⟨fun ⟨h1, h2⟩ => ⟨s', h1, if_pos h2⟩, fun ⟨s, h1, h2⟩ => ?_⟩
          have h2 : (if holds tt s = true then some s else none) = some s' := h2
          by_cases hc : holds tt s = true
          · rw [if_pos hc] at h2
            cases h2
            exact ⟨h1, hc⟩
          · rw [if_neg hc] at h2
            cases h2
      | set f n =>
        obtain ⟨p, rfl, hp, hf⟩ := hx
        have hp1 := hs1.same _ _ hp
        walk_at "ss"
        refine ifd (fun h => absurd h (by decide)) (fun _ => ?_)
        walk_at "ss"
        refine ifd (fun _ => ?_) (fun h => absurd rfl h)
        walk_at "ss"
        rename_i nl H2 hs2
        refine w_idxS (xs := names5) (SqL.of hs2.g0) rfl (idx_fld hf).1 ?_
        rw [(idx_fld hf).2]
        walk_at "ss"
        refine w_lcRow (fun H v s => StAt H v s) (fun _ _ _ _ e h => h.mono e) (SqL.of (hs2.same _ _ hsl)) (by omega) (X.map fun s => s.set f n) (by rw [List.length_map, hz]) (fun Q q => ⟨_, rfl, q⟩) (fun _ => rfl) (fun i u2 y H3 Q' hu2 hy sm3 k' => ?_) fun Da acc H3 hs3 hacc => ?_
        · obtain ⟨s, hsX, hst⟩ := hrX.get hu2
          rw [List.getElem?_map, hsX] at hy
          cases hy
          have hl5 := hX5 s (List.mem_of_getElem? hsX)
          obtain ⟨th, rfl, hth⟩ := hst
          have hth3 := (hs2.same.trans sm3) _ _ hth
          have hp2 := (hs2.same.trans sm3) _ _ hp
          have hsA : Hs H3 [] H3 := Hs.start H3
          walk_at "ss"
          refine w_slA hsA (SqT.of hth3) (fun z => ?_) fun l1 H4 hs4 => ?_
          · have := z.2
            rw [HT.sIx_nat, List.length_map] at this
            omega
          have hp4 := hs4.same _ _ hp2
          walk_at "ss"
          rename_i ln H5 hs5
          obtain ⟨B1, sB1, hln, hs6⟩ := frz_hs hs5
          obtain ⟨B2, sB2, hl1, hs7⟩ := frz_hs hs6
          rw [cut_to f rfl] at hl1
          refine w_catTF hs7 hl1 (sB2 _ _ hln) (by rw [List.length_take, List.length_map, List.length_singleton]; omega) fun c1 B3 H6 sB3 hs8 hc1 => ?_
          walk_at "ss"
          refine w_slTF hs8 (sB3 _ _ (sB2 _ _ (sB1 _ _ hth3))) (fun z => ?_) fun l2 B4 H7 sB4 hs9 hl2 => ?_
          · have := z.1
            rw [show (f : Int) + 1 = ((f + 1 : Nat) : Int) from rfl, HT.sIx_nat, List.length_map] at this
            omega
          rw [cut_from (j := (f : Int) + 1) (f + 1) rfl] at hl2
          refine w_catTF hs9 (sB4 _ _ hc1) hl2 (by simp only [List.length_append, List.length_take, List.length_drop, List.length_map, List.length_singleton]; omega) fun c2 B5 H8 sB5 hs10 hc2 => ?_
          have e : List.take f (s.map V.int) ++ [V.int n] ++ List.drop (f + 1) (s.map V.int) = (s.set f n).map V.int := by
            rw [List.append_assoc, List.singleton_append, List.set_eq_take_append_cons_drop, if_pos (by omega), List.map_append, List.map_take, List.map_cons, List.map_drop]
          rw [e] at hc2
          exact k' _ H8 ((sB1.trans (sB2.trans (sB3.trans (sB4.trans sB5)))).trans hs10.same) ⟨c2, rfl, hs10.same _ _ hc2⟩
        · walk_at "ss"
          refine ⟨Da, acc, X.map fun s => s.set f n, _, _, _, _, _, rfl, hs2.same.trans hs3.same, hs3.g0, hacc, by rw [List.length_map]; exact hXz, fun s hs => ?_, fun s' => ?_⟩
          · obtain ⟨z, hz, rfl⟩ := List.mem_map.mp hs
            rw [List.length_set]
            exact hX5 z hz
          · rw [List.mem_map]
            exact ⟨fun ⟨s, h1, h2⟩ => ⟨s, h1, congrArg some h2⟩, fun ⟨s, h1, h2⟩ => ⟨s, h1, Option.some.inj h2⟩⟩
    · rintro σ' H2 ⟨fl, us, fnd, v3, v4, v5, v6, v7, rfl, sm2, hfl, hr2, hz2, h52, hm2⟩
      exact la_tail sm2 hfl hr2 (by omega) h52 rfl fun l us out H' h1 h2 h3 h4 h5 => k l us out H' h1 h2 h3 h4 fun s' => by rw [h5, hm2]
theorem fn_imp {P : Program} {w : World} {K : PySem.W.Frag} {mg : Str → Option Value} {base : Heap} {k : Nat} {f : Addr} {fd : FuncData} {ps : List Str} {sp1 sp2 : Sp} (F : FnOk P w K mg base CX0 k f fd ps sp1) (h : ∀ vs H Q E, sp2 vs H Q E → sp1 vs H Q E) : FnOk P w K mg base CX0 k f fd ps sp2 :=
  ⟨fun vs H Q E g => F.len vs H Q E (h _ _ _ _ g), fun A outer s H args us vs Q E hr he hb hv g => F.run A outer s H args us vs Q E hr he hb hv (h _ _ _ _ g)⟩
def SeqAt (H : Hp) (v : V) (xs : List Act) : Prop := PartAt H v (.seq xs)
theorem actM_few {x : Act} {X out : List S5} (nd : out.Nodup) (h : ∀ s', s' ∈ out → ∃ s ∈ X, actM x s = some s') : out.length ≤ X.length := by
  have h1 := nd.length_le_of_subset (l₂ := X.filterMap (actM x)) fun s' hs' => by
    obtain ⟨s, h2, h3⟩ := h s' hs'
    exact List.mem_filterMap.mpr ⟨s, h2, h3⟩
  exact Nat.le_trans h1 (List.length_filterMap_le _ _)
theorem seqM_snoc (x : Act) : ∀ (xs : List Act) (s : S5), seqM (xs ++ [x]) s = (seqM xs s).bind (actM x)
  | [], s => by
    show (actM x s).bind (seqM []) = actM x s
    cases actM x s with
    | none => rfl
    | some _ => rfl
  | y :: ys, s => by
    show (actM y s).bind (seqM (ys ++ [x])) = ((actM y s).bind (seqM ys)).bind (actM x)
    cases actM y s with
    | none => rfl
    | some z => exact seqM_snoc x ys z
theorem ok_lseq (n : Nat) (T : Txt w K mg a) : FnOk P w K mg base CX0 (n + 4) a._law_after a.fd__law_after ["policy", "states"] (sp_la (fun H v xs => SeqAt H v xs ∧ xs.length ≤ 3 ∧ ∀ x ∈ xs, ActOk x) fun xs s s' => seqM xs s = some s') := by
  have G__law_holds := ok__law_holds (P := P) (w := w) (base := base) T
  have G__law_after := ok_lact (P := P) (w := w) (base := base) n T
  refine T.fn__law_after.ok sc__law_after (fun vs H Q E h => ?_) (fun cdv A outer s H vs Q E hr h => ?_)
  · obtain ⟨_, _, _, _, _, rfl, _⟩ := h
    rfl
  · obtain ⟨v, sl, xs, ss, X, rfl, ⟨hx, hxz, hok⟩, hsl, hrX, hXz, hX5, k⟩ := h
    obtain ⟨p, lp, us, rfl, hp, hlp, hrow, huz⟩ := hx
    refine ⟨_, (pss_cons (ps_set (i := 2) sc__law_after.nd rfl (Or.inl rfl) (pe_lst pa_nil))
  (C8.pss_cut (ps_if (pt_cmpR op_eq (pe_ix (ix_tupK (K := K)) (pv 0) pe_int (fun _ _ => rfl)) pe_str (nomark _))
  (pss_one (ps_setLc (i := 2) (own := [("state", 7)]) (g := (gName 7)) rfl sc__law_after.nd rfl rfl (sw_true rfl rfl rfl (by decide +kernel)) (pi_listK (K := K) (pv 1)) (blkOk_by (own := [("state", 7)]) (N := N__law_after) (sc := defScope s__law_after) (by decide +kernel)) (fun _ _ _ _ _ => by exact (pg_name (i := 7) sc__law_after.nd rfl (Or.inl rfl))) (fun _ _ _ _ _ => by exact pts_one (pt_val (pe_call G__law_holds (hr.mono (by first | decide | omega)) rfl T.mg__law_holds T.kp__law_holds T.bi__law_holds .nil pass0 (pa_cons (pe_ix (ix_tupK (K := K)) (pv 0) pe_int (fun _ _ => rfl)) (pa_cons (pv 7) pa_nil))))) (fun _ _ _ _ _ => by exact (pv 7))))
  (pss_one (ps_if (pt_cmpR op_eq (pe_ix (ix_tupK (K := K)) (pv 0) pe_int (fun _ _ => rfl)) pe_str (nomark _))
  (pss_cons (ps_set (i := 3) sc__law_after.nd rfl (Or.inr rfl) (pe_bmK (K := K) PySem.F.plainAttrs_list PySem.F.slot_list_index PySem.F.type_list_index (mt_indexS (K := K)) (pe_lst (pa_cons pe_str (pa_cons pe_str (pa_cons pe_str (pa_cons pe_str (pa_cons pe_str pa_nil)))))) (pa_cons (pe_ix (ix_tupK (K := K)) (pv 0) pe_int (fun _ _ => rfl)) pa_nil)))
  (pss_one (ps_setLc (i := 2) (own := [("state", 7)]) (g := (gName 7)) (tt := tYes) rfl sc__law_after.nd rfl rfl (sw_true rfl rfl rfl (by decide +kernel)) (pi_listK (K := K) (pv 1)) (blkOk_by (own := [("state", 7)]) (N := N__law_after) (sc := defScope s__law_after) (by decide +kernel)) (fun _ _ _ _ _ => by exact (pg_name (i := 7) sc__law_after.nd rfl (Or.inl rfl))) (fun _ _ _ _ _ => pts_nil) (fun _ _ _ _ _ => by exact (pe_op (op_catAK (K := K)) (pe_op (op_catAK (K := K)) (pe_slice (sl_tupAK (K := K)) (pv 7) po_none (po_some (pv 3))) (pe_tup (pa_cons (pe_ix (ix_tupK (K := K)) (pv 0) pe_int (fun _ _ => rfl)) pa_nil))) (pe_slice (sl_tupAK (K := K)) (pv 7) (po_some (pe_op op_add (pv 3) pe_int)) po_none))))))
  (pss_one (ps_if (pt_cmpR op_eq (pe_ix (ix_tupK (K := K)) (pv 0) pe_int (fun _ _ => rfl)) pe_str (nomark _))
  (pss_one (ps_for PassesOwn.never rfl (pi_listK (K := K) (pe_ix (ix_tupK (K := K)) (pv 0) pe_int (fun _ _ => rfl))) (pg_name (i := 4) sc__law_after.nd rfl (Or.inl rfl))
  (pss_one (ps_set (i := 2) sc__law_after.nd rfl (Or.inl rfl) (pe_op op_cat (pv 2) (pe_call G__law_after (hr.mono (by first | decide | omega)) rfl T.mg__law_after T.kp__law_after T.bi__law_after .nil pass0 (pa_cons (pv 4) (pa_cons (pv 1) pa_nil))))))))
  (pss_one (ps_if (pt_cmpR op_eq (pe_ix (ix_tupK (K := K)) (pv 0) pe_int (fun _ _ => rfl)) pe_str (nomark _))
  (pss_cons (ps_set (i := 2) sc__law_after.nd rfl (Or.inl rfl) (pe_callTy call_list_of (by rfl) T.mg_list (by decide +kernel) (pa_cons (pv 1) pa_nil)))
  (pss_one (ps_for PassesOwn.never rfl (pi_listK (K := K) (pe_ix (ix_tupK (K := K)) (pv 0) pe_int (fun _ _ => rfl))) (pg_name (i := 4) sc__law_after.nd rfl (Or.inl rfl))
  (pss_one (ps_set (i := 2) sc__law_after.nd rfl (Or.inl rfl) (pe_call G__law_after (hr.mono (by first | decide | omega)) rfl T.mg__law_after T.kp__law_after T.bi__law_after .nil pass0 (pa_cons (pv 4) (pa_cons (pv 2) pa_nil))))))))
  (pss_cons (ps_set (i := 2) sc__law_after.nd rfl (Or.inl rfl) (pe_callTy call_list_of (by rfl) T.mg_list (by decide +kernel) (pa_cons (pv 1) pa_nil)))
  (pss_one (ps_for PassesOwn.never rfl (pi_range1 rfl T.mg_range (pa_cons pe_int pa_nil)) (pg_name (i := 5) sc__law_after.nd rfl (Or.inl rfl))
  (pss_cons (ps_set (i := 6) sc__law_after.nd rfl (Or.inl rfl) (pe_callB (cr_sortSN (P := P) (w := w) (c := none) (sh := [none, none, none, none]) rfl (r64 hr)) (by rfl) T.mg_sorted (by decide +kernel) (pa_cons (pe_callTy (call_setN (P := P) (w := w) (K := K) rfl (r64 hr)) (by rfl) T.mg_set (by decide +kernel) (pa_cons (pe_op op_cat (pv 2) (pe_call G__law_after (hr.mono (by first | decide | omega)) rfl T.mg__law_after T.kp__law_after T.bi__law_after .nil pass0 (pa_cons (pe_ix (ix_tupK (K := K)) (pv 0) pe_int (fun _ _ => rfl)) (pa_cons (pv 2) pa_nil)))) pa_nil)) pa_nil)))
  (pss_cons (ps_if (pt_cmpR op_eq (pe_callB (call_lenK (K := K)) (by rfl) T.mg_len PySem.boot_len (pa_cons (pv 6) pa_nil)) (pe_lenSetT (K := K) rfl (r64 hr) (by rfl) T.mg_len (by rfl) T.mg_set (pv 2)) (nomark _))
  (pss_one ps_break)
  pss_nil)
  (pss_one (ps_set (i := 2) sc__law_after.nd rfl (Or.inl rfl) (pv 6)))))))))))))))
  (pss_one (ps_ret (pe_callB (cr_sortSN (P := P) (w := w) (c := none) (sh := [none, none, none, none]) rfl (r64 hr)) (by rfl) T.mg_sorted (by decide +kernel) (pa_cons (pe_callTy (call_setN (P := P) (w := w) (K := K) rfl (r64 hr)) (by rfl) T.mg_set (by decide +kernel) (pa_cons (pv 2) pa_nil)) pa_nil)))))), ?_⟩
    have hs := Hs.start H
    have hz : ss.length = X.length := hrX.1
    walk_at "ss"
    rename_i f0 H1 hs1
    refine w_cut (fun σ' H' => ∃ (fl : Addr) (us : List V) (fnd : List S5) (v3 v4 v5 v6 v7 : Option V), σ' = [some (.ref p), some (.ref sl), some (.ref fl), v3, v4, v5, v6, v7] ∧ Same H H' ∧ H' fl = some (.lst us) ∧ Row (StAt H') us fnd ∧ fnd.length ≤ 8 ∧ (∀ s ∈ fnd, s.length = 5) ∧ ∀ s', s' ∈ fnd ↔ ∃ s ∈ X, seqM xs s = some s') ?_ ?_
    · have hp1 := hs1.same _ _ hp
      walk_at "ss"
      refine ifd (fun h => absurd h (by decide)) (fun _ => ?_)
      walk_at "ss"
      refine ifd (fun h => absurd h (by decide)) (fun _ => ?_)
      walk_at "ss"
      refine ifd (fun h => absurd h (by decide)) (fun _ => ?_)
      walk_at "ss"
      refine ifd (fun _ => ?_) (fun h => absurd rfl h)
      walk_at "ss"
      refine ⟨sl, ss, rfl, .inl (SqL.of (hs1.same _ _ hsl)), fun l hl => ?_⟩
      have hs2 := hs1.new (o := .lst ss) hl
      generalize upd H1 l (.lst ss) = H2 at hs2 ⊢
      walk_at "ss"
      show tFor (iList K (tOp (rIxT K) (tVar 0) (tC (V.int 1)))) _ _ _ _ _
      refine w_forL (SqL.of (hs2.same _ _ hlp)) (fun i σ H' => ∃ (fl : Addr) (us2 : List V) (fnd : List S5) (v4 : Option V), σ = [some (.ref p), some (.ref sl), some (.ref fl), none, v4, none, none, none] ∧ Same H H' ∧ H' fl = some (.lst us2) ∧ Row (StAt H') us2 fnd ∧ fnd.length ≤ 8 ∧ (∀ s ∈ fnd, s.length = 5) ∧ ∀ s', s' ∈ fnd ↔ ∃ s ∈ X, seqM (xs.take i) s = some s') (fun Q q => ?_) ⟨l, ss, X, none, rfl, hs2.same, hs2.g0, hrX.mono fun u x => StAt.mono fun p xs e => hs2.same _ _ e, hXz, hX5, fun s' => ⟨fun h => ⟨s', h, rfl⟩, fun ⟨s, h1, h2⟩ => Option.some.inj h2 ▸ h1⟩⟩ (fun i σ H' _ ⟨_, _, _, _, _, sm, _⟩ => SqL.of (sm _ _ hlp)) ?_ ?_
      · have hp2 := hs2.same _ _ hp
        walk_at "ss"
        exact q
      · rintro i u σ H3 hu ⟨fl, us2, fnd, v4, rfl, sm3, hfl, hr3, hz3, h53, hm3⟩
        obtain ⟨x, hxi, hxu⟩ := hrow.get hu
        have hxm := List.mem_of_getElem? hxi
        walk_at "ss"
        refine ⟨u, fl, x, us2, fnd, rfl, ⟨hxu.same sm3, hok x hxm⟩, hfl, hr3, hz3, h53, fun l2 us4 out H4 sm4 hn4 hl4 ho4 hm4 => ?_⟩
        walk_at "ss"
        have tk : xs.take (i + 1) = xs.take i ++ [x] := by rw [List.take_add_one, hxi]; rfl
        refine ⟨l2, us4, out, _, rfl, sm3.trans sm4, hl4, ho4.row, Nat.le_trans (actM_few ho4.nd fun s' h => (hm4 s').mp h) hz3, fun s hs => ?_, fun s' => ?_⟩
        · obtain ⟨z, h1, h2⟩ := (hm4 s).mp hs
          exact actM_len (h53 z h1) h2
        · rw [hm4, tk]
          constructor
          · rintro ⟨z, h1, h2⟩
            obtain ⟨s, h3, h4⟩ := (hm3 z).mp h1
            exact ⟨s, h3, by rw [seqM_snoc, h4]; exact h2⟩
          · rintro ⟨s, h3, h4⟩
            rw [seqM_snoc] at h4
            cases e : seqM (xs.take i) s with
            | none =>
              rw [e] at h4
              cases h4
            | some z =>
              rw [e] at h4
              exact ⟨z, (hm3 z).mpr ⟨s, h3, e⟩, h4⟩
      · rintro σ H3 ⟨fl, us2, fnd, v4, rfl, sm3, hfl, hr3, hz3, h53, hm3⟩
        rw [hrow.1, List.take_length] at hm3
        exact ⟨fl, us2, fnd, _, _, _, _, _, rfl, sm3, hfl, hr3, hz3, h53, hm3⟩
    · rintro σ' H2 ⟨fl, us, fnd, v3, v4, v5, v6, v7, rfl, sm2, hfl, hr2, hz2, h52, hm2⟩
      exact la_tail sm2 hfl hr2 (by omega) h52 rfl fun l us out H' h1 h2 h3 h4 h5 => k l us out H' h1 h2 h3 h4 fun s' => by rw [h5, hm2]
theorem ok_lpart (T : Txt w K mg a) : FnOk P w K mg base CX0 4 a._law_after a.fd__law_after ["policy", "states"] (sp_la (fun H v x => PartAt H v x ∧ PartOk x) fun x s s' => partM x s = some s') := by
  refine fn_imp (fn_or (ok_lact (P := P) (w := w) (base := base) 1 T) (ok_lseq (P := P) (w := w) (base := base) 0 T)) fun vs H Q E h => ?_
  obtain ⟨v, sl, x, ss, X, rfl, ⟨hx, hok⟩, hsl, hrX, hXz, hX5, k⟩ := h
  cases x with
  | act y => exact .inl ⟨v, sl, y, ss, X, rfl, ⟨hx, hok⟩, hsl, hrX, hXz, hX5, k⟩
  | seq xs => exact .inr ⟨v, sl, xs, ss, X, rfl, ⟨hx, hok⟩, hsl, hrX, hXz, hX5, k⟩
def sp_lafter : Sp := sp_la (fun H v ps => PolAt H v ps ∧ LocOk ps) fun ps s s' => ∃ p ∈ ps, partM p s = some s'
theorem ok__law_after (T : Txt w K mg a) : FnOk P w K mg base CX0 5 a._law_after a.fd__law_after ["policy", "states"] sp_lafter := by
  have G__law_holds := ok__law_holds (P := P) (w := w) (base := base) T
  have G__law_after := ok_lpart (P := P) (w := w) (base := base) T
  refine T.fn__law_after.ok sc__law_after (fun vs H Q E h => ?_) (fun cdv A outer s H vs Q E hr h => ?_)
  · obtain ⟨_, _, _, _, _, rfl, _⟩ := h
    rfl
  · obtain ⟨v, sl, ps, ss, X, rfl, ⟨hx, hok⟩, hsl, hrX, hXz, hX5, k⟩ := h
    obtain ⟨p, lp, us, rfl, hp, hlp, hrow, huz⟩ := hx
    refine ⟨_, (pss_cons (ps_set (i := 2) sc__law_after.nd rfl (Or.inl rfl) (pe_lst pa_nil))
  (C8.pss_cut (ps_if (pt_cmpR op_eq (pe_ix (ix_tupK (K := K)) (pv 0) pe_int (fun _ _ => rfl)) pe_str (nomark _))
  (pss_one (ps_setLc (i := 2) (own := [("state", 7)]) (g := (gName 7)) rfl sc__law_after.nd rfl rfl (sw_true rfl rfl rfl (by decide +kernel)) (pi_listK (K := K) (pv 1)) (blkOk_by (own := [("state", 7)]) (N := N__law_after) (sc := defScope s__law_after) (by decide +kernel)) (fun _ _ _ _ _ => by exact (pg_name (i := 7) sc__law_after.nd rfl (Or.inl rfl))) (fun _ _ _ _ _ => by exact pts_one (pt_val (pe_call G__law_holds (hr.mono (by first | decide | omega)) rfl T.mg__law_holds T.kp__law_holds T.bi__law_holds .nil pass0 (pa_cons (pe_ix (ix_tupK (K := K)) (pv 0) pe_int (fun _ _ => rfl)) (pa_cons (pv 7) pa_nil))))) (fun _ _ _ _ _ => by exact (pv 7))))
  (pss_one (ps_if (pt_cmpR op_eq (pe_ix (ix_tupK (K := K)) (pv 0) pe_int (fun _ _ => rfl)) pe_str (nomark _))
  (pss_cons (ps_set (i := 3) sc__law_after.nd rfl (Or.inr rfl) (pe_bmK (K := K) PySem.F.plainAttrs_list PySem.F.slot_list_index PySem.F.type_list_index (mt_indexS (K := K)) (pe_lst (pa_cons pe_str (pa_cons pe_str (pa_cons pe_str (pa_cons pe_str (pa_cons pe_str pa_nil)))))) (pa_cons (pe_ix (ix_tupK (K := K)) (pv 0) pe_int (fun _ _ => rfl)) pa_nil)))
  (pss_one (ps_setLc (i := 2) (own := [("state", 7)]) (g := (gName 7)) (tt := tYes) rfl sc__law_after.nd rfl rfl (sw_true rfl rfl rfl (by decide +kernel)) (pi_listK (K := K) (pv 1)) (blkOk_by (own := [("state", 7)]) (N := N__law_after) (sc := defScope s__law_after) (by decide +kernel)) (fun _ _ _ _ _ => by exact (pg_name (i := 7) sc__law_after.nd rfl (Or.inl rfl))) (fun _ _ _ _ _ => pts_nil) (fun _ _ _ _ _ => by exact (pe_op (op_catAK (K := K)) (pe_op (op_catAK (K := K)) (pe_slice (sl_tupAK (K := K)) (pv 7) po_none (po_some (pv 3))) (pe_tup (pa_cons (pe_ix (ix_tupK (K := K)) (pv 0) pe_int (fun _ _ => rfl)) pa_nil))) (pe_slice (sl_tupAK (K := K)) (pv 7) (po_some (pe_op op_add (pv 3) pe_int)) po_none))))))
  (pss_one (ps_if (pt_cmpR op_eq (pe_ix (ix_tupK (K := K)) (pv 0) pe_int (fun _ _ => rfl)) pe_str (nomark _))
  (pss_one (ps_for PassesOwn.never rfl (pi_listK (K := K) (pe_ix (ix_tupK (K := K)) (pv 0) pe_int (fun _ _ => rfl))) (pg_name (i := 4) sc__law_after.nd rfl (Or.inl rfl))
  (pss_one (ps_set (i := 2) sc__law_after.nd rfl (Or.inl rfl) (pe_op op_cat (pv 2) (pe_call G__law_after (hr.mono (by first | decide | omega)) rfl T.mg__law_after T.kp__law_after T.bi__law_after .nil pass0 (pa_cons (pv 4) (pa_cons (pv 1) pa_nil))))))))
  (pss_one (ps_if (pt_cmpR op_eq (pe_ix (ix_tupK (K := K)) (pv 0) pe_int (fun _ _ => rfl)) pe_str (nomark _))
  (pss_cons (ps_set (i := 2) sc__law_after.nd rfl (Or.inl rfl) (pe_callTy call_list_of (by rfl) T.mg_list (by decide +kernel) (pa_cons (pv 1) pa_nil)))
  (pss_one (ps_for PassesOwn.never rfl (pi_listK (K := K) (pe_ix (ix_tupK (K := K)) (pv 0) pe_int (fun _ _ => rfl))) (pg_name (i := 4) sc__law_after.nd rfl (Or.inl rfl))
  (pss_one (ps_set (i := 2) sc__law_after.nd rfl (Or.inl rfl) (pe_call G__law_after (hr.mono (by first | decide | omega)) rfl T.mg__law_after T.kp__law_after T.bi__law_after .nil pass0 (pa_cons (pv 4) (pa_cons (pv 2) pa_nil))))))))
  (pss_cons (ps_set (i := 2) sc__law_after.nd rfl (Or.inl rfl) (pe_callTy call_list_of (by rfl) T.mg_list (by decide +kernel) (pa_cons (pv 1) pa_nil)))
  (pss_one (ps_for PassesOwn.never rfl (pi_range1 rfl T.mg_range (pa_cons pe_int pa_nil)) (pg_name (i := 5) sc__law_after.nd rfl (Or.inl rfl))
  (pss_cons (ps_set (i := 6) sc__law_after.nd rfl (Or.inl rfl) (pe_callB (cr_sortSN (P := P) (w := w) (c := none) (sh := [none, none, none, none]) rfl (r64 hr)) (by rfl) T.mg_sorted (by decide +kernel) (pa_cons (pe_callTy (call_setN (P := P) (w := w) (K := K) rfl (r64 hr)) (by rfl) T.mg_set (by decide +kernel) (pa_cons (pe_op op_cat (pv 2) (pe_call G__law_after (hr.mono (by first | decide | omega)) rfl T.mg__law_after T.kp__law_after T.bi__law_after .nil pass0 (pa_cons (pe_ix (ix_tupK (K := K)) (pv 0) pe_int (fun _ _ => rfl)) (pa_cons (pv 2) pa_nil)))) pa_nil)) pa_nil)))
  (pss_cons (ps_if (pt_cmpR op_eq (pe_callB (call_lenK (K := K)) (by rfl) T.mg_len PySem.boot_len (pa_cons (pv 6) pa_nil)) (pe_lenSetT (K := K) rfl (r64 hr) (by rfl) T.mg_len (by rfl) T.mg_set (pv 2)) (nomark _))
  (pss_one ps_break)
  pss_nil)
  (pss_one (ps_set (i := 2) sc__law_after.nd rfl (Or.inl rfl) (pv 6)))))))))))))))
  (pss_one (ps_ret (pe_callB (cr_sortSN (P := P) (w := w) (c := none) (sh := [none, none, none, none]) rfl (r64 hr)) (by rfl) T.mg_sorted (by decide +kernel) (pa_cons (pe_callTy (call_setN (P := P) (w := w) (K := K) rfl (r64 hr)) (by rfl) T.mg_set (by decide +kernel) (pa_cons (pv 2) pa_nil)) pa_nil)))))), ?_⟩
    have hs := Hs.start H
    have hz : ss.length = X.length := hrX.1
    walk_at "ss"
    rename_i f0 H1 hs1
    refine w_cut (fun σ' H' => ∃ (fl : Addr) (us : List V) (fnd : List S5) (v3 v4 v5 v6 v7 : Option V), σ' = [some (.ref p), some (.ref sl), some (.ref fl), v3, v4, v5, v6, v7] ∧ Same H H' ∧ H' fl = some (.lst us) ∧ Row (StAt H') us fnd ∧ fnd.length ≤ 48 ∧ (∀ s ∈ fnd, s.length = 5) ∧ ∀ s', s' ∈ fnd ↔ ∃ s ∈ X, ∃ p ∈ ps, partM p s = some s') ?_ ?_
    · have hp1 := hs1.same _ _ hp
      walk_at "ss"
      refine ifd (fun h => absurd h (by decide)) (fun _ => ?_)
      walk_at "ss"
      refine ifd (fun h => absurd h (by decide)) (fun _ => ?_)
      walk_at "ss"
      refine ifd (fun _ => ?_) (fun h => absurd rfl h)
      walk_at "ss"
      refine w_forL (SqL.of (hs1.same _ _ hlp)) (fun i σ H' => ∃ (B : Hp) (fl : Addr) (us2 : List V) (fnd : List S5) (v4 : Option V), σ = [some (.ref p), some (.ref sl), some (.ref fl), none, v4, none, none, none] ∧ Same H B ∧ Hs B [(fl, .lst us2)] H' ∧ Row (StAt B) us2 fnd ∧ fnd.length ≤ 8 * i ∧ (∀ s ∈ fnd, s.length = 5) ∧ ∀ s', s' ∈ fnd ↔ ∃ s ∈ X, ∃ p ∈ ps.take i, partM p s = some s') (fun Q q => ?_) ⟨H, f0, [], [], none, rfl, Same.refl _, hs1, Row.nil, Nat.zero_le _, (fun _ z => nomatch z), fun s' => ⟨(fun z => nomatch z), fun ⟨_, _, _, z, _⟩ => nomatch z⟩⟩ (fun i σ H' _ ⟨_, _, _, _, _, _, sm, h, _⟩ => SqL.of (h.same _ _ (sm _ _ hlp))) ?_ ?_
      · walk_at "ss"
        exact q
      · rintro i u σ H3 hu ⟨B, fl, us2, fnd, v4, rfl, sB, hs3, hr3, hz3, h53, hm3⟩
        obtain ⟨x, hxi, hxu⟩ := hrow.get hu
        have hxm := List.mem_of_getElem? hxi
        have hi : i < ps.length := (List.getElem?_eq_some_iff.mp hxi).1
        have hp6 := hok.1
        have sm3 : Same H H3 := sB.trans hs3.same
        have hul : us2.length = fnd.length := hr3.1
        walk_at "ss"
        refine ⟨u, sl, x, ss, X, rfl, ⟨hxu.same sm3, hok.2 x hxm⟩, sm3 _ _ hsl, hrX.mono fun u x => StAt.mono fun p xs e => sm3 _ _ e, hXz, hX5, fun l2 us4 out H4 sm4 hn4 hl4 ho4 hm4 => ?_⟩
        have tk : ps.take (i + 1) = ps.take i ++ [x] := by rw [List.take_add_one, hxi]; rfl
        have ho8 : out.length ≤ 8 := by
          have h1 := ho4.nd.length_le_of_subset (l₂ := X.filterMap (partM x)) fun s' hs' => by
            obtain ⟨s, h2, h3⟩ := (hm4 s').mp hs'
            exact List.mem_filterMap.mpr ⟨s, h2, h3⟩
          exact Nat.le_trans h1 (Nat.le_trans (List.length_filterMap_le _ _) hXz)
        have hul4 : us4.length = out.length := ho4.row.1
        have hs4 := Hs_own hs3 sm4 hn4 hl4
        obtain ⟨B2, sB2, hs5, hin5⟩ := hs4.allin
        have hro : Row (StAt B2) us4 out := ho4.row.mono fun u x => StAt.mono fun p xs e => hin5 _ _ e fun z => by
          rw [List.map_cons, List.map_cons, List.map_nil, List.mem_cons, List.mem_singleton] at z
          rcases z with z | z
          · rw [z, hs5.g0] at e
            cases e
          · rw [z, hs5.g1] at e
            cases e
        walk_at "ss"
        rename_i l3 H5 hs6
        refine ⟨B2, l3, _, fnd ++ out, _, rfl, sB.trans sB2, hs6.d1.d1, (hr3.mono fun u x => StAt.mono fun p xs e => sB2 _ _ e).app hro, by rw [List.length_append]; omega, fun s hs => ?_, fun s' => ?_⟩
        · rcases List.mem_append.mp hs with hs | hs
          · exact h53 s hs
          · obtain ⟨z, h1, h2⟩ := (hm4 s).mp hs
            exact partM_len (hX5 z h1) h2
        · rw [List.mem_append, hm3, hm4, tk]
          constructor
          · rintro (⟨s, h1, q, h2, h3⟩ | ⟨s, h1, h2⟩)
            · exact ⟨s, h1, q, List.mem_append_left _ h2, h3⟩
            · exact ⟨s, h1, x, List.mem_append_right _ List.mem_cons_self, h2⟩
          · rintro ⟨s, h1, q, h2, h3⟩
            rcases List.mem_append.mp h2 with h2 | h2
            · exact .inl ⟨s, h1, q, h2, h3⟩
            · rw [List.mem_singleton.mp h2] at h3
              exact .inr ⟨s, h1, h3⟩
      · rintro σ H3 ⟨B, fl, us2, fnd, v4, rfl, sB, hs3, hr3, hz3, h53, hm3⟩
        rw [hrow.1, List.take_length] at hm3
        have := hok.1
        have := hrow.1
        exact ⟨fl, us2, fnd, _, _, _, _, _, rfl, sB.trans hs3.same, hs3.g0, hr3.mono fun u x => StAt.mono hs3.tups, by omega, h53, hm3⟩
    · rintro σ' H2 ⟨fl, us, fnd, v3, v4, v5, v6, v7, rfl, sm2, hfl, hr2, hz2, h52, hm2⟩
      exact la_tail sm2 hfl hr2 (by omega) h52 rfl fun l us out H' h1 h2 h3 h4 h5 => k l us out H' h1 h2 h3 h4 fun s' => by rw [h5, hm2]
end
local macro_rules | `(tactic| walk_at "v") => `(tactic| first | exact v0 | exact v1 | exact v2 | exact v3 | exact v4 | exact v5 | exact v6 | exact v7 | exact v8)
local macro_rules | `(tactic| walk_at "vs") => `(tactic| first | exact st0 | exact st1 | exact st2 | exact st3 | exact st4 | exact st5 | exact st6 | exact st7 | exact st8)
local macro_rules | `(tactic| walk_at "s") => `(tactic| first
  | with_reducible refine w_dget ?_
  | ((with_reducible refine' w_dgetZ ?h ?nd ?hk ?hv ?_); (case h => walk_at "g"); (case nd => walk_at "nd"); (case hk => walk_at "k"); (case hv => walk_at "v"))
  | ((with_reducible refine' w_dputZ ?hs ?h ?nd ?hk ?hv ?hu ?hl ?_); (case hs => assumption); (case h => walk_at "p"); (case nd => walk_at "nd"); (case hk => walk_at "k"); (case hv => walk_at "v"); (case hu => walk_at "vs"); (case hl => decide); intro _ _)
  | with_reducible refine w_gsub ?_
  | with_reducible refine w_setD ?_
  | with_reducible refine w_disp ?_
  | ((with_reducible refine' w_newP ?hs ?_); (case hs => assumption); intro _ _ _)
  | with_reducible refine w_pcons ?_
  | with_reducible refine w_pnil ?_)

local macro_rules | `(tactic| walk_at "s") => `(tactic| first
  | with_reducible refine w_nget ?_
  | with_reducible refine w_nin ?_
  | with_reducible refine w_nnot ?_
  | with_reducible refine w_nput ?_
  | with_reducible refine w_ndel ?_
  | with_reducible refine w_npop ?_
  | ((with_reducible refine' w_nnew ?hs ?_); (case hs => assumption); intro _ _ _))

local macro_rules | `(tactic| walk_at "s") => `(tactic| first
  | with_reducible refine w_ninF ?_
  | with_reducible refine w_nsetd ?_
  | with_reducible refine w_ckw ?_)

theorem w_inLk {K : PySem.W.Frag} {H : Hp} {Q : VK} {e t : Addr} {x : E2} {l : Lk} (he : H e = some (endO x)) (hk : NK H (lkK l) (.ref t)) (k : Q (.bl (has x l)) H) : rInDT K false (.ref e) (.ref t) H Q := by
  have h2 : Im K H (.ref t) (lkK l).data := hk.im
  rw [lk_data] at h2
  refine ⟨_, _, dp_end he, h2.dp, shp_end x, by simp [SeqAt.shaped, PyData.canLay0, PyData.canLayAll0, PyData.depth, PyData.depthAll], ?_⟩
  have e1 : (([PyData.tuple [.int l.1.1, .int l.1.2], .tuple [.int l.2.1, .int l.2.2]] : List PyData).any fun z => PyData.eqv z (.tuple [.int x.1, .int x.2])) = has x l := by
    rw [List.any_cons, List.any_cons, List.any_nil, eqv_end, eqv_end, Bool.or_false]
    rfl
  rw [e1]
  exact k
section
variable {P : Program} [IsP P] {w : World} {K : PySem.W.Frag} {mg : Str → Option Value} {base : Heap} {a : Ad}
/-! ## the law's ends -/
def sp__law_end : Sp := fun vs H Q _ => ∃ (g : V) (e : Addr) (cnt : Int) (ls : List Lk) (x : E2), vs = [g, .ref e] ∧ GrAt H g cnt ls ∧ H e = some (endO x) ∧ ∀ v H', Same H H' → OptE H v (peerM ls x) → Q v H'
theorem ok__law_end (T : Txt w K mg a) : FnOk P w K mg base CX0 1 a._law_end a.fd__law_end ["graph", "end"] sp__law_end := by
  refine T.fn__law_end.ok sc__law_end (fun vs H Q E h => ?_) (fun cdv A outer s H vs Q E hr h => ?_)
  · obtain ⟨_, _, _, _, _, rfl, _⟩ := h
    rfl
  · obtain ⟨gv, e, cnt, ls, x, rfl, ⟨gp, r, us, rfl, hgp, hr0, hL, hlz⟩, he, k⟩ := h
    refine ⟨_, (pss_cons (ps_for PassesOwn.never rfl (pi_listK (K := K) (pe_ix (ix_tupK (K := K)) (pv 0) pe_int (fun _ _ => rfl))) (pg_tupK (K := K) rfl (pgs_cons (pg_name (i := 2) sc__law_end.nd rfl (Or.inl rfl)) (pgs_cons (pg_name (i := 3) sc__law_end.nd rfl (Or.inl rfl)) pgs_nil)))
  (pss_one (ps_if (pt_cmpR (op_inDT (K := K) (r65 hr)) (pv 1) (pe_tup (pa_cons (pv 2) (pa_cons (pv 3) pa_nil))) (by rfl))
  (pss_one (ps_ret (pe_ifExp (pt_cmpR (op_eqDK (K := K) hr.units) (pv 1) (pv 2) (nomark _)) (pv 3) (pv 2))))
  pss_nil)))
  (pss_one (ps_ret pe_non))), ?_⟩
    walk_at "ss"
    refine w_forL (SqL.of hr0) (fun i σ H' => Hs H [] H' ∧ ∃ v2 v3, σ = [some (.ref gp), some (.ref e), v2, v3] ∧ (ls.take i).find? (has x) = none) (fun Q q => by walk_at "ss"; exact q) ⟨Hs.start H, none, none, rfl, rfl⟩ (fun i σ H' _ ⟨e, _⟩ => SqL.of (e.old hr0)) ?_ ?_
    · rintro i y σ H1 hi ⟨hs1, v2, v3, rfl, hf⟩
      obtain ⟨t, l, rfl, hli, hk⟩ := LkL.get hL hi
      obtain ⟨p, q, ht, hp, hq⟩ := nk_link hk
      have ht1 := hs1.old ht
      walk_at "ss"
      rename_i tt H2 hs2
      refine w_inLk (hs2.old he) (nk_mk (l := l) hs2.g0 (hs2.old hp) (hs2.old hq)) ?_
      refine ⟨_, rfl, ?_⟩
      cases hh : has x l with
      | true =>
        refine iteT ?_
        walk_at "ss"
        refine w_eqE (x := x) (y := l.1) (hs2.old he) (hs2.old hp) ?_
        refine ⟨_, rfl, ifd (fun h1 => ?_) (fun h1 => ?_)⟩
        · walk_at "ss"
          refine k _ _ hs2.same ?_
          unfold peerM
          rw [find_take hli hf hh]
          refine ⟨q, rfl, ?_⟩
          show H q = some (endO (if l.1 = x then l.2 else l.1))
          rw [if_pos h1.symm]
          exact hq
        · walk_at "ss"
          refine k _ _ hs2.same ?_
          unfold peerM
          rw [find_take hli hf hh]
          refine ⟨p, rfl, ?_⟩
          show H p = some (endO (if l.1 = x then l.2 else l.1))
          rw [if_neg (Ne.symm h1)]
          exact hp
      | false =>
        refine iteF ?_
        walk_at "ss"
        exact ⟨hs2.tl, _, _, rfl, find_more hli hf hh⟩
    · rintro σ H1 ⟨hs1, v2, v3, rfl, hf⟩
      walk_at "ss"
      refine k _ _ hs1.same ?_
      rw [LkL.len hL, List.take_length] at hf
      unfold peerM
      rw [hf]
      rfl
end

/-! ## the law's states and the places -/
theorem ddA_nodup : ∀ (xs acc : List S5), acc.Nodup → (ddA acc xs).Nodup
  | [], acc, h => h
  | x :: xs, acc, h => by
    show (ddA (if x ∈ acc then acc else acc ++ [x]) xs).Nodup
    by_cases hx : x ∈ acc
    · rw [if_pos hx]
      exact ddA_nodup xs acc h
    · rw [if_neg hx]
      refine ddA_nodup xs _ (List.nodup_append.mpr ⟨h, List.nodup_cons.mpr ⟨(fun z => nomatch z), List.Pairwise.nil⟩, fun a ha b hb e => hx ?_⟩)
      rw [← List.mem_singleton.mp hb, ← e]
      exact ha
/-- what the law's policies leave as it is -/
def keepS (s s' : S5) : Prop := s'.getD 0 0 = s.getD 0 0 ∧ s'.getD 2 0 = s.getD 2 0 ∧ s'.getD 3 0 = s.getD 3 0
def smallS (s s' : S5) : Prop := (s'.getD 1 0 = s.getD 1 0 ∨ (0 ≤ s'.getD 1 0 ∧ s'.getD 1 0 ≤ 3)) ∧ (s'.getD 4 0 = s.getD 4 0 ∨ (0 ≤ s'.getD 4 0 ∧ s'.getD 4 0 ≤ 1))
theorem act_keep {x : Act} (hx : ActOk x) {s s' : S5} (e : actM x s = some s') : keepS s s' ∧ smallS s s' := by
  cases x with
  | test t =>
    have e2 : (if holds t s = true then some s else none) = some s' := e
    by_cases hc : holds t s = true
    · rw [if_pos hc] at e2
      cases e2
      exact ⟨⟨rfl, rfl, rfl⟩, .inl rfl, .inl rfl⟩
    · rw [if_neg hc] at e2
      cases e2
  | set f n =>
    have e2 : some (s.set f n) = some s' := e
    cases e2
    have gd : ∀ i, i ≠ f → (s.set f n).getD i 0 = s.getD i 0 := fun i h => by
      rw [List.getD_eq_getElem?_getD, List.getD_eq_getElem?_getD, List.getElem?_set_ne (Ne.symm h)]
    have gf : (s.set f n).getD f 0 = n ∨ (s.set f n).getD f 0 = s.getD f 0 := by
      rw [List.getD_eq_getElem?_getD, List.getD_eq_getElem?_getD]
      by_cases hl : f < s.length
      · exact .inl (by rw [List.getElem?_set_self hl]; rfl)
      · refine .inr ?_
        rw [List.getElem?_eq_none (by rw [List.length_set]; omega), List.getElem?_eq_none (by omega)]
    rcases hx with ⟨rfl, h0, h1⟩ | ⟨rfl, h0, h1⟩
    · refine ⟨⟨gd 0 (by decide), gd 2 (by decide), gd 3 (by decide)⟩, ?_, .inl (gd 4 (by decide))⟩
      rcases gf with g | g
      · exact .inr (by rw [g]; exact ⟨h0, h1⟩)
      · exact .inl g
    · refine ⟨⟨gd 0 (by decide), gd 2 (by decide), gd 3 (by decide)⟩, .inl (gd 1 (by decide)), ?_⟩
      rcases gf with g | g
      · exact .inr (by rw [g]; exact ⟨h0, h1⟩)
      · exact .inl g
theorem keep_tr {s t u : S5} (h1 : keepS s t ∧ smallS s t) (h2 : keepS t u ∧ smallS t u) : keepS s u ∧ smallS s u := by
  obtain ⟨⟨a1, a2, a3⟩, a4, a5⟩ := h1
  obtain ⟨⟨b1, b2, b3⟩, b4, b5⟩ := h2
  refine ⟨⟨b1.trans a1, b2.trans a2, b3.trans a3⟩, ?_, ?_⟩
  · rcases b4 with b4 | b4
    · rw [b4]; exact a4
    · exact .inr b4
  · rcases b5 with b5 | b5
    · rw [b5]; exact a5
    · exact .inr b5
theorem seq_keep : ∀ {xs : List Act}, (∀ x ∈ xs, ActOk x) → ∀ {s s' : S5}, seqM xs s = some s' → keepS s s' ∧ smallS s s'
  | [], _, s, s', e => by
    cases e
    exact ⟨⟨rfl, rfl, rfl⟩, .inl rfl, .inl rfl⟩
  | x :: xs, h, s, s', e => by
    have e : (actM x s).bind (seqM xs) = some s' := e
    cases e1 : actM x s with
    | none =>
      rw [e1] at e
      cases e
    | some t =>
      rw [e1] at e
      exact keep_tr (act_keep (h x List.mem_cons_self) e1) (seq_keep (fun y hy => h y (List.mem_cons_of_mem _ hy)) e)
theorem part_keep {p : Part} (hp : PartOk p) {s s' : S5} (e : partM p s = some s') : keepS s s' ∧ smallS s s' := by
  cases p with
  | act x => exact act_keep hp e
  | seq xs => exact seq_keep hp.2 e
theorem pol_keep {ps : List Part} (h : LocOk ps) {s z : S5} (hz : z ∈ polM ps s) : keepS s z ∧ smallS s z := by
  unfold polM dd at hz
  rw [dd_mem] at hz
  rcases hz with hz | hz
  · cases hz
  · obtain ⟨p, hp, e⟩ := List.mem_filterMap.mp hz
    exact part_keep (h.2 p hp) e
theorem pol_mem {ps : List Part} {s z : S5} : z ∈ polM ps s ↔ ∃ p ∈ ps, partM p s = some z := by
  unfold polM dd
  rw [dd_mem, List.mem_filterMap]
  exact ⟨fun h => h.resolve_left (fun z => nomatch z), .inr⟩
theorem lt_its {s t : S5} (hs : s.length = 5) (ht : t.length = 5) (h : s.getD 0 0 = t.getD 0 0) : ltQ (itS s) (itS t) = ltQ (sK s) (sK t) := by
  match s, t, hs, ht with
  | [a, b, c, d, e], [a', b', c', d', e'], _, _ =>
    obtain rfl : a = a' := h
    show lexI [b, c, d, e] [b', c', d', e'] = lexI [a, b, c, d, e] [a, b', c', d', e']
    exact (show lexI (a :: [b, c, d, e]) (a :: [b', c', d', e']) = _ by rw [lexI_cons, if_pos rfl]).symm
theorem its_inj {s t : S5} (hs : s.length = 5) (ht : t.length = 5) (h : s.getD 0 0 = t.getD 0 0) (e : itS s = itS t) : s = t := by
  match s, t, hs, ht with
  | [a, b, c, d, x], [a', b', c', d', x'], _, _ =>
    obtain rfl : a = a' := h
    have e : ([.inl b, .inr [c, d, x]] : IK) = [.inl b', .inr [c', d', x']] := e
    simp at e
    obtain ⟨rfl, rfl, rfl, rfl⟩ := e
    rfl
theorem la_does {ps : List Part} (hok : LocOk ps) {sw port : Int} {h : List Int} (hl : h.length = 3) {out : List S5} (srt : SortedK (out.map sK)) (nd : out.Nodup) (hm : ∀ s', s' ∈ out ↔ ∃ s ∈ [sw :: port :: h], ∃ p ∈ ps, partM p s = some s') : out.map itS = doesM ps sw port h := by
  have hm2 : ∀ s', s' ∈ out ↔ s' ∈ polM ps (sw :: port :: h) := fun s' => by
    rw [hm, pol_mem]
    exact ⟨fun ⟨s, h1, h2⟩ => List.mem_singleton.mp h1 ▸ h2, fun h2 => ⟨_, List.mem_singleton.mpr rfl, h2⟩⟩
  have h5 : ∀ s' ∈ out, s'.length = 5 ∧ s'.getD 0 0 = sw := fun s' hs' => by
    have h1 := (hm2 s').mp hs'
    exact ⟨pol_len (by rw [List.length_cons, List.length_cons, hl]) h1, (pol_keep hok h1).1.1⟩
  have hp : out.Perm (polM ps (sw :: port :: h)) := (List.perm_ext_iff_of_nodup nd (ddA_nodup _ _ .nil)).mpr hm2
  unfold doesM
  refine srtK_uniq (sh := [none, some 3]) (hp.map itS) (fun x hx => ?_) ?_
  · obtain ⟨s, hs, rfl⟩ := List.mem_map.mp hx
    exact itS_shape (h5 s ((hm2 s).mpr hs)).1
  · have h1 : out.Pairwise fun x y => ltQ (sK y) (sK x) = false := List.pairwise_map.mp srt
    refine List.pairwise_map.mpr (h1.imp_of_mem fun {x y} hx hy z => ?_)
    rw [lt_its (h5 y hy).1 (h5 x hx).1 ((h5 y hy).2.trans (h5 x hx).2.symm)]
    exact z
local macro_rules | `(tactic| walk_at "v") => `(tactic| first | exact v0 | exact v1 | exact v2 | exact v3 | exact v4 | exact v5 | exact v6 | exact v7 | exact v8)
local macro_rules | `(tactic| walk_at "vs") => `(tactic| first | exact st0 | exact st1 | exact st2 | exact st3 | exact st4 | exact st5 | exact st6 | exact st7 | exact st8)
local macro_rules | `(tactic| walk_at "s") => `(tactic| first
  | with_reducible refine w_dget ?_
  | ((with_reducible refine' w_dgetZ ?h ?nd ?hk ?hv ?_); (case h => walk_at "g"); (case nd => walk_at "nd"); (case hk => walk_at "k"); (case hv => walk_at "v"))
  | ((with_reducible refine' w_dputZ ?hs ?h ?nd ?hk ?hv ?hu ?hl ?_); (case hs => assumption); (case h => walk_at "p"); (case nd => walk_at "nd"); (case hk => walk_at "k"); (case hv => walk_at "v"); (case hu => walk_at "vs"); (case hl => decide); intro _ _)
  | with_reducible refine w_gsub ?_
  | with_reducible refine w_setD ?_
  | with_reducible refine w_disp ?_
  | ((with_reducible refine' w_newP ?hs ?_); (case hs => assumption); intro _ _ _)
  | with_reducible refine w_pcons ?_
  | with_reducible refine w_pnil ?_)

local macro_rules | `(tactic| walk_at "s") => `(tactic| first
  | with_reducible refine w_nget ?_
  | with_reducible refine w_nin ?_
  | with_reducible refine w_nnot ?_
  | with_reducible refine w_nput ?_
  | with_reducible refine w_ndel ?_
  | with_reducible refine w_npop ?_
  | ((with_reducible refine' w_nnew ?hs ?_); (case hs => assumption); intro _ _ _))

local macro_rules | `(tactic| walk_at "s") => `(tactic| first
  | with_reducible refine w_ninF ?_
  | with_reducible refine w_nsetd ?_
  | with_reducible refine w_ckw ?_)

section
variable {P : Program} [IsP P] {w : World} {K : PySem.W.Frag} {mg : Str → Option Value} {base : Heap} {a : Ad}
/-! ## the law's steps -/
theorem five {s : S5} (h : s.length = 5) : ∃ a b c d e, s = [a, b, c, d, e] := match s, h with
  | [a, b, c, d, e], _ => ⟨a, b, c, d, e, rfl⟩
def sp__law_steps : Sp := fun vs H Q _ => ∃ (v g e : V) (ps : List Part) (cnt : Int) (ls : List Lk) (p : Plc), vs = [v, g, e] ∧ PolAt H v ps ∧ LocOk ps ∧ GrAt H g cnt ls ∧ KeyAt H e (plK p) ∧ p.2.2.length = 3 ∧
  ∀ l us H', Same H H' → H l = none → H' l = some (.lst us) → Row (StpAt H') us (stepsM ps ls p) → Q (.ref l) H'
theorem ok__law_steps (T : Txt w K mg a) : FnOk P w K mg base CX0 6 a._law_steps a.fd__law_steps ["policy", "graph", "place"] sp__law_steps := by
  have G__law_after := ok__law_after (P := P) (w := w) (base := base) T
  have G__law_end := ok__law_end (P := P) (w := w) (base := base) T
  refine T.fn__law_steps.ok sc__law_steps (fun vs H Q E h => ?_) (fun cdv A outer s H vs Q E hr h => ?_)
  · obtain ⟨_, _, _, _, _, _, _, rfl, _⟩ := h
    rfl
  · obtain ⟨v, g, e, ps, cnt, ls, pl, rfl, hp, hok, hg, hpl, hl3, k⟩ := h
    refine ⟨_, (pss_cons (ps_set (i := 3) sc__law_steps.nd rfl (Or.inl rfl) (pe_lst pa_nil))
  (pss_cons (ps_for PassesOwn.never rfl (pi_listK (K := K) (pe_call G__law_after (hr.mono (by first | decide | omega)) rfl T.mg__law_after T.kp__law_after T.bi__law_after .nil pass0 (pa_cons (pv 0) (pa_cons (pe_lst (pa_cons (pe_op (op_catAK (K := K)) (pe_tup (pa_cons (pe_ix (ix_tupK (K := K)) (pv 2) pe_int (fun _ _ => rfl)) (pa_cons (pe_ix (ix_tupK (K := K)) (pv 2) pe_int (fun _ _ => rfl)) pa_nil))) (pe_ix (ix_tupK (K := K)) (pv 2) pe_int (fun _ _ => rfl))) pa_nil)) pa_nil)))) (pg_name (i := 4) sc__law_steps.nd rfl (Or.inl rfl))
  (pss_cons (ps_set (i := 5) sc__law_steps.nd rfl (Or.inl rfl) (pe_tup (pa_cons (pe_ix (ix_tupK (K := K)) (pv 2) pe_int (fun _ _ => rfl)) (pa_cons (pe_ix (ix_tupK (K := K)) (pv 4) pe_int (fun _ _ => rfl)) pa_nil))))
  (pss_cons (ps_set (i := 6) sc__law_steps.nd rfl (Or.inl rfl) (pe_call G__law_end (hr.mono (by first | decide | omega)) rfl T.mg__law_end T.kp__law_end T.bi__law_end .nil pass0 (pa_cons (pv 1) (pa_cons (pv 5) pa_nil))))
  (pss_one (ps_if (pt_cmpR op_eq (pe_ix (ix_tupK (K := K)) (pv 4) pe_int (fun _ _ => rfl)) pe_int (nomark _))
  (pss_one (ps_expr (pe_bmK (K := K) PySem.F.plainAttrs_list PySem.F.slot_list_append PySem.F.type_list_append mt_append (pv 3) (pa_cons (pe_tup (pa_cons pe_str (pa_cons (pe_ix (ix_tupK (K := K)) (pv 2) pe_int (fun _ _ => rfl)) (pa_cons (pe_slice (sl_tupAK (K := K)) (pv 4) (po_some pe_int) po_none) pa_nil)))) pa_nil))))
  (pss_one (ps_if (pt_cmpR op_isNQ (pv 6) pe_non (nomark _))
  (pss_one (ps_expr (pe_bmK (K := K) PySem.F.plainAttrs_list PySem.F.slot_list_append PySem.F.type_list_append mt_append (pv 3) (pa_cons (pe_tup (pa_cons pe_str (pa_cons (pv 5) (pa_cons (pe_slice (sl_tupAK (K := K)) (pv 4) (po_some pe_int) po_none) pa_nil)))) pa_nil))))
  (pss_one (ps_expr (pe_bmK (K := K) PySem.F.plainAttrs_list PySem.F.slot_list_append PySem.F.type_list_append mt_append (pv 3) (pa_cons (pe_tup (pa_cons pe_str (pa_cons (pe_op (op_catAK (K := K)) (pv 6) (pe_tup (pa_cons (pe_slice (sl_tupAK (K := K)) (pv 4) (po_some pe_int) po_none) pa_nil))) pa_nil))) pa_nil)))))))))))
  (pss_one (ps_ret (pv 3))))), ?_⟩
    have hs := Hs.start H
    obtain ⟨pa, ta, rfl, hpa, hta⟩ := key3 hpl
    walk_at "ss"
    rename_i pr H1 hs1
    have hpa1 := hs1.same _ _ hpa
    refine w_forS ?_
    walk_at "ss"
    rename_i t1 H2 hs2
    obtain ⟨B1, sB1, ht1, hs3⟩ := frz_hs hs2
    have hpa3 := hs3.same _ _ (sB1 _ _ hpa)
    walk_at "ss"
    refine w_catTF hs3 ht1 (sB1 _ _ hta) (by simp only [List.length_cons, List.length_nil, List.length_map]; omega) fun t2 B2 H3 sB2 hs4 ht2 => ?_
    walk_at "ss"
    rename_i sl H4 hs5
    have sHB : Same H B2 := sB1.trans sB2
    refine ⟨v, sl, ps, [.ref t2], [pl.1 :: pl.2.1 :: pl.2.2], rfl, ⟨hp.same (sHB.trans hs5.same), hok⟩, hs5.g0, Row.cons ⟨t2, rfl, hs5.same _ _ ht2⟩ Row.nil, (by decide : 1 ≤ 8), fun s hs => ?_, fun l us out H5 sm5 hn5 hl5 ho5 hm5 => ?_⟩
    · rw [List.mem_singleton.mp hs, List.length_cons, List.length_cons, hl3]
    have hdo := la_does hok hl3 ho5.srt ho5.nd hm5
    have hox : ∀ s ∈ out, s.length = 5 := fun s hs => by
      obtain ⟨z, hz, q, _, hq⟩ := (hm5 s).mp hs
      rw [List.mem_singleton.mp hz] at hq
      exact partM_len (by rw [List.length_cons, List.length_cons, hl3]) hq
    obtain ⟨B3, sB3, hl3', hs6⟩ := frz_hs (Hs_own hs5.tl sm5 hn5 hl5)
    obtain ⟨B4, sB4', hs7, hin⟩ := hs6.allin
    have sB4 := sB3.trans sB4'
    have hlB := sB4' _ _ hl3'
    have hrow : Row (StAt B4) us out := ho5.row.mono fun u x => StAt.mono fun p xs e => hin _ _ e fun z => by
      rw [List.map_cons, List.map_nil, List.mem_singleton] at z
      rw [z, hs7.g0] at e
      cases e
    have hz : us.length = out.length := ho5.row.1
    have hoz : out.length ≤ 6 := by
      have h1 := congrArg List.length hdo
      rw [List.length_map] at h1
      have := does_few ps pl.1 pl.2.1 pl.2.2
      have := hok.1
      omega
    have hsteps : stepsM ps ls pl = out.map fun s => stpOf ls pl.1 (itS s) := by
      unfold stepsM
      rw [← hdo, List.map_map]
      rfl
    have sH4 : Same H B4 := sHB.trans sB4
    rw [hsteps] at k
    refine w_forL (SqL.of (hs7.same _ _ hlB)) (fun i σ H' => ∃ (B : Hp) (acc : List V) (v4 v5 v6 : Option V), σ = [some v, some g, some (.ref pa), some (.ref pr), v4, v5, v6] ∧ Same B4 B ∧ Hs B [(pr, .lst acc)] H' ∧ Row (StpAt B) acc ((out.take i).map fun s => stpOf ls pl.1 (itS s))) (fun Q q => q) ⟨B4, [], none, none, none, rfl, Same.refl _, hs7, Row.nil⟩ (fun i σ H' _ ⟨B, acc, _, _, _, _, sm, h, _⟩ => SqL.of (h.same _ _ (sm _ _ hlB))) ?_ ?_
    · rintro i u σ H' hu ⟨B, acc, v4, v5, v6, rfl, smB, hs8, hra⟩
      obtain ⟨so, hso, hsu⟩ := hrow.get hu
      obtain ⟨x0, o, x2, x3, x4, rfl⟩ := five (hox so (List.mem_of_getElem? hso))
      obtain ⟨q, rfl, hqB'⟩ := hsu
      have hqB : B q = some (.tup [.int x0, .int o, .int x2, .int x3, .int x4]) := smB _ _ hqB'
      have hq := hs8.same _ _ hqB
      have hpa8 := hs8.same _ _ (smB _ _ (sH4 _ _ hpa))
      obtain ⟨pg, lr, gs, rfl, hpgB, hlrB, hgs, hgz⟩ := (hg.same sH4).same smB
      have tk : (out.take (i + 1)).map (fun s => stpOf ls pl.1 (itS s)) = (out.take i).map (fun s => stpOf ls pl.1 (itS s)) ++ [stpOf ls pl.1 [.inl o, .inr [x2, x3, x4]]] := by
        rw [List.take_add_one, hso, List.map_append]
        rfl
      have hlen : acc.length < sizeLine := szl (by
        have h1 := hra.1
        rw [List.length_map, List.length_take] at h1
        omega)
      rw [tk]
      have fin : ∀ (B' : Hp) (u' : V) (H' : Hp) (v4 v5 v6 : Option V), Same B B' → Hs B' [(pr, .lst (acc ++ [u']))] H' → StpAt B' u' (stpOf ls pl.1 [.inl o, .inr [x2, x3, x4]]) → ∃ (B : Hp) (acc : List V) (w4 w5 w6 : Option V), ([some v, some (.ref pg), some (.ref pa), some (.ref pr), v4, v5, v6] : L2.St) = [some v, some (.ref pg), some (.ref pa), some (.ref pr), w4, w5, w6] ∧ Same B4 B ∧ Hs B [(pr, .lst acc)] H' ∧ Row (StpAt B) acc ((out.take i).map (fun s => stpOf ls pl.1 (itS s)) ++ [stpOf ls pl.1 [.inl o, .inr [x2, x3, x4]]]) := fun B' u' H' v4 v5 v6 sm h hk => by
        exact ⟨B', acc ++ [u'], v4, v5, v6, rfl, smB.trans sm, h, (hra.mono fun u x k => StpAt.mono (fun _ _ e => sm _ _ e) k).snoc hk⟩
      clear k
      walk_at "ss"
      rename_i te H9 hs9
      obtain ⟨B5, sB5, hte, hs10⟩ := frz_hs hs9
      have hg5 : GrAt B5 (.ref pg) cnt ls := GrAt.same sB5 ⟨pg, lr, gs, rfl, hpgB, hlrB, hgs, hgz⟩
      walk_at "ss"
      refine ⟨.ref pg, te, cnt, ls, (pl.1, o), rfl, hg5.same hs10.same, hs10.same _ _ hte, fun vo H10 sm10 hvo => ?_⟩
      have hs11 : Hs B5 [(pr, .lst acc)] H10 := hs10.keep sm10
      have hq11 := hs11.same _ _ (sB5 _ _ hqB)
      have hpa11 := hs11.same _ _ (sB5 _ _ (smB _ _ (sH4 _ _ hpa)))
      walk_at "ss"
      refine ifd (fun h0 => ?_) (fun h0 => ?_)
      · walk_at "ss"
        refine w_slTF hs11 (sB5 _ _ hqB) (fun z => nomatch (show (2 : Nat) = 0 from z.1)) fun th B6 H11 sB6 hs12 hth => ?_
        rw [cut_from (j := 2) 2 rfl] at hth
        walk_at "ss"
        rename_i t5 H12 hs13 H13 hs14
        obtain ⟨B7, sB7, ht5, hs15⟩ := frz_hs hs14
        refine fin B7 (.ref t5) _ _ _ _ (sB5.trans (sB6.trans sB7)) hs15 ?_
        rw [stp_eq, if_pos h0]
        exact ⟨t5, th, rfl, ht5, sB7 _ _ hth⟩
      · cases hpe : peerM ls (pl.1, o) with
        | none =>
          rw [hpe] at hvo
          cases hvo
          walk_at "ss"
          refine ifd (fun _ => ?_) (fun z => absurd rfl z)
          walk_at "ss"
          refine w_slTF hs11 (sB5 _ _ hqB) (fun z => nomatch (show (2 : Nat) = 0 from z.1)) fun th B6 H11 sB6 hs12 hth => ?_
          rw [cut_from (j := 2) 2 rfl] at hth
          walk_at "ss"
          rename_i t5 H12 hs13 H13 hs14
          obtain ⟨B7, sB7, ht5, hs15⟩ := frz_hs hs14
          refine fin B7 (.ref t5) _ _ _ _ (sB5.trans (sB6.trans sB7)) hs15 ?_
          rw [stp_eq, if_neg h0, hpe]
          exact ⟨t5, te, th, rfl, ht5, sB7 _ _ (sB6 _ _ hte), sB7 _ _ hth⟩
        | some e =>
          rw [hpe] at hvo
          obtain ⟨qe, rfl, hqe⟩ := hvo
          walk_at "ss"
          refine ifd (fun z => by cases z) (fun _ => ?_)
          replace hqe := sm10 _ _ hqe
          obtain ⟨B6, sB6, hs12, hin12⟩ := hs11.allin
          have hqe6 : B6 qe = some (endO e) := hin12 _ _ hqe fun z => by
            rw [List.map_cons, List.map_nil, List.mem_singleton] at z
            rw [z, hs11.g0] at hqe
            cases hqe
          walk_at "ss"
          refine w_slTF hs12 (sB6 _ _ (sB5 _ _ hqB)) (fun z => nomatch (show (2 : Nat) = 0 from z.1)) fun th B7 H11 sB7 hs13 hth => ?_
          rw [cut_from (j := 2) 2 rfl] at hth
          walk_at "ss"
          rename_i t6 H12 hs14
          obtain ⟨B8, sB8, ht6, hs15⟩ := frz_hs hs14
          refine w_catTF hs15 (sB8 _ _ (sB7 _ _ hqe6)) ht6 (by show 2 + 1 ≤ 100; decide) fun tc B9 H13 sB9 hs16 htc => ?_
          walk_at "ss"
          rename_i t7 H14 hs17 H15 hs18
          obtain ⟨B10, sB10, ht7, hs19⟩ := frz_hs hs18
          refine fin B10 (.ref t7) _ _ _ _ (sB5.trans (sB6.trans (sB7.trans (sB8.trans (sB9.trans sB10))))) hs19 ?_
          rw [stp_eq, if_neg h0, hpe]
          exact ⟨t7, tc, rfl, ht7, tc, rfl, _, sB10 _ _ htc, .cons rfl (.cons rfl (.cons ⟨th, rfl, sB10 _ _ (sB9 _ _ (sB8 _ _ hth))⟩ .nil))⟩
    · rintro σ H' ⟨B, acc, v4, v5, v6, rfl, smB, hs8, hra⟩
      rw [hz, List.take_length] at hra
      walk_at "ss"
      exact k pr acc H' ((sH4.trans smB).trans hs8.same) ((sH4.trans smB).free (hs8.out _ List.mem_cons_self)) hs8.g0 (hra.mono fun u x h => h.mono hs8.tups)
/-! ## the law's next places -/
end
local macro_rules | `(tactic| walk_at "v") => `(tactic| first | exact v0 | exact v1 | exact v2 | exact v3 | exact v4 | exact v5 | exact v6 | exact v7 | exact v8)
local macro_rules | `(tactic| walk_at "vs") => `(tactic| first | exact st0 | exact st1 | exact st2 | exact st3 | exact st4 | exact st5 | exact st6 | exact st7 | exact st8)
local macro_rules | `(tactic| walk_at "s") => `(tactic| first
  | with_reducible refine w_dget ?_
  | ((with_reducible refine' w_dgetZ ?h ?nd ?hk ?hv ?_); (case h => walk_at "g"); (case nd => walk_at "nd"); (case hk => walk_at "k"); (case hv => walk_at "v"))
  | ((with_reducible refine' w_dputZ ?hs ?h ?nd ?hk ?hv ?hu ?hl ?_); (case hs => assumption); (case h => walk_at "p"); (case nd => walk_at "nd"); (case hk => walk_at "k"); (case hv => walk_at "v"); (case hu => walk_at "vs"); (case hl => decide); intro _ _)
  | with_reducible refine w_gsub ?_
  | with_reducible refine w_setD ?_
  | with_reducible refine w_disp ?_
  | ((with_reducible refine' w_newP ?hs ?_); (case hs => assumption); intro _ _ _)
  | with_reducible refine w_pcons ?_
  | with_reducible refine w_pnil ?_)

local macro_rules | `(tactic| walk_at "s") => `(tactic| first
  | with_reducible refine w_nget ?_
  | with_reducible refine w_nin ?_
  | with_reducible refine w_nnot ?_
  | with_reducible refine w_nput ?_
  | with_reducible refine w_ndel ?_
  | with_reducible refine w_npop ?_
  | ((with_reducible refine' w_nnew ?hs ?_); (case hs => assumption); intro _ _ _))

local macro_rules | `(tactic| walk_at "s") => `(tactic| first
  | with_reducible refine w_ninF ?_
  | with_reducible refine w_nsetd ?_
  | with_reducible refine w_ckw ?_)

/-! ## the rollout -/
def deeds : List Str := ["install", "turn", "remove"]
theorem deeds_nodup : deeds.Nodup := by decide +kernel
abbrev rolO (a : Ad) (dx fl tl : Addr) (g : V) (pp dd : Addr) (n : Nat) : HO := .ins a.Rollout dx [("flying", .ref fl), ("told", .ref tl), ("_graph", g), ("_policies", .ref pp), ("_done", .ref dd), ("_data", .int (n : Nat))]
abbrev doneO (d1 d2 d3 : Addr) : HO := .dK (zipK deeds [.ref d1, .ref d2, .ref d3])
abbrev setO (xs : List Int) : HO := .dK (xs.map fun s => (Sum.inl s, V.bl true))
abbrev rolL (a : Ad) (x dx fl tl : Addr) (g : V) (pp dd d1 d2 d3 : Addr) (n : Nat) (fs ts : List V) (xi xt xr : List Int) : List (Addr × HO) :=
  [(x, rolO a dx fl tl g pp dd n), (fl, .lst fs), (tl, .lst ts), (dd, doneO d1 d2 d3), (d1, setO xi), (d2, setO xt), (d3, setO xr)]
section
variable {P : Program} [IsP P] {w : World} {K : PySem.W.Frag} {mg : Str → Option Value} {base : Heap} {a : Ad}
def sp_Rollout_init (a : Ad) : Sp := fun vs H Q _ => ∃ (B : Hp) (x dx : Addr) (g old new : V), vs = [.ref x, g, old, new] ∧ Hs B [(x, .ins a.Rollout dx [])] H ∧
  ∀ fl tl pp dd d1 d2 d3 B2 H', Same B B2 → B2 pp = some (.tup [old, new]) → Hs B2 (rolL a x dx fl tl g pp dd d1 d2 d3 0 [] [] [] [] []) H' → Q .non H'
theorem ok_Rollout_init (T : Txt w K mg a) : FnOk P w K mg base CX0 1 a.Rollout_init a.fd_Rollout_init ["self", "graph", "old", "new"] (sp_Rollout_init a) := by
  refine T.fn_Rollout_init.ok sc_Rollout_init (fun vs H Q E h => ?_) (fun cdv A outer s H vs Q E hr h => ?_)
  · obtain ⟨_, _, _, _, _, _, rfl, _⟩ := h
    rfl
  · obtain ⟨B, x, dx, g, old, new, rfl, hs, k⟩ := h
    have c1 := T.cl_Rollout
    have n1 := T.na_Rollout_flying
    have n2 := T.na_Rollout_told
    have n3 := T.na_Rollout__graph
    have n4 := T.na_Rollout__policies
    have n5 := T.na_Rollout__done
    have n6 := T.na_Rollout__data
    refine ⟨_, (pss_cons (ps_fldK (K := K) (pv 0) (pe_lst pa_nil))
  (pss_cons (ps_fldK (K := K) (pv 0) (pe_lst pa_nil))
  (pss_cons (ps_fldK (K := K) (pv 0) (pv 1))
  (pss_cons (ps_fldK (K := K) (pv 0) (pe_tup (pa_cons (pv 2) (pa_cons (pv 3) pa_nil))))
  (pss_cons (ps_fldK (K := K) (pv 0) (pe_disp (pps_cons pe_str pe_dnewK (pps_cons pe_str pe_dnewK (pps_cons pe_str pe_dnewK pps_nil))) (by rfl) (by rfl) (fun z => by cases z) (by decide)))
  (pss_one (ps_fldK (K := K) (pv 0) pe_int))))))), ?_⟩
    walk_at "ss"
    rename_i fl H1 _ tl H2 _ pp H3 _ dd H4 _ d1 H5 _ d2 H6 _ d3 H7 hs7
    refine w_dispZ deeds [.ref d1, .ref d2, .ref d3] hs7 (.there (.there (.there .here))) deeds_nodup (by decide) rfl fun H8 hs8 => ?_
    walk_at "ss"
    rename_i H9 hs9
    obtain ⟨B2, sB, hpp, hs10⟩ := frz_hs (hs9.sel [4, 7, 6, 5, 3, 2, 1, 0])
    exact k _ _ _ dd d1 d2 d3 B2 H9 sB hpp hs10
/-! the small methods -/
def sp_is_switch (a : Ad) : Sp := fun vs H Q _ => ∃ (B : Hp) (x dx fl tl pp dd d1 d2 d3 : Addr) (g : V) (n : Nat) (fs ts : List V) (xi xt xr : List Int) (ls : List Lk) (s : Int), vs = [.ref x, .int s] ∧ Hs B (rolL a x dx fl tl g pp dd d1 d2 d3 n fs ts xi xt xr) H ∧ GrAt B g 3 ls ∧ Q (.bl (decide (1 ≤ s) && decide (s ≤ 3))) H
theorem ok_Rollout_is_switch (T : Txt w K mg a) : FnOk P w K mg base CX0 1 a.Rollout_is_switch a.fd_Rollout_is_switch ["self", "switch"] (sp_is_switch a) := by
  refine T.fn_Rollout_is_switch.ok sc_Rollout_is_switch (fun vs H Q E h => ?_) (fun cdv A outer s H vs Q E hr h => ?_)
  · obtain ⟨_, _, _, _, _, _, _, _, _, _, _, _, _, _, _, _, _, _, _, rfl, _⟩ := h
    rfl
  · obtain ⟨B, x, dx, fl, tl, pp, dd, d1, d2, d3, g, n, fs, ts, xi, xt, xr, ls, s, rfl, hs, hg, k⟩ := h
    have c1 := T.cl_Rollout
    have n3 := T.na_Rollout__graph
    obtain ⟨gp, lr, lus, rfl, hgp, hlr, hL, hlz⟩ := hg
    have hgp' := hs.same _ _ hgp
    refine ⟨_, (pss_one (ps_ret (pe_chain op_le op_le pe_int (pv 1) (pe_ix (ix_tupK (K := K)) (pe_fldK (K := K) (pv 0)) pe_int (fun _ _ => rfl))))), ?_⟩
    walk_at "ss"
    refine ifd (fun h1 => ?_) (fun h1 => ?_)
    · walk_at "ss"
      rw [decide_eq_true h1, Bool.true_and] at k
      exact k
    · walk_at "ss"
      rw [decide_eq_false h1, Bool.false_and] at k
      exact k
def sp_everywhere (a : Ad) : Sp := fun vs H Q _ => ∃ (B : Hp) (x dx fl tl pp dd d1 d2 d3 : Addr) (g : V) (n : Nat) (fs ts : List V) (xi xt xr : List Int) (ls : List Lk) (j : Nat) (dk : Str) (l : List Int), vs = [.ref x, .str dk] ∧ Hs B (rolL a x dx fl tl g pp dd d1 d2 d3 n fs ts xi xt xr) H ∧ GrAt B g 3 ls ∧ deeds[j]? = some dk ∧ [xi, xt, xr][j]? = some l ∧ Q (.bl (decide ((l.length : Int) = 3))) H
theorem ok_Rollout_everywhere (T : Txt w K mg a) : FnOk P w K mg base CX0 1 a.Rollout_is_done_everywhere a.fd_Rollout_is_done_everywhere ["self", "deed"] (sp_everywhere a) := by
  refine T.fn_Rollout_is_done_everywhere.ok sc_Rollout_is_done_everywhere (fun vs H Q E h => ?_) (fun cdv A outer s H vs Q E hr h => ?_)
  · obtain ⟨_, _, _, _, _, _, _, _, _, _, _, _, _, _, _, _, _, _, _, _, _, rfl, _⟩ := h
    rfl
  · obtain ⟨B, x, dx, fl, tl, pp, dd, d1, d2, d3, g, n, fs, ts, xi, xt, xr, ls, j, dk, l, rfl, hs, hg, hj, hl, k⟩ := h
    have c1 := T.cl_Rollout
    have n3 := T.na_Rollout__graph
    have n5 := T.na_Rollout__done
    have hu := hu_of hr
    obtain ⟨gp, lr, lus, rfl, hgp, hlr, hL, hlz⟩ := hg
    have hgp' := hs.same _ _ hgp
    refine ⟨_, (pss_one (ps_ret (pe_cmpR op_eq (pe_callB call_lenD (by rfl) T.mg_len PySem.boot_len (pa_cons (pe_dget hu (pe_fldK (K := K) (pv 0)) (pv 1) (fun _ _ => rfl)) pa_nil)) (pe_ix (ix_tupK (K := K)) (pe_fldK (K := K) (pv 0)) pe_int (fun _ _ => rfl)) (nomark _)))), ?_⟩
    walk_at "ss"
    have hdd : H dd = some (doneO d1 d2 d3) := hs.g3
    have hcnt : ∀ l : List Int, (l.map fun s => ((Sum.inl s : Key), V.bl true)).length = l.length := fun l => List.length_map ..
    obtain ⟨dj, hdj, hl2⟩ : ∃ dj, ([V.ref d1, V.ref d2, V.ref d3] : List V)[j]? = some (.ref dj) ∧ H dj = some (setO l) := by
      match j, hl with
      | 0, h => cases h; exact ⟨d1, rfl, hs.get (i := 4) rfl⟩
      | 1, h => cases h; exact ⟨d2, rfl, hs.get (i := 5) rfl⟩
      | 2, h => cases h; exact ⟨d3, rfl, hs.get (i := 6) rfl⟩
    refine w_dgetZ hdd deeds_nodup hj hdj ?_
    walk_at "ss"
    refine ⟨dj, _, rfl, hl2, ?_⟩
    rw [hcnt]
    walk_at "ss"
    exact k
end
local macro_rules | `(tactic| walk_at "v") => `(tactic| first | exact v0 | exact v1 | exact v2 | exact v3 | exact v4 | exact v5 | exact v6 | exact v7 | exact v8)
local macro_rules | `(tactic| walk_at "vs") => `(tactic| first | exact st0 | exact st1 | exact st2 | exact st3 | exact st4 | exact st5 | exact st6 | exact st7 | exact st8)
local macro_rules | `(tactic| walk_at "s") => `(tactic| first
  | with_reducible refine w_dget ?_
  | ((with_reducible refine' w_dgetZ ?h ?nd ?hk ?hv ?_); (case h => walk_at "g"); (case nd => walk_at "nd"); (case hk => walk_at "k"); (case hv => walk_at "v"))
  | ((with_reducible refine' w_dputZ ?hs ?h ?nd ?hk ?hv ?hu ?hl ?_); (case hs => assumption); (case h => walk_at "p"); (case nd => walk_at "nd"); (case hk => walk_at "k"); (case hv => walk_at "v"); (case hu => walk_at "vs"); (case hl => decide); intro _ _)
  | with_reducible refine w_gsub ?_
  | with_reducible refine w_setD ?_
  | with_reducible refine w_disp ?_
  | ((with_reducible refine' w_newP ?hs ?_); (case hs => assumption); intro _ _ _)
  | with_reducible refine w_pcons ?_
  | with_reducible refine w_pnil ?_)

local macro_rules | `(tactic| walk_at "s") => `(tactic| first
  | with_reducible refine w_nget ?_
  | with_reducible refine w_nin ?_
  | with_reducible refine w_nnot ?_
  | with_reducible refine w_nput ?_
  | with_reducible refine w_ndel ?_
  | with_reducible refine w_npop ?_
  | ((with_reducible refine' w_nnew ?hs ?_); (case hs => assumption); intro _ _ _))

local macro_rules | `(tactic| walk_at "s") => `(tactic| first
  | with_reducible refine w_ninF ?_
  | with_reducible refine w_nsetd ?_
  | with_reducible refine w_ckw ?_)

section
variable {P : Program} [IsP P] {w : World} {K : PySem.W.Frag} {mg : Str → Option Value} {base : Heap} {a : Ad}
/-! ## the error: its state is a number, or a deed and a switch -/
def StVal (B : Hp) (v : V) : Prop := (∃ n : Int, v = .int n ∧ 0 ≤ n ∧ n < 10 ^ 10) ∨ ∃ (p : Addr) (dk : Str) (s : Int), v = .ref p ∧ B p = some (.tup [.str dk, .int s]) ∧ dk ∈ deeds ∧ 0 ≤ s ∧ s < 10 ^ 10
theorem StVal.same {B B' : Hp} {v : V} (s : Same B B') : StVal B v → StVal B' v
  | .inl h => .inl h
  | .inr ⟨p, dk, n, e, hp, h⟩ => .inr ⟨p, dk, n, e, s _ _ hp, h⟩
abbrev sp_StateError_init (a : Ad) : Sp := spXinitG a.StateError "state" StVal
theorem ok_StateError_init (T : Txt w K mg a) : FnOk P w K mg base CX0 1 a.StateError_init a.fd_StateError_init ["self", "state"] (sp_StateError_init a) := by
  obtain ⟨ar, S⟩ := sc_StateError_init
  obtain rfl : P = _ := IsP.eq
  refine T.fn_StateError_init.ok T.ox_StateError S (fun vs H Q E h => ?_) rfl (fun cda cc A outer s H vs Q E hr h => ?_)
  · obtain ⟨_, _, _, rfl, _⟩ := h
    rfl
  · obtain ⟨B, e, v, rfl, hs, hv, k⟩ := h
    refine ⟨e, _, _, rfl, hs.g0, (pa_cons (pe_joined (.cons pe_str (.cons (pe_fmt2 (K := K) hr (pv 1)) .nil))) pa_nil), (pss_one (ps_ost (pv 0) (pv 1))), ?_⟩
    walk_at "ss"
    have hz : (Str.empty ++ ("not in this state: " : Str)).length ≤ 100 := by decide +kernel
    refine w_js1 (Nat.le_trans hz (by decide)) ?_
    walk_at "ss"
    have key : ∀ m : Str, m.length ≤ 2000 → (Str.empty ++ ("not in this state: " : Str) ++ m).length ≤ sizeLine := fun m hm => by
      rw [Str.length_append]
      exact sz (by omega)
    refine w_fmt2 ?_
    walk_at "ss"
    rcases hv with ⟨n, rfl, h0, h1⟩ | ⟨p, dk, sw, rfl, hp, hdk, h0, h1⟩
    · refine .inl (w_fmtI (by omega) ?_)
      have hm : (Str.ofString (toString n)).length ≤ 2000 := Nat.le_trans (PyProof.Rows.toString_length_le h0 (by decide) h1) (by decide)
      refine w_js1 (key _ hm) ?_
      walk_at "ss"
      refine ⟨by simp, hs.g0, ?_⟩
      walk_at "ss"
      refine w_ost hs T.ox_StateError T.no_StateError_state fun dx H' hs' => ?_
      exact k _ _ hs'
    · have hd : ∀ d ∈ deeds, (∀ c ∈ d.cps.toList, c < 16 ^ 8) ∧ d.length ≤ 100 := by decide +kernel
      refine .inr ⟨p, dk, sw, rfl, SqT.of (hs.same _ _ hp), (hd dk hdk).1, (hd dk hdk).2, h0, h1, fun m hm => ?_⟩
      refine w_js1 (key _ hm) ?_
      walk_at "ss"
      refine ⟨by simp, hs.g0, ?_⟩
      walk_at "ss"
      refine w_ost hs T.ox_StateError T.no_StateError_state fun dx H' hs' => ?_
      exact k _ _ hs'
end
local macro_rules | `(tactic| walk_at "v") => `(tactic| first | exact v0 | exact v1 | exact v2 | exact v3 | exact v4 | exact v5 | exact v6 | exact v7 | exact v8)
local macro_rules | `(tactic| walk_at "vs") => `(tactic| first | exact st0 | exact st1 | exact st2 | exact st3 | exact st4 | exact st5 | exact st6 | exact st7 | exact st8)
local macro_rules | `(tactic| walk_at "s") => `(tactic| first
  | with_reducible refine w_dget ?_
  | ((with_reducible refine' w_dgetZ ?h ?nd ?hk ?hv ?_); (case h => walk_at "g"); (case nd => walk_at "nd"); (case hk => walk_at "k"); (case hv => walk_at "v"))
  | ((with_reducible refine' w_dputZ ?hs ?h ?nd ?hk ?hv ?hu ?hl ?_); (case hs => assumption); (case h => walk_at "p"); (case nd => walk_at "nd"); (case hk => walk_at "k"); (case hv => walk_at "v"); (case hu => walk_at "vs"); (case hl => decide); intro _ _)
  | with_reducible refine w_gsub ?_
  | with_reducible refine w_setD ?_
  | with_reducible refine w_disp ?_
  | ((with_reducible refine' w_newP ?hs ?_); (case hs => assumption); intro _ _ _)
  | with_reducible refine w_pcons ?_
  | with_reducible refine w_pnil ?_)

local macro_rules | `(tactic| walk_at "s") => `(tactic| first
  | with_reducible refine w_nget ?_
  | with_reducible refine w_nin ?_
  | with_reducible refine w_nnot ?_
  | with_reducible refine w_nput ?_
  | with_reducible refine w_ndel ?_
  | with_reducible refine w_npop ?_
  | ((with_reducible refine' w_nnew ?hs ?_); (case hs => assumption); intro _ _ _))

local macro_rules | `(tactic| walk_at "s") => `(tactic| first
  | with_reducible refine w_ninF ?_
  | with_reducible refine w_nsetd ?_
  | with_reducible refine w_ckw ?_)

section
variable {P : Program} [IsP P] {w : World} {K : PySem.W.Frag} {mg : Str → Option Value} {base : Heap} {a : Ad}
theorem setO_val (xs : List Int) (s : Int) : (valV (xs.map fun s => ((Sum.inl s : Key), V.bl true)) (Sum.inl s)).isSome = decide (s ∈ xs) := by
  unfold valV
  rw [Option.isSome_map, Bool.eq_iff_iff, List.find?_isSome, decide_eq_true_iff]
  constructor
  · rintro ⟨x, hx, e⟩
    obtain ⟨y, hy, rfl⟩ := List.mem_map.mp hx
    have e : (Sum.inl y : Key) = Sum.inl s := of_decide_eq_true e
    cases e
    exact hy
  · exact fun h => ⟨_, List.mem_map_of_mem h, decide_eq_true rfl⟩
def hasM (xi xr : List Int) (s v : Int) : Bool := if v = 1 then decide (s ∈ xi) else decide (v = 0) && (decide (1 ≤ s) && decide (s ≤ 3)) && decide (s ∉ xr)
def sp_has (a : Ad) : Sp := fun vs H Q _ => ∃ (B : Hp) (x dx fl tl pp dd d1 d2 d3 : Addr) (g : V) (n : Nat) (fs ts : List V) (xi xt xr : List Int) (ls : List Lk) (s v : Int), vs = [.ref x, .int s, .int v] ∧ Hs B (rolL a x dx fl tl g pp dd d1 d2 d3 n fs ts xi xt xr) H ∧ GrAt B g 3 ls ∧ Q (.bl (hasM xi xr s v)) H
theorem ok_Rollout_has (T : Txt w K mg a) : FnOk P w K mg base CX0 2 a.Rollout_has a.fd_Rollout_has ["self", "switch", "version"] (sp_has a) := by
  have G_Rollout_is_switch := ok_Rollout_is_switch (P := P) (w := w) (base := base) T
  refine T.fn_Rollout_has.ok sc_Rollout_has (fun vs H Q E h => ?_) (fun cdv A outer s H vs Q E hr h => ?_)
  · obtain ⟨_, _, _, _, _, _, _, _, _, _, _, _, _, _, _, _, _, _, _, _, rfl, _⟩ := h
    rfl
  · obtain ⟨B, x, dx, fl, tl, pp, dd, d1, d2, d3, g, n, fs, ts, xi, xt, xr, ls, s, v, rfl, hs, hg, k⟩ := h
    have hu := hu_of hr
    have c1 := T.cl_Rollout
    have n5 := T.na_Rollout__done
    refine ⟨_, (pss_cons (ps_if (pt_cmpR op_eq (pv 2) (pe_glob (v := .int 1) rfl (Exists.choose_spec T.mg_NEW) ⟨_, rfl⟩) (nomark _))
  (pss_one (ps_ret (pe_cmp (pc_din hu (pv 1) (pe_dget hu (pe_fldK (K := K) (pv 0)) pe_str (fun _ _ => rfl))) rfl)))
  pss_nil)
  (pss_one (ps_ret (pe_and (pe_cmpR op_eq (pv 2) (pe_glob (v := .int 0) rfl (Exists.choose_spec T.mg_OLD) ⟨_, rfl⟩) (nomark _)) (pe_and (pe_meth (pv 0) T.cl_Rollout T.me_Rollout_is_switch G_Rollout_is_switch (hr.mono (by first | decide | omega)) T.bi_Rollout_is_switch .nil pass0 (pa_cons (pv 1) pa_nil)) (pe_one (pe_cmp (pc_dnotin hu (pv 1) (pe_dget hu (pe_fldK (K := K) (pv 0)) pe_str (fun _ _ => rfl))) rfl))))))), ?_⟩
    walk_at "ss"
    refine ifd (fun h1 => ?_) (fun h1 => ?_)
    · have e : hasM xi xr s v = decide (s ∈ xi) := if_pos h1
      rw [e] at k
      walk_at "ss"
      refine w_dgetZ (i := 0) hs.g3 deeds_nodup rfl rfl ?_
      refine w_dinI (hs.get (i := 4) rfl) ?_
      rw [setO_val]
      exact k
    · have e : hasM xi xr s v = (decide (v = 0) && (decide (1 ≤ s) && decide (s ≤ 3)) && decide (s ∉ xr)) := if_neg h1
      rw [e] at k
      walk_at "ss"
      refine ifd (fun h0 => ?_) (fun h0 => ?_)
      · walk_at "ss"
        refine ⟨B, x, dx, fl, tl, pp, dd, d1, d2, d3, g, n, fs, ts, xi, xt, xr, ls, s, rfl, hs, hg, ?_⟩
        refine ⟨_, rfl, ?_⟩
        rw [decide_eq_true h0, Bool.true_and] at k
        cases hb : (decide (1 ≤ s) && decide (s ≤ 3)) with
        | true =>
          rw [hb, Bool.true_and] at k
          rw [if_pos rfl]
          walk_at "ss"
          refine w_dgetZ (i := 2) hs.g3 deeds_nodup rfl rfl ?_
          refine w_dniI (hs.get (i := 6) rfl) ?_
          rw [setO_val]
          rw [show (!decide (s ∈ xr)) = decide (s ∉ xr) from (decide_not ..).symm]
          exact k
        | false =>
          rw [hb, Bool.false_and] at k
          rw [if_neg (by decide)]
          exact k
      · walk_at "ss"
        rw [decide_eq_false h0, Bool.false_and, Bool.false_and] at k
        exact k
end
local macro_rules | `(tactic| walk_at "v") => `(tactic| first | exact v0 | exact v1 | exact v2 | exact v3 | exact v4 | exact v5 | exact v6 | exact v7 | exact v8)
local macro_rules | `(tactic| walk_at "vs") => `(tactic| first | exact st0 | exact st1 | exact st2 | exact st3 | exact st4 | exact st5 | exact st6 | exact st7 | exact st8)
local macro_rules | `(tactic| walk_at "s") => `(tactic| first
  | with_reducible refine w_dget ?_
  | ((with_reducible refine' w_dgetZ ?h ?nd ?hk ?hv ?_); (case h => walk_at "g"); (case nd => walk_at "nd"); (case hk => walk_at "k"); (case hv => walk_at "v"))
  | ((with_reducible refine' w_dputZ ?hs ?h ?nd ?hk ?hv ?hu ?hl ?_); (case hs => assumption); (case h => walk_at "p"); (case nd => walk_at "nd"); (case hk => walk_at "k"); (case hv => walk_at "v"); (case hu => walk_at "vs"); (case hl => decide); intro _ _)
  | with_reducible refine w_gsub ?_
  | with_reducible refine w_setD ?_
  | with_reducible refine w_disp ?_
  | ((with_reducible refine' w_newP ?hs ?_); (case hs => assumption); intro _ _ _)
  | with_reducible refine w_pcons ?_
  | with_reducible refine w_pnil ?_)

local macro_rules | `(tactic| walk_at "s") => `(tactic| first
  | with_reducible refine w_nget ?_
  | with_reducible refine w_nin ?_
  | with_reducible refine w_nnot ?_
  | with_reducible refine w_nput ?_
  | with_reducible refine w_ndel ?_
  | with_reducible refine w_npop ?_
  | ((with_reducible refine' w_nnew ?hs ?_); (case hs => assumption); intro _ _ _))

local macro_rules | `(tactic| walk_at "s") => `(tactic| first
  | with_reducible refine w_ninF ?_
  | with_reducible refine w_nsetd ?_
  | with_reducible refine w_ckw ?_)

section
variable {P : Program} [IsP P] {w : World} {K : PySem.W.Frag} {mg : Str → Option Value} {base : Heap} {a : Ad}
/-- a datum that flies: its number, its version, its place -/
abbrev Fly := Nat × Int × Plc
def FlAt (H : Hp) (u : V) (f : Fly) : Prop := ∃ (t : Addr) (pv : V), u = .ref t ∧ H t = some (.tup [.int (f.1 : Nat), .int f.2.1, pv]) ∧ KeyAt H pv (plK f.2.2)
theorem FlAt.mono {H H' : Hp} (e : ∀ p xs, H p = some (.tup xs) → H' p = some (.tup xs)) {u : V} {f : Fly} (h : FlAt H u f) : FlAt H' u f := by
  obtain ⟨t, pv, h1, h2, h3⟩ := h
  exact ⟨t, pv, h1, e _ _ h2, h3.mono e⟩
def mayM (xi xt xr : List Int) (fl : List Fly) (j : Nat) (s : Int) : Bool :=
  (decide (1 ≤ s) && decide (s ≤ 3)) && !decide (s ∈ ([xi, xt, xr].getD j [])) && (if j = 1 then decide ((xi.length : Int) = 3) else if j = 2 then decide ((xt.length : Int) = 3) && fl.all fun f => decide (f.2.1 ≠ 0) else true)
def sp_may (a : Ad) : Sp := fun vs H Q _ => ∃ (B : Hp) (x dx fl tl pp dd d1 d2 d3 : Addr) (g : V) (n : Nat) (fs ts : List V) (xi xt xr : List Int) (ls : List Lk) (F : List Fly) (j : Nat) (dk : Str) (s : Int), vs = [.ref x, .str dk, .int s] ∧ Hs B (rolL a x dx fl tl g pp dd d1 d2 d3 n fs ts xi xt xr) H ∧ GrAt B g 3 ls ∧ Row (FlAt B) fs F ∧ F.length ≤ 1000 ∧ deeds[j]? = some dk ∧
  ∀ H', Same H H' → Q (.bl (mayM xi xt xr F j s)) H'
theorem ok_Rollout_may (T : Txt w K mg a) : FnOk P w K mg base CX0 2 a.Rollout_may a.fd_Rollout_may ["self", "deed", "switch"] (sp_may a) := by
  have G_Rollout_is_switch := ok_Rollout_is_switch (P := P) (w := w) (base := base) T
  have G_Rollout_is_done_everywhere := ok_Rollout_everywhere (P := P) (w := w) (base := base) T
  refine T.fn_Rollout_may.ok sc_Rollout_may (fun vs H Q E h => ?_) (fun cdv A outer s H vs Q E hr h => ?_)
  · obtain ⟨_, _, _, _, _, _, _, _, _, _, _, _, _, _, _, _, _, _, _, _, _, _, rfl, _⟩ := h
    rfl
  · obtain ⟨B, x, dx, fl, tl, pp, dd, d1, d2, d3, g, n, fs, ts, xi, xt, xr, ls, F, j, dk, s, rfl, hs, hg, hF, hFz, hj, k⟩ := h
    have hu := hu_of hr
    have c1 := T.cl_Rollout
    have n1 := T.na_Rollout_flying
    have n5 := T.na_Rollout__done
    refine ⟨_, (pss_cons (ps_if (PW.pt (pw_or (pt_cmp (pc_dnotin hu (pv 1) (pe_fldK (K := K) (pv 0)))) (pw_or (pt_not (pt_val (pe_meth (pv 0) T.cl_Rollout T.me_Rollout_is_switch G_Rollout_is_switch (hr.mono (by first | decide | omega)) T.bi_Rollout_is_switch .nil pass0 (pa_cons (pv 2) pa_nil)))) (pw_or1 (pt_cmp (pc_din hu (pv 2) (pe_dget hu (pe_fldK (K := K) (pv 0)) (pv 1) (fun _ _ => rfl))))))))
  (pss_one (ps_ret pe_bl))
  pss_nil)
  (pss_cons (ps_if (pt_cmpR op_eq (pv 1) pe_str (nomark _))
  (pss_one (ps_ret (pe_meth (pv 0) T.cl_Rollout T.me_Rollout_is_done_everywhere G_Rollout_is_done_everywhere (hr.mono (by first | decide | omega)) T.bi_Rollout_is_done_everywhere .nil pass0 (pa_cons pe_str pa_nil))))
  pss_nil)
  (pss_cons (ps_if (pt_cmpR op_eq (pv 1) pe_str (nomark _))
  (pss_one (ps_ret (pe_and (pe_meth (pv 0) T.cl_Rollout T.me_Rollout_is_done_everywhere G_Rollout_is_done_everywhere (hr.mono (by first | decide | omega)) T.bi_Rollout_is_done_everywhere .nil pass0 (pa_cons pe_str pa_nil)) (pe_one (pe_cmpR (op_niK (K := K)) (pe_glob (v := .int 0) rfl (Exists.choose_spec T.mg_OLD) ⟨_, rfl⟩) (pe_lc (own := [("_", 3), ("version", 4), ("_", 3)]) (g := (gTup K 3 (gCons (gName 3) (gCons (gName 4) (gCons (gName 3) gNil))))) (tt := tYes) rfl sc_Rollout_may.nd (pi_listK (K := K) (pe_fldK (K := K) (pv 0))) (blkOk_by (own := [("_", 3), ("version", 4), ("_", 3)]) (N := N_Rollout_may) (sc := defScope s_Rollout_may) (by decide +kernel)) (fun _ _ _ _ _ => by exact (pg_tupK (K := K) rfl (pgs_cons (pg_name (i := 3) sc_Rollout_may.nd rfl (Or.inl rfl)) (pgs_cons (pg_name (i := 4) sc_Rollout_may.nd rfl (Or.inl rfl)) (pgs_cons (pg_name (i := 3) sc_Rollout_may.nd rfl (Or.inl rfl)) pgs_nil))))) (fun _ _ _ _ _ => pts_nil) (fun _ _ _ _ _ => by exact (pv 4))) (by rfl))))))
  pss_nil)
  (pss_one (ps_ret pe_bl))))), ?_⟩
    walk_at "ss"
    obtain ⟨dj, hdj, hl2⟩ : ∃ dj, ([V.ref d1, V.ref d2, V.ref d3] : List V)[j]? = some (.ref dj) ∧ H dj = some (setO ([xi, xt, xr].getD j [])) := by
      match j, hj with
      | 0, _ => exact ⟨d1, rfl, hs.get (i := 4) rfl⟩
      | 1, _ => exact ⟨d2, rfl, hs.get (i := 5) rfl⟩
      | 2, _ => exact ⟨d3, rfl, hs.get (i := 6) rfl⟩
    have hvz : valV (zipK deeds [V.ref d1, V.ref d2, V.ref d3]) (Sum.inr dk) = some (.ref dj) := val_zip deeds_nodup hj hdj
    refine ⟨dd, _, rfl, DGet.k (k := Sum.inr dk) hs.g3, ?_⟩
    rw [hvz]
    refine ⟨_, rfl, iteF ?_⟩
    walk_at "ss"
    refine ⟨B, x, dx, fl, tl, pp, dd, d1, d2, d3, g, n, fs, ts, xi, xt, xr, ls, s, rfl, hs, hg, ?_⟩
    refine ⟨_, rfl, ?_⟩
    cases hb : (decide (1 ≤ s) && decide (s ≤ 3)) with
    | false =>
      refine iteT ?_
      walk_at "ss"
      have := k H (Same.refl _)
      unfold mayM at this
      rw [hb, Bool.false_and, Bool.false_and] at this
      exact this
    | true =>
      refine iteF ?_
      walk_at "ss"
      refine w_dgetZ (i := j) hs.g3 deeds_nodup hj hdj ?_
      refine w_dinI hl2 ?_
      rw [setO_val]
      refine ⟨_, rfl, ?_⟩
      cases hc : decide (s ∈ ([xi, xt, xr].getD j [])) with
      | true =>
        rw [if_pos rfl]
        walk_at "ss"
        have := k H (Same.refl _)
        unfold mayM at this
        rw [hb, hc, Bool.not_true, Bool.true_and, Bool.false_and] at this
        exact this
      | false =>
        rw [if_neg (by decide)]
        have k' : ∀ H', Same H H' → Q (.bl (if j = 1 then decide ((xi.length : Int) = 3) else if j = 2 then decide ((xt.length : Int) = 3) && F.all fun f => decide (f.2.1 ≠ 0) else true)) H' := fun H' sm => by
          have := k H' sm
          unfold mayM at this
          rw [hb, hc, Bool.not_false, Bool.true_and, Bool.true_and] at this
          exact this
        clear k hc hdj hl2 hvz
        match j, hj, k' with
        | 0, hj, k' =>
          cases hj
          walk_at "ss"
          rw [if_neg (show ¬ decide (("install" : Str) = ("turn" : Str)) = true by decide +kernel)]
          walk_at "ss"
          rw [if_neg (show ¬ decide (("install" : Str) = ("remove" : Str)) = true by decide +kernel)]
          walk_at "ss"
          exact k' H (Same.refl _)
        | 1, hj, k' =>
          cases hj
          walk_at "ss"
          rw [if_pos (show decide (("turn" : Str) = ("turn" : Str)) = true from decide_eq_true rfl)]
          walk_at "ss"
          refine ⟨B, x, dx, fl, tl, pp, dd, d1, d2, d3, g, n, fs, ts, xi, xt, xr, ls, 0, _, xi, rfl, hs, hg, rfl, rfl, ?_⟩
          exact k' H (Same.refl _)
        | 2, hj, k' =>
          cases hj
          walk_at "ss"
          rw [if_neg (show ¬ decide (("remove" : Str) = ("turn" : Str)) = true by decide +kernel)]
          walk_at "ss"
          rw [if_pos (show decide (("remove" : Str) = ("remove" : Str)) = true from decide_eq_true rfl)]
          walk_at "ss"
          refine ⟨B, x, dx, fl, tl, pp, dd, d1, d2, d3, g, n, fs, ts, xi, xt, xr, ls, 1, _, xt, rfl, hs, hg, rfl, rfl, ?_⟩
          refine ⟨_, rfl, ?_⟩
          have hFl : fs.length = F.length := hF.1
          refine ifd (fun h3 => ?_) (fun h3 => ?_)
          · walk_at "ss"
            refine w_lcLR ?_
            walk_at "ss"
            refine w_listR (SqL.of hs.g1) fun D hD => ?_
            refine turns_list (Body := LcBody (gTup K 3 (gCons (gName 3) (gCons (gName 4) (gCons (gName 3) gNil)))) _ _ _ _ D) (xs := fs) (fun i H' => Hs H [(D, .lst (((F.take i).map fun f => f.2.1).map V.int))] H') ((Hs.start H).new hD) (fun i H' _ h => SqL.of (h.same _ _ hs.g1)) ?_ ?_
            · rintro i u H1 hi hs1
              have hil := (List.getElem?_eq_some_iff.mp hi).1
              obtain ⟨f, hf, t, pv, rfl, ht, hpv⟩ := hF.get hi
              have ht1 := hs1.same _ _ (hs.same _ _ ht)
              walk_at "ss"
              refine ⟨t, _, rfl, SqT.of ht1, rfl, ?_⟩
              walk_at "ss"
              refine ⟨rfl, ?_⟩
              walk_at "ss"
              refine ⟨_, hs1.g0, szl (by rw [List.length_map, List.length_map, List.length_take]; omega), ?_⟩
              rw [List.take_add_one, hf, List.map_append, List.map_append]
              exact hs1.p0 _
            · rintro H1 hs1
              rw [hFl, List.take_length] at hs1
              refine w_inIs (SqL.of hs1.g0) ?_
              have := k' H1 hs1.same
              rw [if_neg (by decide), if_pos rfl, decide_eq_true h3, Bool.true_and] at this
              have e : (!decide ((0 : Int) ∈ F.map fun f => f.2.1)) = F.all fun f => decide (f.2.1 ≠ 0) := by
                rw [Bool.eq_iff_iff, Bool.not_eq_true', decide_eq_false_iff_not, List.all_eq_true]
                constructor
                · exact fun h f hf => decide_eq_true fun z => h (List.mem_map.mpr ⟨f, hf, z⟩)
                · rintro h hm
                  obtain ⟨f, hf, z⟩ := List.mem_map.mp hm
                  exact of_decide_eq_true (h f hf) z
              rw [← e] at this
              exact this
          · have := k' H (Same.refl _)
            rw [if_neg (by decide), if_pos rfl, decide_eq_false h3, Bool.false_and] at this
            exact this
end
local macro_rules | `(tactic| walk_at "v") => `(tactic| first | exact v0 | exact v1 | exact v2 | exact v3 | exact v4 | exact v5 | exact v6 | exact v7 | exact v8)
local macro_rules | `(tactic| walk_at "vs") => `(tactic| first | exact st0 | exact st1 | exact st2 | exact st3 | exact st4 | exact st5 | exact st6 | exact st7 | exact st8)
local macro_rules | `(tactic| walk_at "s") => `(tactic| first
  | with_reducible refine w_dget ?_
  | ((with_reducible refine' w_dgetZ ?h ?nd ?hk ?hv ?_); (case h => walk_at "g"); (case nd => walk_at "nd"); (case hk => walk_at "k"); (case hv => walk_at "v"))
  | ((with_reducible refine' w_dputZ ?hs ?h ?nd ?hk ?hv ?hu ?hl ?_); (case hs => assumption); (case h => walk_at "p"); (case nd => walk_at "nd"); (case hk => walk_at "k"); (case hv => walk_at "v"); (case hu => walk_at "vs"); (case hl => decide); intro _ _)
  | with_reducible refine w_gsub ?_
  | with_reducible refine w_setD ?_
  | with_reducible refine w_disp ?_
  | ((with_reducible refine' w_newP ?hs ?_); (case hs => assumption); intro _ _ _)
  | with_reducible refine w_pcons ?_
  | with_reducible refine w_pnil ?_)

local macro_rules | `(tactic| walk_at "s") => `(tactic| first
  | with_reducible refine w_nget ?_
  | with_reducible refine w_nin ?_
  | with_reducible refine w_nnot ?_
  | with_reducible refine w_nput ?_
  | with_reducible refine w_ndel ?_
  | with_reducible refine w_npop ?_
  | ((with_reducible refine' w_nnew ?hs ?_); (case hs => assumption); intro _ _ _))

local macro_rules | `(tactic| walk_at "s") => `(tactic| first
  | with_reducible refine w_ninF ?_
  | with_reducible refine w_nsetd ?_
  | with_reducible refine w_ckw ?_)

section
variable {P : Program} [IsP P] {w : World} {K : PySem.W.Frag} {mg : Str → Option Value} {base : Heap} {a : Ad}
def verM (xt : List Int) (s : Int) : Int := if s ∈ xt then 1 else 0
def sp_enter (a : Ad) : Sp := fun vs H Q _ => ∃ (B : Hp) (x dx fl tl pp dd d1 d2 d3 ta : Addr) (g : V) (n : Nat) (fs ts : List V) (xi xt xr : List Int) (pl : Plc), vs = [.ref x, .int pl.1, .int pl.2.1, .ref ta] ∧ Hs B (rolL a x dx fl tl g pp dd d1 d2 d3 n fs ts xi xt xr) H ∧ fs.length ≤ 1000 ∧ B ta = some (.tup (pl.2.2.map V.int)) ∧
  ∀ u B2 H', Same B B2 → Hs B2 (rolL a x dx fl tl g pp dd d1 d2 d3 (n + 1) (fs ++ [u]) ts xi xt xr) H' → FlAt B2 u (n, verM xt pl.1, pl) → Q (.int (n : Nat)) H'
theorem ok_Rollout_enter (T : Txt w K mg a) : FnOk P w K mg base CX0 1 a.Rollout_enter a.fd_Rollout_enter ["self", "switch", "port", "header"] (sp_enter a) := by
  refine T.fn_Rollout_enter.ok sc_Rollout_enter (fun vs H Q E h => ?_) (fun cdv A outer s H vs Q E hr h => ?_)
  · obtain ⟨_, _, _, _, _, _, _, _, _, _, _, _, _, _, _, _, _, _, _, rfl, _⟩ := h
    rfl
  · obtain ⟨B, x, dx, fl, tl, pp, dd, d1, d2, d3, ta, g, n, fs, ts, xi, xt, xr, pl, rfl, hs, hz, hta, k⟩ := h
    have hu := hu_of hr
    have c1 := T.cl_Rollout
    have n1 := T.na_Rollout_flying
    have n5 := T.na_Rollout__done
    have n6 := T.na_Rollout__data
    refine ⟨_, (pss_cons (ps_set (i := 4) sc_Rollout_enter.nd rfl (Or.inl rfl) (pe_fldK (K := K) (pv 0)))
  (pss_cons (ps_fldaugK (K := K) (pv 0) pe_int in_add)
  (pss_cons (ps_set (i := 5) sc_Rollout_enter.nd rfl (Or.inl rfl) (pe_ifExp (pt_cmp (pc_din hu (pv 1) (pe_dget hu (pe_fldK (K := K) (pv 0)) pe_str (fun _ _ => rfl)))) (pe_glob (v := .int 1) rfl (Exists.choose_spec T.mg_NEW) ⟨_, rfl⟩) (pe_glob (v := .int 0) rfl (Exists.choose_spec T.mg_OLD) ⟨_, rfl⟩)))
  (pss_cons (ps_expr (pe_bmK (K := K) PySem.F.plainAttrs_list PySem.F.slot_list_append PySem.F.type_list_append mt_append (pe_fldK (K := K) (pv 0)) (pa_cons (pe_tup (pa_cons (pv 4) (pa_cons (pv 5) (pa_cons (pe_tup (pa_cons (pv 1) (pa_cons (pv 2) (pa_cons (pv 3) pa_nil)))) pa_nil)))) pa_nil)))
  (pss_one (ps_ret (pv 4))))))), ?_⟩
    walk_at "ss"
    rename_i H1 hs1
    refine w_dgetZ (i := 1) hs1.g3 deeds_nodup rfl rfl ?_
    refine w_dinI (hs1.get (i := 5) rfl) ?_
    rw [setO_val]
    refine ⟨_, rfl, ?_⟩
    by_cases hx : pl.1 ∈ xt
    · rw [decide_eq_true hx, if_pos rfl]
      walk_at "ss"
      rename_i H4 hs4
      obtain ⟨B1, s1, g1, hs5⟩ := frz_hs hs4
      obtain ⟨B2, s2, g2, hs6⟩ := frz_hs hs5
      exact k _ B2 H4 (s1.trans s2) hs6 ⟨_, _, rfl, by rw [show verM xt pl.1 = 1 from if_pos hx]; exact s2 _ _ g1, _, rfl, _, g2, .cons rfl (.cons rfl (.cons ⟨ta, rfl, s2 _ _ (s1 _ _ hta)⟩ .nil))⟩
    · rw [decide_eq_false hx, if_neg (by decide)]
      walk_at "ss"
      rename_i H4 hs4
      obtain ⟨B1, s1, g1, hs5⟩ := frz_hs hs4
      obtain ⟨B2, s2, g2, hs6⟩ := frz_hs hs5
      exact k _ B2 H4 (s1.trans s2) hs6 ⟨_, _, rfl, by rw [show verM xt pl.1 = 0 from if_neg hx]; exact s2 _ _ g1, _, rfl, _, g2, .cons rfl (.cons rfl (.cons ⟨ta, rfl, s2 _ _ (s1 _ _ hta)⟩ .nil))⟩
end
local macro_rules | `(tactic| walk_at "v") => `(tactic| first | exact v0 | exact v1 | exact v2 | exact v3 | exact v4 | exact v5 | exact v6 | exact v7 | exact v8)
local macro_rules | `(tactic| walk_at "vs") => `(tactic| first | exact st0 | exact st1 | exact st2 | exact st3 | exact st4 | exact st5 | exact st6 | exact st7 | exact st8)
local macro_rules | `(tactic| walk_at "s") => `(tactic| first
  | with_reducible refine w_dget ?_
  | ((with_reducible refine' w_dgetZ ?h ?nd ?hk ?hv ?_); (case h => walk_at "g"); (case nd => walk_at "nd"); (case hk => walk_at "k"); (case hv => walk_at "v"))
  | ((with_reducible refine' w_dputZ ?hs ?h ?nd ?hk ?hv ?hu ?hl ?_); (case hs => assumption); (case h => walk_at "p"); (case nd => walk_at "nd"); (case hk => walk_at "k"); (case hv => walk_at "v"); (case hu => walk_at "vs"); (case hl => decide); intro _ _)
  | with_reducible refine w_gsub ?_
  | with_reducible refine w_setD ?_
  | with_reducible refine w_disp ?_
  | ((with_reducible refine' w_newP ?hs ?_); (case hs => assumption); intro _ _ _)
  | with_reducible refine w_pcons ?_
  | with_reducible refine w_pnil ?_)

local macro_rules | `(tactic| walk_at "s") => `(tactic| first
  | with_reducible refine w_nget ?_
  | with_reducible refine w_nin ?_
  | with_reducible refine w_nnot ?_
  | with_reducible refine w_nput ?_
  | with_reducible refine w_ndel ?_
  | with_reducible refine w_npop ?_
  | ((with_reducible refine' w_nnew ?hs ?_); (case hs => assumption); intro _ _ _))

local macro_rules | `(tactic| walk_at "s") => `(tactic| first
  | with_reducible refine w_ninF ?_
  | with_reducible refine w_nsetd ?_
  | with_reducible refine w_ckw ?_)

section
variable {P : Program} [IsP P] {w : World} {K : PySem.W.Frag} {mg : Str → Option Value} {base : Heap} {a : Ad}
/-! ## perform, move -/
def addM (j k : Nat) (s : Int) (xs : List Int) : List Int := if j = k then xs ++ [s] else xs
theorem setO_put {xs : List Int} {s : Int} (h : s ∉ xs) : HO.dK (putK (xs.map fun s => ((Sum.inl s : Key), V.bl true)) (Sum.inl s) (.bl true)) = setO (xs ++ [s]) := by
  rw [putK_new _ (by
    rw [← Option.not_isSome_iff_eq_none, setO_val, decide_eq_false h]
    decide)]
  unfold setO
  rw [List.map_append]
  rfl
theorem may_in {xi xt xr : List Int} {F : List Fly} {j : Nat} {s : Int} (h : mayM xi xt xr F j s = true) : 1 ≤ s ∧ s ≤ 3 ∧ s ∉ [xi, xt, xr].getD j [] := by
  unfold mayM at h
  simp only [Bool.and_eq_true, decide_eq_true_eq, Bool.not_eq_true', decide_eq_false_iff_not] at h
  exact ⟨h.1.1.1, h.1.1.2, h.1.2⟩
def sp_perform (a : Ad) : Sp := fun vs H Q E => ∃ (B : Hp) (x dx fl tl pp dd d1 d2 d3 : Addr) (g : V) (n : Nat) (fs ts : List V) (xi xt xr : List Int) (ls : List Lk) (F : List Fly) (j : Nat) (dk : Str) (s : Int), vs = [.ref x, .str dk, .int s] ∧ Hs B (rolL a x dx fl tl g pp dd d1 d2 d3 n fs ts xi xt xr) H ∧ GrAt B g 3 ls ∧ Row (FlAt B) fs F ∧ F.length ≤ 1000 ∧ deeds[j]? = some dk ∧ 0 ≤ s ∧ s < 10 ^ 10 ∧ xi.length ≤ 100 ∧ xt.length ≤ 100 ∧ xr.length ≤ 100 ∧
  (mayM xi xt xr F j s = false → ∀ d p B2 H', Same B B2 → B2 p = some (.tup [.str dk, .int s]) → Hs B2 ((d, .xd [("state", .ref p)]) :: rolL a x dx fl tl g pp dd d1 d2 d3 n fs ts xi xt xr) H' → E (.ref a.StateError) (some d) H') ∧
  (mayM xi xt xr F j s = true → ∀ H', Hs B (rolL a x dx fl tl g pp dd d1 d2 d3 n fs ts (addM j 0 s xi) (addM j 1 s xt) (addM j 2 s xr)) H' → Q .non H')
theorem ok_Rollout_perform (T : Txt w K mg a) : FnOk P w K mg base (CX P w) 5 a.Rollout_perform a.fd_Rollout_perform ["self", "deed", "switch"] (sp_perform a) := by
  have G_Rollout_may := ok_Rollout_may (P := P) (w := w) (base := base) T
  have G_StateError_init := ok_StateError_init (P := P) (w := w) (base := base) T
  refine T.fn_Rollout_perform.okX sc_Rollout_perform (fun vs H Q E h => ?_) (fun cdv A outer s H vs Q E hr h => ?_)
  · obtain ⟨_, _, _, _, _, _, _, _, _, _, _, _, _, _, _, _, _, _, _, _, _, _, rfl, _⟩ := h
    rfl
  · obtain ⟨B, x, dx, fl, tl, pp, dd, d1, d2, d3, g, n, fs, ts, xi, xt, xr, ls, F, j, dk, s, rfl, hs, hg, hF, hFz, hj, hs0, hs1, zi, zt, zr, k1, k2⟩ := h
    have hu := hu_of hr
    have c1 := T.cl_Rollout
    have n5 := T.na_Rollout__done
    refine ⟨_, (pss_cons (ps_if (pt_not (pt_val (pe_meth (pv 0) T.cl_Rollout T.me_Rollout_may G_Rollout_may (hr.mono (by first | decide | omega)) T.bi_Rollout_may .nil pass0 (pa_cons (pv 1) (pa_cons (pv 2) pa_nil)))))
  (pss_one (ps_raiseQ rfl (takes_of rfl rfl rfl rfl) (pmk_oex T.ox_StateError T.iC_StateError T.tI_StateError G_StateError_init (hr.mono (by first | decide | omega)) T.bi_StateError_init .nil pass0 rfl T.mg_StateError (pa_cons (pe_tup (pa_cons (pv 1) (pa_cons (pv 2) pa_nil))) pa_nil))))
  pss_nil)
  (pss_one (ps_dput hu (pe_dget hu (pe_fldK (K := K) (pv 0)) (pv 1) (fun _ _ => rfl)) (pv 2) pe_bl rfl))), ?_⟩
    walk_at "ss"
    refine ⟨B, x, dx, fl, tl, pp, dd, d1, d2, d3, g, n, fs, ts, xi, xt, xr, ls, F, j, dk, s, rfl, hs, hg, hF, hFz, hj, fun H2 sm2 => ?_⟩
    have hs2 := hs.keep sm2
    refine ⟨_, rfl, ?_⟩
    cases hm : mayM xi xt xr F j s with
    | false =>
      refine iteT ?_
      walk_at "ss"
      rename_i p H3 hs3
      obtain ⟨B3, sB, hp, hs4⟩ := frz_hs hs3
      walk_at "ss"
      have hv : StVal B3 (.ref p) := .inr ⟨p, dk, s, rfl, hp, List.mem_of_getElem? hj, hs0, hs1⟩
      refine w_mkXG hs4 (fun _ sm h => h.same sm) hv fun d H5 hs5 => ?_
      exact k1 hm d p B3 H5 sB hp hs5
    | true =>
      refine iteF ?_
      obtain ⟨h1, h3, hn⟩ := may_in hm
      replace k2 := k2 hm
      clear hs
      walk_at "ss"
      match j, hj, hn, k2 with
      | 0, hj, hn, k2 =>
        cases hj
        refine w_dgetZ (i := 0) hs2.g3 deeds_nodup rfl rfl ?_
        walk_at "ss"
        rename_i H3 hs3
        rw [setO_put (show s ∉ xi from hn)] at hs3
        exact k2 H3 hs3
      | 1, hj, hn, k2 =>
        cases hj
        refine w_dgetZ (i := 1) hs2.g3 deeds_nodup rfl rfl ?_
        walk_at "ss"
        rename_i H3 hs3
        rw [setO_put (show s ∉ xt from hn)] at hs3
        exact k2 H3 hs3
      | 2, hj, hn, k2 =>
        cases hj
        refine w_dgetZ (i := 2) hs2.g3 deeds_nodup rfl rfl ?_
        walk_at "ss"
        rename_i H3 hs3
        rw [setO_put (show s ∉ xr from hn)] at hs3
        exact k2 H3 hs3
/-- a datum that is told -/
abbrev Tld := Nat × Int × Stp
def StpIt (H : Hp) (vs : List V) : Stp → Prop
  | .out sw h => ∃ t : Addr, vs = [.str "out", .int sw, .ref t] ∧ H t = some (.tup (h.map V.int))
  | .lost e h => ∃ q t : Addr, vs = [.str "lost", .ref q, .ref t] ∧ H q = some (endO e) ∧ H t = some (.tup (h.map V.int))
  | .inn e => ∃ q : Addr, vs = [.str "in", .ref q] ∧ KeyAt H (.ref q) (plK e)
theorem StpIt.mono {H H' : Hp} (e : ∀ p xs, H p = some (.tup xs) → H' p = some (.tup xs)) {vs : List V} : ∀ {x : Stp}, StpIt H vs x → StpIt H' vs x
  | .out _ _, ⟨t, h1, h2⟩ => ⟨t, h1, e _ _ h2⟩
  | .lost _ _, ⟨q, t, h1, h2, h3⟩ => ⟨q, t, h1, e _ _ h2, e _ _ h3⟩
  | .inn _, ⟨q, h1, h2⟩ => ⟨q, h1, h2.mono e⟩
theorem StpAt.it {H : Hp} {v : V} : ∀ {x : Stp}, StpAt H v x → ∃ p vs, v = .ref p ∧ H p = some (.tup vs) ∧ StpIt H vs x
  | .out _ _, ⟨p, t, h1, h2, h3⟩ => ⟨p, _, h1, h2, t, rfl, h3⟩
  | .lost _ _, ⟨p, q, t, h1, h2, h3, h4⟩ => ⟨p, _, h1, h2, q, t, rfl, h3, h4⟩
  | .inn _, ⟨p, q, h1, h2, h3⟩ => ⟨p, _, h1, h2, q, rfl, h3⟩
theorem StpIt.at_ {H : Hp} {p : Addr} {vs : List V} (hp : H p = some (.tup vs)) : ∀ {x : Stp}, StpIt H vs x → StpAt H (.ref p) x
  | .out _ _, ⟨t, h1, h2⟩ => ⟨p, t, rfl, h1 ▸ hp, h2⟩
  | .lost _ _, ⟨q, t, h1, h2, h3⟩ => ⟨p, q, t, rfl, h1 ▸ hp, h2, h3⟩
  | .inn _, ⟨q, h1, h2⟩ => ⟨p, q, rfl, h1 ▸ hp, h2⟩
def TlAt (H : Hp) (u : V) (x : Tld) : Prop := ∃ (p : Addr) (vs : List V), u = .ref p ∧ H p = some (.tup (.int (x.1 : Nat) :: .int x.2.1 :: vs)) ∧ StpIt H vs x.2.2
theorem TlAt.mono {H H' : Hp} (e : ∀ p xs, H p = some (.tup xs) → H' p = some (.tup xs)) {u : V} {x : Tld} (h : TlAt H u x) : TlAt H' u x := by
  obtain ⟨p, vs, h1, h2, h3⟩ := h
  exact ⟨p, vs, h1, e _ _ h2, h3.mono e⟩
def innOf : Stp → Option Plc
  | .inn p => some p
  | _ => none
def outOf : Stp → Option Stp
  | .inn _ => none
  | s => some s
def insF (n : Nat) (v : Int) (xs : List Stp) : List Fly := (xs.filterMap innOf).map fun p => (n, v, p)
def outsF (n : Nat) (v : Int) (xs : List Stp) : List Tld := (xs.filterMap outOf).map fun s => (n, v, s)
theorem insF_len (n : Nat) (v : Int) (xs : List Stp) : (insF n v xs).length ≤ xs.length := by
  unfold insF
  rw [List.length_map]
  exact List.length_filterMap_le _ _
theorem outsF_len (n : Nat) (v : Int) (xs : List Stp) : (outsF n v xs).length ≤ xs.length := by
  unfold outsF
  rw [List.length_map]
  exact List.length_filterMap_le _ _
theorem take_snoc {α : Type} {xs : List α} {i : Nat} {x : α} (h : xs[i]? = some x) : xs.take (i + 1) = xs.take i ++ [x] := by
  rw [List.take_add_one, h]
  rfl
theorem insF_in {n : Nat} {v : Int} {xs : List Stp} {i : Nat} {p : Plc} (h : xs[i]? = some (.inn p)) : insF n v (xs.take (i + 1)) = insF n v (xs.take i) ++ [(n, v, p)] ∧ outsF n v (xs.take (i + 1)) = outsF n v (xs.take i) := by
  rw [take_snoc h]
  unfold insF outsF
  rw [List.filterMap_append, List.filterMap_append, List.map_append, List.map_append]
  exact ⟨rfl, List.append_nil _⟩
theorem insF_out {n : Nat} {v : Int} {xs : List Stp} {i : Nat} {s : Stp} (h : xs[i]? = some s) (hn : innOf s = none) : insF n v (xs.take (i + 1)) = insF n v (xs.take i) ∧ outsF n v (xs.take (i + 1)) = outsF n v (xs.take i) ++ [(n, v, s)] := by
  rw [take_snoc h]
  unfold insF outsF
  rw [List.filterMap_append, List.filterMap_append, List.map_append, List.map_append]
  cases s with
  | inn p => cases hn
  | out sw c => exact ⟨List.append_nil _, rfl⟩
  | lost e c => exact ⟨List.append_nil _, rfl⟩
theorem Row.erase {α : Type} {R : V → α → Prop} {us : List V} {xs : List α} (r : Row R us xs) (i : Nat) : Row R (us.eraseIdx i) (xs.eraseIdx i) := by
  rw [List.eraseIdx_eq_take_drop_succ, List.eraseIdx_eq_take_drop_succ]
  exact (r.take i).app (r.drop (i + 1))
def stepsOf (p0 p1 : List Part) (ls : List Lk) (f : Fly) : List Stp := stepsM (if f.2.1 = 0 then p0 else p1) ls f.2.2
def moveF (p0 p1 : List Part) (ls : List Lk) (F : List Fly) (i : Nat) (f : Fly) : List Fly := F.eraseIdx i ++ insF f.1 f.2.1 (stepsOf p0 p1 ls f)
def moveT (p0 p1 : List Part) (ls : List Lk) (T : List Tld) (f : Fly) : List Tld := T ++ outsF f.1 f.2.1 (stepsOf p0 p1 ls f)
theorem steps_few (ps : List Part) (ls : List Lk) (p : Plc) : (stepsM ps ls p).length ≤ ps.length := by
  unfold stepsM
  rw [List.length_map]
  exact does_few _ _ _ _
def sp_move (a : Ad) : Sp := fun vs H Q E => ∃ (B : Hp) (x dx fl tl pp dd d1 d2 d3 : Addr) (g v0 v1 : V) (n : Nat) (fs ts : List V) (xi xt xr : List Int) (ls : List Lk) (p0 p1 : List Part) (F : List Fly) (Td : List Tld) (i : Nat), vs = [.ref x, .int (i : Nat)] ∧ Hs B (rolL a x dx fl tl g pp dd d1 d2 d3 n fs ts xi xt xr) H ∧ GrAt B g 3 ls ∧ B pp = some (.tup [v0, v1]) ∧ PolAt B v0 p0 ∧ PolAt B v1 p1 ∧ p0.length ≤ 6 ∧ p1.length ≤ 6 ∧ Row (FlAt B) fs F ∧ Row (TlAt B) ts Td ∧ F.length ≤ 900 ∧ Td.length ≤ 900 ∧
  ((F.length ≤ i ∧ i < 10 ^ 10 ∧ ∀ d H', Hs B ((d, .xd [("state", .int (i : Nat))]) :: rolL a x dx fl tl g pp dd d1 d2 d3 n fs ts xi xt xr) H' → E (.ref a.StateError) (some d) H') ∨
  ∃ f, F[i]? = some f ∧ (f.2.1 = 0 ∨ f.2.1 = 1) ∧ f.2.2.2.2.length = 3 ∧ hasM xi xr f.2.2.1 f.2.1 = true ∧ ∀ B2 fs2 ts2 H', Same B B2 → Hs B2 (rolL a x dx fl tl g pp dd d1 d2 d3 n fs2 ts2 xi xt xr) H' → Row (FlAt B2) fs2 (moveF p0 p1 ls F i f) → Row (TlAt B2) ts2 (moveT p0 p1 ls Td f) → Q .non H')
theorem ok_Rollout_move (T : Txt w K mg a) : FnOk P w K mg base (CX P w) 11 a.Rollout_move a.fd_Rollout_move ["self", "index"] (sp_move a) := by
  have G_Rollout_has := ok_Rollout_has (P := P) (w := w) (base := base) T
  have G_steps := ok_steps (P := P) (w := w) (base := base) T
  have G_StateError_init := ok_StateError_init (P := P) (w := w) (base := base) T
  refine T.fn_Rollout_move.okX sc_Rollout_move (fun vs H Q E h => ?_) (fun cdv A outer s H vs Q E hr h => ?_)
  · obtain ⟨_, _, _, _, _, _, _, _, _, _, _, _, _, _, _, _, _, _, _, _, _, _, _, _, _, rfl, _⟩ := h
    rfl
  · obtain ⟨B, x, dx, fl, tl, pp, dd, d1, d2, d3, g, v0, v1, n, fs, ts, xi, xt, xr, ls, p0, p1, F, Td, i, rfl, hs, hg, hpp, hp0, hp1, z0, z1, hF, hT, zF, zT, k⟩ := h
    have hu := hu_of hr
    have c1 := T.cl_Rollout
    have n1 := T.na_Rollout_flying
    have n2 := T.na_Rollout_told
    have n3 := T.na_Rollout__graph
    have n4 := T.na_Rollout__policies
    have hFl : fs.length = F.length := hF.1
    have hTl : ts.length = Td.length := hT.1
    refine ⟨_, (pss_cons (ps_if (pt_not (pt_chain op_le op_lt pe_int (pv 1) (pe_callB (call_lenK (K := K)) (by rfl) T.mg_len PySem.boot_len (pa_cons (pe_fldK (K := K) (pv 0)) pa_nil))))
  (pss_one (ps_raiseQ rfl (takes_of rfl rfl rfl rfl) (pmk_oex T.ox_StateError T.iC_StateError T.tI_StateError G_StateError_init (hr.mono (by first | decide | omega)) T.bi_StateError_init .nil pass0 rfl T.mg_StateError (pa_cons (pv 1) pa_nil))))
  pss_nil)
  (pss_cons (ps_asg (pe_bmK (K := K) PySem.F.plainAttrs_list PySem.F.slot_list_pop PySem.F.type_list_pop mt_popAt (pe_fldK (K := K) (pv 0)) (pa_cons (pv 1) pa_nil)) (pg_tupK (K := K) rfl (pgs_cons (pg_name (i := 2) sc_Rollout_move.nd rfl (Or.inl rfl)) (pgs_cons (pg_name (i := 3) sc_Rollout_move.nd rfl (Or.inl rfl)) (pgs_cons (pg_name (i := 4) sc_Rollout_move.nd rfl (Or.inl rfl)) pgs_nil)))))
  (pss_cons (ps_set (i := 5) sc_Rollout_move.nd rfl (Or.inl rfl) (pe_ifExp (pt_val (pe_meth (pv 0) T.cl_Rollout T.me_Rollout_has G_Rollout_has (hr.mono (by first | decide | omega)) T.bi_Rollout_has .nil pass0 (pa_cons (pe_ix (ix_tupK (K := K)) (pv 4) pe_int (fun _ _ => rfl)) (pa_cons (pv 3) pa_nil)))) (pe_call G_steps (hr.mono (by first | decide | omega)) rfl T.mg_steps T.kp_steps T.bi_steps .nil pass0 (pa_cons (pe_ix (ix_tupK (K := K)) (pe_fldK (K := K) (pv 0)) (pv 3) (fun _ _ => rfl)) (pa_cons (pe_fldK (K := K) (pv 0)) (pa_cons (pv 4) pa_nil)))) (pe_lst pa_nil)))
  (pss_one (ps_for (passes_of rfl) rfl (pi_listK (K := K) (pv 5)) (pg_name (i := 6) sc_Rollout_move.nd rfl (Or.inl rfl))
  (pss_one (ps_if (pt_cmpR op_eq (pe_ix (ix_tupK (K := K)) (pv 6) pe_int (fun _ _ => rfl)) pe_str (nomark _))
  (pss_one (ps_expr (pe_bmK (K := K) PySem.F.plainAttrs_list PySem.F.slot_list_append PySem.F.type_list_append mt_append (pe_fldK (K := K) (pv 0)) (pa_cons (pe_tup (pa_cons (pv 2) (pa_cons (pv 3) (pa_cons (pe_ix (ix_tupK (K := K)) (pv 6) pe_int (fun _ _ => rfl)) pa_nil)))) pa_nil))))
  (pss_one (ps_expr (pe_bmK (K := K) PySem.F.plainAttrs_list PySem.F.slot_list_append PySem.F.type_list_append mt_append (pe_fldK (K := K) (pv 0)) (pa_cons (pe_tup (pa_cons (pv 2) (pa_cons (pv 3) (pa_starK (K := K) (pv 6) pa_nil)))) pa_nil))))))))))), ?_⟩
    walk_at "ss"
    refine ifd (fun _ => ?_) (fun z => absurd (show (0 : Int) ≤ (i : Nat) by omega) z)
    walk_at "ss"
    rcases k with ⟨hi, hi2, k⟩ | ⟨f, hf, hv, hl3, hh, k⟩
    · refine ifn (fun _ => ?_) (fun z => absurd z (by omega))
      walk_at "ss"
      refine w_mkXG hs (fun _ sm h => StVal.same sm h) (Or.inl ⟨_, rfl, by omega, by omega⟩) fun d H5 hs5 => ?_
      exact k d H5 hs5
    · have hil := (List.getElem?_eq_some_iff.mp hf).1
      refine ifn (fun z => absurd (show ((i : Nat) : Int) < (fs.length : Nat) by omega) z) (fun _ => ?_)
      walk_at "ss"
      obtain ⟨u, hu1⟩ : ∃ u, fs[i]? = some u := ⟨fs[i]'(by omega), List.getElem?_eq_getElem _⟩
      obtain ⟨t, pv, rfl, ht, hpv⟩ := hF.2 i u f hu1 hf
      refine w_popAt (k := i) hs (by walk_at "p") rfl hu1 (by walk_at "z") fun H2 hs2 => ?_
      clear hs
      have ht2 := hs2.same _ _ ht
      obtain ⟨pa, ta, rfl, hpa, hta⟩ := key3 hpv
      have hpa2 := hs2.same _ _ hpa
      have hpp2 := hs2.same _ _ hpp
      walk_at "ss"
      refine ⟨B, x, dx, fl, tl, pp, dd, d1, d2, d3, g, n, _, ts, xi, xt, xr, ls, f.2.2.1, f.2.1, rfl, hs2, hg, ?_⟩
      refine ⟨_, rfl, ?_⟩
      rw [hh]
      refine iteT ?_
      obtain ⟨vp, ps, hat, hvp, hps, zp⟩ : ∃ (vp : V) (ps : List Part), atI [v0, v1] f.2.1 = some vp ∧ PolAt B vp ps ∧ (if f.2.1 = 0 then p0 else p1) = ps ∧ ps.length ≤ 6 := by
        rcases hv with e | e
        · rw [e]
          exact ⟨v0, p0, at0, hp0, rfl, z0⟩
        · rw [e]
          exact ⟨v1, p1, at1, hp1, rfl, z1⟩
      have hso : stepsOf p0 p1 ls f = stepsM ps ls f.2.2 := by
        unfold stepsOf
        rw [hps]
      walk_at "ss"
      refine ⟨vp, g, .ref pa, ps, 3, ls, f.2.2, rfl, hvp.same hs2.same, hg.same hs2.same, hpv.mono hs2.tups, hl3, fun l us H3 sm3 hn3 hl hr3 => ?_⟩
      obtain ⟨B1, sB1, hlB1, hs3⟩ := frz_hs (Hs_own hs2 sm3 hn3 hl)
      obtain ⟨B2, sB2, hs4, tp4⟩ := hs3.allinT rfl
      have sB : Same B B2 := sB1.trans sB2
      have hlB := sB2 _ _ hlB1
      have hr4 := hr3.mono fun u x => StpAt.mono tp4
      have hz : us.length ≤ 6 := by
        have := steps_few ps ls f.2.2
        have := hr3.1
        omega
      rw [← hso] at hr3 hr4
      clear hs2 hs3 hr3
      walk_at "ss"
      dsimp only
      refine w_forL (SqL.of (hs4.same _ _ hlB)) (fun j σ H' => ∃ (B3 : Hp) (fs3 ts3 : List V) (v6 : Option V), σ = [some (.ref x), some (.int (i : Nat)), some (.int (f.1 : Nat)), some (.int f.2.1), some (.ref pa), some (.ref l), v6] ∧ Same B2 B3 ∧ Hs B3 (rolL a x dx fl tl g pp dd d1 d2 d3 n fs3 ts3 xi xt xr) H' ∧ Row (FlAt B3) fs3 (F.eraseIdx i ++ insF f.1 f.2.1 ((stepsOf p0 p1 ls f).take j)) ∧ Row (TlAt B3) ts3 (Td ++ outsF f.1 f.2.1 ((stepsOf p0 p1 ls f).take j))) (fun Q q => ⟨_, rfl, q⟩) ⟨B2, _, _, none, rfl, Same.refl _, hs4, ?_, ?_⟩ (fun j σ H' _ ⟨B3, _, _, _, _, sm, h, _⟩ => SqL.of (h.same _ _ (sm _ _ hlB))) ?_ ?_
      · have := (Row.erase hF i).mono fun u x => FlAt.mono (H' := B2) fun _ _ e => sB _ _ e
        rw [show insF f.1 f.2.1 ((stepsOf p0 p1 ls f).take 0) = [] from rfl, List.append_nil]
        exact this
      · have := hT.mono fun u x => TlAt.mono (H' := B2) fun _ _ e => sB _ _ e
        rw [show outsF f.1 f.2.1 ((stepsOf p0 p1 ls f).take 0) = [] from rfl, List.append_nil]
        exact this
      · rintro j u σ H' hj ⟨B3, fs3, ts3, v6, rfl, smB, hs5, hF3, hT3⟩
        obtain ⟨st, hst, hus⟩ := hr4.get hj
        have hjl := (List.getElem?_eq_some_iff.mp hj).1
        replace hus := hus.mono (H' := B3) fun _ _ e => smB _ _ e
        have lF : fs3.length ≤ 1000 := by
          have h1 := hF3.1
          have h2 := insF_len f.1 f.2.1 ((stepsOf p0 p1 ls f).take j)
          rw [List.length_append, List.length_eraseIdx_of_lt (by omega)] at h1
          rw [List.length_take] at h2
          omega
        have lT : ts3.length ≤ 1000 := by
          have h1 := hT3.1
          have h2 := outsF_len f.1 f.2.1 ((stepsOf p0 p1 ls f).take j)
          rw [List.length_append] at h1
          rw [List.length_take] at h2
          omega
        cases st with
        | inn p =>
          obtain ⟨q, r, rfl, hq, hr⟩ := hus
          obtain ⟨e1, e2⟩ := insF_in (n := f.1) (v := f.2.1) hst
          have hq5 := hs5.same _ _ hq
          walk_at "ss"
          rw [if_pos (show decide (("in" : Str) = ("in" : Str)) = true from decide_eq_true rfl)]
          walk_at "ss"
          rename_i t5 H5 hs6 H6 hs7
          obtain ⟨B4, sB4, ht5, hs8⟩ := frz_hs hs7
          refine ⟨B4, _, _, _, rfl, smB.trans sB4, hs8, ?_, ?_⟩
          · rw [e1, ← List.append_assoc]
            exact (hF3.mono fun u x => FlAt.mono fun _ _ e => sB4 _ _ e).snoc ⟨t5, .ref r, rfl, ht5, hr.mono fun _ _ e => sB4 _ _ e⟩
          · rw [e2]
            exact hT3.mono fun u x => TlAt.mono fun _ _ e => sB4 _ _ e
        | out sw ch =>
          obtain ⟨e1, e2⟩ := insF_out (n := f.1) (v := f.2.1) hst rfl
          obtain ⟨q, vs, rfl, hq, hvs⟩ := hus.it
          obtain ⟨t, rfl, htt⟩ := hvs
          have hq5 := hs5.same _ _ hq
          walk_at "ss"
          rw [if_neg (show ¬ decide (("out" : Str) = ("in" : Str)) = true by decide +kernel)]
          walk_at "ss"
          refine w_star ?_
          walk_at "ss"
          refine ⟨q, _, rfl, .inl (SqT.of hq5), ?_⟩
          walk_at "ss"
          rename_i t5 H5 hs6 H6 hs7
          obtain ⟨B4, sB4, ht5, hs8⟩ := frz_hs hs7
          refine ⟨B4, _, _, _, rfl, smB.trans sB4, hs8, ?_, ?_⟩
          · rw [e1]
            exact hF3.mono fun u x => FlAt.mono fun _ _ e => sB4 _ _ e
          · rw [e2, ← List.append_assoc]
            exact (hT3.mono fun u x => TlAt.mono fun _ _ e => sB4 _ _ e).snoc ⟨t5, _, rfl, ht5, t, rfl, sB4 _ _ htt⟩
        | lost e ch =>
          obtain ⟨e1, e2⟩ := insF_out (n := f.1) (v := f.2.1) hst rfl
          obtain ⟨q, vs, rfl, hq, hvs⟩ := hus.it
          obtain ⟨qe, t, rfl, hqe, htt⟩ := hvs
          have hq5 := hs5.same _ _ hq
          walk_at "ss"
          rw [if_neg (show ¬ decide (("lost" : Str) = ("in" : Str)) = true by decide +kernel)]
          walk_at "ss"
          refine w_star ?_
          walk_at "ss"
          refine ⟨q, _, rfl, .inl (SqT.of hq5), ?_⟩
          walk_at "ss"
          rename_i t5 H5 hs6 H6 hs7
          obtain ⟨B4, sB4, ht5, hs8⟩ := frz_hs hs7
          refine ⟨B4, _, _, _, rfl, smB.trans sB4, hs8, ?_, ?_⟩
          · rw [e1]
            exact hF3.mono fun u x => FlAt.mono fun _ _ e => sB4 _ _ e
          · rw [e2, ← List.append_assoc]
            exact (hT3.mono fun u x => TlAt.mono fun _ _ e => sB4 _ _ e).snoc ⟨t5, _, rfl, ht5, qe, t, rfl, sB4 _ _ hqe, sB4 _ _ htt⟩
      · rintro σ H' ⟨B3, fs3, ts3, v6, rfl, smB, hs5, hF3, hT3⟩
        have e : us.length = (stepsOf p0 p1 ls f).length := hr4.1
        rw [e, List.take_length] at hF3 hT3
        exact k B3 fs3 ts3 H' (sB.trans smB) hs5 hF3 hT3
end
local macro_rules | `(tactic| walk_at "v") => `(tactic| first | exact v0 | exact v1 | exact v2 | exact v3 | exact v4 | exact v5 | exact v6 | exact v7 | exact v8)
local macro_rules | `(tactic| walk_at "vs") => `(tactic| first | exact st0 | exact st1 | exact st2 | exact st3 | exact st4 | exact st5 | exact st6 | exact st7 | exact st8)
local macro_rules | `(tactic| walk_at "s") => `(tactic| first
  | with_reducible refine w_dget ?_
  | ((with_reducible refine' w_dgetZ ?h ?nd ?hk ?hv ?_); (case h => walk_at "g"); (case nd => walk_at "nd"); (case hk => walk_at "k"); (case hv => walk_at "v"))
  | ((with_reducible refine' w_dputZ ?hs ?h ?nd ?hk ?hv ?hu ?hl ?_); (case hs => assumption); (case h => walk_at "p"); (case nd => walk_at "nd"); (case hk => walk_at "k"); (case hv => walk_at "v"); (case hu => walk_at "vs"); (case hl => decide); intro _ _)
  | with_reducible refine w_gsub ?_
  | with_reducible refine w_setD ?_
  | with_reducible refine w_disp ?_
  | ((with_reducible refine' w_newP ?hs ?_); (case hs => assumption); intro _ _ _)
  | with_reducible refine w_pcons ?_
  | with_reducible refine w_pnil ?_)

local macro_rules | `(tactic| walk_at "s") => `(tactic| first
  | with_reducible refine w_nget ?_
  | with_reducible refine w_nin ?_
  | with_reducible refine w_nnot ?_
  | with_reducible refine w_nput ?_
  | with_reducible refine w_ndel ?_
  | with_reducible refine w_npop ?_
  | ((with_reducible refine' w_nnew ?hs ?_); (case hs => assumption); intro _ _ _))

local macro_rules | `(tactic| walk_at "s") => `(tactic| first
  | with_reducible refine w_ninF ?_
  | with_reducible refine w_nsetd ?_
  | with_reducible refine w_ckw ?_)

/-! ## what holds of the rollout -/
def PlOk (p : Plc) : Prop := 1 ≤ p.1 ∧ p.1 ≤ 3 ∧ p.2.2.length = 3
theorem rows3_sw : ∀ l ∈ rows3, (1 ≤ l.1.1 ∧ l.1.1 ≤ 3) ∧ 1 ≤ l.2.1 ∧ l.2.1 ≤ 3 := by decide +kernel
theorem peer_in {ls : List Lk} {x e : E2} (h : peerM ls x = some e) : ∃ l ∈ ls, (l.1 = x ∧ e = l.2) ∨ (l.2 = x ∧ e = l.1) := by
  obtain ⟨l, hl, he⟩ := Option.map_eq_some_iff.mp h
  refine ⟨l, List.mem_of_find?_eq_some hl, ?_⟩
  by_cases h1 : l.1 = x
  · rw [if_pos h1] at he
    exact .inl ⟨h1, he.symm⟩
  · rw [if_neg h1] at he
    have h2 := List.find?_some hl
    unfold has at h2
    rw [decide_eq_false h1, Bool.false_or] at h2
    exact .inr ⟨of_decide_eq_true h2, he.symm⟩
theorem steps_ok {ps : List Part} {ls : List Lk} (hls : ls.Sublist rows3) {p q : Plc} (hp : p.2.2.length = 3) (h : .inn q ∈ stepsM ps ls p) : PlOk q := by
  unfold stepsM at h
  obtain ⟨k, hk, e⟩ := List.mem_map.mp h
  obtain ⟨o, c, rfl, hc⟩ := does_form hp hk
  rw [stp_eq] at e
  by_cases h0 : o = 0
  · rw [if_pos h0] at e
    cases e
  · rw [if_neg h0] at e
    cases hpe : peerM ls (p.1, o) with
    | none =>
      rw [hpe] at e
      cases e
    | some x =>
      rw [hpe] at e
      cases e
      obtain ⟨l, hl, hx⟩ := peer_in hpe
      obtain ⟨⟨a1, a2⟩, b1, b2⟩ := rows3_sw l (hls.subset hl)
      rcases hx with ⟨_, rfl⟩ | ⟨_, rfl⟩
      · exact ⟨b1, b2, hc⟩
      · exact ⟨a1, a2, hc⟩
theorem inn_mem {n : Nat} {v : Int} {xs : List Stp} {f : Fly} (h : f ∈ insF n v xs) : f.1 = n ∧ f.2.1 = v ∧ .inn f.2.2 ∈ xs := by
  unfold insF at h
  obtain ⟨p, hp, rfl⟩ := List.mem_map.mp h
  obtain ⟨s, hs, e⟩ := List.mem_filterMap.mp hp
  cases s with
  | inn q =>
    cases e
    exact ⟨rfl, rfl, hs⟩
  | out _ _ => cases e
  | lost _ _ => cases e
theorem out_mem {n : Nat} {v : Int} {xs : List Stp} {f : Tld} (h : f ∈ outsF n v xs) : f.1 = n ∧ f.2.1 = v := by
  unfold outsF at h
  obtain ⟨p, _, rfl⟩ := List.mem_map.mp h
  exact ⟨rfl, rfl⟩
/-- switches of a list: each once, from 1 to 3 -/
structure Sw3 (xs : List Int) : Prop where
  nd : xs.Nodup
  rng : ∀ s ∈ xs, 1 ≤ s ∧ s ≤ 3
theorem Sw3.nil : Sw3 [] := ⟨List.nodup_nil, fun _ z => nomatch z⟩
theorem Sw3.few {xs : List Int} (h : Sw3 xs) : xs.length ≤ 3 := by
  have := h.nd.length_le_of_subset (l₂ := [1, 2, 3]) fun s hs => by
    obtain ⟨a, b⟩ := h.rng s hs
    have : s = 1 ∨ s = 2 ∨ s = 3 := by omega
    rcases this with rfl | rfl | rfl <;> decide
  exact this
theorem Sw3.add {xs : List Int} (h : Sw3 xs) {s : Int} (h1 : 1 ≤ s) (h3 : s ≤ 3) (hn : s ∉ xs) : Sw3 (xs ++ [s]) := by
  refine ⟨?_, fun x hx => ?_⟩
  · rw [List.nodup_append]
    refine ⟨h.nd, by simp, fun x hx y hy e => ?_⟩
    rw [List.mem_singleton.mp hy] at e
    exact hn (e ▸ hx)
  · rcases List.mem_append.mp hx with hx | hx
    · exact h.rng x hx
    · rw [List.mem_singleton.mp hx]
      exact ⟨h1, h3⟩
theorem Sw3.all {xs : List Int} (h : Sw3 xs) (hl : xs.length = 3) {s : Int} (h1 : 1 ≤ s) (h3 : s ≤ 3) : s ∈ xs := Classical.byContradiction fun hn => by
  have := (h.add h1 h3 hn).few
  rw [List.length_append, hl] at this
  simp at this
structure RInv (xi xt xr : List Int) (F : List Fly) : Prop where
  si : Sw3 xi
  st : Sw3 xt
  sr : Sw3 xr
  ht : xt ≠ [] → xi.length = 3
  hr : xr ≠ [] → xt.length = 3 ∧ ∀ f ∈ F, f.2.1 ≠ 0
  hv : ∀ f ∈ F, f.2.1 = 0 ∨ (f.2.1 = 1 ∧ xt ≠ [])
  hp : ∀ f ∈ F, PlOk f.2.2
theorem RInv.start : RInv [] [] [] [] := ⟨.nil, .nil, .nil, fun z => absurd rfl z, fun z => absurd rfl z, (fun _ z => nomatch z), (fun _ z => nomatch z)⟩
theorem RInv.ver {xi xt xr : List Int} {F : List Fly} (h : RInv xi xt xr F) {f : Fly} (hf : f ∈ F) : f.2.1 = 0 ∨ f.2.1 = 1 := by
  rcases h.hv f hf with e | ⟨e, _⟩
  · exact .inl e
  · exact .inr e
theorem RInv.has {xi xt xr : List Int} {F : List Fly} (h : RInv xi xt xr F) {f : Fly} (hf : f ∈ F) : hasM xi xr f.2.2.1 f.2.1 = true := by
  obtain ⟨h1, h3, _⟩ := h.hp f hf
  unfold hasM
  rcases h.hv f hf with e | ⟨e, hx⟩
  · have hr : xr = [] := Classical.byContradiction fun z => (h.hr z).2 f hf e
    rw [if_neg (by omega), e, hr]
    simp [h1, h3]
  · rw [if_pos e]
    exact decide_eq_true (h.si.all (h.ht hx) h1 h3)
/-- what the law itself looks at -/
theorem RInv.rule {xi xt xr : List Int} {F : List Fly} (h : RInv xi xt xr F) {f : Fly} (hf : f ∈ F) : (f.2.1 = 1 ∧ f.2.2.1 ∈ xi) ∨ (f.2.1 = 0 ∧ f.2.2.1 ∉ xr) := by
  obtain ⟨h1, h3, _⟩ := h.hp f hf
  rcases h.hv f hf with e | ⟨e, hx⟩
  · have hr : xr = [] := Classical.byContradiction fun z => (h.hr z).2 f hf e
    exact .inr ⟨e, by rw [hr]; exact List.not_mem_nil⟩
  · exact .inl ⟨e, h.si.all (h.ht hx) h1 h3⟩
theorem RInv.perform {xi xt xr : List Int} {F : List Fly} (h : RInv xi xt xr F) {j : Nat} {s : Int} (hj : j < 3) (hm : mayM xi xt xr F j s = true) : RInv (addM j 0 s xi) (addM j 1 s xt) (addM j 2 s xr) F := by
  obtain ⟨h1, h3, hn⟩ := may_in hm
  unfold mayM at hm
  simp only [Bool.and_eq_true] at hm
  obtain ⟨_, hm⟩ := hm
  match j, hj, hn, hm with
  | 0, _, hn, hm =>
    refine ⟨h.si.add h1 h3 hn, h.st, h.sr, fun z => ?_, h.hr, h.hv, h.hp⟩
    exact absurd (h.si.all (h.ht z) h1 h3) hn
  | 1, _, hn, hm =>
    rw [if_pos rfl] at hm
    have hl : xi.length = 3 := by
      have := of_decide_eq_true hm
      omega
    refine ⟨h.si, h.st.add h1 h3 hn, h.sr, fun _ => hl, fun z => ?_, fun f hf => ?_, h.hp⟩
    · exact absurd (h.st.all (h.hr z).1 h1 h3) hn
    · rcases h.hv f hf with e | ⟨e, _⟩
      · exact .inl e
      · exact .inr ⟨e, fun z => by
          have : (xt ++ [s]).length = 0 := congrArg List.length z
          rw [List.length_append] at this
          exact absurd this (by simp)⟩
  | 2, _, hn, hm =>
    rw [if_neg (by decide), if_pos rfl, Bool.and_eq_true] at hm
    have hl : xt.length = 3 := by
      have := of_decide_eq_true hm.1
      omega
    exact ⟨h.si, h.st, h.sr.add h1 h3 hn, h.ht, fun _ => ⟨hl, fun f hf => of_decide_eq_true (List.all_eq_true.mp hm.2 f hf)⟩, h.hv, h.hp⟩
theorem RInv.enter {xi xt xr : List Int} {F : List Fly} (h : RInv xi xt xr F) (n : Nat) {p : Plc} (hp : PlOk p) : RInv xi xt xr (F ++ [(n, verM xt p.1, p)]) := by
  obtain ⟨h1, h3, hl⟩ := hp
  refine ⟨h.si, h.st, h.sr, h.ht, fun z => ?_, fun f hf => ?_, fun f hf => ?_⟩
  · obtain ⟨a, b⟩ := h.hr z
    refine ⟨a, fun f hf => ?_⟩
    rcases List.mem_append.mp hf with hf | hf
    · exact b f hf
    · rw [List.mem_singleton.mp hf]
      show verM xt p.1 ≠ 0
      unfold verM
      rw [if_pos (h.st.all a h1 h3)]
      decide
  · rcases List.mem_append.mp hf with hf | hf
    · exact h.hv f hf
    · rw [List.mem_singleton.mp hf]
      show verM xt p.1 = 0 ∨ (verM xt p.1 = 1 ∧ xt ≠ [])
      unfold verM
      by_cases hx : p.1 ∈ xt
      · rw [if_pos hx]
        exact .inr ⟨rfl, fun z => by rw [z] at hx; cases hx⟩
      · rw [if_neg hx]
        exact .inl rfl
  · rcases List.mem_append.mp hf with hf | hf
    · exact h.hp f hf
    · rw [List.mem_singleton.mp hf]
      exact ⟨h1, h3, hl⟩
theorem RInv.move {xi xt xr : List Int} {F : List Fly} (h : RInv xi xt xr F) {p0 p1 : List Part} {ls : List Lk} (hls : ls.Sublist rows3) {i : Nat} {f : Fly} (hf : F[i]? = some f) : RInv xi xt xr (moveF p0 p1 ls F i f) := by
  have hm := List.mem_of_getElem? hf
  have hin : ∀ z ∈ moveF p0 p1 ls F i f, z ∈ F ∨ (z.2.1 = f.2.1 ∧ PlOk z.2.2) := fun z hz => by
    rcases List.mem_append.mp hz with hz | hz
    · exact .inl (List.mem_of_mem_eraseIdx hz)
    · obtain ⟨_, e, hs⟩ := inn_mem hz
      exact .inr ⟨e, steps_ok hls (h.hp f hm).2.2 hs⟩
  refine ⟨h.si, h.st, h.sr, h.ht, fun z => ?_, fun g hg => ?_, fun g hg => ?_⟩
  · obtain ⟨a, b⟩ := h.hr z
    refine ⟨a, fun g hg => ?_⟩
    rcases hin g hg with hg | ⟨e, _⟩
    · exact b g hg
    · rw [e]
      exact b f hm
  · rcases hin g hg with hg | ⟨e, _⟩
    · exact h.hv g hg
    · rw [e]
      exact h.hv f hm
  · rcases hin g hg with hg | ⟨_, e⟩
    · exact h.hp g hg
    · exact e
/-! ## what a version alone makes of a datum -/
def oneF (ps : List Part) (ls : List Lk) (st : List Plc × List Stp) (i : Nat) (p : Plc) : List Plc × List Stp := (st.1.eraseIdx i ++ (stepsM ps ls p).filterMap innOf, st.2 ++ (stepsM ps ls p).filterMap outOf)
def aloneF (ps : List Part) (ls : List Lk) : List Plc × List Stp → List Nat → Option (List Plc × List Stp)
  | st, [] => some st
  | st, i :: ms => match st.1[i]? with
    | none => none
    | some p => aloneF ps ls (oneF ps ls st i p) ms
theorem alone_snoc (ps : List Part) (ls : List Lk) : ∀ (ms : List Nat) (st r : List Plc × List Stp) (i : Nat) (p : Plc), aloneF ps ls st ms = some r → r.1[i]? = some p → aloneF ps ls st (ms ++ [i]) = some (oneF ps ls r i p)
  | [], st, r, i, p, h, hp => by
    cases h
    show (match st.1[i]? with | none => none | some p => aloneF ps ls (oneF ps ls st i p) []) = _
    rw [hp]
    rfl
  | m :: ms, st, r, i, p, h, hp => by
    have h' : (match st.1[m]? with | none => none | some p => aloneF ps ls (oneF ps ls st m p) ms) = some r := h
    show (match st.1[m]? with | none => none | some p => aloneF ps ls (oneF ps ls st m p) (ms ++ [i])) = _
    cases hm : st.1[m]? with
    | none =>
      rw [hm] at h'
      cases h'
    | some q =>
      rw [hm] at h'
      exact alone_snoc ps ls ms _ r i p h' hp
def flyOf (F : List Fly) (k : Nat) : List Plc := (F.filter fun f => decide (f.1 = k)).map (·.2.2)
def tldOf (T : List Tld) (k : Nat) : List Stp := (T.filter fun f => decide (f.1 = k)).map (·.2.2)
def cntOf (F : List Fly) (i k : Nat) : Nat := ((F.take i).filter fun f => decide (f.1 = k)).length
theorem filter_hit {α : Type} (p : α → Bool) : ∀ (F : List α) (i : Nat) (f : α), F[i]? = some f → p f = true → (F.filter p)[((F.take i).filter p).length]? = some f ∧ (F.eraseIdx i).filter p = (F.filter p).eraseIdx ((F.take i).filter p).length
  | [], _, _, h, _ => by simp at h
  | x :: F, 0, f, h, hp => by
    have e : x = f := by simpa using h
    subst e
    simp [List.filter_cons, hp]
  | x :: F, i + 1, f, h, hp => by
    obtain ⟨h1, h2⟩ := filter_hit p F i f (by simpa using h) hp
    rw [List.take_succ_cons, List.eraseIdx_cons_succ, List.filter_cons, List.filter_cons, List.filter_cons]
    by_cases hx : p x = true
    · rw [if_pos hx, if_pos hx, if_pos hx, List.length_cons]
      exact ⟨by simpa using h1, by rw [h2, List.eraseIdx_cons_succ]⟩
    · rw [if_neg hx, if_neg hx, if_neg hx]
      exact ⟨h1, h2⟩
theorem filter_miss {α : Type} (p : α → Bool) : ∀ (F : List α) (i : Nat) (f : α), F[i]? = some f → p f = false → (F.eraseIdx i).filter p = F.filter p
  | [], _, _, h, _ => by simp at h
  | x :: F, 0, f, h, hp => by
    have e : x = f := by simpa using h
    subst e
    simp [List.filter_cons, hp]
  | x :: F, i + 1, f, h, hp => by
    have h2 := filter_miss p F i f (by simpa using h) hp
    rw [List.eraseIdx_cons_succ, List.filter_cons, List.filter_cons, h2]
theorem ins_fly (n : Nat) (v : Int) (xs : List Stp) (k : Nat) : flyOf (insF n v xs) k = if n = k then xs.filterMap innOf else [] := by
  unfold flyOf insF
  by_cases h : n = k
  · rw [if_pos h, List.filter_eq_self.mpr (fun z hz => by
      obtain ⟨p, _, rfl⟩ := List.mem_map.mp hz
      exact decide_eq_true h), List.map_map]
    exact List.map_id _
  · rw [if_neg h, List.filter_eq_nil_iff.mpr (fun z hz => by
      obtain ⟨p, _, rfl⟩ := List.mem_map.mp hz
      simpa using h)]
    rfl
theorem outs_tld (n : Nat) (v : Int) (xs : List Stp) (k : Nat) : tldOf (outsF n v xs) k = if n = k then xs.filterMap outOf else [] := by
  unfold tldOf outsF
  by_cases h : n = k
  · rw [if_pos h, List.filter_eq_self.mpr (fun z hz => by
      obtain ⟨p, _, rfl⟩ := List.mem_map.mp hz
      exact decide_eq_true h), List.map_map]
    exact List.map_id _
  · rw [if_neg h, List.filter_eq_nil_iff.mpr (fun z hz => by
      obtain ⟨p, _, rfl⟩ := List.mem_map.mp hz
      simpa using h)]
    rfl
theorem fly_app (F G : List Fly) (k : Nat) : flyOf (F ++ G) k = flyOf F k ++ flyOf G k := by
  unfold flyOf
  rw [List.filter_append, List.map_append]
theorem tld_app (F G : List Tld) (k : Nat) : tldOf (F ++ G) k = tldOf F k ++ tldOf G k := by
  unfold tldOf
  rw [List.filter_append, List.map_append]
abbrev Hist := List (Int × Plc)
structure AInv (p0 p1 : List Part) (ls : List Lk) (n : Nat) (S : Hist) (M : List (List Nat)) (F : List Fly) (T : List Tld) : Prop where
  sl : S.length = n
  ml : M.length = n
  al : ∀ (k : Nat) (v : Int) (p : Plc) (ms : List Nat), S[k]? = some (v, p) → M[k]? = some ms → aloneF (if v = 0 then p0 else p1) ls ([p], []) ms = some (flyOf F k, tldOf T k)
  fb : ∀ f ∈ F, ∃ p, S[f.1]? = some (f.2.1, p)
  tb : ∀ f ∈ T, ∃ p, S[f.1]? = some (f.2.1, p)
  so : ∀ s ∈ S, (s.1 = 0 ∨ s.1 = 1) ∧ PlOk s.2
theorem AInv.start (p0 p1 : List Part) (ls : List Lk) : AInv p0 p1 ls 0 [] [] [] [] := ⟨rfl, rfl, (fun _ _ _ _ z => by simp at z), (fun _ z => nomatch z), (fun _ z => nomatch z), (fun _ z => nomatch z)⟩
theorem AInv.enter {p0 p1 : List Part} {ls : List Lk} {n : Nat} {S : Hist} {M : List (List Nat)} {F : List Fly} {T : List Tld} (h : AInv p0 p1 ls n S M F T) {v : Int} {p : Plc} (hv : v = 0 ∨ v = 1) (hp : PlOk p) : AInv p0 p1 ls (n + 1) (S ++ [(v, p)]) (M ++ [[]]) (F ++ [(n, v, p)]) T := by
  have hnew : ∀ k : Nat, flyOf [((n, v, p) : Fly)] k = if n = k then [p] else [] := fun k => by
    unfold flyOf
    by_cases e : n = k <;> simp [List.filter_cons, e]
  have grow : ∀ {k : Nat} {x : Int × Plc}, S[k]? = some x → (S ++ [(v, p)])[k]? = some x := fun {k x} e => by
    rw [List.getElem?_append_left (List.getElem?_eq_some_iff.mp e).1]
    exact e
  refine ⟨by rw [List.length_append, h.sl]; rfl, by rw [List.length_append, h.ml]; rfl, fun k v' p' ms hS hM => ?_, fun f hf => ?_, fun f hf => ?_, fun s hs => ?_⟩
  · rw [fly_app, hnew]
    by_cases e : k < n
    · rw [List.getElem?_append_left (by rw [h.sl]; exact e)] at hS
      rw [List.getElem?_append_left (by rw [h.ml]; exact e)] at hM
      rw [if_neg (show ¬ n = k by omega), List.append_nil]
      exact h.al k v' p' ms hS hM
    · have hk : k = n := by
        have := (List.getElem?_eq_some_iff.mp hS).1
        rw [List.length_append, h.sl] at this
        simp at this
        omega
      subst hk
      rw [List.getElem?_append_right (by rw [h.sl]; exact Nat.le_refl _), h.sl, Nat.sub_self] at hS
      rw [List.getElem?_append_right (by rw [h.ml]; exact Nat.le_refl _), h.ml, Nat.sub_self] at hM
      cases hS
      cases hM
      have e1 : flyOf F k = [] := by
        unfold flyOf
        rw [List.filter_eq_nil_iff.mpr (fun f hf => ?_)]
        · rfl
        · intro z
          obtain ⟨q, hq⟩ := h.fb f hf
          have := (List.getElem?_eq_some_iff.mp hq).1
          have hz := of_decide_eq_true z
          have := h.sl
          omega
      have e2 : tldOf T k = [] := by
        unfold tldOf
        rw [List.filter_eq_nil_iff.mpr (fun f hf => ?_)]
        · rfl
        · intro z
          obtain ⟨q, hq⟩ := h.tb f hf
          have := (List.getElem?_eq_some_iff.mp hq).1
          have hz := of_decide_eq_true z
          have := h.sl
          omega
      rw [e1, e2, if_pos rfl]
      rfl
  · rcases List.mem_append.mp hf with hf | hf
    · obtain ⟨q, hq⟩ := h.fb f hf
      exact ⟨q, grow hq⟩
    · rw [List.mem_singleton.mp hf]
      refine ⟨p, ?_⟩
      show (S ++ [(v, p)])[n]? = _
      rw [List.getElem?_append_right (by rw [h.sl]; exact Nat.le_refl _), h.sl, Nat.sub_self]
      rfl
  · obtain ⟨q, hq⟩ := h.tb f hf
    exact ⟨q, grow hq⟩
  · rcases List.mem_append.mp hs with hs | hs
    · exact h.so s hs
    · rw [List.mem_singleton.mp hs]
      exact ⟨hv, hp⟩
theorem AInv.move {p0 p1 : List Part} {ls : List Lk} {n : Nat} {S : Hist} {M : List (List Nat)} {F : List Fly} {T : List Tld} (h : AInv p0 p1 ls n S M F T) {i : Nat} {f : Fly} (hf : F[i]? = some f) {ms : List Nat} (hm : M[f.1]? = some ms) : AInv p0 p1 ls n S (M.set f.1 (ms ++ [cntOf F i f.1])) (moveF p0 p1 ls F i f) (moveT p0 p1 ls T f) := by
  have hmem := List.mem_of_getElem? hf
  have hml := (List.getElem?_eq_some_iff.mp hm).1
  refine ⟨h.sl, by rw [List.length_set]; exact h.ml, fun k v p ms' hS hM => ?_, fun g hg => ?_, fun g hg => ?_, h.so⟩
  · unfold moveF moveT
    rw [fly_app, tld_app, ins_fly, outs_tld]
    by_cases e : f.1 = k
    · subst e
      rw [List.getElem?_set_self hml] at hM
      cases hM
      obtain ⟨q, hq⟩ := h.fb f hmem
      rw [hS] at hq
      cases hq
      have h0 := h.al f.1 _ p ms hS hm
      have hh := filter_hit (fun g : Fly => decide (g.1 = f.1)) F i f hf (decide_eq_true rfl)
      have hp : (flyOf F f.1)[cntOf F i f.1]? = some f.2.2 := by
        unfold flyOf cntOf
        rw [List.getElem?_map, hh.1]
        rfl
      rw [if_pos rfl, if_pos rfl, alone_snoc _ ls ms _ _ _ _ h0 hp]
      unfold oneF stepsOf
      have e3 : flyOf (F.eraseIdx i) f.1 = (flyOf F f.1).eraseIdx (cntOf F i f.1) := by
        unfold flyOf cntOf
        rw [hh.2]
        simp [List.eraseIdx_eq_take_drop_succ, List.map_append, List.map_take, List.map_drop]
      rw [e3]
    · rw [List.getElem?_set_ne e] at hM
      rw [if_neg e, if_neg e, List.append_nil, List.append_nil]
      have e3 : flyOf (F.eraseIdx i) k = flyOf F k := by
        unfold flyOf
        rw [filter_miss (fun g : Fly => decide (g.1 = k)) F i f hf (decide_eq_false e)]
      rw [e3]
      exact h.al k v p ms' hS hM
  · rcases List.mem_append.mp hg with hg | hg
    · exact h.fb g (List.mem_of_mem_eraseIdx hg)
    · obtain ⟨e1, e2, _⟩ := inn_mem hg
      rw [e1, e2]
      exact h.fb f hmem
  · rcases List.mem_append.mp hg with hg | hg
    · exact h.tb g hg
    · obtain ⟨e1, e2⟩ := out_mem hg
      rw [e1, e2]
      exact h.fb f hmem
theorem moveF_len {p0 p1 : List Part} {ls : List Lk} {F : List Fly} {i : Nat} {f : Fly} (h0 : p0.length ≤ 6) (h1 : p1.length ≤ 6) : (moveF p0 p1 ls F i f).length ≤ F.length + 6 := by
  have e1 := insF_len f.1 f.2.1 (stepsOf p0 p1 ls f)
  have e2 : (stepsOf p0 p1 ls f).length ≤ 6 := by
    unfold stepsOf
    refine Nat.le_trans (steps_few _ _ _) ?_
    split <;> assumption
  unfold moveF
  rw [List.length_append]
  have := List.length_eraseIdx_le F i
  omega
theorem moveT_len {p0 p1 : List Part} {ls : List Lk} {T : List Tld} {f : Fly} (h0 : p0.length ≤ 6) (h1 : p1.length ≤ 6) : (moveT p0 p1 ls T f).length ≤ T.length + 6 := by
  have e1 := outsF_len f.1 f.2.1 (stepsOf p0 p1 ls f)
  have e2 : (stepsOf p0 p1 ls f).length ≤ 6 := by
    unfold stepsOf
    refine Nat.le_trans (steps_few _ _ _) ?_
    split <;> assumption
  unfold moveT
  rw [List.length_append]
  omega
local macro_rules | `(tactic| walk_at "v") => `(tactic| first | exact v0 | exact v1 | exact v2 | exact v3 | exact v4 | exact v5 | exact v6 | exact v7 | exact v8)
local macro_rules | `(tactic| walk_at "vs") => `(tactic| first | exact st0 | exact st1 | exact st2 | exact st3 | exact st4 | exact st5 | exact st6 | exact st7 | exact st8)
local macro_rules | `(tactic| walk_at "s") => `(tactic| first
  | with_reducible refine w_dget ?_
  | ((with_reducible refine' w_dgetZ ?h ?nd ?hk ?hv ?_); (case h => walk_at "g"); (case nd => walk_at "nd"); (case hk => walk_at "k"); (case hv => walk_at "v"))
  | ((with_reducible refine' w_dputZ ?hs ?h ?nd ?hk ?hv ?hu ?hl ?_); (case hs => assumption); (case h => walk_at "p"); (case nd => walk_at "nd"); (case hk => walk_at "k"); (case hv => walk_at "v"); (case hu => walk_at "vs"); (case hl => decide); intro _ _)
  | with_reducible refine w_gsub ?_
  | with_reducible refine w_setD ?_
  | with_reducible refine w_disp ?_
  | ((with_reducible refine' w_newP ?hs ?_); (case hs => assumption); intro _ _ _)
  | with_reducible refine w_pcons ?_
  | with_reducible refine w_pnil ?_)

local macro_rules | `(tactic| walk_at "s") => `(tactic| first
  | with_reducible refine w_nget ?_
  | with_reducible refine w_nin ?_
  | with_reducible refine w_nnot ?_
  | with_reducible refine w_nput ?_
  | with_reducible refine w_ndel ?_
  | with_reducible refine w_npop ?_
  | ((with_reducible refine' w_nnew ?hs ?_); (case hs => assumption); intro _ _ _))

local macro_rules | `(tactic| walk_at "s") => `(tactic| first
  | with_reducible refine w_ninF ?_
  | with_reducible refine w_nsetd ?_
  | with_reducible refine w_ckw ?_)

/-! ## the nets -/
def subs3 : List (List Lk) := [[], [((1, 1), (2, 1))], [((2, 2), (3, 1))], [((1, 2), (3, 2))], [((1, 1), (2, 1)), ((2, 2), (3, 1))], [((1, 1), (2, 1)), ((1, 2), (3, 2))], [((2, 2), (3, 1)), ((1, 2), (3, 2))], rows3]
theorem sub_in {ls : List Lk} (h : ls.Sublist rows3) : ls ∈ subs3 := by
  unfold rows3 at h
  unfold subs3 rows3
  cases h with
  | cons _ h =>
    cases h with
    | cons _ h =>
      cases h with
      | cons _ h => cases h; simp
      | cons_cons _ h => cases h; simp
    | cons_cons _ h =>
      cases h with
      | cons _ h => cases h; simp
      | cons_cons _ h => cases h; simp
  | cons_cons _ h =>
    cases h with
    | cons _ h =>
      cases h with
      | cons _ h => cases h; simp
      | cons_cons _ h => cases h; simp
    | cons_cons _ h =>
      cases h with
      | cons _ h => cases h; simp
      | cons_cons _ h => cases h; simp
/-! ## keys as data -/
theorem dI_lay (x : Itm) : (dI x).canLay0 = true := by
  cases x with
  | inl n => simp [dI, PyData.canLay0]
  | inr ns =>
    have : ∀ ns : List Int, PyData.canLayAll0 (ns.map .int) = true := by
      intro ns
      induction ns with
      | nil => simp [PyData.canLayAll0]
      | cons n ns ih => simp only [List.map_cons, PyData.canLayAll0, PyData.canLay0, ih, Bool.and_self]
    simp only [dI, PyData.canLay0]
    exact this ns
theorem dK_lay (k : IK) : (dK k).canLay0 = true := by
  have : ∀ k : IK, PyData.canLayAll0 (k.map dI) = true := by
    intro k
    induction k with
    | nil => simp [PyData.canLayAll0]
    | cons x k ih => simp only [List.map_cons, PyData.canLayAll0, dI_lay, ih, Bool.and_self]
  show PyData.canLay0 (.tuple _) = true
  simp only [PyData.canLay0]
  exact this k
theorem dK_dep (k : IK) : (dK k).depth ≤ 4 := by
  have := depth_its k
  simp only [dK, PyData.depth]
  omega
theorem shp_dK (k : IK) : SeqAt.shaped (dK k) = true := by
  unfold SeqAt.shaped
  rw [dK_lay, Bool.true_and]
  exact decide_eq_true (by have := dK_dep k; omega)
theorem shp_dKs (ks : List IK) : SeqAt.shaped (.list (ks.map dK)) = true := shp_list fun d hd => by
  obtain ⟨k, _, rfl⟩ := List.mem_map.mp hd
  exact ⟨dK_lay k, by have := dK_dep k; omega⟩
section
variable {K : PySem.W.Frag} {H : Hp} {Q : VK}
theorem dp_keys {a : Addr} {us : List V} {ks : List IK} (h : SqL K H a us) (r : Row (KeyAt H) us ks) : Dp K H (.ref a) (.list (ks.map dK)) := .lst h (r.dpAll fun _ _ k => k.dp)
theorem any_K (ks : List IK) (k : IK) : ((ks.map dK).any fun z => PyData.eqv z (dK k)) = ks.any fun y => decide (y = k) := by
  rw [List.any_map]
  congr 1
  funext y
  exact eqv_K y k
theorem w_inKL {neg : Bool} {x : V} {a : Addr} {us : List V} {k : IK} {ks : List IK} (hx : KeyAt H x k) (h : SqL K H a us) (r : Row (KeyAt H) us ks) (q : Q (.bl (if neg then !(ks.any fun y => decide (y = k)) else ks.any fun y => decide (y = k))) H) : rInDL K neg x (.ref a) H Q :=
  ⟨dK k, ks.map dK, hx.dp, dp_keys h r, shp_dK k, shp_dKs ks, by rw [any_K]; exact q⟩
end
/-! ## data -/
theorem Sh.str {s : Str} (h : (PyData.str s).canLay0 = true ∧ s.cps.size ≤ 6 ∧ (PyData.str s).leavesShort 13 = true) : Sh 0 6 (.str s) := ⟨h.1, Nat.le_refl _, rfl, h.2.1, h.2.2⟩
def isD (f : Nat) (n : Int) : PyData := .tuple [.str "is", .str (fldN f), .int n]
def tstD : Tst → PyData
  | .is f n => isD f n
  | .neg f n => .tuple [.str "not", isD f n]
  | .all xs => .tuple [.str "all", .list (xs.map fun x => isD x.1 x.2)]
def actD : Act → PyData
  | .test t => .tuple [.str "test", tstD t]
  | .set f n => .tuple [.str "set", .str (fldN f), .int n]
def partD : Part → PyData
  | .act x => actD x
  | .seq xs => .tuple [.str "seq", .list (xs.map actD)]
def polD (ps : List Part) : PyData := .tuple [.str "sum", .list (ps.map partD)]
def linkD (l : Lk) : PyData := .tuple [.tuple [.int l.1.1, .int l.1.2], .tuple [.int l.2.1, .int l.2.2]]
def grD (cnt : Int) (ls : List Lk) : PyData := .tuple [.str "graph", .int cnt, .list (ls.map linkD)]
def plcsD (S : List Plc) : PyData := .list ((S.map plK).map dK)
section
variable {K : PySem.W.Frag} {H : Hp}
theorem is_dp {v : V} {f : Nat} {n : Int} (h : IsAt H v f n) : Dp K H v (isD f n) := by
  obtain ⟨p, rfl, hp, _⟩ := h
  exact .tup (SqT.of hp) (.cons (.str _) (.cons (.str _) (.cons (.int _) .nil)))
theorem tst_dp {v : V} : ∀ {t : Tst}, TstAt H v t → Dp K H v (tstD t)
  | .is f n, h => is_dp h
  | .neg f n, ⟨p, u, e, hp, hu⟩ => by
    subst e
    exact .tup (SqT.of hp) (.cons (.str _) (.cons (is_dp hu) .nil))
  | .all xs, ⟨p, l, us, e, hp, hl, hr, _⟩ => by
    subst e
    exact .tup (SqT.of hp) (.cons (.str _) (.cons (.lst (SqL.of hl) (hr.dpAll (d := fun x : Nat × Int => isD x.1 x.2) fun u x h => is_dp h)) .nil))
theorem act_dp {v : V} : ∀ {x : Act}, ActAt H v x → Dp K H v (actD x)
  | .test t, ⟨p, u, e, hp, hu⟩ => by
    subst e
    exact .tup (SqT.of hp) (.cons (.str _) (.cons (tst_dp hu) .nil))
  | .set f n, ⟨p, e, hp, _⟩ => by
    subst e
    exact .tup (SqT.of hp) (.cons (.str _) (.cons (.str _) (.cons (.int _) .nil)))
theorem part_dp {v : V} : ∀ {p : Part}, PartAt H v p → Dp K H v (partD p)
  | .act x, h => act_dp h
  | .seq xs, ⟨p, l, us, e, hp, hl, hr, _⟩ => by
    subst e
    exact .tup (SqT.of hp) (.cons (.str _) (.cons (.lst (SqL.of hl) (hr.dpAll (d := actD) fun u x h => act_dp h)) .nil))
theorem pol_dp {v : V} {ps : List Part} (h : PolAt H v ps) : Dp K H v (polD ps) := by
  obtain ⟨p, l, us, rfl, hp, hl, hr, _⟩ := h
  exact .tup (SqT.of hp) (.cons (.str _) (.cons (.lst (SqL.of hl) (hr.dpAll (d := partD) fun u x h => part_dp h)) .nil))
theorem lks_dp : ∀ {us : List V} {ls : List Lk}, LkL H us ls → DpAll K H us (ls.map linkD)
  | _, _, .nil => .nil
  | _, _, .cons ⟨a, e, hk⟩ t => by
    subst e
    refine .cons ?_ (lks_dp t)
    obtain ⟨p, q, h1, h2, h3⟩ := nk_link hk
    exact .tup (SqT.of h1) (.cons (.tup (SqT.of h2) (.cons (.int _) (.cons (.int _) .nil))) (.cons (.tup (SqT.of h3) (.cons (.int _) (.cons (.int _) .nil))) .nil))
theorem gr_dp {v : V} {cnt : Int} {ls : List Lk} (h : GrAt H v cnt ls) : Dp K H v (grD cnt ls) := by
  obtain ⟨p, lr, us, rfl, hp, hl, hL, _⟩ := h
  exact .tup (SqT.of hp) (.cons (.str _) (.cons (.int _) (.cons (.lst (SqL.of hl) (lks_dp hL)) .nil)))
theorem plcs_dp {a : Addr} {us : List V} {S : List Plc} (h : H a = some (.lst us)) (r : Row (KeyAt H) us (S.map plK)) : Dp K H (.ref a) (plcsD S) := dp_keys (SqL.of h) r
end
theorem fld_str {f : Nat} (h : f < 5) : Sh 0 6 (.str (fldN f)) := by
  match f, h with
  | 0, _ => exact Sh.str (by decide +kernel)
  | 1, _ => exact Sh.str (by decide +kernel)
  | 2, _ => exact Sh.str (by decide +kernel)
  | 3, _ => exact Sh.str (by decide +kernel)
  | 4, _ => exact Sh.str (by decide +kernel)
theorem sh_is {f : Nat} {n : Int} (h : f < 5) (hn : IB n) : Sh 1 15 (isD f n) :=
  (Sh.tup (ShA.cons (Sh.str (by decide +kernel)) (ShA.cons (fld_str h) (ShA.cons (Sh.int hn) (ShA.nil (b := 0)))))).mono (by decide) (by decide)
theorem ib3 {n : Int} (h0 : 0 ≤ n) (h1 : n ≤ 3) : IB n := ⟨h0, by omega⟩
theorem sh_tst : ∀ {t : Tst}, TstOk t → Sh 3 40 (tstD t)
  | .is f n, ⟨h1, h2, h3⟩ => (sh_is h1 (ib3 h2 h3)).mono (by decide) (by decide)
  | .neg f n, h => h.elim
  | .all xs, ⟨h1, h2⟩ => by
    have := Sh.lst (ShA.all (D := 1) (b := 15) (xs := xs.map fun x => isD x.1 x.2) fun d hd => by
      obtain ⟨x, hx, rfl⟩ := List.mem_map.mp hd
      obtain ⟨a, b, c⟩ := h2 x hx
      exact sh_is a (ib3 b c))
    rw [List.length_map] at this
    exact (Sh.tup (ShA.cons ((Sh.str (s := "all") (by decide +kernel)).mono (D' := 2) (by decide) (Nat.le_refl _)) (ShA.cons (this.mono (b' := 32) (by decide) (by omega)) (ShA.nil (b := 0))))).mono (by decide) (by decide)
theorem sh_act : ∀ {x : Act}, ActOk x → Sh 4 48 (actD x)
  | .test t, h => (Sh.tup (ShA.cons ((Sh.str (s := "test") (by decide +kernel)).mono (D' := 3) (by decide) (Nat.le_refl _)) (ShA.cons (sh_tst h) (ShA.nil (b := 0))))).mono (by decide) (by decide)
  | .set f n, h => by
    have hf : f < 5 := by rcases h with ⟨h, _⟩ | ⟨h, _⟩ <;> omega
    have hn : IB n := by rcases h with ⟨_, h1, h2⟩ | ⟨_, h1, h2⟩ <;> exact ⟨h1, by omega⟩
    exact (Sh.tup (ShA.cons (Sh.str (s := "set") (by decide +kernel)) (ShA.cons (fld_str hf) (ShA.cons (Sh.int hn) (ShA.nil (b := 0)))))).mono (by decide) (by decide)
theorem sh_part : ∀ {p : Part}, PartOk p → Sh 6 155 (partD p)
  | .act x, h => (sh_act h).mono (by decide) (by decide)
  | .seq xs, ⟨h1, h2⟩ => by
    have := Sh.lst (ShA.all (D := 4) (b := 48) (xs := xs.map actD) fun d hd => by
      obtain ⟨x, hx, rfl⟩ := List.mem_map.mp hd
      exact sh_act (h2 x hx))
    rw [List.length_map] at this
    exact (Sh.tup (ShA.cons ((Sh.str (s := "seq") (by decide +kernel)).mono (D' := 5) (by decide) (Nat.le_refl _)) (ShA.cons (this.mono (b' := 147) (by decide) (by omega)) (ShA.nil (b := 0))))).mono (by decide) (by decide)
theorem sh_pol {ps : List Part} (h : LocOk ps) : Sh 8 944 (polD ps) := by
  have := Sh.lst (ShA.all (D := 6) (b := 155) (xs := ps.map partD) fun d hd => by
    obtain ⟨x, hx, rfl⟩ := List.mem_map.mp hd
    exact sh_part (h.2 x hx))
  have h6 := h.1
  rw [List.length_map] at this
  exact (Sh.tup (ShA.cons ((Sh.str (s := "sum") (by decide +kernel)).mono (D' := 7) (by decide) (Nat.le_refl _)) (ShA.cons (this.mono (b' := 936) (by decide) (by omega)) (ShA.nil (b := 0))))).mono (by decide) (by decide)
theorem sh_plc {p : Plc} (h : StOk p) : Sh 2 6 (dK (plK p)) := by
  obtain ⟨a, b, c, d, e, f⟩ := h
  have h1 := Sh.ints (ns := p.2.2) fun x hx => ⟨(f x hx).1, by have := (f x hx).2; omega⟩
  rw [e] at h1
  have i0 : ∀ {n : Int}, IB n → Sh 1 0 (.int n) := fun z => (Sh.int z).mono (by decide) (Nat.le_refl 0)
  exact (Sh.tup (ShA.cons (i0 ⟨by omega, by omega⟩) (ShA.cons (i0 ⟨c, by omega⟩) (ShA.cons h1 (ShA.nil (b := 0)))))).mono (by decide) (by decide)
theorem sh_plcs {S : List Plc} (h : ∀ s ∈ S, StOk s) (h3 : S.length ≤ 3) : Sh 3 21 (plcsD S) := by
  have := Sh.lst (ShA.all (D := 2) (b := 6) (xs := (S.map plK).map dK) fun d hd => by
    obtain ⟨x, hx, rfl⟩ := List.mem_map.mp hd
    obtain ⟨s, hs, rfl⟩ := List.mem_map.mp hx
    exact sh_plc (h s hs))
  rw [List.length_map, List.length_map] at this
  exact this.mono (by decide) (by omega)
theorem sh_gr {ls : List Lk} (h : ls ∈ subs3) : Sh 4 30 (grD 3 ls) := by
  have hall : ∀ ls ∈ subs3, ls.length ≤ 3 ∧ ∀ l ∈ ls, (0 ≤ l.1.1 ∧ l.1.1 ≤ 3) ∧ (0 ≤ l.1.2 ∧ l.1.2 ≤ 3) ∧ (0 ≤ l.2.1 ∧ l.2.1 ≤ 3) ∧ (0 ≤ l.2.2 ∧ l.2.2 ≤ 3) := by decide +kernel
  obtain ⟨h3, hl⟩ := hall ls h
  have := Sh.lst (ShA.all (D := 2) (b := 6) (xs := ls.map linkD) fun d hd => by
    obtain ⟨l, hl', rfl⟩ := List.mem_map.mp hd
    obtain ⟨a, b, c, d⟩ := hl l hl'
    exact (Sh.tup (ShA.cons (Sh.tup (ShA.cons (Sh.int (ib3 a.1 a.2)) (ShA.cons (Sh.int (ib3 b.1 b.2)) (ShA.nil (b := 0))))) (ShA.cons (Sh.tup (ShA.cons (Sh.int (ib3 c.1 c.2)) (ShA.cons (Sh.int (ib3 d.1 d.2)) (ShA.nil (b := 0))))) (ShA.nil (b := 0))))).mono (by decide) (by decide))
  rw [List.length_map] at this
  exact (Sh.tup (ShA.cons ((Sh.str (s := "graph") (by decide +kernel)).mono (D' := 3) (by decide) (Nat.le_refl _)) (ShA.cons ((Sh.int (n := 3) ⟨by decide, by decide⟩).mono (D' := 3) (by decide) (Nat.le_refl _)) (ShA.cons (this.mono (b' := 21) (by decide) (by omega)) (ShA.nil (b := 0)))))).mono (by decide) (by decide)
def stpD : Stp → PyData
  | .out sw h => .tuple [.str "out", .int sw, .tuple (h.map .int)]
  | .lost e h => .tuple [.str "lost", .tuple [.int e.1, .int e.2], .tuple (h.map .int)]
  | .inn q => .tuple [.str "in", dK (plK q)]
theorem ints_dp {K : PySem.W.Frag} {H : Hp} : ∀ ns : List Int, DpAll K H (ns.map V.int) (ns.map PyData.int)
  | [] => .nil
  | n :: ns => .cons (.int n) (ints_dp ns)
theorem stp_dp {K : PySem.W.Frag} {H : Hp} {v : V} : ∀ {x : Stp}, StpAt H v x → Dp K H v (stpD x)
  | .out sw h, ⟨p, t, e, hp, ht⟩ => by
    subst e
    exact .tup (SqT.of hp) (.cons (.str _) (.cons (.int _) (.cons (.tup (SqT.of ht) (ints_dp h)) .nil)))
  | .lost x h, ⟨p, q, t, e, hp, hq, ht⟩ => by
    subst e
    exact .tup (SqT.of hp) (.cons (.str _) (.cons (.tup (SqT.of hq) (.cons (.int _) (.cons (.int _) .nil))) (.cons (.tup (SqT.of ht) (ints_dp h)) .nil)))
  | .inn q, ⟨p, u, e, hp, hu⟩ => by
    subst e
    exact .tup (SqT.of hp) (.cons (.str _) (.cons hu.dp .nil))
theorem ints_lay (ns : List Int) : PyData.canLayAll0 (ns.map .int) = true := by
  induction ns with
  | nil => simp [PyData.canLayAll0]
  | cons n ns ih => simp only [List.map_cons, PyData.canLayAll0, PyData.canLay0, ih, Bool.and_self]
theorem lay_str : (PyData.str "out").canLay0 = true ∧ (PyData.str "lost").canLay0 = true ∧ (PyData.str "in").canLay0 = true := by decide +kernel
theorem stp_ok : ∀ x : Stp, (stpD x).canLay0 = true ∧ (stpD x).depth ≤ 60
  | .out sw h => by
    have := depth_ints h
    constructor
    · simp only [stpD, PyData.canLay0, PyData.canLayAll0, ints_lay, Bool.and_true]
      exact lay_str.1
    · simp only [stpD, PyData.depth, PyData.depthAll]
      omega
  | .lost e h => by
    have := depth_ints h
    constructor
    · simp only [stpD, PyData.canLay0, PyData.canLayAll0, ints_lay, Bool.and_true]
      exact lay_str.2.1
    · simp only [stpD, PyData.depth, PyData.depthAll]
      omega
  | .inn q => by
    have := dK_dep (plK q)
    constructor
    · simp only [stpD, PyData.canLay0, PyData.canLayAll0, dK_lay, Bool.and_true]
      exact lay_str.2.2
    · simp only [stpD, PyData.depth, PyData.depthAll]
      omega
theorem shp_stps (xs : List Stp) : SeqAt.shaped (.list (xs.map stpD)) = true := shp_list fun d hd => by
  obtain ⟨x, _, rfl⟩ := List.mem_map.mp hd
  exact stp_ok x

/-- what the law shows before and behind -/
def keptD (ls : List Lk) (p0 p1 : List Part) : PyData := .list [grD 3 ls, .list [polD p0, polD p1]]
theorem kept_shows {ls : List Lk} {p0 p1 : List Part} (h1 : ls ∈ subs3) (h2 : LocOk p0) (h3 : LocOk p1) : Shows (keptD ls p0 p1) := by
  have := Sh.lst (ShA.cons ((sh_gr h1).mono (D' := 9) (by decide) (Nat.le_refl _)) (ShA.cons (Sh.lst (ShA.cons (sh_pol h2) (ShA.cons (sh_pol h3) (ShA.nil (b := 0))))) (ShA.nil (b := 0))))
  exact ⟨this.lay, Nat.le_trans this.dep (by decide), this.sho, Nat.le_trans this.blk (by decide), this.lvs⟩
def flyD (f : Fly) : PyData := .tuple [.int (f.1 : Nat), .int f.2.1, dK (plK f.2.2)]
def itsD : Stp → List PyData
  | .out sw h => [.str "out", .int sw, .tuple (h.map .int)]
  | .lost e h => [.str "lost", .tuple [.int e.1, .int e.2], .tuple (h.map .int)]
  | .inn q => [.str "in", dK (plK q)]
theorem its_stp : ∀ x : Stp, stpD x = .tuple (itsD x)
  | .out _ _ => rfl
  | .lost _ _ => rfl
  | .inn _ => rfl
def tldD (t : Tld) : PyData := .tuple (.int (t.1 : Nat) :: .int t.2.1 :: itsD t.2.2)
theorem fly_ok (f : Fly) : (flyD f).canLay0 = true ∧ (flyD f).depth ≤ 60 := by
  have := dK_dep (plK f.2.2)
  constructor
  · simp only [flyD, PyData.canLay0, PyData.canLayAll0, dK_lay, Bool.and_self]
  · simp only [flyD, PyData.depth, PyData.depthAll]
    omega
theorem tld_ok (t : Tld) : (tldD t).canLay0 = true ∧ (tldD t).depth ≤ 60 := by
  obtain ⟨h1, h2⟩ := stp_ok t.2.2
  rw [its_stp] at h1 h2
  constructor
  · simp only [PyData.canLay0] at h1
    simp only [tldD, PyData.canLay0, PyData.canLayAll0, h1, Bool.and_self]
  · have : ∀ x : Stp, PyData.depthAll (itsD x) ≤ 20 := fun x => by
      cases x with
      | out sw h =>
        have := depth_ints h
        simp only [itsD, PyData.depth, PyData.depthAll]
        omega
      | lost e h =>
        have := depth_ints h
        simp only [itsD, PyData.depth, PyData.depthAll]
        omega
      | inn q =>
        have := dK_dep (plK q)
        simp only [itsD, PyData.depth, PyData.depthAll]
        omega
    have := this t.2.2
    simp only [tldD, PyData.depth, PyData.depthAll]
    omega
section
variable {K : PySem.W.Frag} {H : Hp} {Q : VK}
theorem fly_dp {u : V} {f : Fly} (h : FlAt H u f) : Dp K H u (flyD f) := by
  obtain ⟨t, pv, rfl, ht, hp⟩ := h
  exact .tup (SqT.of ht) (.cons (.int _) (.cons (.int _) (.cons hp.dp .nil)))
theorem its_dp {vs : List V} : ∀ {x : Stp}, StpIt H vs x → DpAll K H vs (itsD x)
  | .out sw h, ⟨t, e, ht⟩ => by
    subst e
    exact .cons (.str _) (.cons (.int _) (.cons (.tup (SqT.of ht) (ints_dp h)) .nil))
  | .lost x h, ⟨q, t, e, hq, ht⟩ => by
    subst e
    exact .cons (.str _) (.cons (.tup (SqT.of hq) (.cons (.int _) (.cons (.int _) .nil))) (.cons (.tup (SqT.of ht) (ints_dp h)) .nil))
  | .inn q, ⟨u, e, hu⟩ => by
    subst e
    exact .cons (.str _) (.cons hu.dp .nil)
theorem tld_dp {u : V} {x : Tld} (h : TlAt H u x) : Dp K H u (tldD x) := by
  obtain ⟨p, vs, rfl, hp, hv⟩ := h
  exact .tup (SqT.of hp) (.cons (.int _) (.cons (.int _) (its_dp hv)))
/-- two lists of like rows do not differ -/
theorem w_neRows {α : Type} {R : V → α → Prop} {d : α → PyData} {p q : Addr} {us vs : List V} {xs : List α} (hd : ∀ u x, R u x → Dp K H u (d x)) (hok : ∀ x, (d x).canLay0 = true ∧ (d x).depth ≤ 60) (hp : H p = some (.lst us)) (hq : H q = some (.lst vs)) (r1 : Row R us xs) (r2 : Row R vs xs) (k : Q (.bl false) H) : rNeD K (.ref p) (.ref q) H Q :=
  w_neRefl (.lst (SqL.of hp) (r1.dpAll hd)) (.lst (SqL.of hq) (r2.dpAll hd)) (shp_list fun y hy => by
    obtain ⟨x, _, rfl⟩ := List.mem_map.mp hy
    exact hok x) k
end
local macro_rules | `(tactic| walk_at "v") => `(tactic| first | exact v0 | exact v1 | exact v2 | exact v3 | exact v4 | exact v5 | exact v6 | exact v7 | exact v8)
local macro_rules | `(tactic| walk_at "vs") => `(tactic| first | exact st0 | exact st1 | exact st2 | exact st3 | exact st4 | exact st5 | exact st6 | exact st7 | exact st8)
local macro_rules | `(tactic| walk_at "s") => `(tactic| first
  | with_reducible refine w_dget ?_
  | ((with_reducible refine' w_dgetZ ?h ?nd ?hk ?hv ?_); (case h => walk_at "g"); (case nd => walk_at "nd"); (case hk => walk_at "k"); (case hv => walk_at "v"))
  | ((with_reducible refine' w_dputZ ?hs ?h ?nd ?hk ?hv ?hu ?hl ?_); (case hs => assumption); (case h => walk_at "p"); (case nd => walk_at "nd"); (case hk => walk_at "k"); (case hv => walk_at "v"); (case hu => walk_at "vs"); (case hl => decide); intro _ _)
  | with_reducible refine w_gsub ?_
  | with_reducible refine w_setD ?_
  | with_reducible refine w_disp ?_
  | ((with_reducible refine' w_newP ?hs ?_); (case hs => assumption); intro _ _ _)
  | with_reducible refine w_pcons ?_
  | with_reducible refine w_pnil ?_)

local macro_rules | `(tactic| walk_at "s") => `(tactic| first
  | with_reducible refine w_nget ?_
  | with_reducible refine w_nin ?_
  | with_reducible refine w_nnot ?_
  | with_reducible refine w_nput ?_
  | with_reducible refine w_ndel ?_
  | with_reducible refine w_npop ?_
  | ((with_reducible refine' w_nnew ?hs ?_); (case hs => assumption); intro _ _ _))

local macro_rules | `(tactic| walk_at "s") => `(tactic| first
  | with_reducible refine w_ninF ?_
  | with_reducible refine w_nsetd ?_
  | with_reducible refine w_ckw ?_)

/-! ## [e for x in us if t] -/
section
variable {K : PySem.W.Frag} {σ : L2.St} {H : Hp} {Q : VK}
theorem w_lcFM {α β : Type} {RR : V → α → Prop} {tl te : TE} {tt : TT} {j : Nat} {vs : List Nat} {a : Addr} {us : List V} {xs : List α} (p : α → Bool) (f : α → β) (R : Hp → V → β → Prop) (hm : ∀ H1 H2 v y, (∀ p xs, H1 p = some (.tup xs) → H2 p = some (.tup xs)) → R H1 v y → R H2 v y) (hx : SqL K H a us) (hL : Row RR us xs) (hz : us.length ≤ 1000000)
    (htl : ∀ Q : VK, Q (.ref a) H → tl σ H Q) (hw : ∀ v, wipe ((wipe σ vs).set j (some v)) vs = wipe σ vs)
    (ht : ∀ u x H1, x ∈ xs → RR u x → Same H H1 → ∀ S : Bool → Hp → Prop, (∀ H2, Same H1 H2 → S (p x) H2) → tt ((wipe σ vs).set j (some u)) H1 S)
    (he : ∀ u x H1 (Q' : VK), x ∈ xs → RR u x → p x = true → Same H H1 → (∀ v H3, Same H1 H3 → R H3 v (f x) → Q' v H3) → te ((wipe σ vs).set j (some u)) H1 Q')
    (hq : ∀ D acc H', Hs H [(D, .lst acc)] H' → Row (R H') acc ((xs.filter p).map f) → Q (.ref D) H') : tLc (iList K tl) (gName j) tt te vs σ H Q := by
  refine w_lcLR (htl _ (w_listR hx fun D hD => ?_))
  refine turns_list (Body := LcBody (gName j) tt te vs σ D) (fun i H' => ∃ acc, Hs H [(D, .lst acc)] H' ∧ Row (R H') acc (((xs.take i).filter p).map f)) ⟨[], (Hs.start H).new hD, Row.nil⟩ (fun i H' _ ⟨_, h, _⟩ => h.same.seq hx) ?_ ?_
  · rintro i u H' hu ⟨acc, h1, h2⟩
    have hi := (List.getElem?_eq_some_iff.mp hu).1
    obtain ⟨x, hxi, hk⟩ := hL.get hu
    have hxm := List.mem_of_getElem? hxi
    refine w_name ⟨hw _, ht u x H' hxm hk h1.same _ fun H2 sb => ?_⟩
    have h3 := h1.keep sb
    have e1 := take_filter (p := p) hxi
    by_cases hp : p x = true
    · rw [if_pos hp]
      rw [if_pos hp] at e1
      refine he u x H2 _ hxm hk hp h3.same fun v H3 s3 r => ?_
      have hD3 : H3 D = some (.lst acc) := s3 _ _ h3.g0
      have hlt : acc.length ≤ i := by
        have h4 := h2.1
        have h5 := List.length_filter_le p (xs.take i)
        rw [List.length_map] at h4
        rw [List.length_take] at h5
        omega
      refine ⟨acc, hD3, szl (by omega), acc ++ [v], (h3.keep s3).p0 _, ?_⟩
      rw [e1, List.map_append]
      refine Row.mono (fun u x => hm H3 _ u x fun a xs => tup_but hD3 (fun _ z => by cases z) a xs) ((h2.mono fun u x => hm _ _ u x fun a xs e => s3 _ _ (sb _ _ e)).snoc r)
    · rw [if_neg hp]
      rw [if_neg hp, List.append_nil] at e1
      refine ⟨acc, h3, ?_⟩
      rw [e1]
      exact h2.mono fun u x => hm _ _ u x fun a xs e => sb _ _ e
  · rintro H' ⟨acc, h1, h2⟩
    rw [hL.1, List.take_length] at h2
    exact hq D acc H' h1 h2
theorem w_eqRefl {p q : V} {d : PyData} (h1 : Dp K H p d) (h2 : Dp K H q d) (hs : SeqAt.shaped d = true) (k : Q (.bl true) H) : rEqD K p q H Q :=
  ⟨d, d, h1, h2, hs, hs, by
    rw [SeqAt.eqv_refl _ (shp_can hs)]
    exact k⟩
end
/-! ## the law's own rows, and calls of the rollout -/
abbrev modL (m m0 m1 m2 m3 m4 : Addr) (n : Nat) (ms mt : List V) (xi xt xr : List Int) : List (Addr × HO) := [(m, .lst [.ref m0, .ref m1, .ref m2, .ref m3, .ref m4, .int (n : Nat)]), (m0, .lst (xi.map V.int)), (m1, .lst (xt.map V.int)), (m2, .lst (xr.map V.int)), (m3, .lst ms), (m4, .lst mt)]
theorem a4 {a b c d e : V} {l : List V} : atI (a :: b :: c :: d :: e :: l) 4 = some e := at_of (j := 4) rfl rfl
theorem a5 {a b c d e f : V} {l : List V} : atI (a :: b :: c :: d :: e :: f :: l) 5 = some f := at_of (j := 5) rfl rfl
section
variable {a : Ad} {B H : Hp} {Q : VK} {E : XK} {R : List (Addr × HO)} {x dx fl tl pp dd d1 d2 d3 : Addr} {g : V} {n : Nat} {fs ts : List V} {xi xt xr : List Int} {ls : List Lk} {F : List Fly}
theorem w_may {j : Nat} {dk : Str} {s : Int} (hs : Hs B (rolL a x dx fl tl g pp dd d1 d2 d3 n fs ts xi xt xr ++ R) H) (hg : GrAt B g 3 ls) (hF : Row (FlAt B) fs F) (hz : F.length ≤ 1000) (hj : deeds[j]? = some dk)
    (q : ∀ H', Hs B (rolL a x dx fl tl g pp dd d1 d2 d3 n fs ts xi xt xr ++ R) H' → Q (.bl (mayM xi xt xr F j s)) H') : sp_may a [.ref x, .str dk, .int s] H Q E := by
  obtain ⟨sB, h1, _⟩ := hs.frame (rolL a x dx fl tl g pp dd d1 d2 d3 n fs ts xi xt xr)
  exact ⟨_, x, dx, fl, tl, pp, dd, d1, d2, d3, g, n, fs, ts, xi, xt, xr, ls, F, j, dk, s, rfl, h1, hg.same sB, hF.mono fun u f => FlAt.mono fun _ _ e => sB _ _ e, hz, hj, fun H' sm => q H' (hs.keep sm)⟩
theorem w_perform {j : Nat} {dk : Str} {s : Int} (hs : Hs B (rolL a x dx fl tl g pp dd d1 d2 d3 n fs ts xi xt xr ++ R) H) (hR : R.all (fun e => noTup e.2) = true) (hg : GrAt B g 3 ls) (hF : Row (FlAt B) fs F) (hz : F.length ≤ 1000) (hj : deeds[j]? = some dk) (h0 : 1 ≤ s) (h3 : s ≤ 3) (si : Sw3 xi) (st : Sw3 xt) (sr : Sw3 xr)
    (q1 : mayM xi xt xr F j s = false → ∀ d p B2 H', Same B B2 → B2 p = some (.tup [.str dk, .int s]) → Hs B2 ((d, .xd [("state", .ref p)]) :: (rolL a x dx fl tl g pp dd d1 d2 d3 n fs ts xi xt xr ++ R)) H' → E (.ref a.StateError) (some d) H')
    (q2 : mayM xi xt xr F j s = true → ∀ H', Hs B (rolL a x dx fl tl g pp dd d1 d2 d3 n fs ts (addM j 0 s xi) (addM j 1 s xt) (addM j 2 s xr) ++ R) H' → Q .non H') : sp_perform a [.ref x, .str dk, .int s] H Q E := by
  obtain ⟨B', sB, h1, back⟩ := hs.frameG (rolL a x dx fl tl g pp dd d1 d2 d3 n fs ts xi xt xr) hR
  have z1 := si.few
  have z2 := st.few
  have z3 := sr.few
  refine ⟨B', x, dx, fl, tl, pp, dd, d1, d2, d3, g, n, fs, ts, xi, xt, xr, ls, F, j, dk, s, rfl, h1, hg.same sB, hF.mono fun u f => FlAt.mono fun _ _ e => sB _ _ e, hz, hj, by omega, by omega, by omega, by omega, by omega, fun hm d p B2 H' s2 hp h2 => ?_, fun hm H' h2 => ?_⟩
  · obtain ⟨B3, s3, h3, tp⟩ := back _ _ _ s2 h2
    exact q1 hm d p B3 H' s3 (tp _ _ hp) h3
  · obtain ⟨_, _, _, back2⟩ : ∃ B'', Same B B'' ∧ Hs B'' _ H ∧ ∀ A' H', Hs B'' A' H' → Hs B (A' ++ R) H' := ⟨_, hs.frame (rolL a x dx fl tl g pp dd d1 d2 d3 n fs ts xi xt xr)⟩
    obtain ⟨B3, s3, h3, _⟩ := back _ _ _ (Same.refl _) h2
    exact q2 hm H' (h3.down s3)
theorem w_has {s v : Int} (hs : Hs B (rolL a x dx fl tl g pp dd d1 d2 d3 n fs ts xi xt xr ++ R) H) (hg : GrAt B g 3 ls) (q : Q (.bl (hasM xi xr s v)) H) : sp_has a [.ref x, .int s, .int v] H Q E := by
  obtain ⟨sB, h1, _⟩ := hs.frame (rolL a x dx fl tl g pp dd d1 d2 d3 n fs ts xi xt xr)
  exact ⟨_, x, dx, fl, tl, pp, dd, d1, d2, d3, g, n, fs, ts, xi, xt, xr, ls, s, v, rfl, h1, hg.same sB, q⟩
theorem w_enter {ta : Addr} {pl : Plc} {s p : Int} (hs : Hs B (rolL a x dx fl tl g pp dd d1 d2 d3 n fs ts xi xt xr ++ R) H) (hR : R.all (fun e => noTup e.2) = true) (hz : fs.length ≤ 1000) (hta : B ta = some (.tup (pl.2.2.map V.int))) (e1 : s = pl.1) (e2 : p = pl.2.1)
    (q : ∀ u B2 H', Same B B2 → Hs B2 (rolL a x dx fl tl g pp dd d1 d2 d3 (n + 1) (fs ++ [u]) ts xi xt xr ++ R) H' → FlAt B2 u (n, verM xt pl.1, pl) → Q (.int (n : Nat)) H') : sp_enter a [.ref x, .int s, .int p, .ref ta] H Q E := by
  subst e1
  subst e2
  obtain ⟨B', sB, h1, back⟩ := hs.frameG (rolL a x dx fl tl g pp dd d1 d2 d3 n fs ts xi xt xr) hR
  refine ⟨B', x, dx, fl, tl, pp, dd, d1, d2, d3, ta, g, n, fs, ts, xi, xt, xr, pl, rfl, h1, hz, sB _ _ hta, fun u B2 H' s2 h2 hu => ?_⟩
  obtain ⟨B3, s3, h3, tp⟩ := back _ _ _ s2 h2
  exact q u B3 H' s3 h3 (hu.mono tp)
theorem w_move {v0 v1 : V} {p0 p1 : List Part} {Td : List Tld} {i : Nat} (hs : Hs B (rolL a x dx fl tl g pp dd d1 d2 d3 n fs ts xi xt xr ++ R) H) (hR : R.all (fun e => noTup e.2) = true) (hg : GrAt B g 3 ls) (hpp : B pp = some (.tup [v0, v1])) (h0 : PolAt B v0 p0) (h1 : PolAt B v1 p1) (z0 : p0.length ≤ 6) (z1 : p1.length ≤ 6) (hF : Row (FlAt B) fs F) (hT : Row (TlAt B) ts Td) (zF : F.length ≤ 900) (zT : Td.length ≤ 900) {f : Fly} (hf : F[i]? = some f) (hv : f.2.1 = 0 ∨ f.2.1 = 1) (hl : f.2.2.2.2.length = 3) (hh : hasM xi xr f.2.2.1 f.2.1 = true)
    (q : ∀ B2 fs2 ts2 H', Same B B2 → Hs B2 (rolL a x dx fl tl g pp dd d1 d2 d3 n fs2 ts2 xi xt xr ++ R) H' → Row (FlAt B2) fs2 (moveF p0 p1 ls F i f) → Row (TlAt B2) ts2 (moveT p0 p1 ls Td f) → Q .non H') : sp_move a [.ref x, .int (i : Nat)] H Q E := by
  obtain ⟨B', sB, h2, back⟩ := hs.frameG (rolL a x dx fl tl g pp dd d1 d2 d3 n fs ts xi xt xr) hR
  refine ⟨B', x, dx, fl, tl, pp, dd, d1, d2, d3, g, v0, v1, n, fs, ts, xi, xt, xr, ls, p0, p1, F, Td, i, rfl, h2, hg.same sB, sB _ _ hpp, h0.same sB, h1.same sB, z0, z1, hF.mono fun u f => FlAt.mono fun _ _ e => sB _ _ e, hT.mono fun u f => TlAt.mono fun _ _ e => sB _ _ e, zF, zT, .inr ⟨f, hf, hv, hl, hh, fun B2 fs2 ts2 H' s2 h3 r1 r2 => ?_⟩⟩
  obtain ⟨B3, s3, h4, tp⟩ := back _ _ _ s2 h3
  exact q B3 fs2 ts2 H' s3 h4 (r1.mono fun u f => FlAt.mono tp) (r2.mono fun u f => TlAt.mono tp)
theorem w_moveE {v0 v1 : V} {p0 p1 : List Part} {Td : List Tld} {i : Nat} (hs : Hs B (rolL a x dx fl tl g pp dd d1 d2 d3 n fs ts xi xt xr ++ R) H) (hg : GrAt B g 3 ls) (hpp : B pp = some (.tup [v0, v1])) (h0 : PolAt B v0 p0) (h1 : PolAt B v1 p1) (z0 : p0.length ≤ 6) (z1 : p1.length ≤ 6) (hF : Row (FlAt B) fs F) (hT : Row (TlAt B) ts Td) (zF : F.length ≤ 900) (zT : Td.length ≤ 900) (hi : F.length ≤ i) (hi2 : i < 10 ^ 10)
    (q : ∀ d H', Hs B ((d, .xd [("state", .int (i : Nat))]) :: (rolL a x dx fl tl g pp dd d1 d2 d3 n fs ts xi xt xr ++ R)) H' → E (.ref a.StateError) (some d) H') : sp_move a [.ref x, .int (i : Nat)] H Q E := by
  obtain ⟨sB, h2, back⟩ := hs.frame (rolL a x dx fl tl g pp dd d1 d2 d3 n fs ts xi xt xr)
  exact ⟨_, x, dx, fl, tl, pp, dd, d1, d2, d3, g, v0, v1, n, fs, ts, xi, xt, xr, ls, p0, p1, F, Td, i, rfl, h2, hg.same sB, sB _ _ hpp, h0.same sB, h1.same sB, z0, z1, hF.mono fun u f => FlAt.mono fun _ _ e => sB _ _ e, hT.mono fun u f => TlAt.mono fun _ _ e => sB _ _ e, zF, zT, .inl ⟨hi, hi2, fun d H' h3 => q d H' (back _ _ h3)⟩⟩
end
section
variable {P : Program} [IsP P] {w : World} {K : PySem.W.Frag} {mg : Str → Option Value} {base : Heap} {a : Ad}
def sp__law_may : Sp := fun vs H Q _ => ∃ (m m0 m1 m2 m3 : Addr) (r4 r5 : V) (ms : List V) (xi xt xr : List Int) (F : List Fly) (j : Nat) (dk : Str) (s : Int), vs = [.ref m, .str dk, .int s] ∧ H m = some (.lst [.ref m0, .ref m1, .ref m2, .ref m3, r4, r5]) ∧ H m0 = some (.lst (xi.map V.int)) ∧ H m1 = some (.lst (xt.map V.int)) ∧ H m2 = some (.lst (xr.map V.int)) ∧ H m3 = some (.lst ms) ∧ Row (FlAt H) ms F ∧ F.length ≤ 1000 ∧ deeds[j]? = some dk ∧ 1 ≤ s ∧ s ≤ 3 ∧
  ∀ H', Same H H' → Q (.bl (mayM xi xt xr F j s)) H'
theorem ok__law_may (T : Txt w K mg a) : FnOk P w K mg base CX0 1 a._law_may a.fd__law_may ["m", "deed", "switch"] sp__law_may := by
  refine T.fn__law_may.ok sc__law_may (fun vs H Q E h => ?_) (fun cdv A outer s H vs Q E hr h => ?_)
  · obtain ⟨_, _, _, _, _, _, _, _, _, _, _, _, _, _, _, rfl, _⟩ := h
    rfl
  · obtain ⟨m, m0, m1, m2, m3, r4, r5, ms, xi, xt, xr, F, j, dk, s, rfl, hm, hm0, hm1, hm2, hm3, hF, hz, hj, h1, h3, k⟩ := h
    refine ⟨_, (pss_cons (ps_if (pt_cmpR op_eq (pv 1) pe_str (nomark _))
  (pss_one (ps_ret (pe_cmpR (op_niK (K := K)) (pv 2) (pe_ix (ix_listK (K := K)) (pv 0) pe_int (fun _ _ => rfl)) (by rfl))))
  pss_nil)
  (pss_cons (ps_if (pt_cmpR op_eq (pv 1) pe_str (nomark _))
  (pss_one (ps_ret (pe_and (pe_cmpR (op_niK (K := K)) (pv 2) (pe_ix (ix_listK (K := K)) (pv 0) pe_int (fun _ _ => rfl)) (by rfl)) (pe_one (pe_cmpR op_eq (pe_callB (call_lenK (K := K)) (by rfl) T.mg_len PySem.boot_len (pa_cons (pe_ix (ix_listK (K := K)) (pv 0) pe_int (fun _ _ => rfl)) pa_nil)) pe_int (nomark _))))))
  pss_nil)
  (pss_one (ps_ret (pe_and (pe_cmpR (op_niK (K := K)) (pv 2) (pe_ix (ix_listK (K := K)) (pv 0) pe_int (fun _ _ => rfl)) (by rfl)) (pe_and (pe_cmpR op_eq (pe_callB (call_lenK (K := K)) (by rfl) T.mg_len PySem.boot_len (pa_cons (pe_ix (ix_listK (K := K)) (pv 0) pe_int (fun _ _ => rfl)) pa_nil)) pe_int (nomark _)) (pe_one (pe_cmpR op_eq (pe_callB (call_lenK (K := K)) (by rfl) T.mg_len PySem.boot_len (pa_cons (pe_lc (own := [("row", 3)]) (g := (gName 3)) rfl sc__law_may.nd (pi_listK (K := K) (pe_ix (ix_listK (K := K)) (pv 0) pe_int (fun _ _ => rfl))) (blkOk_by (own := [("row", 3)]) (N := N__law_may) (sc := defScope s__law_may) (by decide +kernel)) (fun _ _ _ _ _ => by exact (pg_name (i := 3) sc__law_may.nd rfl (Or.inl rfl))) (fun _ _ _ _ _ => by exact pts_one (pt_cmpR op_eq (pe_ix (ix_tupK (K := K)) (pv 3) pe_int (fun _ _ => rfl)) pe_int (nomark _))) (fun _ _ _ _ _ => by exact (pv 3))) pa_nil)) pe_int (nomark _))))))))), ?_⟩
    have hFl : ms.length = F.length := hF.1
    unfold mayM at k
    rw [decide_eq_true h1, decide_eq_true h3, Bool.true_and, Bool.true_and] at k
    walk_at "ss"
    match j, hj, k with
    | 0, hj, k =>
      cases hj
      rw [if_pos (show decide (("install" : Str) = ("install" : Str)) = true from decide_eq_true rfl)]
      walk_at "ss"
      refine w_inIs (SqL.of hm0) ?_
      have := k H (Same.refl _)
      rw [if_neg (by decide), if_neg (by decide), Bool.and_true] at this
      exact this
    | 1, hj, k =>
      cases hj
      rw [if_neg (show ¬ decide (("turn" : Str) = ("install" : Str)) = true by decide +kernel)]
      walk_at "ss"
      rw [if_pos (show decide (("turn" : Str) = ("turn" : Str)) = true from decide_eq_true rfl)]
      walk_at "ss"
      refine w_inIs (SqL.of hm1) ?_
      have := k H (Same.refl _)
      rw [if_pos rfl] at this
      refine ⟨_, rfl, ?_⟩
      show (if (!decide (s ∈ xt)) = true then _ else _)
      cases hb : decide (s ∈ xt) with
      | true =>
        refine iteF ?_
        rw [show decide (s ∈ [xi, xt, xr].getD 1 []) = decide (s ∈ xt) from rfl, hb, Bool.not_true, Bool.false_and] at this
        exact this
      | false =>
        refine iteT ?_
        walk_at "ss"
        rw [List.length_map]
        rw [show decide (s ∈ [xi, xt, xr].getD 1 []) = decide (s ∈ xt) from rfl, hb, Bool.not_false, Bool.true_and] at this
        exact this
    | 2, hj, k =>
      cases hj
      rw [if_neg (show ¬ decide (("remove" : Str) = ("install" : Str)) = true by decide +kernel)]
      walk_at "ss"
      rw [if_neg (show ¬ decide (("remove" : Str) = ("turn" : Str)) = true by decide +kernel)]
      walk_at "ss"
      refine w_inIs (SqL.of hm2) ?_
      rw [if_neg (by decide), if_pos rfl] at k
      refine ⟨_, rfl, ?_⟩
      show (if (!decide (s ∈ xr)) = true then _ else _)
      cases hb : decide (s ∈ xr) with
      | true =>
        refine iteF ?_
        have := k H (Same.refl _)
        rw [show decide (s ∈ [xi, xt, xr].getD 2 []) = decide (s ∈ xr) from rfl, hb, Bool.not_true, Bool.false_and] at this
        exact this
      | false =>
        refine iteT ?_
        rw [show decide (s ∈ [xi, xt, xr].getD 2 []) = decide (s ∈ xr) from rfl, hb, Bool.not_false, Bool.true_and] at k
        walk_at "ss"
        rw [List.length_map]
        refine ifd (fun hl => ?_) (fun hl => ?_)
        · walk_at "ss"
          refine w_lcFR (RR := FlAt H) (fun f => decide (f.2.1 = 0)) (SqL.of hm3) hF (by omega) (fun Q q => by walk_at "ss"; exact q) (fun _ => rfl) (fun _ => rfl) (fun u f H1 _ hu sm R hR => ?_) fun D acc H1 hs1 hacc => ?_
          · obtain ⟨t, pv, rfl, ht, _⟩ := hu
            have ht1 := sm _ _ ht
            walk_at "ss"
            exact hR H1 (Same.refl _)
          · walk_at "ss"
            have := k H1 hs1.same
            rw [decide_eq_true hl, Bool.true_and] at this
            have e : decide ((acc.length : Int) = 0) = F.all fun f => decide (f.2.1 ≠ 0) := by
              rw [hacc.1, Bool.eq_iff_iff, decide_eq_true_iff, List.all_eq_true]
              constructor
              · intro h f hf
                have h0 : F.filter (fun f => decide (f.2.1 = 0)) = [] := List.length_eq_zero_iff.mp (by omega)
                exact decide_eq_true fun z => (List.filter_eq_nil_iff.mp h0 f hf) (decide_eq_true z)
              · intro h
                have h0 : F.filter (fun f => decide (f.2.1 = 0)) = [] := List.filter_eq_nil_iff.mpr fun f hf z => of_decide_eq_true (h f hf) (of_decide_eq_true z)
                rw [h0]
                rfl
            rw [e]
            exact this
        · have := k H (Same.refl _)
          rw [decide_eq_false hl, Bool.false_and] at this
          exact this
end
local macro_rules | `(tactic| walk_at "v") => `(tactic| first | exact v0 | exact v1 | exact v2 | exact v3 | exact v4 | exact v5 | exact v6 | exact v7 | exact v8)
local macro_rules | `(tactic| walk_at "vs") => `(tactic| first | exact st0 | exact st1 | exact st2 | exact st3 | exact st4 | exact st5 | exact st6 | exact st7 | exact st8)
local macro_rules | `(tactic| walk_at "s") => `(tactic| first
  | with_reducible refine w_dget ?_
  | ((with_reducible refine' w_dgetZ ?h ?nd ?hk ?hv ?_); (case h => walk_at "g"); (case nd => walk_at "nd"); (case hk => walk_at "k"); (case hv => walk_at "v"))
  | ((with_reducible refine' w_dputZ ?hs ?h ?nd ?hk ?hv ?hu ?hl ?_); (case hs => assumption); (case h => walk_at "p"); (case nd => walk_at "nd"); (case hk => walk_at "k"); (case hv => walk_at "v"); (case hu => walk_at "vs"); (case hl => decide); intro _ _)
  | with_reducible refine w_gsub ?_
  | with_reducible refine w_setD ?_
  | with_reducible refine w_disp ?_
  | ((with_reducible refine' w_newP ?hs ?_); (case hs => assumption); intro _ _ _)
  | with_reducible refine w_pcons ?_
  | with_reducible refine w_pnil ?_)

local macro_rules | `(tactic| walk_at "s") => `(tactic| first
  | with_reducible refine w_nget ?_
  | with_reducible refine w_nin ?_
  | with_reducible refine w_nnot ?_
  | with_reducible refine w_nput ?_
  | with_reducible refine w_ndel ?_
  | with_reducible refine w_npop ?_
  | ((with_reducible refine' w_nnew ?hs ?_); (case hs => assumption); intro _ _ _))

local macro_rules | `(tactic| walk_at "s") => `(tactic| first
  | with_reducible refine w_ninF ?_
  | with_reducible refine w_nsetd ?_
  | with_reducible refine w_ckw ?_)

section
variable {P : Program} [IsP P] {w : World} {K : PySem.W.Frag} {mg : Str → Option Value} {base : Heap} {a : Ad}
theorem deed_shp {j : Nat} {dk : Str} {s : Int} (hj : deeds[j]? = some dk) : SeqAt.shaped (.tuple [.str dk, .int s]) = true := by
  have hd : ∀ d ∈ deeds, (PyData.str d).canLay0 = true := by decide +kernel
  have := hd dk (List.mem_of_getElem? hj)
  unfold SeqAt.shaped
  simp [PyData.canLay0, PyData.canLayAll0, PyData.depth, PyData.depthAll] at this ⊢
  exact this
theorem deed_idx : deeds.idxOf ("install" : Str) = 0 ∧ deeds.idxOf ("turn" : Str) = 1 ∧ deeds.idxOf ("remove" : Str) = 2 := by decide +kernel
theorem map_snoc (xs : List Int) (s : Int) : xs.map V.int ++ [.int s] = (xs ++ [s]).map V.int := by rw [List.map_append]; rfl
def sp__law_perform (a : Ad) : Sp := fun vs H Q _ => ∃ (B : Hp) (x dx fl tl pp dd d1 d2 d3 m m0 m1 m2 m3 m4 : Addr) (g : V) (n : Nat) (fs ts ms mt : List V) (xi xt xr : List Int) (ls : List Lk) (F : List Fly) (j : Nat) (dk : Str) (s : Int), vs = [.ref x, .ref m, .str dk, .int s] ∧ Hs B (rolL a x dx fl tl g pp dd d1 d2 d3 n fs ts xi xt xr ++ modL m m0 m1 m2 m3 m4 n ms mt xi xt xr) H ∧ GrAt B g 3 ls ∧ Row (FlAt B) fs F ∧ Row (FlAt B) ms F ∧ F.length ≤ 1000 ∧ deeds[j]? = some dk ∧ 1 ≤ s ∧ s ≤ 3 ∧ Sw3 xi ∧ Sw3 xt ∧ Sw3 xr ∧
  (mayM xi xt xr F j s = false → ∀ B2 H', Same B B2 → Hs B2 (rolL a x dx fl tl g pp dd d1 d2 d3 n fs ts xi xt xr ++ modL m m0 m1 m2 m3 m4 n ms mt xi xt xr) H' → Q (.bl true) H') ∧
  (mayM xi xt xr F j s = true → ∀ H', Hs B (rolL a x dx fl tl g pp dd d1 d2 d3 n fs ts (addM j 0 s xi) (addM j 1 s xt) (addM j 2 s xr) ++ modL m m0 m1 m2 m3 m4 n ms mt (addM j 0 s xi) (addM j 1 s xt) (addM j 2 s xr)) H' → Q (.bl true) H')
theorem ok__law_perform (T : Txt w K mg a) : FnOk P w K mg base CX0 6 a._law_perform a.fd__law_perform ["net", "m", "deed", "switch"] (sp__law_perform a) := by
  have G_Rollout_may := ok_Rollout_may (P := P) (w := w) (base := base) T
  have G_Rollout_perform := ok_Rollout_perform (P := P) (w := w) (base := base) T
  have G__law_may := ok__law_may (P := P) (w := w) (base := base) T
  refine T.fn__law_perform.ok sc__law_perform (fun vs H Q E h => ?_) (fun cdv A outer s H vs Q E hr h => ?_)
  · obtain ⟨_, _, _, _, _, _, _, _, _, _, _, _, _, _, _, _, _, _, _, _, _, _, _, _, _, _, _, _, _, _, rfl, _⟩ := h
    rfl
  · obtain ⟨B, x, dx, fl, tl, pp, dd, d1, d2, d3, m, m0, m1, m2, m3, m4, g, n, fs, ts, ms, mt, xi, xt, xr, ls, F, j, dk, s, rfl, hs, hg, hF, hM, hz, hj, h1, h3, si, st, sr, k1, k2⟩ := h
    have hu := hu_of hr
    have c1 := T.cl_Rollout
    refine ⟨_, (pss_cons (ps_set (i := 4) sc__law_perform.nd rfl (Or.inl rfl) (pe_call G__law_may (hr.mono (by first | decide | omega)) rfl T.mg__law_may T.kp__law_may T.bi__law_may .nil pass0 (pa_cons (pv 1) (pa_cons (pv 2) (pa_cons (pv 3) pa_nil)))))
  (pss_cons (ps_if (pt_cmpR op_ne (pe_meth (pv 0) T.cl_Rollout T.me_Rollout_may G_Rollout_may (hr.mono (by first | decide | omega)) T.bi_Rollout_may .nil pass0 (pa_cons (pv 2) (pa_cons (pv 3) pa_nil))) (pv 4) (nomark _))
  (pss_one (ps_ret pe_bl))
  pss_nil)
  (pss_cons (ps_try_as (i := 5) rfl rfl sc__law_perform.nd rfl rfl ⟨rfl, by decide, .inl T.mg_StateError⟩ takes0 (fun W pn xe tk _ => by exact (pss_one (ps_expr (pe_methQ (pv 0) T.cl_Rollout T.me_Rollout_perform G_Rollout_perform (hr.mono (by first | decide | omega)) T.bi_Rollout_perform (fun σ => passAt tk σ) (pa_cons (pv 2) (pa_cons (pv 3) pa_nil)))))) (fun a1 oe cls dd pn hz hf => by exact (pss_one (ps_ret (pe_and (pe_not (pv 4)) (pe_one (pe_cmpR (op_eqDK (K := K) hr.units) (pe_xf T.xf_StateError T.no_StateError_state hz hf (pv 5)) (pe_tup (pa_cons (pv 2) (pa_cons (pv 3) pa_nil))) (nomark _))))))))
  (pss_cons (ps_expr (pe_bmK (K := K) PySem.F.plainAttrs_list PySem.F.slot_list_append PySem.F.type_list_append mt_append (pe_ix (ix_listK (K := K)) (pv 1) (pe_bmK (K := K) PySem.F.plainAttrs_list PySem.F.slot_list_index PySem.F.type_list_index (mt_indexS (K := K)) (pe_lst (pa_cons pe_str (pa_cons pe_str (pa_cons pe_str pa_nil)))) (pa_cons (pv 2) pa_nil)) (fun _ _ => rfl)) (pa_cons (pv 3) pa_nil)))
  (pss_one (ps_ret (pv 4))))))), ?_⟩
    have hs : Hs B [_, _, _, _, _, _, _, _, _, _, _, _, _] H := hs
    walk_at "ss"
    refine ⟨m, m0, m1, m2, m3, _, _, ms, xi, xt, xr, F, j, dk, s, rfl, hs.g7, hs.g8, hs.g9, hs.g10, hs.g11, hM.mono fun u f => FlAt.mono hs.tups, hz, hj, h1, h3, fun H1 sm1 => ?_⟩
    replace hs := hs.keep sm1
    clear sm1
    walk_at "ss"
    refine w_may (R := modL m m0 m1 m2 m3 m4 n ms mt xi xt xr) hs hg hF hz hj fun H2 hs2 => ?_
    clear hs
    have hs2 : Hs B [_, _, _, _, _, _, _, _, _, _, _, _, _] H2 := hs2
    walk_at "ss"
    rw [decide_eq_true (rfl : mayM xi xt xr F j s = mayM xi xt xr F j s), Bool.not_true]
    refine iteF ?_
    walk_at "ss"
    refine w_perform (R := modL m m0 m1 m2 m3 m4 n ms mt xi xt xr) hs2 rfl hg hF hz hj h1 h3 si st sr (fun hm d p B3 H3 sB hp hs3 => ?_) (fun hm H3 hs3 => ?_)
    · clear hs2
      have hs3 : Hs B3 [_, _, _, _, _, _, _, _, _, _, _, _, _, _] H3 := hs3
      refine w_was T.te_StateError fun e he => ?_
      rw [hm]
      walk_at "ss"
      refine iteT ?_
      walk_at "ss"
      rename_i t H4 hs4
      refine w_eqRefl (d := .tuple [.str dk, .int s]) (.tup (SqT.of (hs4.same _ _ hp)) (.cons (.str _) (.cons (.int _) .nil))) (.tup (SqT.of hs4.g0) (.cons (.str _) (.cons (.int _) .nil))) (deed_shp hj) ?_
      exact k1 hm B3 H4 sB hs4.tl.tl
    · clear hs2
      have hs3 : Hs B [_, _, _, _, _, _, _, _, _, _, _, _, _] H3 := hs3
      rw [hm]
      replace k2 := k2 hm
      walk_at "ss"
      rename_i l H4 hs4
      have z1 := si.few
      have z2 := st.few
      have z3 := sr.few
      refine w_idxS (xs := deeds) (SqL.of hs4.g0) rfl (List.mem_of_getElem? hj) ?_
      match j, hj, k2, hs4 with
      | 0, hj, k2, hs4 =>
        cases hj
        rw [deed_idx.1]
        walk_at "ss"
        rename_i H5 hs5
        rw [map_snoc] at hs5
        exact k2 H5 hs5.tl
      | 1, hj, k2, hs4 =>
        cases hj
        rw [deed_idx.2.1]
        walk_at "ss"
        rename_i H5 hs5
        rw [map_snoc] at hs5
        exact k2 H5 hs5.tl
      | 2, hj, k2, hs4 =>
        cases hj
        rw [deed_idx.2.2]
        walk_at "ss"
        rename_i H5 hs5
        rw [map_snoc] at hs5
        exact k2 H5 hs5.tl
/-! ## the law's moves -/
structure MvOk (B : Hp) (pl g v0 v1 : V) (p0 p1 : List Part) (ls : List Lk) : Prop where
  pol : ∃ l, pl = .ref l ∧ B l = some (.lst [v0, v1])
  h0 : PolAt B v0 p0
  h1 : PolAt B v1 p1
  o0 : LocOk p0
  o1 : LocOk p1
  hg : GrAt B g 3 ls
  hls : ls.Sublist rows3
theorem MvOk.same {B B' : Hp} {pl g v0 v1 : V} {p0 p1 : List Part} {ls : List Lk} (h : MvOk B pl g v0 v1 p0 p1 ls) (s : Same B B') : MvOk B' pl g v0 v1 p0 p1 ls := by
  obtain ⟨⟨l, e, hl⟩, h0, h1, o0, o1, hg, hls⟩ := h
  exact ⟨⟨l, e, s _ _ hl⟩, h0.same s, h1.same s, o0, o1, hg.same s, hls⟩
def sp__law_move (a : Ad) : Sp := fun vs H Q _ => ∃ (B : Hp) (x dx fl tl pp dd d1 d2 d3 m m0 m1 m2 m3 m4 : Addr) (g v0 v1 pl : V) (n : Nat) (fs ts ms mt : List V) (xi xt xr : List Int) (ls : List Lk) (p0 p1 : List Part) (F : List Fly) (Td : List Tld) (i : Nat) (f : Fly), vs = [.ref x, .ref m, .int (i : Nat), pl, g] ∧ Hs B (rolL a x dx fl tl g pp dd d1 d2 d3 n fs ts xi xt xr ++ modL m m0 m1 m2 m3 m4 n ms mt xi xt xr) H ∧ MvOk B pl g v0 v1 p0 p1 ls ∧ B pp = some (.tup [v0, v1]) ∧ Row (FlAt B) fs F ∧ Row (FlAt B) ms F ∧ Row (TlAt B) ts Td ∧ Row (TlAt B) mt Td ∧ F.length ≤ 900 ∧ Td.length ≤ 900 ∧ RInv xi xt xr F ∧ F[i]? = some f ∧
  ∀ B2 fs2 ts2 ms2 mt2 H', Same B B2 → Hs B2 (rolL a x dx fl tl g pp dd d1 d2 d3 n fs2 ts2 xi xt xr ++ modL m m0 m1 m2 m3 m4 n ms2 mt2 xi xt xr) H' → Row (FlAt B2) fs2 (moveF p0 p1 ls F i f) → Row (FlAt B2) ms2 (moveF p0 p1 ls F i f) → Row (TlAt B2) ts2 (moveT p0 p1 ls Td f) → Row (TlAt B2) mt2 (moveT p0 p1 ls Td f) → Q (.bl true) H'
theorem ok__law_move (T : Txt w K mg a) : FnOk P w K mg base CX0 12 a._law_move a.fd__law_move ["net", "m", "index", "policies", "graph"] (sp__law_move a) := by
  have G_Rollout_has := ok_Rollout_has (P := P) (w := w) (base := base) T
  have G_Rollout_move := ok_Rollout_move (P := P) (w := w) (base := base) T
  have G__law_steps := ok__law_steps (P := P) (w := w) (base := base) T
  refine T.fn__law_move.ok sc__law_move (fun vs H Q E h => ?_) (fun cdv A outer s H vs Q E hr h => ?_)
  · obtain ⟨_, _, _, _, _, _, _, _, _, _, _, _, _, _, _, _, _, _, _, _, _, _, _, _, _, _, _, _, _, _, _, _, _, _, _, rfl, _⟩ := h
    rfl
  · obtain ⟨B, x, dx, fl, tl, pp, dd, d1, d2, d3, m, m0, m1, m2, m3, m4, g, v0, v1, pl, n, fs, ts, ms, mt, xi, xt, xr, ls, p0, p1, F, Td, i, f, rfl, hs, hmv, hpp, hF, hM, hT, hN, zF, zT, hI, hf, k⟩ := h
    have hu := hu_of hr
    have c1 := T.cl_Rollout
    have hMl : ms.length = F.length := hM.1
    have hNl : mt.length = Td.length := hN.1
    have hil := (List.getElem?_eq_some_iff.mp hf).1
    have hmem := List.mem_of_getElem? hf
    obtain ⟨plA, rfl, hplA⟩ := hmv.pol
    refine ⟨_, (pss_cons (ps_asg (pe_bmK (K := K) PySem.F.plainAttrs_list PySem.F.slot_list_pop PySem.F.type_list_pop mt_popAt (pe_ix (ix_listK (K := K)) (pv 1) pe_int (fun _ _ => rfl)) (pa_cons (pv 2) pa_nil)) (pg_tupK (K := K) rfl (pgs_cons (pg_name (i := 5) sc__law_move.nd rfl (Or.inl rfl)) (pgs_cons (pg_name (i := 6) sc__law_move.nd rfl (Or.inl rfl)) (pgs_cons (pg_name (i := 7) sc__law_move.nd rfl (Or.inl rfl)) pgs_nil)))))
  (C8.pss_cut (ps_if (PW.pt (pw_or (pt_not (pt_val (pe_meth (pv 0) T.cl_Rollout T.me_Rollout_has G_Rollout_has (hr.mono (by first | decide | omega)) T.bi_Rollout_has .nil pass0 (pa_cons (pe_ix (ix_tupK (K := K)) (pv 7) pe_int (fun _ _ => rfl)) (pa_cons (pv 6) pa_nil))))) (pw_or1 (pt_ifE (pt_cmpR op_eq (pv 6) pe_int (nomark _)) (pt_cmpR (op_niK (K := K)) (pe_ix (ix_tupK (K := K)) (pv 7) pe_int (fun _ _ => rfl)) (pe_ix (ix_listK (K := K)) (pv 1) pe_int (fun _ _ => rfl)) (by rfl)) (pt_cmpR (op_inK (K := K)) (pe_ix (ix_tupK (K := K)) (pv 7) pe_int (fun _ _ => rfl)) (pe_ix (ix_listK (K := K)) (pv 1) pe_int (fun _ _ => rfl)) (by rfl))))))
  (pss_one (ps_ret pe_bl))
  pss_nil)
  (pss_cons (ps_expr (pe_meth (pv 0) T.cl_Rollout T.me_Rollout_move G_Rollout_move (hr.mono (by first | decide | omega)) T.bi_Rollout_move .nil passL (pa_cons (pv 2) pa_nil)))
  (pss_cons (ps_for PassesOwn.never rfl (pi_listK (K := K) (pe_call G__law_steps (hr.mono (by first | decide | omega)) rfl T.mg__law_steps T.kp__law_steps T.bi__law_steps .nil pass0 (pa_cons (pe_ix (ix_listK (K := K)) (pv 3) (pv 6) (fun _ _ => rfl)) (pa_cons (pv 4) (pa_cons (pv 7) pa_nil))))) (pg_name (i := 8) sc__law_move.nd rfl (Or.inl rfl))
  (pss_one (ps_if (pt_cmpR op_eq (pe_ix (ix_tupK (K := K)) (pv 8) pe_int (fun _ _ => rfl)) pe_str (nomark _))
  (pss_one (ps_expr (pe_bmK (K := K) PySem.F.plainAttrs_list PySem.F.slot_list_append PySem.F.type_list_append mt_append (pe_ix (ix_listK (K := K)) (pv 1) pe_int (fun _ _ => rfl)) (pa_cons (pe_tup (pa_cons (pv 5) (pa_cons (pv 6) (pa_cons (pe_ix (ix_tupK (K := K)) (pv 8) pe_int (fun _ _ => rfl)) pa_nil)))) pa_nil))))
  (pss_one (ps_expr (pe_bmK (K := K) PySem.F.plainAttrs_list PySem.F.slot_list_append PySem.F.type_list_append mt_append (pe_ix (ix_listK (K := K)) (pv 1) pe_int (fun _ _ => rfl)) (pa_cons (pe_op (op_catAK (K := K)) (pe_tup (pa_cons (pv 5) (pa_cons (pv 6) pa_nil))) (pv 8)) pa_nil)))))))
  (pss_one (ps_ret pe_bl)))))), ?_⟩
    have hs : Hs B [_, _, _, _, _, _, _, _, _, _, _, _, _] H := hs
    walk_at "ss"
    obtain ⟨u, hu1⟩ : ∃ u, ms[i]? = some u := ⟨ms[i]'(by omega), List.getElem?_eq_getElem _⟩
    obtain ⟨t, pv, rfl, ht, hpv⟩ := hM.2 i u f hu1 hf
    refine w_popAt (k := i) hs (by walk_at "p") rfl hu1 (by walk_at "z") fun H2 hs2 => ?_
    clear hs
    have ht2 := hs2.same _ _ ht
    obtain ⟨pa, ta, rfl, hpa, hta⟩ := key3 hpv
    have hpa2 := hs2.same _ _ hpa
    walk_at "ss"
    obtain ⟨vp, ps, hat, hvp, hps, zp, ops⟩ : ∃ (vp : V) (ps : List Part), atI [v0, v1] f.2.1 = some vp ∧ PolAt B vp ps ∧ (if f.2.1 = 0 then p0 else p1) = ps ∧ ps.length ≤ 6 ∧ LocOk ps := by
      rcases hI.ver hmem with e | e
      · rw [e]
        exact ⟨v0, p0, at0, hmv.h0, rfl, hmv.o0.1, hmv.o0⟩
      · rw [e]
        exact ⟨v1, p1, at1, hmv.h1, rfl, hmv.o1.1, hmv.o1⟩
    have hso : stepsOf p0 p1 ls f = stepsM ps ls f.2.2 := by
      unfold stepsOf
      rw [hps]
    have hl3 := (hI.hp f hmem).2.2
    refine w_cut (fun σ' H' => σ' = [some (.ref x), some (.ref m), some (.int (i : Nat)), some (.ref plA), some g, some (.int (f.1 : Nat)), some (.int f.2.1), some (.ref pa), none] ∧ H' = H2) ?_ ?_
    · walk_at "ss"
      refine w_has (R := modL m m0 m1 m2 m3 m4 n (ms.eraseIdx i) mt xi xt xr) hs2 hmv.hg ?_
      rw [hI.has hmem]
      refine ⟨_, rfl, iteF ?_⟩
      refine w_ifT ?_
      walk_at "ss"
      refine ifd (fun hv1 => ?_) (fun hv1 => ?_)
      · walk_at "ss"
        refine w_inIs (SqL.of hs2.g8) ?_
        rcases hI.rule hmem with ⟨_, hin⟩ | ⟨e, _⟩
        · refine ⟨_, rfl, ?_⟩
          rw [decide_eq_true hin]
          refine iteF ?_
          walk_at "ss"
          exact ⟨rfl, rfl⟩
        · exact absurd e (by omega)
      · walk_at "ss"
        refine w_inIs (SqL.of hs2.g10) ?_
        rcases hI.rule hmem with ⟨e, _⟩ | ⟨_, hin⟩
        · exact absurd e hv1
        · refine ⟨_, rfl, ?_⟩
          rw [decide_eq_false hin]
          refine iteF ?_
          walk_at "ss"
          exact ⟨rfl, rfl⟩
    rintro σ' H' ⟨rfl, rfl⟩
    walk_at "ss"
    refine w_move (R := modL m m0 m1 m2 m3 m4 n (ms.eraseIdx i) mt xi xt xr) hs2 rfl hmv.hg hpp hmv.h0 hmv.h1 hmv.o0.1 hmv.o1.1 hF hT zF zT hf (hI.ver hmem) hl3 (hI.has hmem) fun B3 fs3 ts3 H3 s3 hs3 hF3 hT3 => ?_
    have hs3 : Hs B3 [_, _, _, _, _, _, _, _, _, _, _, _, _] H3 := hs3
    clear hs2
    have hplA3 := hs3.same _ _ (s3 _ _ hplA)
    walk_at "ss"
    refine w_forS ?_
    walk_at "ss"
    refine ⟨vp, g, .ref pa, ps, 3, ls, f.2.2, rfl, hvp.same (s3.trans hs3.same), ops, hmv.hg.same (s3.trans hs3.same), (hpv.mono fun _ _ e => s3 _ _ e).mono hs3.tups, hl3, fun l us H4 sm4 hn4 hl4 hr4 => ?_⟩
    obtain ⟨B4, sB4, hlB4, hs4⟩ := frz_hs (Hs_own hs3 sm4 hn4 hl4)
    obtain ⟨B5, sB5, hs5, tp5⟩ := hs4.allinT rfl
    have hlB := sB5 _ _ hlB4
    have s35 : Same B3 B5 := sB4.trans sB5
    have sB : Same B B5 := s3.trans s35
    have hr5 := hr4.mono fun u x => StpAt.mono tp5
    have hz : us.length ≤ 6 := by
      have := steps_few ps ls f.2.2
      have := hr4.1
      omega
    rw [← hso] at hr4 hr5
    have hF5 := hF3.mono fun u x => FlAt.mono (H' := B5) fun _ _ e => s35 _ _ e
    have hT5 := hT3.mono fun u x => TlAt.mono (H' := B5) fun _ _ e => s35 _ _ e
    have hM5 := (Row.erase hM i).mono fun u x => FlAt.mono (H' := B5) fun _ _ e => sB _ _ e
    have hN5 := hN.mono fun u x => TlAt.mono (H' := B5) fun _ _ e => sB _ _ e
    clear hs3 hs4 hr4 hF3 hT3
    refine w_forL (SqL.of (hs5.same _ _ hlB)) (fun j σ H' => ∃ (B6 : Hp) (ms6 mt6 : List V) (v8 : Option V), σ = [some (.ref x), some (.ref m), some (.int (i : Nat)), some (.ref plA), some g, some (.int (f.1 : Nat)), some (.int f.2.1), some (.ref pa), v8] ∧ Same B5 B6 ∧ Hs B6 (rolL a x dx fl tl g pp dd d1 d2 d3 n fs3 ts3 xi xt xr ++ modL m m0 m1 m2 m3 m4 n ms6 mt6 xi xt xr) H' ∧ Row (FlAt B6) ms6 (F.eraseIdx i ++ insF f.1 f.2.1 ((stepsOf p0 p1 ls f).take j)) ∧ Row (TlAt B6) mt6 (Td ++ outsF f.1 f.2.1 ((stepsOf p0 p1 ls f).take j))) (fun Q q => q) ⟨B5, _, _, none, rfl, Same.refl _, hs5, ?_, ?_⟩ (fun j σ H' _ ⟨B6, _, _, _, _, sm, h, _⟩ => SqL.of (h.same _ _ (sm _ _ hlB))) ?_ ?_
    · rw [show insF f.1 f.2.1 ((stepsOf p0 p1 ls f).take 0) = [] from rfl, List.append_nil]
      exact hM5
    · rw [show outsF f.1 f.2.1 ((stepsOf p0 p1 ls f).take 0) = [] from rfl, List.append_nil]
      exact hN5
    · clear hs5
      rintro j u σ H' hj ⟨B6, ms6, mt6, v8, rfl, smB, hs6, hM6, hN6⟩
      have hs6 : Hs B6 [_, _, _, _, _, _, _, _, _, _, _, _, _] H' := hs6
      have i4 : atI [V.ref m0, .ref m1, .ref m2, .ref m3, .ref m4, .int (n : Nat)] 4 = some (.ref m4) := a4
      obtain ⟨st, hst, hus⟩ := hr5.get hj
      have hjl := (List.getElem?_eq_some_iff.mp hj).1
      replace hus := hus.mono (H' := B6) fun _ _ e => smB _ _ e
      have lF : ms6.length ≤ 1000 := by
        have h1 := hM6.1
        have h2 := insF_len f.1 f.2.1 ((stepsOf p0 p1 ls f).take j)
        rw [List.length_append, List.length_eraseIdx_of_lt (by omega)] at h1
        rw [List.length_take] at h2
        omega
      have lT : mt6.length ≤ 1000 := by
        have h1 := hN6.1
        have h2 := outsF_len f.1 f.2.1 ((stepsOf p0 p1 ls f).take j)
        rw [List.length_append] at h1
        rw [List.length_take] at h2
        omega
      cases st with
      | inn p =>
        obtain ⟨q, r, rfl, hq, hr⟩ := hus
        obtain ⟨e1, e2⟩ := insF_in (n := f.1) (v := f.2.1) hst
        have hq6 := hs6.same _ _ hq
        walk_at "ss"
        rw [if_pos (show decide (("in" : Str) = ("in" : Str)) = true from decide_eq_true rfl)]
        walk_at "ss"
        rename_i t5 H5 hs7 H6 hs8
        obtain ⟨B7, sB7, ht5, hs9⟩ := frz_hs hs8
        refine ⟨B7, _, _, _, rfl, smB.trans sB7, hs9, ?_, ?_⟩
        · rw [e1, ← List.append_assoc]
          exact (hM6.mono fun u x => FlAt.mono fun _ _ e => sB7 _ _ e).snoc ⟨t5, .ref r, rfl, ht5, hr.mono fun _ _ e => sB7 _ _ e⟩
        · rw [e2]
          exact hN6.mono fun u x => TlAt.mono fun _ _ e => sB7 _ _ e
      | out sw ch =>
        obtain ⟨e1, e2⟩ := insF_out (n := f.1) (v := f.2.1) hst rfl
        obtain ⟨q, vs, rfl, hq, hvs⟩ := hus.it
        obtain ⟨t, rfl, htt⟩ := hvs
        have hq6 := hs6.same _ _ hq
        walk_at "ss"
        rw [if_neg (show ¬ decide (("out" : Str) = ("in" : Str)) = true by decide +kernel)]
        walk_at "ss"
        rename_i t5 H5 hs7
        obtain ⟨B7, sB7, ht5, hs8⟩ := frz_hs hs7
        refine w_catTF hs8 ht5 (sB7 _ _ hq) (by show 2 + 3 ≤ 100; decide) fun tc B8 H6 sB8 hs9 htc => ?_
        have lT : mt6.length ≤ 1000 := lT
        walk_at "ss"
        rename_i H7 hs10
        have s68 := sB7.trans sB8
        refine ⟨B8, _, _, _, rfl, smB.trans s68, hs10, ?_, ?_⟩
        · rw [e1]
          exact hM6.mono fun u x => FlAt.mono fun _ _ e => s68 _ _ e
        · rw [e2, ← List.append_assoc]
          exact (hN6.mono fun u x => TlAt.mono fun _ _ e => s68 _ _ e).snoc ⟨tc, _, rfl, htc, t, rfl, s68 _ _ htt⟩
      | lost e ch =>
        obtain ⟨e1, e2⟩ := insF_out (n := f.1) (v := f.2.1) hst rfl
        obtain ⟨q, vs, rfl, hq, hvs⟩ := hus.it
        obtain ⟨qe, t, rfl, hqe, htt⟩ := hvs
        have hq6 := hs6.same _ _ hq
        walk_at "ss"
        rw [if_neg (show ¬ decide (("lost" : Str) = ("in" : Str)) = true by decide +kernel)]
        walk_at "ss"
        rename_i t5 H5 hs7
        obtain ⟨B7, sB7, ht5, hs8⟩ := frz_hs hs7
        refine w_catTF hs8 ht5 (sB7 _ _ hq) (by show 2 + 3 ≤ 100; decide) fun tc B8 H6 sB8 hs9 htc => ?_
        walk_at "ss"
        rename_i H7 hs10
        have s68 := sB7.trans sB8
        refine ⟨B8, _, _, _, rfl, smB.trans s68, hs10, ?_, ?_⟩
        · rw [e1]
          exact hM6.mono fun u x => FlAt.mono fun _ _ e => s68 _ _ e
        · rw [e2, ← List.append_assoc]
          exact (hN6.mono fun u x => TlAt.mono fun _ _ e => s68 _ _ e).snoc ⟨tc, _, rfl, htc, qe, t, rfl, s68 _ _ hqe, s68 _ _ htt⟩
    · rintro σ H' ⟨B6, ms6, mt6, v8, rfl, smB, hs6, hM6, hN6⟩
      have e : us.length = (stepsOf p0 p1 ls f).length := hr5.1
      rw [e, List.take_length] at hM6 hN6
      walk_at "ss"
      exact k B6 fs3 ts3 ms6 mt6 H' (sB.trans smB) hs6 (hF5.mono fun u x => FlAt.mono fun _ _ e => smB _ _ e) hM6 (hT5.mono fun u x => TlAt.mono fun _ _ e => smB _ _ e) hN6
def sp__law_wrong (a : Ad) : Sp := fun vs H Q _ => ∃ (B : Hp) (x dx fl tl pp dd d1 d2 d3 m m0 m1 m2 m3 m4 : Addr) (g v0 v1 pl : V) (n : Nat) (fs ts ms mt : List V) (xi xt xr : List Int) (ls : List Lk) (p0 p1 : List Part) (F : List Fly) (Td : List Tld), vs = [.ref x, .ref m] ∧ Hs B (rolL a x dx fl tl g pp dd d1 d2 d3 n fs ts xi xt xr ++ modL m m0 m1 m2 m3 m4 n ms mt xi xt xr) H ∧ MvOk B pl g v0 v1 p0 p1 ls ∧ B pp = some (.tup [v0, v1]) ∧ Row (FlAt B) fs F ∧ Row (FlAt B) ms F ∧ Row (TlAt B) ts Td ∧ F.length ≤ 900 ∧ Td.length ≤ 900 ∧
  ∀ H', Hs B (rolL a x dx fl tl g pp dd d1 d2 d3 n fs ts xi xt xr ++ modL m m0 m1 m2 m3 m4 n ms mt xi xt xr) H' → Q (.bl true) H'
theorem ok__law_wrong_move (T : Txt w K mg a) : FnOk P w K mg base CX0 12 a._law_wrong_move a.fd__law_wrong_move ["net", "m"] (sp__law_wrong a) := by
  have G_Rollout_move := ok_Rollout_move (P := P) (w := w) (base := base) T
  refine T.fn__law_wrong_move.ok sc__law_wrong_move (fun vs H Q E h => ?_) (fun cdv A outer s H vs Q E hr h => ?_)
  · obtain ⟨_, _, _, _, _, _, _, _, _, _, _, _, _, _, _, _, _, _, _, _, _, _, _, _, _, _, _, _, _, _, _, _, _, rfl, _⟩ := h
    rfl
  · obtain ⟨B, x, dx, fl, tl, pp, dd, d1, d2, d3, m, m0, m1, m2, m3, m4, g, v0, v1, pl, n, fs, ts, ms, mt, xi, xt, xr, ls, p0, p1, F, Td, rfl, hs, hmv, hpp, hF, hM, hT, zF, zT, k⟩ := h
    have hu := hu_of hr
    have c1 := T.cl_Rollout
    have hMl : ms.length = F.length := hM.1
    refine ⟨_, (pss_cons (ps_try_as (i := 2) rfl rfl sc__law_wrong_move.nd rfl rfl ⟨rfl, by decide, .inl T.mg_StateError⟩ takes0 (fun W pn xe tk _ => by exact (pss_one (ps_expr (pe_methQ (pv 0) T.cl_Rollout T.me_Rollout_move G_Rollout_move (hr.mono (by first | decide | omega)) T.bi_Rollout_move (fun σ => passAt tk σ) (pa_cons (pe_callB (call_lenK (K := K)) (by rfl) T.mg_len PySem.boot_len (pa_cons (pe_ix (ix_listK (K := K)) (pv 1) pe_int (fun _ _ => rfl)) pa_nil)) pa_nil))))) (fun a1 oe cls dd pn hz hf => by exact (pss_one (ps_ret (pe_cmpR op_eq (pe_xf T.xf_StateError T.no_StateError_state hz hf (pv 2)) (pe_callB (call_lenK (K := K)) (by rfl) T.mg_len PySem.boot_len (pa_cons (pe_ix (ix_listK (K := K)) (pv 1) pe_int (fun _ _ => rfl)) pa_nil)) (nomark _))))))
  (pss_one (ps_ret pe_bl))), ?_⟩
    have hs : Hs B [_, _, _, _, _, _, _, _, _, _, _, _, _] H := hs
    walk_at "ss"
    refine w_moveE (i := ms.length) (R := modL m m0 m1 m2 m3 m4 n ms mt xi xt xr) hs hmv.hg hpp hmv.h0 hmv.h1 hmv.o0.1 hmv.o1.1 hF hT zF zT (by omega) (by omega) fun d H3 hs3 => ?_
    have hs3 : Hs B [_, _, _, _, _, _, _, _, _, _, _, _, _, _] H3 := hs3
    refine w_was T.te_StateError fun e he => ?_
    walk_at "ss"
    rw [decide_eq_true rfl]
    exact k H3 hs3.tl
end
local macro_rules | `(tactic| walk_at "v") => `(tactic| first | exact v0 | exact v1 | exact v2 | exact v3 | exact v4 | exact v5 | exact v6 | exact v7 | exact v8)
local macro_rules | `(tactic| walk_at "vs") => `(tactic| first | exact st0 | exact st1 | exact st2 | exact st3 | exact st4 | exact st5 | exact st6 | exact st7 | exact st8)
local macro_rules | `(tactic| walk_at "s") => `(tactic| first
  | with_reducible refine w_dget ?_
  | ((with_reducible refine' w_dgetZ ?h ?nd ?hk ?hv ?_); (case h => walk_at "g"); (case nd => walk_at "nd"); (case hk => walk_at "k"); (case hv => walk_at "v"))
  | ((with_reducible refine' w_dputZ ?hs ?h ?nd ?hk ?hv ?hu ?hl ?_); (case hs => assumption); (case h => walk_at "p"); (case nd => walk_at "nd"); (case hk => walk_at "k"); (case hv => walk_at "v"); (case hu => walk_at "vs"); (case hl => decide); intro _ _)
  | with_reducible refine w_gsub ?_
  | with_reducible refine w_setD ?_
  | with_reducible refine w_disp ?_
  | ((with_reducible refine' w_newP ?hs ?_); (case hs => assumption); intro _ _ _)
  | with_reducible refine w_pcons ?_
  | with_reducible refine w_pnil ?_)

local macro_rules | `(tactic| walk_at "s") => `(tactic| first
  | with_reducible refine w_nget ?_
  | with_reducible refine w_nin ?_
  | with_reducible refine w_nnot ?_
  | with_reducible refine w_nput ?_
  | with_reducible refine w_ndel ?_
  | with_reducible refine w_npop ?_
  | ((with_reducible refine' w_nnew ?hs ?_); (case hs => assumption); intro _ _ _))

local macro_rules | `(tactic| walk_at "s") => `(tactic| first
  | with_reducible refine w_ninF ?_
  | with_reducible refine w_nsetd ?_
  | with_reducible refine w_ckw ?_)

section
variable {P : Program} [IsP P] {w : World} {K : PySem.W.Frag} {mg : Str → Option Value} {base : Heap} {a : Ad}
/-! ## what a version alone makes of a datum -/
def natV (i : Nat) : V := .int (i : Nat)
theorem fm_inn {S : List Stp} {j : Nat} {p : Plc} (h : S[j]? = some (.inn p)) : (S.take (j + 1)).filterMap innOf = (S.take j).filterMap innOf ++ [p] ∧ (S.take (j + 1)).filterMap outOf = (S.take j).filterMap outOf := by
  rw [take_snoc h, List.filterMap_append, List.filterMap_append]
  exact ⟨rfl, List.append_nil _⟩
theorem fm_out {S : List Stp} {j : Nat} {s : Stp} (h : S[j]? = some s) (hn : innOf s = none) : (S.take (j + 1)).filterMap innOf = (S.take j).filterMap innOf ∧ (S.take (j + 1)).filterMap outOf = (S.take j).filterMap outOf ++ [s] := by
  rw [take_snoc h, List.filterMap_append, List.filterMap_append]
  cases s with
  | inn p => cases hn
  | out sw c => exact ⟨List.append_nil _, rfl⟩
  | lost e c => exact ⟨List.append_nil _, rfl⟩
def sp__law_alone : Sp := fun vs H Q _ => ∃ (v g e : V) (ml : Addr) (ps : List Part) (ls : List Lk) (p : Plc) (ms : List Nat) (fk : List Plc) (tk : List Stp), vs = [v, g, e, .ref ml] ∧ PolAt H v ps ∧ LocOk ps ∧ GrAt H g 3 ls ∧ ls.Sublist rows3 ∧ KeyAt H e (plK p) ∧ PlOk p ∧ H ml = some (.lst (ms.map natV)) ∧ ms.length ≤ 200 ∧ aloneF ps ls ([p], []) ms = some (fk, tk) ∧
  ∀ q fl tl us ts H', Same H H' → H' q = some (.tup [.ref fl, .ref tl]) → H' fl = some (.lst us) → H' tl = some (.lst ts) → Row (KeyAt H') us (fk.map plK) → Row (StpAt H') ts tk → Q (.ref q) H'
theorem ok__law_alone (T : Txt w K mg a) : FnOk P w K mg base CX0 7 a._law_alone a.fd__law_alone ["policy", "graph", "start", "moved"] sp__law_alone := by
  have G__law_steps := ok__law_steps (P := P) (w := w) (base := base) T
  refine T.fn__law_alone.ok sc__law_alone (fun vs H Q E h => ?_) (fun cdv A outer s H vs Q E hr h => ?_)
  · obtain ⟨_, _, _, _, _, _, _, _, _, _, rfl, _⟩ := h
    rfl
  · obtain ⟨v, g, e, ml, ps, ls, p, ms, fk, tk, rfl, hp, hok, hg, hls, he, hpo, hml, hmz, hal, k⟩ := h
    have hu := hu_of hr
    have hz6 : ps.length ≤ 6 := hok.1
    refine ⟨_, (pss_cons (ps_set (i := 4) sc__law_alone.nd rfl (Or.inl rfl) (pe_lst (pa_cons (pv 2) pa_nil)))
  (pss_cons (ps_set (i := 5) sc__law_alone.nd rfl (Or.inl rfl) (pe_lst pa_nil))
  (pss_cons (ps_for PassesOwn.never rfl (pi_listK (K := K) (pv 3)) (pg_name (i := 6) sc__law_alone.nd rfl (Or.inl rfl))
  (pss_cons (ps_set (i := 7) sc__law_alone.nd rfl (Or.inl rfl) (pe_bmK (K := K) PySem.F.plainAttrs_list PySem.F.slot_list_pop PySem.F.type_list_pop mt_popAt (pv 4) (pa_cons (pv 6) pa_nil)))
  (pss_one (ps_for PassesOwn.never rfl (pi_listK (K := K) (pe_call G__law_steps (hr.mono (by first | decide | omega)) rfl T.mg__law_steps T.kp__law_steps T.bi__law_steps .nil pass0 (pa_cons (pv 0) (pa_cons (pv 1) (pa_cons (pv 7) pa_nil))))) (pg_name (i := 8) sc__law_alone.nd rfl (Or.inl rfl))
  (pss_one (ps_if (pt_cmpR op_eq (pe_ix (ix_tupK (K := K)) (pv 8) pe_int (fun _ _ => rfl)) pe_str (nomark _))
  (pss_one (ps_expr (pe_bmK (K := K) PySem.F.plainAttrs_list PySem.F.slot_list_append PySem.F.type_list_append mt_append (pv 4) (pa_cons (pe_ix (ix_tupK (K := K)) (pv 8) pe_int (fun _ _ => rfl)) pa_nil))))
  (pss_one (ps_expr (pe_bmK (K := K) PySem.F.plainAttrs_list PySem.F.slot_list_append PySem.F.type_list_append mt_append (pv 5) (pa_cons (pv 8) pa_nil))))))))))
  (pss_one (ps_ret (pe_tup (pa_cons (pv 4) (pa_cons (pv 5) pa_nil)))))))), ?_⟩
    have hs := Hs.start H
    walk_at "ss"
    rename_i fl H1 hs1 tl H2 hs2
    refine w_forL (SqL.of (hs2.same _ _ hml)) (fun i σ H' => ∃ (B : Hp) (us ts : List V) (fi : List Plc) (ti : List Stp) (v6 v7 v8 : Option V), σ = [some v, some g, some e, some (.ref ml), some (.ref fl), some (.ref tl), v6, v7, v8] ∧ Same H B ∧ Hs B [(tl, .lst ts), (fl, .lst us)] H' ∧ Row (KeyAt B) us (fi.map plK) ∧ Row (StpAt B) ts ti ∧ aloneF ps ls (fi, ti) (ms.drop i) = some (fk, tk) ∧ (∀ q ∈ fi, PlOk q) ∧ fi.length ≤ 1 + 6 * i ∧ ti.length ≤ 6 * i) (fun Q q => ⟨_, rfl, q⟩) ⟨H, _, _, [p], [], none, none, none, rfl, Same.refl _, hs2, Row.cons he Row.nil, Row.nil, hal, fun q hq => ?_, Nat.le_refl 1, Nat.le_refl 0⟩ (fun i σ H' _ ⟨B, _, _, _, _, _, _, _, _, sm, h, _⟩ => SqL.of (h.same _ _ (sm _ _ hml))) ?_ ?_
    · rw [List.mem_singleton.mp hq]
      exact hpo
    · clear hs1 hs2 hs
      rintro i u σ H' hi ⟨B, us, ts, fi, ti, v6, v7, v8, rfl, sB, hs3, hus, hts, hal, hpi, zf, zt⟩
      rw [List.getElem?_map] at hi
      obtain ⟨mi, hmi, rfl⟩ := Option.map_eq_some_iff.mp hi
      have hil := (List.getElem?_eq_some_iff.mp hmi).1
      have hdr : ms.drop i = mi :: ms.drop (i + 1) := by
        rw [List.drop_eq_getElem_cons hil]
        rw [(List.getElem?_eq_some_iff.mp hmi).2]
      rw [hdr] at hal
      have hal' : (match fi[mi]? with | none => none | some p => aloneF ps ls (oneF ps ls (fi, ti) mi p) (ms.drop (i + 1))) = some (fk, tk) := hal
      obtain ⟨q, hq, hal2⟩ : ∃ q, fi[mi]? = some q ∧ aloneF ps ls (oneF ps ls (fi, ti) mi q) (ms.drop (i + 1)) = some (fk, tk) := by
        cases hf : fi[mi]? with
        | none =>
          rw [hf] at hal'
          cases hal'
        | some q =>
          rw [hf] at hal'
          exact ⟨q, rfl, hal'⟩
      clear hal hal'
      have hqo := hpi q (List.mem_of_getElem? hq)
      have hul : us.length = fi.length := by
        have := hus.1
        rwa [List.length_map] at this
      have htl : ts.length = ti.length := hts.1
      have hml' := (List.getElem?_eq_some_iff.mp hq).1
      obtain ⟨x, hx⟩ : ∃ x, us[mi]? = some x := ⟨us[mi]'(by omega), List.getElem?_eq_getElem _⟩
      have hxk : KeyAt B x (plK q) := hus.2 mi x _ hx (by rw [List.getElem?_map, hq]; rfl)
      unfold natV
      walk_at "ss"
      refine w_popAt (k := mi) hs3 (by walk_at "p") rfl hx (by walk_at "z") fun H4 hs4 => ?_
      clear hs3
      walk_at "ss"
      dsimp only
      refine w_forS ?_
      walk_at "ss"
      refine ⟨v, g, x, ps, 3, ls, q, rfl, hp.same (sB.trans hs4.same), hok, hg.same (sB.trans hs4.same), hxk.mono hs4.tups, hqo.2.2, fun l ws H5 sm5 hn5 hl5 hr5 => ?_⟩
      obtain ⟨B1, sB1, hlB1, hs5⟩ := frz_hs (Hs_own hs4 sm5 hn5 hl5)
      obtain ⟨B2, sB2, hs6, tp6⟩ := hs5.allinT rfl
      have hlB := sB2 _ _ hlB1
      have s2 : Same B B2 := sB1.trans sB2
      have hr6 := hr5.mono fun u x => StpAt.mono tp6
      have hwz : ws.length ≤ 6 := by
        have := steps_few ps ls q
        have := hr5.1
        omega
      have hus2 : Row (KeyAt B2) (us.eraseIdx mi) ((fi.eraseIdx mi).map plK) := by
        have := (Row.erase hus mi).mono fun u x => KeyAt.mono (H' := B2) fun _ _ e => s2 _ _ e
        rwa [show (fi.map plK).eraseIdx mi = (fi.eraseIdx mi).map plK by simp [List.eraseIdx_eq_take_drop_succ, List.map_append, List.map_take, List.map_drop]] at this
      have hts2 := hts.mono fun u x => StpAt.mono (H' := B2) fun _ _ e => s2 _ _ e
      clear hs4 hs5 hr5
      refine w_forL (SqL.of (hs6.same _ _ hlB)) (fun j σ H' => ∃ (B3 : Hp) (us3 ts3 : List V) (v8 : Option V), σ = [some v, some g, some e, some (.ref ml), some (.ref fl), some (.ref tl), some (.int (mi : Nat)), some x, v8] ∧ Same B2 B3 ∧ Hs B3 [(tl, .lst ts3), (fl, .lst us3)] H' ∧ Row (KeyAt B3) us3 ((fi.eraseIdx mi ++ ((stepsM ps ls q).take j).filterMap innOf).map plK) ∧ Row (StpAt B3) ts3 (ti ++ ((stepsM ps ls q).take j).filterMap outOf)) (fun Q q => q) ⟨B2, _, _, _, rfl, Same.refl _, hs6, ?_, ?_⟩ (fun j σ H' _ ⟨B3, _, _, _, _, sm, h, _⟩ => SqL.of (h.same _ _ (sm _ _ hlB))) ?_ ?_
      · rw [List.take_zero, List.filterMap_nil, List.append_nil]
        exact hus2
      · rw [List.take_zero, List.filterMap_nil, List.append_nil]
        exact hts2
      · clear hs6
        rintro j u σ H' hj ⟨B3, us3, ts3, v8, rfl, smB, hs7, hu3, ht3⟩
        obtain ⟨st, hst, hus⟩ := hr6.get hj
        have hjl := (List.getElem?_eq_some_iff.mp hj).1
        replace hus := hus.mono (H' := B3) fun _ _ e => smB _ _ e
        have lF : us3.length ≤ 10000 := by
          have h1 := hu3.1
          have h2 := List.length_filterMap_le innOf ((stepsM ps ls q).take j)
          rw [List.length_map, List.length_append, List.length_eraseIdx_of_lt (by omega)] at h1
          rw [List.length_take] at h2
          omega
        have lT : ts3.length ≤ 10000 := by
          have h1 := ht3.1
          have h2 := List.length_filterMap_le outOf ((stepsM ps ls q).take j)
          rw [List.length_append] at h1
          rw [List.length_take] at h2
          omega
        cases st with
        | inn r =>
          obtain ⟨e1, e2⟩ := fm_inn hst
          obtain ⟨y, z, rfl, hy, hz⟩ := hus
          have hy7 := hs7.same _ _ hy
          walk_at "ss"
          rw [if_pos (show decide (("in" : Str) = ("in" : Str)) = true from decide_eq_true rfl)]
          walk_at "ss"
          rename_i H8 hs8
          refine ⟨B3, _, _, _, rfl, smB, hs8, ?_, ?_⟩
          · rw [e1, ← List.append_assoc, List.map_append]
            exact hu3.snoc hz
          · rw [e2]
            exact ht3
        | out sw ch =>
          obtain ⟨e1, e2⟩ := fm_out hst rfl
          obtain ⟨y, vs, rfl, hy, hvs⟩ := hus.it
          obtain ⟨t, rfl, htt⟩ := hvs
          have hy7 := hs7.same _ _ hy
          walk_at "ss"
          rw [if_neg (show ¬ decide (("out" : Str) = ("in" : Str)) = true by decide +kernel)]
          walk_at "ss"
          rename_i H8 hs8
          refine ⟨B3, _, _, _, rfl, smB, hs8, ?_, ?_⟩
          · rw [e1]
            exact hu3
          · rw [e2, ← List.append_assoc]
            exact ht3.snoc hus
        | lost e ch =>
          obtain ⟨e1, e2⟩ := fm_out hst rfl
          obtain ⟨y, vs, rfl, hy, hvs⟩ := hus.it
          obtain ⟨qe, t, rfl, hqe, htt⟩ := hvs
          have hy7 := hs7.same _ _ hy
          walk_at "ss"
          rw [if_neg (show ¬ decide (("lost" : Str) = ("in" : Str)) = true by decide +kernel)]
          walk_at "ss"
          rename_i H8 hs8
          refine ⟨B3, _, _, _, rfl, smB, hs8, ?_, ?_⟩
          · rw [e1]
            exact hu3
          · rw [e2, ← List.append_assoc]
            exact ht3.snoc hus
      · rintro σ H' ⟨B3, us3, ts3, v8, rfl, smB, hs7, hu3, ht3⟩
        have ew : ws.length = (stepsM ps ls q).length := hr6.1
        rw [ew, List.take_length] at hu3 ht3
        have hfew := steps_few ps ls q
        have f1 := List.length_filterMap_le innOf (stepsM ps ls q)
        have f2 := List.length_filterMap_le outOf (stepsM ps ls q)
        refine ⟨B3, us3, ts3, _, _, _, _, _, rfl, sB.trans (s2.trans smB), hs7, hu3, ht3, hal2, fun z hz => ?_, ?_, ?_⟩
        · rcases List.mem_append.mp hz with hz | hz
          · exact hpi z (List.mem_of_mem_eraseIdx hz)
          · obtain ⟨st, hst, est⟩ := List.mem_filterMap.mp hz
            cases st with
            | inn r =>
              cases est
              exact steps_ok hls hqo.2.2 hst
            | out _ _ => cases est
            | lost _ _ => cases est
        · show (fi.eraseIdx mi ++ _).length ≤ _
          rw [List.length_append, List.length_eraseIdx_of_lt hml']
          omega
        · show (ti ++ _).length ≤ _
          rw [List.length_append]
          omega
    · rintro σ H' ⟨B, us, ts, fi, ti, v6, v7, v8, rfl, sB, hs3, hus, hts, hal, hpi, zf, zt⟩
      rw [List.length_map, List.drop_length] at hal
      cases hal
      walk_at "ss"
      rename_i q H4 hs4
      exact k q fl tl us ts H4 (sB.trans hs4.same) hs4.g0 hs4.g2 hs4.g1 (hus.mono fun u x => KeyAt.mono hs4.tups) (hts.mono fun u x => StpAt.mono hs4.tups)
end
local macro_rules | `(tactic| walk_at "v") => `(tactic| first | exact v0 | exact v1 | exact v2 | exact v3 | exact v4 | exact v5 | exact v6 | exact v7 | exact v8)
local macro_rules | `(tactic| walk_at "vs") => `(tactic| first | exact st0 | exact st1 | exact st2 | exact st3 | exact st4 | exact st5 | exact st6 | exact st7 | exact st8)
local macro_rules | `(tactic| walk_at "s") => `(tactic| first
  | with_reducible refine w_dget ?_
  | ((with_reducible refine' w_dgetZ ?h ?nd ?hk ?hv ?_); (case h => walk_at "g"); (case nd => walk_at "nd"); (case hk => walk_at "k"); (case hv => walk_at "v"))
  | ((with_reducible refine' w_dputZ ?hs ?h ?nd ?hk ?hv ?hu ?hl ?_); (case hs => assumption); (case h => walk_at "p"); (case nd => walk_at "nd"); (case hk => walk_at "k"); (case hv => walk_at "v"); (case hu => walk_at "vs"); (case hl => decide); intro _ _)
  | with_reducible refine w_gsub ?_
  | with_reducible refine w_setD ?_
  | with_reducible refine w_disp ?_
  | ((with_reducible refine' w_newP ?hs ?_); (case hs => assumption); intro _ _ _)
  | with_reducible refine w_pcons ?_
  | with_reducible refine w_pnil ?_)

local macro_rules | `(tactic| walk_at "s") => `(tactic| first
  | with_reducible refine w_nget ?_
  | with_reducible refine w_nin ?_
  | with_reducible refine w_nnot ?_
  | with_reducible refine w_nput ?_
  | with_reducible refine w_ndel ?_
  | with_reducible refine w_npop ?_
  | ((with_reducible refine' w_nnew ?hs ?_); (case hs => assumption); intro _ _ _))

local macro_rules | `(tactic| walk_at "s") => `(tactic| first
  | with_reducible refine w_ninF ?_
  | with_reducible refine w_nsetd ?_
  | with_reducible refine w_ckw ?_)

section
variable {P : Program} [IsP P] {w : World} {K : PySem.W.Frag} {mg : Str → Option Value} {base : Heap} {a : Ad}
/-! ## each datum -/
def HsAt (H : Hp) (u : V) (x : Int × Plc) : Prop := ∃ (t : Addr) (pv : V), u = .ref t ∧ H t = some (.tup [.int x.1, pv]) ∧ KeyAt H pv (plK x.2)
theorem HsAt.mono {H H' : Hp} (e : ∀ p xs, H p = some (.tup xs) → H' p = some (.tup xs)) {u : V} {x : Int × Plc} (h : HsAt H u x) : HsAt H' u x := by
  obtain ⟨t, pv, h1, h2, h3⟩ := h
  exact ⟨t, pv, h1, e _ _ h2, h3.mono e⟩
def MvAt (H : Hp) (u : V) (ms : List Nat) : Prop := ∃ r : Addr, u = .ref r ∧ H r = some (.lst (ms.map natV))
theorem MvAt.same {H H' : Hp} (s : Same H H') {u : V} {x : List Nat} (h : MvAt H u x) : MvAt H' u x := by
  obtain ⟨t, h1, h2⟩ := h
  exact ⟨t, h1, s _ _ h2⟩
theorem num_eq (k i : Nat) : decide (((k : Nat) : Int) = (i : Nat)) = decide (k = i) := decide_eq_decide.mpr ⟨fun h => by omega, fun h => by omega⟩
def HdAt (H : Hp) (u : V) (x : Nat × Int) : Prop := ∃ (t : Addr) (r : List V), u = .ref t ∧ H t = some (.tup (.int (x.1 : Nat) :: .int x.2 :: r))
def sp__law_each : Sp := fun vs H Q _ => ∃ (m m3 m4 sA mvA : Addr) (r0 r1 r2 r5 pl g v0 v1 : V) (ms mt ss rs : List V) (n : Nat) (ls : List Lk) (p0 p1 : List Part) (S : Hist) (M : List (List Nat)) (F : List Fly) (Td : List Tld), vs = [.ref m, .ref sA, .ref mvA, pl, g] ∧ H m = some (.lst [r0, r1, r2, .ref m3, .ref m4, r5]) ∧ H m3 = some (.lst ms) ∧ H m4 = some (.lst mt) ∧ H sA = some (.lst ss) ∧ H mvA = some (.lst rs) ∧ MvOk H pl g v0 v1 p0 p1 ls ∧ Row (FlAt H) ms F ∧ Row (TlAt H) mt Td ∧ Row (HsAt H) ss S ∧ Row (MvAt H) rs M ∧ F.length ≤ 1000 ∧ Td.length ≤ 1000 ∧ n ≤ 1000 ∧ (∀ x ∈ M, x.length ≤ 200) ∧ AInv p0 p1 ls n S M F Td ∧
  ∀ H', Same H H' → Q (.bl true) H'
theorem ok__law_each_right (T : Txt w K mg a) : FnOk P w K mg base CX0 8 a._law_each_right a.fd__law_each_right ["m", "starts", "moves", "policies", "graph"] sp__law_each := by
  have G__law_alone := ok__law_alone (P := P) (w := w) (base := base) T
  refine T.fn__law_each_right.ok sc__law_each_right (fun vs H Q E h => ?_) (fun cdv A outer s H vs Q E hr h => ?_)
  · obtain ⟨_, _, _, _, _, _, _, _, _, _, _, _, _, _, _, _, _, _, _, _, _, _, _, _, _, rfl, _⟩ := h
    rfl
  · obtain ⟨m, m3, m4, sA, mvA, r0, r1, r2, r5, pl, g, v0, v1, ms, mt, ss, rs, n, ls, p0, p1, S, M, F, Td, rfl, hm, hm3, hm4, hsA, hmvA, hmv, hF, hT, hS, hM, zF, zT, zn, zM, hA, k⟩ := h
    have hu := hu_of hr
    obtain ⟨plA, rfl, hplA⟩ := hmv.pol
    refine ⟨_, (pss_cons (ps_for PassesOwn.never rfl (pi_range1 rfl T.mg_range (pa_cons (pe_callB (call_lenK (K := K)) (by rfl) T.mg_len PySem.boot_len (pa_cons (pv 1) pa_nil)) pa_nil)) (pg_name (i := 5) sc__law_each_right.nd rfl (Or.inr rfl))
  (pss_cons (ps_asg (pe_ix (ix_listK (K := K)) (pv 1) (pv 5) (fun _ _ => rfl)) (pg_tupK (K := K) rfl (pgs_cons (pg_name (i := 6) sc__law_each_right.nd rfl (Or.inr rfl)) (pgs_cons (pg_name (i := 7) sc__law_each_right.nd rfl (Or.inl rfl)) pgs_nil))))
  (pss_cons (ps_asg (pe_call G__law_alone (hr.mono (by first | decide | omega)) rfl T.mg__law_alone T.kp__law_alone T.bi__law_alone .nil pass0 (pa_cons (pe_ix (ix_listK (K := K)) (pv 3) (pv 6) (fun _ _ => rfl)) (pa_cons (pv 4) (pa_cons (pv 7) (pa_cons (pe_ix (ix_listK (K := K)) (pv 2) (pv 5) (fun _ _ => rfl)) pa_nil))))) (pg_tupK (K := K) rfl (pgs_cons (pg_name (i := 8) sc__law_each_right.nd rfl (Or.inl rfl)) (pgs_cons (pg_name (i := 9) sc__law_each_right.nd rfl (Or.inl rfl)) pgs_nil))))
  (pss_cons (ps_if (pt_cmpR (op_neDK (K := K) hr.units) (pv 8) (pe_lc (own := [("row", 10)]) (g := (gName 10)) rfl sc__law_each_right.nd (pi_listK (K := K) (pe_ix (ix_listK (K := K)) (pv 0) pe_int (fun _ _ => rfl))) (blkOk_by (own := [("row", 10)]) (N := N__law_each_right) (sc := defScope s__law_each_right) (by decide +kernel)) (fun _ _ _ _ _ => by exact (pg_name (i := 10) sc__law_each_right.nd rfl (Or.inl rfl))) (fun _ _ _ _ _ => by exact pts_one (pt_cmpR op_eq (pe_ix (ix_tupK (K := K)) (pv 10) pe_int (fun _ _ => rfl)) (pv 5) (nomark _))) (fun _ _ _ _ _ => by exact (pe_ix (ix_tupK (K := K)) (pv 10) pe_int (fun _ _ => rfl)))) (nomark _))
  (pss_one (ps_ret pe_bl))
  pss_nil)
  (pss_cons (ps_if (pt_cmpR (op_neDK (K := K) hr.units) (pv 9) (pe_lc (own := [("row", 10)]) (g := (gName 10)) rfl sc__law_each_right.nd (pi_listK (K := K) (pe_ix (ix_listK (K := K)) (pv 0) pe_int (fun _ _ => rfl))) (blkOk_by (own := [("row", 10)]) (N := N__law_each_right) (sc := defScope s__law_each_right) (by decide +kernel)) (fun _ _ _ _ _ => by exact (pg_name (i := 10) sc__law_each_right.nd rfl (Or.inl rfl))) (fun _ _ _ _ _ => by exact pts_one (pt_cmpR op_eq (pe_ix (ix_tupK (K := K)) (pv 10) pe_int (fun _ _ => rfl)) (pv 5) (nomark _))) (fun _ _ _ _ _ => by exact (pe_slice (sl_tupAK (K := K)) (pv 10) (po_some pe_int) po_none))) (nomark _))
  (pss_one (ps_ret pe_bl))
  pss_nil)
  (pss_one (ps_if (pt_cmpR op_gt (pe_callB (call_lenK (K := K)) (by rfl) T.mg_len PySem.boot_len (pa_cons (pe_lc (own := [("row", 10)]) (g := (gName 10)) rfl sc__law_each_right.nd (pi_listK (K := K) (pe_op op_cat (pe_ix (ix_listK (K := K)) (pv 0) pe_int (fun _ _ => rfl)) (pe_ix (ix_listK (K := K)) (pv 0) pe_int (fun _ _ => rfl)))) (blkOk_by (own := [("row", 10)]) (N := N__law_each_right) (sc := defScope s__law_each_right) (by decide +kernel)) (fun _ _ _ _ _ => by exact (pg_name (i := 10) sc__law_each_right.nd rfl (Or.inl rfl))) (fun _ _ _ _ _ => by exact pts_one (PW.pt (pw_and (pt_cmpR op_eq (pe_ix (ix_tupK (K := K)) (pv 10) pe_int (fun _ _ => rfl)) (pv 5) (nomark _)) (pw_and1 (pt_cmpR op_ne (pe_ix (ix_tupK (K := K)) (pv 10) pe_int (fun _ _ => rfl)) (pv 6) (nomark _)))))) (fun _ _ _ _ _ => by exact (pv 10))) pa_nil)) pe_int (nomark _))
  (pss_one (ps_ret pe_bl))
  pss_nil)))))))
  (pss_one (ps_ret pe_bl))), ?_⟩
    have hSl : ss.length = n := by rw [hS.1, hA.sl]
    have hMl : rs.length = n := by rw [hM.1, hA.ml]
    have hFl : ms.length = F.length := hF.1
    have hTl : mt.length = Td.length := hT.1
    walk_at "ss"
    refine w_for1 ?_
    walk_at "ss"
    refine w_forR (n := (ss.length : Nat)) (by omega) (fun i σ H' => ∃ v5 v6 v7 v8 v9 : Option V, σ = [some (.ref m), some (.ref sA), some (.ref mvA), some (.ref plA), some g, v5, v6, v7, v8, v9, none] ∧ Same H H') (fun Q q => q) (by omega) ⟨none, none, none, none, none, rfl, Same.refl _⟩ ?_ ?_
    · rintro i σ H1 hi ⟨v5, v6, v7, v8, v9, rfl, s1⟩
      have hin : i < n := by omega
      obtain ⟨⟨ver, pl⟩, hSi⟩ : ∃ x, S[i]? = some x := ⟨S[i]'(by rw [hA.sl]; exact hin), List.getElem?_eq_getElem _⟩
      obtain ⟨mv, hMi⟩ : ∃ x, M[i]? = some x := ⟨M[i]'(by rw [hA.ml]; exact hin), List.getElem?_eq_getElem _⟩
      obtain ⟨us, hus⟩ : ∃ x, ss[i]? = some x := ⟨ss[i]'(by omega), List.getElem?_eq_getElem _⟩
      obtain ⟨ur, hur⟩ : ∃ x, rs[i]? = some x := ⟨rs[i]'(by omega), List.getElem?_eq_getElem _⟩
      obtain ⟨t, pv, rfl, ht, hpv⟩ := hS.2 i _ _ hus hSi
      obtain ⟨r, rfl, hr⟩ := hM.2 i _ _ hur hMi
      obtain ⟨hver, hpok⟩ := hA.so _ (List.mem_of_getElem? hSi)
      have hal := hA.al i ver pl mv hSi hMi
      obtain ⟨vp, ps, hat, hvp, hps, ops⟩ : ∃ (vp : V) (ps : List Part), atI [v0, v1] ver = some vp ∧ PolAt H vp ps ∧ (if ver = 0 then p0 else p1) = ps ∧ LocOk ps := by
        rcases hver with e | e
        · have e : ver = 0 := e
          subst e
          exact ⟨v0, p0, at0, hmv.h0, rfl, hmv.o0⟩
        · have e : ver = 1 := e
          subst e
          exact ⟨v1, p1, at1, hmv.h1, rfl, hmv.o1⟩
      rw [hps] at hal
      have hm1 := s1 _ _ hm
      have hsA1 := s1 _ _ hsA
      have hmvA1 := s1 _ _ hmvA
      have hplA1 := s1 _ _ hplA
      have ht1 := s1 _ _ ht
      have at1' : atI ss (i : Nat) = some (.ref t) := at_of rfl hus
      have at2' : atI rs (i : Nat) = some (.ref r) := at_of rfl hur
      walk_at "ss"
      refine ⟨vp, g, pv, r, ps, ls, pl, mv, flyOf F i, tldOf Td i, rfl, hvp.same s1, ops, hmv.hg.same s1, hmv.hls, hpv.mono fun _ _ e => s1 _ _ e, hpok, s1 _ _ hr, zM mv (List.mem_of_getElem? hMi), hal, fun q fl tl fus tus H2 s12 hq hfl htl hfr htr => ?_⟩
      have s2 : Same H H2 := s1.trans s12
      have hm2 := s2 _ _ hm
      walk_at "ss"
      -- what flies
      refine w_lcFM (fun f : Fly => decide (f.1 = i)) (fun f => plK f.2.2) KeyAt (fun _ _ _ _ e h => h.mono e) (SqL.of (s2 _ _ hm3)) (hF.mono fun u x => FlAt.mono (H' := H2) fun _ _ e => s2 _ _ e) (by omega) (fun Q q => by walk_at "ss"; exact q) (fun _ => rfl) (fun u f H3 _ hu s3 R hR => ?_) (fun u f H3 Q' _ hu _ s3 hQ => ?_) fun D acc H3 hs3 hacc => ?_
      · obtain ⟨t, pv, rfl, ht, _⟩ := hu
        have ht3 := s3 _ _ ht
        walk_at "ss"
        rw [num_eq]
        exact hR H3 (Same.refl _)
      · obtain ⟨t, pv, rfl, ht, hpv⟩ := hu
        have ht3 := s3 _ _ ht
        walk_at "ss"
        exact hQ pv H3 (Same.refl _) (hpv.mono fun _ _ e => s3 _ _ e)
      have e1 : (F.filter fun f => decide (f.1 = i)).map (fun f => plK f.2.2) = (flyOf F i).map plK := by
        unfold flyOf
        rw [List.map_map]
        rfl
      rw [e1] at hacc
      refine w_neRows (R := KeyAt H3) (d := dK) (fun _ _ h => h.dp) (fun k => ⟨dK_lay k, by have := dK_dep k; omega⟩) (hs3.same _ _ hfl) hs3.g0 (hfr.mono fun u x => KeyAt.mono hs3.tups) hacc ?_
      refine ⟨_, rfl, iteF ?_⟩
      have s3 : Same H H3 := s2.trans hs3.same
      have htl3 := hs3.same _ _ htl
      have htr3 := htr.mono fun u x => StpAt.mono (H' := H3) hs3.tups
      have hm3' := s3 _ _ hm
      clear hs3 hacc
      walk_at "ss"
      -- what is told
      refine w_lcFM (fun f : Tld => decide (f.1 = i)) (fun f => f.2.2) StpAt (fun _ _ _ _ e h => h.mono e) (SqL.of (s3 _ _ hm4)) (hT.mono fun u x => TlAt.mono (H' := H3) fun _ _ e => s3 _ _ e) (by omega) (fun Q q => by walk_at "ss"; refine w_ixL (SqL.of hm3') a4 ?_; exact q) (fun _ => rfl) (fun u f H4 _ hu s4 R hR => ?_) (fun u f H4 Q' _ hu _ s4 hQ => ?_) fun D acc H4 hs4 hacc => ?_
      · obtain ⟨t, vs, rfl, ht, _⟩ := hu
        have ht3 := s4 _ _ ht
        walk_at "ss"
        rw [num_eq]
        exact hR H4 (Same.refl _)
      · obtain ⟨t, vs, rfl, ht, hit⟩ := hu
        have ht3 := s4 _ _ ht
        have hit3 := hit.mono (H' := H4) fun _ _ e => s4 _ _ e
        have hne : ∃ b c d, vs = b :: c :: d := by
          rcases f with ⟨_, _, x⟩
          cases x with
          | out _ _ =>
            obtain ⟨t, rfl, _⟩ := hit
            exact ⟨_, _, _, rfl⟩
          | lost _ _ =>
            obtain ⟨t, _, rfl, _⟩ := hit
            exact ⟨_, _, _, rfl⟩
          | inn _ =>
            obtain ⟨t, rfl, _⟩ := hit
            exact ⟨_, _, _, rfl⟩
        walk_at "ss"
        refine w_slTF (Hs.start H4) ht3 (fun z => ?_) fun l B5 H5 s5 hs5 hl => ?_
        · obtain ⟨b, c, d, rfl⟩ := hne
          exact nomatch (show (2 : Nat) = 0 from z.1)
        · rw [cut_from (j := 2) 2 rfl] at hl
          exact hQ (.ref l) H5 (s5.trans hs5.same) (StpIt.at_ (hs5.same _ _ hl) (hit3.mono fun _ _ e => hs5.same _ _ (s5 _ _ e)))
      have e2 : (Td.filter fun f => decide (f.1 = i)).map (fun f => f.2.2) = tldOf Td i := rfl
      rw [e2] at hacc
      refine w_neRows (R := StpAt H4) (d := stpD) (fun _ _ h => stp_dp h) stp_ok (hs4.same _ _ htl3) hs4.g0 (htr3.mono fun u x => StpAt.mono hs4.tups) hacc ?_
      refine ⟨_, rfl, iteF ?_⟩
      have s4 : Same H H4 := s3.trans hs4.same
      have hm4' := s4 _ _ hm
      have hm3'' := s4 _ _ hm3
      have hm4'' := s4 _ _ hm4
      clear hs4 hacc
      have i4 : atI [r0, r1, r2, .ref m3, .ref m4, r5] 4 = some (.ref m4) := a4
      have hs4 := Hs.start H4
      walk_at "ss"
      refine w_lcLR ?_
      walk_at "ss"
      rename_i cat H5 hs5
      refine w_listR (SqL.of hs5.g0) fun D hD => ?_
      refine turns_list (xs := ms ++ mt) (fun i H' => Hs H4 [(D, .lst []), (cat, .lst (ms ++ mt))] H') (hs5.new hD) (fun i H' _ h => SqL.of h.g1) ?_ ?_
      · rintro j u H6 hj hs6
        obtain ⟨hd, hhd, hnv⟩ : ∃ hd : Nat × Int, HdAt H6 u hd ∧ (hd.1 = i → hd.2 = ver) := by
          by_cases hjl : j < ms.length
          · rw [List.getElem?_append_left hjl] at hj
            obtain ⟨f, hf, t, pv, e, ht, _⟩ := hF.get hj
            refine ⟨(f.1, f.2.1), ⟨t, _, e, hs6.same _ _ (s4 _ _ ht)⟩, fun z => ?_⟩
            obtain ⟨p, hp⟩ := hA.fb f (List.mem_of_getElem? hf)
            rw [show f.1 = i from z, hSi] at hp
            cases hp
            rfl
          · rw [List.getElem?_append_right (by omega)] at hj
            obtain ⟨f, hf, t, pv, e, ht, _⟩ := hT.get hj
            refine ⟨(f.1, f.2.1), ⟨t, _, e, hs6.same _ _ (s4 _ _ ht)⟩, fun z => ?_⟩
            obtain ⟨p, hp⟩ := hA.tb f (List.mem_of_getElem? hf)
            rw [show f.1 = i from z, hSi] at hp
            cases hp
            rfl
        obtain ⟨t, rest, rfl, ht⟩ := hhd
        refine w_name ⟨rfl, ?_⟩
        walk_at "ss"
        rw [num_eq]
        refine ifd (fun h1 => ?_) (fun h1 => ?_)
        · walk_at "ss"
          rw [decide_eq_true (hnv h1)]
          exact hs6
        · exact hs6
      · rintro H6 hs6
        walk_at "ss"
        refine ifd (fun z => absurd z (by decide)) (fun _ => ?_)
        walk_at "ss"
        exact ⟨_, _, _, _, _, rfl, s4.trans hs6.same⟩
    · rintro σ H1 ⟨v5, v6, v7, v8, v9, rfl, s1⟩
      walk_at "ss"
      exact k H1 s1
end
local macro_rules | `(tactic| walk_at "v") => `(tactic| first | exact v0 | exact v1 | exact v2 | exact v3 | exact v4 | exact v5 | exact v6 | exact v7 | exact v8)
local macro_rules | `(tactic| walk_at "vs") => `(tactic| first | exact st0 | exact st1 | exact st2 | exact st3 | exact st4 | exact st5 | exact st6 | exact st7 | exact st8)
local macro_rules | `(tactic| walk_at "s") => `(tactic| first
  | with_reducible refine w_dget ?_
  | ((with_reducible refine' w_dgetZ ?h ?nd ?hk ?hv ?_); (case h => walk_at "g"); (case nd => walk_at "nd"); (case hk => walk_at "k"); (case hv => walk_at "v"))
  | ((with_reducible refine' w_dputZ ?hs ?h ?nd ?hk ?hv ?hu ?hl ?_); (case hs => assumption); (case h => walk_at "p"); (case nd => walk_at "nd"); (case hk => walk_at "k"); (case hv => walk_at "v"); (case hu => walk_at "vs"); (case hl => decide); intro _ _)
  | with_reducible refine w_gsub ?_
  | with_reducible refine w_setD ?_
  | with_reducible refine w_disp ?_
  | ((with_reducible refine' w_newP ?hs ?_); (case hs => assumption); intro _ _ _)
  | with_reducible refine w_pcons ?_
  | with_reducible refine w_pnil ?_)

local macro_rules | `(tactic| walk_at "s") => `(tactic| first
  | with_reducible refine w_nget ?_
  | with_reducible refine w_nin ?_
  | with_reducible refine w_nnot ?_
  | with_reducible refine w_nput ?_
  | with_reducible refine w_ndel ?_
  | with_reducible refine w_npop ?_
  | ((with_reducible refine' w_nnew ?hs ?_); (case hs => assumption); intro _ _ _))

local macro_rules | `(tactic| walk_at "s") => `(tactic| first
  | with_reducible refine w_ninF ?_
  | with_reducible refine w_nsetd ?_
  | with_reducible refine w_ckw ?_)

/-! ## all that the law holds -/
structure NA where
  (st c m m0 m1 m2 m3 m4 sA mvA x dx fl tl pp dd d1 d2 d3 : Addr)
structure DS where
  (n : Nat)
  (fs ts ms mt ss : List V)
  (mvs : List (Addr × List Nat))
  (xi xt xr : List Int)
  (F : List Fly)
  (Td : List Tld)
  (S : Hist)
abbrev mvR (mvs : List (Addr × List Nat)) : List (Addr × HO) := mvs.map fun x => (x.1, .lst (x.2.map natV))
abbrev mvU (mvs : List (Addr × List Nat)) : List V := mvs.map fun x => .ref x.1
def lawL (a : Ad) (N : NA) (g : V) (D : DS) (cm : Int) (cells : List Int) : List (Addr × HO) :=
  (N.st, sto N.c cm) :: (N.c, clo cells) :: (N.m, .lst [.ref N.m0, .ref N.m1, .ref N.m2, .ref N.m3, .ref N.m4, .int (D.n : Nat)]) :: (N.m0, .lst (D.xi.map V.int)) :: (N.m1, .lst (D.xt.map V.int)) :: (N.m2, .lst (D.xr.map V.int)) :: (N.m3, .lst D.ms) :: (N.m4, .lst D.mt) :: (N.sA, .lst D.ss) :: (N.mvA, .lst (mvU D.mvs)) ::
  (N.x, rolO a N.dx N.fl N.tl g N.pp N.dd D.n) :: (N.fl, .lst D.fs) :: (N.tl, .lst D.ts) :: (N.dd, doneO N.d1 N.d2 N.d3) :: (N.d1, setO D.xi) :: (N.d2, setO D.xt) :: (N.d3, setO D.xr) :: mvR D.mvs
/-- what the callees own, and the others -/
abbrev owL (a : Ad) (N : NA) (g : V) (D : DS) : List (Addr × HO) := rolL a N.x N.dx N.fl N.tl g N.pp N.dd N.d1 N.d2 N.d3 D.n D.fs D.ts D.xi D.xt D.xr ++ modL N.m N.m0 N.m1 N.m2 N.m3 N.m4 D.n D.ms D.mt D.xi D.xt D.xr
abbrev reL (N : NA) (D : DS) (cm : Int) (cells : List Int) : List (Addr × HO) := (N.st, sto N.c cm) :: (N.c, clo cells) :: (N.sA, .lst D.ss) :: (N.mvA, .lst (mvU D.mvs)) :: mvR D.mvs
theorem Hs.selR {B H : Hp} (A R : List (Addr × HO)) (hs : Hs B (A ++ R) H) (idx : List Nat) (h : idx.Nodup := by decide) : Hs B (idx.filterMap (fun i => A[i]?) ++ R) H := by
  have nd := hs.nd
  rw [List.map_append, List.nodup_append] at nd
  obtain ⟨n1, n2, n3⟩ := nd
  have hin : ∀ e ∈ idx.filterMap (fun i => A[i]?), e ∈ A := fun e he => by
    obtain ⟨i, _, q⟩ := sel_mem he
    exact List.mem_of_getElem? q
  have hin2 : ∀ e ∈ idx.filterMap (fun i => A[i]?) ++ R, e ∈ A ++ R := fun e he => by
    rcases List.mem_append.mp he with he | he
    · exact List.mem_append_left _ (hin e he)
    · exact List.mem_append_right _ he
  refine ⟨hs.same, ?_, fun e he => hs.out e (hin2 e he), fun e he => hs.at_ e (hin2 e he)⟩
  rw [List.map_append, List.nodup_append]
  refine ⟨sel_nd n1 h, n2, fun x hx y hy => ?_⟩
  obtain ⟨e, he, rfl⟩ := List.mem_map.mp hx
  exact n3 _ (List.mem_map_of_mem (hin e he)) y hy
theorem put_app {R R' : List (Addr × HO)} {p : Addr} {o o' : HO} (h : Put R p o o' R') : ∀ A : List (Addr × HO), Put (A ++ R) p o o' (A ++ R')
  | [] => h
  | _ :: A => .there (put_app h A)
section
variable {a : Ad} {N : NA} {g : V} {D : DS} {cm : Int} {cells : List Int} {B H : Hp}
theorem law_ow (hs : Hs B (lawL a N g D cm cells) H) : Hs B (owL a N g D ++ reL N D cm cells) H :=
  Hs.selR [_, _, _, _, _, _, _, _, _, _, _, _, _, _, _, _, _] (mvR D.mvs) hs [10, 11, 12, 13, 14, 15, 16, 2, 3, 4, 5, 6, 7, 0, 1, 8, 9]
theorem ow_law (hs : Hs B (owL a N g D ++ reL N D cm cells) H) : Hs B (lawL a N g D cm cells) H :=
  Hs.selR [_, _, _, _, _, _, _, _, _, _, _, _, _, _, _, _, _] (mvR D.mvs) hs [13, 14, 7, 8, 9, 10, 11, 12, 15, 16, 0, 1, 2, 3, 4, 5, 6]
theorem mvR_ok (mvs : List (Addr × List Nat)) : (mvR mvs).all (fun e => noTup e.2) = true := by
  rw [List.all_eq_true]
  intro e he
  obtain ⟨x, _, rfl⟩ := List.mem_map.mp he
  rfl
theorem reL_ok : (reL N D cm cells).all (fun e => noTup e.2) = true := by
  show (noTup _ && (noTup _ && (noTup _ && (noTup _ && (mvR D.mvs).all _)))) = true
  rw [mvR_ok]
  rfl
theorem set_same {α : Type} : ∀ {l : List α} {i : Nat} {v : α}, l[i]? = some v → l.set i v = l
  | [], _, _, _ => rfl
  | x :: l, 0, v, h => by
    have : x = v := by simpa using h
    rw [this]
    rfl
  | x :: l, i + 1, v, h => by
    show x :: l.set i v = x :: l
    rw [set_same (by simpa using h)]
theorem mvU_set {mvs : List (Addr × List Nat)} {i : Nat} {p : Addr} {ms ns : List Nat} (h : mvs[i]? = some (p, ms)) : mvU (mvs.set i (p, ns)) = mvU mvs := by
  unfold mvU
  rw [List.map_set]
  exact set_same (by rw [List.getElem?_map, h]; rfl)
theorem put_mv {i c : Nat} {p : Addr} {ms : List Nat} (h : D.mvs[i]? = some (p, ms)) : Put (lawL a N g D cm cells) p (.lst (ms.map natV)) (.lst (ms.map natV ++ [natV c])) (lawL a N g { D with mvs := D.mvs.set i (p, ms ++ [c]) } cm cells) := by
  have e1 : mvR (D.mvs.set i (p, ms ++ [c])) = (mvR D.mvs).set i (p, .lst (ms.map natV ++ [natV c])) := by
    unfold mvR
    rw [List.map_set, List.map_append]
    rfl
  unfold lawL
  dsimp only
  rw [mvU_set h, e1]
  exact put_app (put_ix _ (by rw [List.getElem?_map, h]; rfl)) [_, _, _, _, _, _, _, _, _, _, _, _, _, _, _, _, _]
end
structure Lf (N : NA) (g v0 v1 pl : V) (p0 p1 : List Part) (ls : List Lk) (k : Nat) (D : DS) (B : Hp) : Prop where
  mv : MvOk B pl g v0 v1 p0 p1 ls
  pp : B N.pp = some (.tup [v0, v1])
  hF : Row (FlAt B) D.fs D.F
  hM : Row (FlAt B) D.ms D.F
  hT : Row (TlAt B) D.ts D.Td
  hN : Row (TlAt B) D.mt D.Td
  hS : Row (HsAt B) D.ss D.S
  hI : RInv D.xi D.xt D.xr D.F
  hA : AInv p0 p1 ls D.n D.S (D.mvs.map (·.2)) D.F D.Td
  zF : D.F.length ≤ 6 * k
  zT : D.Td.length ≤ 6 * k
  zn : D.n ≤ k
  zM : ∀ x ∈ D.mvs, x.2.length ≤ k
section
variable {a : Ad} {N : NA} {g v0 v1 pl : V} {p0 p1 : List Part} {ls : List Lk} {k : Nat} {D : DS} {cm : Int} {cells : List Int} {B B' H : Hp} {Q : VK} {E : XK}
theorem Lf.same (h : Lf N g v0 v1 pl p0 p1 ls k D B) (s : Same B B') : Lf N g v0 v1 pl p0 p1 ls k D B' :=
  ⟨h.mv.same s, s _ _ h.pp, h.hF.mono fun _ _ => FlAt.mono fun _ _ e => s _ _ e, h.hM.mono fun _ _ => FlAt.mono fun _ _ e => s _ _ e, h.hT.mono fun _ _ => TlAt.mono fun _ _ e => s _ _ e, h.hN.mono fun _ _ => TlAt.mono fun _ _ e => s _ _ e, h.hS.mono fun _ _ => HsAt.mono fun _ _ e => s _ _ e, h.hI, h.hA, h.zF, h.zT, h.zn, h.zM⟩
theorem Lf.up (h : Lf N g v0 v1 pl p0 p1 ls k D B) : Lf N g v0 v1 pl p0 p1 ls (k + 1) D B :=
  ⟨h.mv, h.pp, h.hF, h.hM, h.hT, h.hN, h.hS, h.hI, h.hA, by have := h.zF; omega, by have := h.zT; omega, by have := h.zn; omega, fun x hx => by have := h.zM x hx; omega⟩
theorem w_lperf {j : Nat} {dk : Str} {s : Int} (hs : Hs B (lawL a N g D cm cells) H) (h : Lf N g v0 v1 pl p0 p1 ls k D B) (hk : k ≤ 100) (hj : deeds[j]? = some dk) (hj3 : j < 3) (h1 : 1 ≤ s) (h3 : s ≤ 3)
    (q : ∀ D2 B2 H', Same B B2 → Hs B2 (lawL a N g D2 cm cells) H' → Lf N g v0 v1 pl p0 p1 ls (k + 1) D2 B2 → Q (.bl true) H') : sp__law_perform a [.ref N.x, .ref N.m, .str dk, .int s] H Q E := by
  obtain ⟨B', sB, ha, back⟩ := Hs.frameG (owL a N g D) (law_ow hs) reL_ok
  have h' := h.same sB
  have zF := h.zF
  refine ⟨B', N.x, N.dx, N.fl, N.tl, N.pp, N.dd, N.d1, N.d2, N.d3, N.m, N.m0, N.m1, N.m2, N.m3, N.m4, g, D.n, D.fs, D.ts, D.ms, D.mt, D.xi, D.xt, D.xr, ls, D.F, j, dk, s, rfl, ha, h'.mv.hg, h'.hF, h'.hM, by omega, hj, h1, h3, h.hI.si, h.hI.st, h.hI.sr, fun hm B2 H' s2 hb => ?_, fun hm H' hb => ?_⟩
  · obtain ⟨B3, s3, hc, _⟩ := back _ _ _ s2 hb
    exact q D B3 H' s3 (ow_law hc) (h.same s3).up
  · obtain ⟨B3, s3, hc, _⟩ := back _ _ _ (Same.refl _) hb
    have hu := (h.same s3).up
    exact q { D with xi := addM j 0 s D.xi, xt := addM j 1 s D.xt, xr := addM j 2 s D.xr } B3 H' s3 (ow_law hc) ⟨hu.mv, hu.pp, hu.hF, hu.hM, hu.hT, hu.hN, hu.hS, hu.hI.perform hj3 hm, hu.hA, hu.zF, hu.zT, hu.zn, hu.zM⟩
theorem w_lwrong (hs : Hs B (lawL a N g D cm cells) H) (h : Lf N g v0 v1 pl p0 p1 ls k D B) (hk : k ≤ 100)
    (q : ∀ D2 B2 H', Same B B2 → Hs B2 (lawL a N g D2 cm cells) H' → Lf N g v0 v1 pl p0 p1 ls (k + 1) D2 B2 → Q (.bl true) H') : sp__law_wrong a [.ref N.x, .ref N.m] H Q E := by
  obtain ⟨B', sB, ha, back⟩ := Hs.frameG (owL a N g D) (law_ow hs) reL_ok
  have h' := h.same sB
  have zF := h.zF
  have zT := h.zT
  refine ⟨B', N.x, N.dx, N.fl, N.tl, N.pp, N.dd, N.d1, N.d2, N.d3, N.m, N.m0, N.m1, N.m2, N.m3, N.m4, g, v0, v1, pl, D.n, D.fs, D.ts, D.ms, D.mt, D.xi, D.xt, D.xr, ls, p0, p1, D.F, D.Td, rfl, ha, h'.mv, h'.pp, h'.hF, h'.hM, h'.hT, by omega, by omega, fun H' hb => ?_⟩
  obtain ⟨B3, s3, hc, _⟩ := back _ _ _ (Same.refl _) hb
  exact q D B3 H' s3 (ow_law hc) (h.same s3).up
theorem w_lmove {i : Nat} {f : Fly} {p : Addr} {ms : List Nat} (hp : D.mvs[f.1]? = some (p, ms)) (hs : Hs B (lawL a N g { D with mvs := D.mvs.set f.1 (p, ms ++ [cntOf D.F i f.1]) } cm cells) H) (h : Lf N g v0 v1 pl p0 p1 ls k D B) (hk : k ≤ 100) (hf : D.F[i]? = some f)
    (q : ∀ D2 B2 H', Same B B2 → Hs B2 (lawL a N g D2 cm cells) H' → Lf N g v0 v1 pl p0 p1 ls (k + 1) D2 B2 → Q (.bl true) H') : sp__law_move a [.ref N.x, .ref N.m, .int (i : Nat), pl, g] H Q E := by
  obtain ⟨B', sB, ha, back⟩ := Hs.frameG (owL a N g { D with mvs := D.mvs.set f.1 (p, ms ++ [cntOf D.F i f.1]) }) (law_ow hs) reL_ok
  have h' := h.same sB
  have zF := h.zF
  have zT := h.zT
  refine ⟨B', N.x, N.dx, N.fl, N.tl, N.pp, N.dd, N.d1, N.d2, N.d3, N.m, N.m0, N.m1, N.m2, N.m3, N.m4, g, v0, v1, pl, D.n, D.fs, D.ts, D.ms, D.mt, D.xi, D.xt, D.xr, ls, p0, p1, D.F, D.Td, i, f, rfl, ha, h'.mv, h'.pp, h'.hF, h'.hM, h'.hT, h'.hN, by omega, by omega, h.hI, hf, fun B2 fs2 ts2 ms2 mt2 H' s2 hb r1 r2 r3 r4 => ?_⟩
  obtain ⟨B3, s3, hc, tp⟩ := back _ _ _ s2 hb
  have hu := h.same s3
  have e : (D.mvs.set f.1 (p, ms ++ [cntOf D.F i f.1])).map (·.2) = (D.mvs.map (·.2)).set f.1 (ms ++ [cntOf D.F i f.1]) := List.map_set
  refine q { D with mvs := D.mvs.set f.1 (p, ms ++ [cntOf D.F i f.1]), fs := fs2, ts := ts2, ms := ms2, mt := mt2, F := moveF p0 p1 ls D.F i f, Td := moveT p0 p1 ls D.Td f } B3 H' s3 (ow_law hc) ⟨hu.mv, hu.pp, r1.mono fun _ _ => FlAt.mono tp, r2.mono fun _ _ => FlAt.mono tp, r3.mono fun _ _ => TlAt.mono tp, r4.mono fun _ _ => TlAt.mono tp, hu.hS, h.hI.move h.mv.hls hf, ?_, ?_, ?_, Nat.le_succ_of_le h.zn, fun x hx => ?_⟩
  · show AInv p0 p1 ls D.n D.S _ _ _
    rw [e]
    exact h.hA.move hf (by rw [List.getElem?_map, hp]; rfl)
  · have := moveF_len (p0 := p0) (p1 := p1) (ls := ls) (F := D.F) (i := i) (f := f) h.mv.o0.1 h.mv.o1.1
    show (moveF p0 p1 ls D.F i f).length ≤ _
    omega
  · have := moveT_len (p0 := p0) (p1 := p1) (ls := ls) (T := D.Td) (f := f) h.mv.o0.1 h.mv.o1.1
    show (moveT p0 p1 ls D.Td f).length ≤ _
    omega
  · rcases List.mem_or_eq_of_mem_set hx with hx | rfl
    · have := h.zM x hx
      omega
    · have := h.zM _ (List.mem_of_getElem? hp)
      show (ms ++ [_]).length ≤ _
      rw [List.length_append]
      exact Nat.succ_le_succ this
end
local macro_rules | `(tactic| walk_at "v") => `(tactic| first | exact v0 | exact v1 | exact v2 | exact v3 | exact v4 | exact v5 | exact v6 | exact v7 | exact v8)
local macro_rules | `(tactic| walk_at "vs") => `(tactic| first | exact st0 | exact st1 | exact st2 | exact st3 | exact st4 | exact st5 | exact st6 | exact st7 | exact st8)
local macro_rules | `(tactic| walk_at "s") => `(tactic| first
  | with_reducible refine w_dget ?_
  | ((with_reducible refine' w_dgetZ ?h ?nd ?hk ?hv ?_); (case h => walk_at "g"); (case nd => walk_at "nd"); (case hk => walk_at "k"); (case hv => walk_at "v"))
  | ((with_reducible refine' w_dputZ ?hs ?h ?nd ?hk ?hv ?hu ?hl ?_); (case hs => assumption); (case h => walk_at "p"); (case nd => walk_at "nd"); (case hk => walk_at "k"); (case hv => walk_at "v"); (case hu => walk_at "vs"); (case hl => decide); intro _ _)
  | with_reducible refine w_gsub ?_
  | with_reducible refine w_setD ?_
  | with_reducible refine w_disp ?_
  | ((with_reducible refine' w_newP ?hs ?_); (case hs => assumption); intro _ _ _)
  | with_reducible refine w_pcons ?_
  | with_reducible refine w_pnil ?_)

local macro_rules | `(tactic| walk_at "s") => `(tactic| first
  | with_reducible refine w_nget ?_
  | with_reducible refine w_nin ?_
  | with_reducible refine w_nnot ?_
  | with_reducible refine w_nput ?_
  | with_reducible refine w_ndel ?_
  | with_reducible refine w_npop ?_
  | ((with_reducible refine' w_nnew ?hs ?_); (case hs => assumption); intro _ _ _))

local macro_rules | `(tactic| walk_at "s") => `(tactic| first
  | with_reducible refine w_ninF ?_
  | with_reducible refine w_nsetd ?_
  | with_reducible refine w_ckw ?_)

section
variable {a : Ad} {N : NA} {g : V} {D : DS} {cm : Int} {cells : List Int} {B H : Hp} {Q : VK} {E : XK}
/-- the model as it was, the net one datum ahead -/
def ahead (a : Ad) (N : NA) (g : V) (D : DS) (n' : Nat) (fs' : List V) (cm : Int) (cells : List Int) : List (Addr × HO) :=
  (N.st, sto N.c cm) :: (N.c, clo cells) :: (N.m, .lst [.ref N.m0, .ref N.m1, .ref N.m2, .ref N.m3, .ref N.m4, .int (D.n : Nat)]) :: (N.m0, .lst (D.xi.map V.int)) :: (N.m1, .lst (D.xt.map V.int)) :: (N.m2, .lst (D.xr.map V.int)) :: (N.m3, .lst D.ms) :: (N.m4, .lst D.mt) :: (N.sA, .lst D.ss) :: (N.mvA, .lst (mvU D.mvs)) ::
  (N.x, rolO a N.dx N.fl N.tl g N.pp N.dd n') :: (N.fl, .lst fs') :: (N.tl, .lst D.ts) :: (N.dd, doneO N.d1 N.d2 N.d3) :: (N.d1, setO D.xi) :: (N.d2, setO D.xt) :: (N.d3, setO D.xr) :: mvR D.mvs
abbrev tenL (N : NA) (D : DS) (cm : Int) (cells : List Int) : List (Addr × HO) := (N.st, sto N.c cm) :: (N.c, clo cells) :: (N.m, .lst [.ref N.m0, .ref N.m1, .ref N.m2, .ref N.m3, .ref N.m4, .int (D.n : Nat)]) :: (N.m0, .lst (D.xi.map V.int)) :: (N.m1, .lst (D.xt.map V.int)) :: (N.m2, .lst (D.xr.map V.int)) :: (N.m3, .lst D.ms) :: (N.m4, .lst D.mt) :: (N.sA, .lst D.ss) :: (N.mvA, .lst (mvU D.mvs)) :: mvR D.mvs
theorem law_net {n' : Nat} {fs' : List V} (hs : Hs B (ahead a N g D n' fs' cm cells) H) : Hs B (rolL a N.x N.dx N.fl N.tl g N.pp N.dd N.d1 N.d2 N.d3 n' fs' D.ts D.xi D.xt D.xr ++ tenL N D cm cells) H :=
  Hs.selR [_, _, _, _, _, _, _, _, _, _, _, _, _, _, _, _, _] (mvR D.mvs) hs [10, 11, 12, 13, 14, 15, 16, 0, 1, 2, 3, 4, 5, 6, 7, 8, 9]
theorem net_law {n' : Nat} {fs' : List V} (hs : Hs B (rolL a N.x N.dx N.fl N.tl g N.pp N.dd N.d1 N.d2 N.d3 n' fs' D.ts D.xi D.xt D.xr ++ tenL N D cm cells) H) : Hs B (ahead a N g D n' fs' cm cells) H :=
  Hs.selR [_, _, _, _, _, _, _, _, _, _, _, _, _, _, _, _, _] (mvR D.mvs) hs [7, 8, 9, 10, 11, 12, 13, 14, 15, 16, 0, 1, 2, 3, 4, 5, 6]
theorem tenL_ok : (tenL N D cm cells).all (fun e => noTup e.2) = true := by
  show (noTup _ && (noTup _ && (noTup _ && (noTup _ && (noTup _ && (noTup _ && (noTup _ && (noTup _ && (noTup _ && (noTup _ && (mvR D.mvs).all _)))))))))) = true
  rw [mvR_ok]
  rfl
theorem w_lenter {ta : Addr} {pl : Plc} {s p : Int} (hs : Hs B (lawL a N g D cm cells) H) (hz : D.fs.length ≤ 1000) (hta : B ta = some (.tup (pl.2.2.map V.int))) (e1 : s = pl.1) (e2 : p = pl.2.1)
    (q : ∀ u B2 H', Same B B2 → Hs B2 (ahead a N g D (D.n + 1) (D.fs ++ [u]) cm cells) H' → FlAt B2 u (D.n, verM D.xt pl.1, pl) → Q (.int (D.n : Nat)) H') : sp_enter a [.ref N.x, .int s, .int p, .ref ta] H Q E :=
  w_enter (law_net hs) tenL_ok hz hta e1 e2 fun u B2 H' s2 h2 hu => q u B2 H' s2 (net_law h2) hu
theorem hs_end {A R : List (Addr × HO)} {x : Addr × HO} (hs : Hs B (x :: (A ++ R)) H) : Hs B (A ++ (R ++ [x])) H :=
  hs.perm (by rw [← List.append_assoc]; exact List.perm_append_singleton x (A ++ R))
end
section
variable {P : Program} [IsP P] {w : World} {K : PySem.W.Frag} {mg : Str → Option Value} {base : Heap} {a : Ad}
/-! ## one deed -/
def sp__law_deed (a : Ad) : Sp := fun vs H Q _ => ∃ (N : NA) (g v0 v1 pl : V) (p0 p1 : List Part) (ls : List Lk) (k : Nat) (D : DS) (B : Hp) (cm : Int) (cells : List Int), vs = [.ref N.st, .ref N.x, .ref N.m, .ref N.sA, .ref N.mvA, pl, g] ∧ Hs B (lawL a N g D cm cells) H ∧ Good cm cells ∧ Lf N g v0 v1 pl p0 p1 ls k D B ∧ k ≤ 100 ∧
  ∀ D2 B2 cm2 cells2 H', Same B B2 → Hs B2 (lawL a N g D2 cm2 cells2) H' → Good cm2 cells2 → Lf N g v0 v1 pl p0 p1 ls (k + 1) D2 B2 → Q (.bl true) H'
theorem ok__law_deed (T : Txt w K mg a) : FnOk P w K mg base CX0 13 a._law_deed a.fd__law_deed ["state", "net", "m", "starts", "moves", "policies", "graph"] (sp__law_deed a) := by
  have G__law_draw := ok__law_draw (P := P) (w := w) (base := base) T
  have G__law_perform := ok__law_perform (P := P) (w := w) (base := base) T
  have G__law_start := ok__law_start (P := P) (w := w) (base := base) T
  have G_Rollout_enter := ok_Rollout_enter (P := P) (w := w) (base := base) T
  have G__law_wrong_move := ok__law_wrong_move (P := P) (w := w) (base := base) T
  have G__law_move := ok__law_move (P := P) (w := w) (base := base) T
  refine T.fn__law_deed.ok sc__law_deed (fun vs H Q E h => ?_) (fun cdv A outer s H vs Q E hr h => ?_)
  · obtain ⟨_, _, _, _, _, _, _, _, _, _, _, _, _, rfl, _⟩ := h
    rfl
  · obtain ⟨N, g, v0, v1, pl, p0, p1, ls, k, D, B, cm, cells, rfl, hs, good, h, hk, kk⟩ := h
    have hu := hu_of hr
    have c1 := T.cl_Rollout
    obtain ⟨plA, rfl, hplA⟩ := h.mv.pol
    have zF := h.zF
    have zT := h.zT
    have zn := h.zn
    have hfl : D.fs.length = D.F.length := h.hF.1
    have hml : D.ms.length = D.F.length := h.hM.1
    have hsl : D.ss.length = D.n := by rw [h.hS.1, h.hA.sl]
    have hvl : D.mvs.length = D.n := by
      have := h.hA.ml
      rwa [List.length_map] at this
    have hul : (mvU D.mvs).length = D.n := by rw [List.length_map, hvl]
    refine ⟨_, (pss_cons (ps_set (i := 7) sc__law_deed.nd rfl (Or.inl rfl) (pe_call G__law_draw (hr.mono (by first | decide | omega)) rfl T.mg__law_draw T.kp__law_draw T.bi__law_draw .nil pass0 (pa_cons (pv 0) (pa_cons pe_int pa_nil))))
  (pss_cons (ps_if (pt_cmpR op_lt (pv 7) pe_int (nomark _))
  (pss_cons (ps_set (i := 8) sc__law_deed.nd rfl (Or.inl rfl) (pe_lst (pa_cons pe_str (pa_cons pe_str (pa_cons pe_str pa_nil)))))
  (pss_one (ps_ret (pe_call G__law_perform (hr.mono (by first | decide | omega)) rfl T.mg__law_perform T.kp__law_perform T.bi__law_perform .nil pass0 (pa_cons (pv 1) (pa_cons (pv 2) (pa_cons (pe_ix (ix_listK (K := K)) (pv 8) (pe_call G__law_draw (hr.mono (by first | decide | omega)) rfl T.mg__law_draw T.kp__law_draw T.bi__law_draw .nil pass0 (pa_cons (pv 0) (pa_cons pe_int pa_nil))) (fun _ _ => rfl)) (pa_cons (pe_op op_add pe_int (pe_call G__law_draw (hr.mono (by first | decide | omega)) rfl T.mg__law_draw T.kp__law_draw T.bi__law_draw .nil pass0 (pa_cons (pv 0) (pa_cons pe_int pa_nil)))) pa_nil))))))))
  pss_nil)
  (C8.pss_cut (ps_if (PW.pt (pw_and (pt_cmpR op_eq (pv 7) pe_int (nomark _)) (pw_and1 (pt_cmpR op_lt (pe_callB (call_lenK (K := K)) (by rfl) T.mg_len PySem.boot_len (pa_cons (pe_ix (ix_listK (K := K)) (pv 2) pe_int (fun _ _ => rfl)) pa_nil)) pe_int (nomark _)))))
  (pss_cons (ps_set (i := 9) sc__law_deed.nd rfl (Or.inl rfl) (pe_call G__law_start (hr.mono (by first | decide | omega)) rfl T.mg__law_start T.kp__law_start T.bi__law_start .nil pass0 (pa_cons (pv 0) pa_nil)))
  (pss_cons (ps_if (pt_cmpR op_ne (pe_meth (pv 1) T.cl_Rollout T.me_Rollout_enter G_Rollout_enter (hr.mono (by first | decide | omega)) T.bi_Rollout_enter .nil pass0 (pa_cons (pe_ix (ix_tupK (K := K)) (pv 9) pe_int (fun _ _ => rfl)) (pa_cons (pe_ix (ix_tupK (K := K)) (pv 9) pe_int (fun _ _ => rfl)) (pa_cons (pe_ix (ix_tupK (K := K)) (pv 9) pe_int (fun _ _ => rfl)) pa_nil)))) (pe_ix (ix_listK (K := K)) (pv 2) pe_int (fun _ _ => rfl)) (nomark _))
  (pss_one (ps_ret pe_bl))
  pss_nil)
  (pss_cons (ps_set (i := 10) sc__law_deed.nd rfl (Or.inl rfl) (pe_callTy call_intQ (by rfl) T.mg_int (by decide +kernel) (pa_cons (pe_cmpR (op_inK (K := K)) (pe_ix (ix_tupK (K := K)) (pv 9) pe_int (fun _ _ => rfl)) (pe_ix (ix_listK (K := K)) (pv 2) pe_int (fun _ _ => rfl)) (by rfl)) pa_nil)))
  (pss_cons (ps_expr (pe_bmK (K := K) PySem.F.plainAttrs_list PySem.F.slot_list_append PySem.F.type_list_append mt_append (pe_ix (ix_listK (K := K)) (pv 2) pe_int (fun _ _ => rfl)) (pa_cons (pe_tup (pa_cons (pe_ix (ix_listK (K := K)) (pv 2) pe_int (fun _ _ => rfl)) (pa_cons (pv 10) (pa_cons (pv 9) pa_nil)))) pa_nil)))
  (pss_cons (ps_asg (pe_op op_add (pe_ix (ix_listK (K := K)) (pv 2) pe_int (fun _ _ => rfl)) pe_int) (pg_sub (pv 2) pe_int set_list))
  (pss_cons (ps_expr (pe_bmK (K := K) PySem.F.plainAttrs_list PySem.F.slot_list_append PySem.F.type_list_append mt_append (pv 3) (pa_cons (pe_tup (pa_cons (pv 10) (pa_cons (pv 9) pa_nil))) pa_nil)))
  (pss_cons (ps_expr (pe_bmK (K := K) PySem.F.plainAttrs_list PySem.F.slot_list_append PySem.F.type_list_append mt_append (pv 4) (pa_cons (pe_lst pa_nil) pa_nil)))
  (pss_one (ps_ret pe_bl)))))))))
  pss_nil)
  (pss_cons (ps_if (pt_cmpR op_eq (pe_callB (call_lenK (K := K)) (by rfl) T.mg_len PySem.boot_len (pa_cons (pe_ix (ix_listK (K := K)) (pv 2) pe_int (fun _ _ => rfl)) pa_nil)) pe_int (nomark _))
  (pss_one (ps_ret (pe_call G__law_wrong_move (hr.mono (by first | decide | omega)) rfl T.mg__law_wrong_move T.kp__law_wrong_move T.bi__law_wrong_move .nil pass0 (pa_cons (pv 1) (pa_cons (pv 2) pa_nil)))))
  pss_nil)
  (pss_cons (ps_set (i := 11) sc__law_deed.nd rfl (Or.inl rfl) (pe_call G__law_draw (hr.mono (by first | decide | omega)) rfl T.mg__law_draw T.kp__law_draw T.bi__law_draw .nil pass0 (pa_cons (pv 0) (pa_cons (pe_callB (call_lenK (K := K)) (by rfl) T.mg_len PySem.boot_len (pa_cons (pe_ix (ix_listK (K := K)) (pv 2) pe_int (fun _ _ => rfl)) pa_nil)) pa_nil))))
  (pss_cons (ps_set (i := 12) sc__law_deed.nd rfl (Or.inr rfl) (pe_ix (ix_tupK (K := K)) (pe_ix (ix_listK (K := K)) (pe_ix (ix_listK (K := K)) (pv 2) pe_int (fun _ _ => rfl)) (pv 11) (fun _ _ => rfl)) pe_int (fun _ _ => rfl)))
  (pss_cons (ps_expr (pe_bmK (K := K) PySem.F.plainAttrs_list PySem.F.slot_list_append PySem.F.type_list_append mt_append (pe_ix (ix_listK (K := K)) (pv 4) (pv 12) (fun _ _ => rfl)) (pa_cons (pe_callB (call_lenK (K := K)) (by rfl) T.mg_len PySem.boot_len (pa_cons (pe_lc (own := [("row", 13)]) (g := (gName 13)) rfl sc__law_deed.nd (pi_listK (K := K) (pe_slice (sl_listK (K := K)) (pe_ix (ix_listK (K := K)) (pv 2) pe_int (fun _ _ => rfl)) po_none (po_some (pv 11)))) (blkOk_by (own := [("row", 13)]) (N := N__law_deed) (sc := defScope s__law_deed) (by decide +kernel)) (fun _ _ _ _ _ => by exact (pg_name (i := 13) sc__law_deed.nd rfl (Or.inl rfl))) (fun _ _ _ _ _ => by exact pts_one (pt_cmpR op_eq (pe_ix (ix_tupK (K := K)) (pv 13) pe_int (fun _ _ => rfl)) (pv 12) (nomark _))) (fun _ _ _ _ _ => by exact (pv 13))) pa_nil)) pa_nil)))
  (pss_one (ps_ret (pe_call G__law_move (hr.mono (by first | decide | omega)) rfl T.mg__law_move T.kp__law_move T.bi__law_move .nil pass0 (pa_cons (pv 1) (pa_cons (pv 2) (pa_cons (pv 11) (pa_cons (pv 5) (pa_cons (pv 6) pa_nil))))))))))))))), ?_⟩
    walk_at "ss"
    refine w_draw hs good (by omega) fun kd cm1 cells1 H1 hs1 good1 _ hkd => ?_
    have hs1 : Hs B (lawL a N g D cm1 cells1) H1 := hs1
    clear hs good
    walk_at "ss"
    refine ifd (fun h2 => ?_) (fun h2 => ?_)
    · walk_at "ss"
      have hs1' : Hs B (_ :: _ :: _ :: _ :: _ :: _ :: _ :: _ :: _ :: _ :: _ :: _ :: _ :: _ :: _ :: _ :: _ :: _) H1 := hs1
      walk_at "ss"
      rename_i l H2 hs2
      obtain ⟨B1, sB1, hl, hs3⟩ := frz_hs hs2
      clear hs2 hs1'
      refine w_draw hs3 good1 (by omega) fun j0 cm2 cells2 H3 hs4 good2 _ hj0 => ?_
      obtain ⟨j1, j2⟩ := hj0 (by omega)
      obtain ⟨j, rfl⟩ : ∃ j : Nat, j0 = j := ⟨j0.toNat, by omega⟩
      have hj3 : j < 3 := by omega
      obtain ⟨dk, hdk⟩ : ∃ dk, deeds[j]? = some dk := ⟨deeds[j]'hj3, List.getElem?_eq_getElem _⟩
      clear hs3
      refine w_ixL (SqL.of (hs4.same _ _ hl)) (v := .str dk) (at_of rfl (by
        show (deeds.map V.str)[j]? = _
        rw [List.getElem?_map, hdk]
        rfl)) ?_
      walk_at "ss"
      refine w_draw hs4 good2 (by omega) fun s0 cm3 cells3 H4 hs5 good3 _ hs0 => ?_
      obtain ⟨s1, s2⟩ := hs0 (by omega)
      clear hs4
      walk_at "ss"
      refine w_lperf hs5 (h.same sB1) hk hdk hj3 (by omega) (by omega) fun D2 B2 H5 s12 hs6 h6 => ?_
      exact kk D2 B2 cm3 cells3 H5 (sB1.trans s12) hs6 good3 h6
    · refine w_cut (fun σ' H' => σ' = [some (.ref N.st), some (.ref N.x), some (.ref N.m), some (.ref N.sA), some (.ref N.mvA), some (.ref plA), some g, some (.int kd), none, none, none, none, none, none] ∧ H' = H1) ?_ ?_
      · have hs1' : Hs B (_ :: _ :: _ :: _ :: _ :: _ :: _ :: _ :: _ :: _ :: _ :: _ :: _ :: _ :: _ :: _ :: _ :: _) H1 := hs1
        walk_at "ss"
        refine ifd (fun e2 => ?_) (fun e2 => ?_)
        · walk_at "ss"
          refine ifd (fun e3 => ?_) (fun e3 => ?_)
          · walk_at "ss"
            refine w_spS () hs1 good1 rfl (fun H1 H2 v e h => ?_) fun B2 pv cm2 cells2 H2 s2 hs2 good2 hp => ?_
            · obtain ⟨p, z1, z2⟩ := h
              exact ⟨p, z1.mono fun _ _ e' => e _ _ e', z2⟩
            have hs2 : Hs B2 (lawL a N g D cm2 cells2) H2 := hs2
            obtain ⟨p, hpk, hpo⟩ := hp
            obtain ⟨pa, ta, rfl, hpa, hta⟩ := key3 hpk
            have hpo' : PlOk p := ⟨hpo.1, hpo.2.1, hpo.2.2.2.2.1⟩
            have hs2' : Hs B2 (_ :: _ :: _ :: _ :: _ :: _ :: _ :: _ :: _ :: _ :: _ :: _ :: _ :: _ :: _ :: _ :: _ :: _) H2 := hs2
            clear hs1 hs1' good1
            walk_at "ss"
            refine w_lenter hs2 (by omega) hta rfl rfl fun u B3 H3 s3 hs3 hu => ?_
            clear hs2 hs2'
            have hs4 : Hs B3 (_ :: _ :: _ :: _ :: _ :: _ :: _ :: _ :: _ :: _ :: _ :: _ :: _ :: _ :: _ :: _ :: _ :: _) H3 := hs3
            have i5 : atI [V.ref N.m0, .ref N.m1, .ref N.m2, .ref N.m3, .ref N.m4, .int (D.n : Nat)] 5 = some (.int (D.n : Nat)) := a5
            have hpa3 := hs3.same _ _ (s3 _ _ hpa)
            clear hs3
            walk_at "ss"
            rw [decide_eq_true (rfl : ((D.n : Nat) : Int) = (D.n : Nat)), Bool.not_true]
            refine iteF ?_
            walk_at "ss"
            refine w_inIs (SqL.of hs4.g4) ?_
            walk_at "ss"
            refine w_intB ?_
            have ev : (if (if false = true then !decide (p.1 ∈ D.xt) else decide (p.1 ∈ D.xt)) = true then (1 : Int) else 0) = verM D.xt p.1 := by
              unfold verM
              simp
            rw [ev]
            have z1 : D.ms.length ≤ 1000 := by omega
            have z2 : D.ss.length ≤ 1000 := by omega
            have z3 : (mvU D.mvs).length ≤ 1000 := by omega
            have z4 : D.mvs.length ≤ 1000 := by omega
            walk_at "ss"
            rename_i t1 H4 hs5 H5 hs6
            refine w_setL (k := 5) hs6 (by walk_at "p") rfl (by show 5 < 6; decide) fun H6 hs7 => ?_
            clear hs4 hs5 hs6
            have hs8 : Hs B3 ((t1, _) :: (N.st, _) :: (N.c, _) :: (N.m, .lst [.ref N.m0, .ref N.m1, .ref N.m2, .ref N.m3, .ref N.m4, .int ((D.n + 1 : Nat) : Int)]) :: _ :: _ :: _ :: _ :: _ :: _ :: _ :: _ :: _ :: _ :: _ :: _ :: _ :: _ :: _) H6 := hs7
            clear hs7
            walk_at "ss"
            rename_i t2 H7 hs9 H8 hs10 r H9 hs11 H10 hs12
            obtain ⟨B4, sB4, ht2, hs13⟩ := frz_hs hs12.m1
            obtain ⟨B5, sB5, ht1, hs14⟩ := frz_hs hs13.m1
            have s5 : Same B3 B5 := sB4.trans sB5
            have hB5 := h.same (s2.trans (s3.trans s5))
            have hpk5 : KeyAt B5 (.ref pa) (plK p) := hpk.mono fun _ _ e => s5 _ _ (s3 _ _ e)
            have hv01 : verM D.xt p.1 = 0 ∨ verM D.xt p.1 = 1 := by
              unfold verM
              by_cases hx : p.1 ∈ D.xt
              · rw [if_pos hx]
                exact .inr rfl
              · rw [if_neg hx]
                exact .inl rfl
            refine kk { D with n := D.n + 1, fs := D.fs ++ [u], ms := D.ms ++ [.ref t1], ss := D.ss ++ [.ref t2], mvs := D.mvs ++ [(r, [])], F := D.F ++ [(D.n, verM D.xt p.1, p)], S := D.S ++ [(verM D.xt p.1, p)] } B5 cm2 cells2 H10 (s2.trans (s3.trans s5)) ?_ good2 ⟨hB5.mv, hB5.pp, hB5.hF.snoc (hu.mono fun _ _ e => s5 _ _ e), hB5.hM.snoc ⟨t1, .ref pa, rfl, ht1, hpk5⟩, hB5.hT, hB5.hN, hB5.hS.snoc ⟨t2, .ref pa, rfl, sB5 _ _ ht2, hpk5⟩, h.hI.enter _ hpo', ?_, ?_, ?_, Nat.succ_le_succ zn, fun x hx => ?_⟩
            · unfold lawL
              dsimp only
              rw [show mvU (D.mvs ++ [(r, [])]) = mvU D.mvs ++ [.ref r] from List.map_append, show mvR (D.mvs ++ [(r, [])]) = mvR D.mvs ++ [(r, .lst [])] from List.map_append]
              exact hs_end (A := [_, _, _, _, _, _, _, _, _, _, _, _, _, _, _, _, _]) hs14
            · show AInv p0 p1 ls (D.n + 1) _ ((D.mvs ++ [(r, [])]).map fun x : Addr × List Nat => x.2) _ _
              rw [List.map_append]
              exact h.hA.enter hv01 hpo'
            · show (D.F ++ [_]).length ≤ _
              rw [List.length_append]
              show D.F.length + 1 ≤ _
              omega
            · show D.Td.length ≤ _
              omega
            · rcases List.mem_append.mp hx with hx | hx
              · have := h.zM x hx
                omega
              · rw [List.mem_singleton.mp hx]
                exact Nat.zero_le _
          · walk_at "ss"
            exact ⟨rfl, rfl⟩
        · refine iteF ?_
          walk_at "ss"
          exact ⟨rfl, rfl⟩
      · rintro σ' H' ⟨rfl, rfl⟩
        have hs1' : Hs B (_ :: _ :: _ :: _ :: _ :: _ :: _ :: _ :: _ :: _ :: _ :: _ :: _ :: _ :: _ :: _ :: _ :: _) H' := hs1
        walk_at "ss"
        refine ifd (fun e0 => ?_) (fun e0 => ?_)
        · walk_at "ss"
          refine w_lwrong hs1 h hk fun D2 B2 H5 s12 hs6 h6 => ?_
          exact kk D2 B2 cm1 cells1 H5 s12 hs6 good1 h6
        · walk_at "ss"
          refine w_draw hs1 good1 (by omega) fun i0 cm2 cells2 H2 hs2 good2 _ hi0 => ?_
          obtain ⟨i1, i2⟩ := hi0 (by omega)
          obtain ⟨i, rfl⟩ : ∃ i : Nat, i0 = i := ⟨i0.toNat, by omega⟩
          have hil : i < D.F.length := by omega
          obtain ⟨f, hf⟩ : ∃ f, D.F[i]? = some f := ⟨D.F[i]'hil, List.getElem?_eq_getElem _⟩
          obtain ⟨u, hu1⟩ : ∃ u, D.ms[i]? = some u := ⟨D.ms[i]'(by omega), List.getElem?_eq_getElem _⟩
          obtain ⟨t, pv, rfl, ht, hpv⟩ := h.hM.2 i u f hu1 hf
          have hfn : f.1 < D.n := by
            obtain ⟨p, hp⟩ := h.hA.fb f (List.mem_of_getElem? hf)
            have := (List.getElem?_eq_some_iff.mp hp).1
            rwa [h.hA.sl] at this
          obtain ⟨⟨p, mv⟩, hp⟩ : ∃ x, D.mvs[f.1]? = some x := ⟨D.mvs[f.1]'(by omega), List.getElem?_eq_getElem _⟩
          have hmvz := h.zM _ (List.mem_of_getElem? hp)
          have hs2 : Hs B (lawL a N g D cm2 cells2) H2 := hs2
          clear hs1 hs1' good1
          have hs2' : Hs B (_ :: _ :: _ :: _ :: _ :: _ :: _ :: _ :: _ :: _ :: _ :: _ :: _ :: _ :: _ :: _ :: _ :: _) H2 := hs2
          have ht2 := hs2.same _ _ ht
          have a1 : atI D.ms (i : Nat) = some (.ref t) := at_of rfl hu1
          have a2 : atI (mvU D.mvs) (f.1 : Nat) = some (.ref p) := at_of rfl (by rw [List.getElem?_map, hp]; rfl)
          have hpH : H2 p = some (.lst (mv.map natV)) := hs2.gets (put_mv (c := 0) hp)
          walk_at "ss"
          refine w_lcLR ?_
          walk_at "ss"
          rename_i l H3 hs3
          rw [cut_to i rfl] at hs3
          refine w_listR (SqL.of hs3.g0) fun Dc hD => ?_
          refine turns_list (fun j H' => ∃ acc : List V, Hs B ((Dc, .lst acc) :: (l, .lst (D.ms.take i)) :: lawL a N g D cm2 cells2) H' ∧ acc.length = (((D.F.take i).take j).filter fun z => decide (z.1 = f.1)).length) ⟨[], hs3.new hD, rfl⟩ (fun j H' _ ⟨_, h, _⟩ => SqL.of h.g1) ?_ ?_
          · rintro j u H4 hj ⟨acc, hs4, hacc⟩
            obtain ⟨z, hz, hzu⟩ := (h.hM.take i).get hj
            obtain ⟨t3, pv3, rfl, ht3, _⟩ := hzu
            have ht4 := hs4.same _ _ ht3
            refine w_name ⟨rfl, ?_⟩
            walk_at "ss"
            rw [num_eq]
            have e1 := take_filter (p := fun z : Fly => decide (z.1 = f.1)) hz
            refine ifd (fun hzf => ?_) (fun hzf => ?_)
            · rw [if_pos (decide_eq_true hzf)] at e1
              walk_at "ss"
              refine ⟨acc, hs4.g0, szl ?_, acc ++ [.ref t3], hs4.p0 _, by rw [e1, List.length_append, List.length_append, hacc]; rfl⟩
              have h1 := List.length_filter_le (fun z : Fly => decide (z.1 = f.1)) ((D.F.take i).take j)
              rw [List.length_take, List.length_take] at h1
              omega
            · rw [if_neg (fun z => hzf (of_decide_eq_true z)), List.append_nil] at e1
              exact ⟨acc, hs4, by rw [e1, hacc]⟩
          · rintro H4 ⟨acc, hs4, hacc⟩
            rw [List.length_take, hml, Nat.min_eq_left (Nat.le_of_lt hil), List.take_take, Nat.min_self] at hacc
            walk_at "ss"
            rw [show (.int (acc.length : Nat) : V) = natV (cntOf D.F i f.1) from by rw [hacc]; rfl]
            refine w_app hs4.tl.tl (put_mv hp) (szl (by rw [List.length_map]; show mv.length ≤ _; have : mv.length ≤ k := hmvz; omega)) fun H5 hs5 => ?_
            walk_at "ss"
            refine w_lmove hp hs5 h hk hf fun D2 B2 H6 s12 hs6 h6 => ?_
            exact kk D2 B2 cm2 cells2 H6 s12 hs6 good2 h6
end
local macro_rules | `(tactic| walk_at "v") => `(tactic| first | exact v0 | exact v1 | exact v2 | exact v3 | exact v4 | exact v5 | exact v6 | exact v7 | exact v8)
local macro_rules | `(tactic| walk_at "vs") => `(tactic| first | exact st0 | exact st1 | exact st2 | exact st3 | exact st4 | exact st5 | exact st6 | exact st7 | exact st8)
local macro_rules | `(tactic| walk_at "s") => `(tactic| first
  | with_reducible refine w_dget ?_
  | ((with_reducible refine' w_dgetZ ?h ?nd ?hk ?hv ?_); (case h => walk_at "g"); (case nd => walk_at "nd"); (case hk => walk_at "k"); (case hv => walk_at "v"))
  | ((with_reducible refine' w_dputZ ?hs ?h ?nd ?hk ?hv ?hu ?hl ?_); (case hs => assumption); (case h => walk_at "p"); (case nd => walk_at "nd"); (case hk => walk_at "k"); (case hv => walk_at "v"); (case hu => walk_at "vs"); (case hl => decide); intro _ _)
  | with_reducible refine w_gsub ?_
  | with_reducible refine w_setD ?_
  | with_reducible refine w_disp ?_
  | ((with_reducible refine' w_newP ?hs ?_); (case hs => assumption); intro _ _ _)
  | with_reducible refine w_pcons ?_
  | with_reducible refine w_pnil ?_)

local macro_rules | `(tactic| walk_at "s") => `(tactic| first
  | with_reducible refine w_nget ?_
  | with_reducible refine w_nin ?_
  | with_reducible refine w_nnot ?_
  | with_reducible refine w_nput ?_
  | with_reducible refine w_ndel ?_
  | with_reducible refine w_npop ?_
  | ((with_reducible refine' w_nnew ?hs ?_); (case hs => assumption); intro _ _ _))

local macro_rules | `(tactic| walk_at "s") => `(tactic| first
  | with_reducible refine w_ninF ?_
  | with_reducible refine w_nsetd ?_
  | with_reducible refine w_ckw ?_)

section
variable {P : Program} [IsP P] {w : World} {K : PySem.W.Frag} {mg : Str → Option Value} {base : Heap} {a : Ad}
def sp_law (K : PySem.W.Frag) : Sp := fun vs H Q _ => ∃ (x : Addr) (ns : List Int), vs = [.ref x] ∧ SqL K H x (ns.map V.int) ∧ ns.length ≤ 63 ∧ ∀ H', Q (.bl true) H'
theorem ok_law (T : Txt w K mg a) : LawRun P w K mg base 14 a.law a.fd_law ["script"] (sp_law K) := by
  have G__law_state := ok__law_state (P := P) (w := w) (base := base) T
  have G__law_draw := ok__law_draw (P := P) (w := w) (base := base) T
  have G__law_graph := ok__law_graph (P := P) (w := w) (base := base) T
  have G__law_local := ok__law_local (P := P) (w := w) (base := base) T
  have G_Rollout_init := ok_Rollout_init (P := P) (w := w) (base := base) T
  have G__law_deed := ok__law_deed (P := P) (w := w) (base := base) T
  have G__law_move := ok__law_move (P := P) (w := w) (base := base) T
  have G__law_each_right := ok__law_each_right (P := P) (w := w) (base := base) T
  refine law_run (k := 13) T.fn_law sc_law (fun vs H Q E h => ?_) (fun cdv s H vs Q E hr h => ?_)
  · obtain ⟨_, _, rfl, _⟩ := h
    rfl
  · obtain ⟨x, ns, rfl, hx, hl, k⟩ := h
    have hu := hu_of hr
    have cl1 := T.cl_Rollout
    have n1 := T.na_Rollout_flying
    have n2 := T.na_Rollout_told
    refine ⟨_, (pss_cons (ps_set (i := 1) sc_law.nd rfl (Or.inl rfl) (pe_call G__law_state (hr.mono (by first | decide | omega)) rfl T.mg__law_state T.kp__law_state T.bi__law_state .nil pass0 (pa_cons (pv 0) pa_nil)))
  (pss_cons (ps_set (i := 2) sc_law.nd rfl (Or.inl rfl) (pe_call G__law_graph (hr.mono (by first | decide | omega)) rfl T.mg__law_graph T.kp__law_graph T.bi__law_graph .nil pass0 (pa_cons (pv 1) pa_nil)))
  (pss_cons (ps_set (i := 3) sc_law.nd rfl (Or.inl rfl) (pe_lst (pa_cons (pe_call G__law_local (hr.mono (by first | decide | omega)) rfl T.mg__law_local T.kp__law_local T.bi__law_local .nil pass0 (pa_cons (pv 1) (pa_cons pe_int pa_nil))) (pa_cons (pe_call G__law_local (hr.mono (by first | decide | omega)) rfl T.mg__law_local T.kp__law_local T.bi__law_local .nil pass0 (pa_cons (pv 1) (pa_cons pe_int pa_nil))) pa_nil))))
  (pss_cons (ps_set (i := 4) sc_law.nd rfl (Or.inl rfl) (pe_callB (call_reprDK (K := K) rfl hr.units) (by rfl) T.mg_repr (by decide +kernel) (pa_cons (pe_lst (pa_cons (pv 2) (pa_cons (pv 3) pa_nil))) pa_nil)))
  (pss_cons (ps_set (i := 5) sc_law.nd rfl (Or.inl rfl) (pe_make T.mk_Rollout G_Rollout_init (hr.mono (by first | decide | omega)) rfl T.mg_Rollout T.bi_Rollout_init .nil pass0 (pa_cons (pv 2) (pa_cons (pe_ix (ix_listK (K := K)) (pv 3) pe_int (fun _ _ => rfl)) (pa_cons (pe_ix (ix_listK (K := K)) (pv 3) pe_int (fun _ _ => rfl)) pa_nil)))))
  (pss_cons (ps_set (i := 6) sc_law.nd rfl (Or.inl rfl) (pe_lst (pa_cons (pe_lst pa_nil) (pa_cons (pe_lst pa_nil) (pa_cons (pe_lst pa_nil) (pa_cons (pe_lst pa_nil) (pa_cons (pe_lst pa_nil) (pa_cons pe_int pa_nil))))))))
  (pss_cons (ps_set (i := 7) sc_law.nd rfl (Or.inl rfl) (pe_lst pa_nil))
  (pss_cons (ps_set (i := 8) sc_law.nd rfl (Or.inl rfl) (pe_lst pa_nil))
  (pss_cons (ps_for PassesOwn.never rfl (pi_range1 rfl T.mg_range (pa_cons (pe_call G__law_draw (hr.mono (by first | decide | omega)) rfl T.mg__law_draw T.kp__law_draw T.bi__law_draw .nil pass0 (pa_cons (pv 1) (pa_cons pe_int pa_nil))) pa_nil)) (pg_name (i := 9) sc_law.nd rfl (Or.inl rfl))
  (pss_cons (ps_if (pt_not (pt_val (pe_call G__law_deed (hr.mono (by first | decide | omega)) rfl T.mg__law_deed T.kp__law_deed T.bi__law_deed .nil pass0 (pa_cons (pv 1) (pa_cons (pv 5) (pa_cons (pv 6) (pa_cons (pv 7) (pa_cons (pv 8) (pa_cons (pv 3) (pa_cons (pv 2) pa_nil))))))))))
  (pss_one (ps_ret pe_bl))
  pss_nil)
  (pss_one (ps_if (PW.pt (pw_or (pt_cmpR (op_neDK (K := K) hr.units) (pe_fldK (K := K) (pv 5)) (pe_ix (ix_listK (K := K)) (pv 6) pe_int (fun _ _ => rfl)) (nomark _)) (pw_or1 (pt_cmpR (op_neDK (K := K) hr.units) (pe_fldK (K := K) (pv 5)) (pe_ix (ix_listK (K := K)) (pv 6) pe_int (fun _ _ => rfl)) (nomark _)))))
  (pss_one (ps_ret pe_bl))
  pss_nil))))
  (pss_cons (ps_for PassesOwn.never rfl (pi_range1 rfl T.mg_range (pa_cons pe_int pa_nil)) (pg_name (i := 9) sc_law.nd rfl (Or.inl rfl))
  (pss_one (ps_if (PW.pt (pw_and (pt_cmpR op_gt (pe_callB (call_lenK (K := K)) (by rfl) T.mg_len PySem.boot_len (pa_cons (pe_ix (ix_listK (K := K)) (pv 6) pe_int (fun _ _ => rfl)) pa_nil)) pe_int (nomark _)) (pw_and1 (pt_cmpR op_lt (pe_callB (call_lenK (K := K)) (by rfl) T.mg_len PySem.boot_len (pa_cons (pe_ix (ix_listK (K := K)) (pv 6) pe_int (fun _ _ => rfl)) pa_nil)) pe_int (nomark _)))))
  (pss_cons (ps_set (i := 10) sc_law.nd rfl (Or.inl rfl) (pe_ix (ix_tupK (K := K)) (pe_ix (ix_listK (K := K)) (pe_ix (ix_listK (K := K)) (pv 6) pe_int (fun _ _ => rfl)) pe_int (fun _ _ => rfl)) pe_int (fun _ _ => rfl)))
  (pss_cons (ps_expr (pe_bmK (K := K) PySem.F.plainAttrs_list PySem.F.slot_list_append PySem.F.type_list_append mt_append (pe_ix (ix_listK (K := K)) (pv 8) (pv 10) (fun _ _ => rfl)) (pa_cons pe_int pa_nil)))
  (pss_one (ps_if (pt_not (pt_val (pe_call G__law_move (hr.mono (by first | decide | omega)) rfl T.mg__law_move T.kp__law_move T.bi__law_move .nil pass0 (pa_cons (pv 5) (pa_cons (pv 6) (pa_cons pe_int (pa_cons (pv 3) (pa_cons (pv 2) pa_nil))))))))
  (pss_one (ps_ret pe_bl))
  pss_nil))))
  pss_nil)))
  (pss_cons (ps_if (PW.pt (pw_or (pt_cmpR (op_neDK (K := K) hr.units) (pe_fldK (K := K) (pv 5)) (pe_ix (ix_listK (K := K)) (pv 6) pe_int (fun _ _ => rfl)) (nomark _)) (pw_or (pt_cmpR (op_neDK (K := K) hr.units) (pe_fldK (K := K) (pv 5)) (pe_ix (ix_listK (K := K)) (pv 6) pe_int (fun _ _ => rfl)) (nomark _)) (pw_or1 (pt_cmpR op_ne (pe_callB (call_reprDK (K := K) rfl hr.units) (by rfl) T.mg_repr (by decide +kernel) (pa_cons (pe_lst (pa_cons (pv 2) (pa_cons (pv 3) pa_nil))) pa_nil)) (pv 4) (nomark _))))))
  (pss_one (ps_ret pe_bl))
  pss_nil)
  (pss_one (ps_ret (pe_call G__law_each_right (hr.mono (by first | decide | omega)) rfl T.mg__law_each_right T.kp__law_each_right T.bi__law_each_right .nil pass0 (pa_cons (pv 6) (pa_cons (pv 7) (pa_cons (pv 8) (pa_cons (pv 3) (pa_cons (pv 2) pa_nil))))))))))))))))))), ?_⟩
    walk_at "ss"
    refine ⟨x, ns, rfl, hx, by omega, fun st c m cells H1 hs1 g => ?_⟩
    walk_at "ss"
    refine w_spS () hs1 g rfl (fun H1 H2 v e h => ?_) fun B1 gv m1 c1 H2 sm1 hs2 g1 hgr => ?_
    · obtain ⟨ls, z1, z2⟩ := h
      exact ⟨ls, z1.same e, z2⟩
    obtain ⟨ls, hgr, hls⟩ := hgr
    clear hs1 g
    walk_at "ss"
    refine w_spS () hs2 g1 rfl (fun H1 H2 v e h => ?_) fun B2 v0 m2 c2 H3 sm2 hs3 g2 hpo0 => ?_
    · obtain ⟨ps, z1, z2⟩ := h
      exact ⟨ps, z1.same e, z2⟩
    obtain ⟨p0, hp0, ho0⟩ := hpo0
    clear hs2 g1
    walk_at "ss"
    refine w_spS () hs3 g2 rfl (fun H1 H2 v e h => ?_) fun B3 v1 m3 c3 H4 sm3 hs4 g3 hpo1 => ?_
    · obtain ⟨ps, z1, z2⟩ := h
      exact ⟨ps, z1.same e, z2⟩
    obtain ⟨p1, hp1, ho1⟩ := hpo1
    replace hp0 := hp0.same sm3
    replace hgr := hgr.same (sm2.trans sm3)
    clear hs3 g2
    walk_at "ss"
    rename_i plA H5 hs5 kl H9 hs9
    obtain ⟨B4, sm4, hpl, hs10⟩ := frz_hs hs9.m1
    replace hp0 := hp0.same sm4
    replace hp1 := hp1.same sm4
    replace hgr := hgr.same sm4
    clear hs4 hs5 hs9
    have hmv : MvOk B4 (.ref plA) gv v0 v1 p0 p1 ls := ⟨⟨plA, rfl, hpl⟩, hp0, hp1, ho0, ho1, hgr, hls⟩
    have hsh := kept_shows (sub_in hls) ho0 ho1
    have hkept : ∀ (H' : Hp) (kl : Addr), Same B4 H' → H' kl = some (.lst [gv, .ref plA]) → Dp K H' (.ref kl) (keptD ls p0 p1) := fun H' kl sm hk =>
      .lst (SqL.of hk) (.cons (gr_dp (hgr.same sm)) (.cons (.lst (SqL.of (sm _ _ hpl)) (.cons (pol_dp (hp0.same sm)) (.cons (pol_dp (hp1.same sm)) .nil))) .nil))
    refine w_reprD (hkept H9 kl hs10.same hs10.g0) hsh ?_
    have hs11 := hs10.tl
    have hpl11 := hs11.same _ _ hpl
    clear hs10
    walk_at "ss"
    refine w_mkr hs11 fun xn dx H10 hs12 => ?_
    obtain ⟨Bf, sf, hf1, back⟩ := Hs.frameG [(xn, .ins a.Rollout dx [])] hs12 rfl
    refine ⟨Bf, xn, dx, gv, v0, v1, rfl, hf1, fun fl tl pp dd d1 d2 d3 B5 H11 sm5 hpp hs13 => ⟨rfl, ?_⟩⟩
    obtain ⟨B6, sm6, hs14, tp⟩ := back _ _ _ sm5 hs13
    have hpp6 := tp _ _ hpp
    clear hs11 hs12 hf1 back hs13
    have hs14 : Hs B6 [_, _, _, _, _, _, _, _, _] H11 := hs14
    walk_at "ss"
    rename_i m0 Ha ha mm1 Hb hb mm2 Hc hc mm3 Hd hd mm4 He he mA Hf hf sA Hg hg mvA Hh hh
    have hh' : Hs B6 [_, _, _, _, _, _, _, _, _, _, _, _, _, _, _, _, _] Hh := hh
    obtain ⟨N, rfl, rfl, rfl, rfl, rfl, rfl, rfl, rfl, rfl, rfl, rfl, rfl, rfl, rfl, rfl, rfl, rfl, rfl, rfl⟩ : ∃ N : NA, N.st = st ∧ N.c = c ∧ N.m = mA ∧ N.m0 = m0 ∧ N.m1 = mm1 ∧ N.m2 = mm2 ∧ N.m3 = mm3 ∧ N.m4 = mm4 ∧ N.sA = sA ∧ N.mvA = mvA ∧ N.x = xn ∧ N.dx = dx ∧ N.fl = fl ∧ N.tl = tl ∧ N.pp = pp ∧ N.dd = dd ∧ N.d1 = d1 ∧ N.d2 = d2 ∧ N.d3 = d3 := ⟨⟨st, c, mA, m0, mm1, mm2, mm3, mm4, sA, mvA, xn, dx, fl, tl, pp, dd, d1, d2, d3⟩, rfl, rfl, rfl, rfl, rfl, rfl, rfl, rfl, rfl, rfl, rfl, rfl, rfl, rfl, rfl, rfl, rfl, rfl, rfl⟩
    have h0 : Hs B6 (lawL a N gv ⟨0, [], [], [], [], [], [], [], [], [], [], [], []⟩ m3 c3) Hh := hh'.sel [15, 16, 2, 7, 6, 5, 4, 3, 1, 0, 8, 9, 10, 11, 12, 13, 14]
    have s46 : Same B4 B6 := sm6
    have hL0 : Lf N gv v0 v1 (.ref plA) p0 p1 ls 0 ⟨0, [], [], [], [], [], [], [], [], [], [], [], []⟩ B6 := ⟨hmv.same s46, hpp6, Row.nil, Row.nil, Row.nil, Row.nil, Row.nil, RInv.start, AInv.start _ _ _, Nat.zero_le _, Nat.zero_le _, Nat.zero_le _, (fun _ z => nomatch z)⟩
    replace hkept : ∀ (H' : Hp) (kl : Addr), Same B6 H' → H' kl = some (.lst [gv, .ref plA]) → Dp K H' (.ref kl) (keptD ls p0 p1) := fun H' kl sm hk => hkept H' kl (s46.trans sm) hk
    clear hh' hh hg hf he hd hc hb ha hs14 tp
    refine w_for1 ?_
    walk_at "ss"
    refine w_draw h0 g3 (by omega) fun r m4 c4 H12 h1 g4 _ hr => ?_
    obtain ⟨r0, r1⟩ := hr (by omega)
    have h1 : Hs B6 (lawL a N gv ⟨0, [], [], [], [], [], [], [], [], [], [], [], []⟩ m4 c4) H12 := h1
    clear h0 g3
    walk_at "ss"
    -- nothing differs
    have noF : ∀ {D : DS} {B H' : Hp} {cm : Int} {cs : List Int} {kk : Nat}, Hs B (lawL a N gv D cm cs) H' → Lf N gv v0 v1 (.ref plA) p0 p1 ls kk D B → ∀ Q : VK, Q (.bl false) H' → rNeD K (.ref N.fl) (.ref N.m3) H' Q := fun {D B H' cm cs kk} h hL Q q => by
      have h' : Hs B (_ :: _ :: _ :: _ :: _ :: _ :: _ :: _ :: _ :: _ :: _ :: _ :: _ :: _ :: _ :: _ :: _ :: _) H' := h
      exact w_neRows (R := FlAt H') (d := flyD) (fun _ _ h => fly_dp h) fly_ok h'.g11 h'.g6 (hL.hF.mono fun _ _ => FlAt.mono h.tups) (hL.hM.mono fun _ _ => FlAt.mono h.tups) q
    have noT : ∀ {D : DS} {B H' : Hp} {cm : Int} {cs : List Int} {kk : Nat}, Hs B (lawL a N gv D cm cs) H' → Lf N gv v0 v1 (.ref plA) p0 p1 ls kk D B → ∀ Q : VK, Q (.bl false) H' → rNeD K (.ref N.tl) (.ref N.m4) H' Q := fun {D B H' cm cs kk} h hL Q q => by
      have h' : Hs B (_ :: _ :: _ :: _ :: _ :: _ :: _ :: _ :: _ :: _ :: _ :: _ :: _ :: _ :: _ :: _ :: _ :: _) H' := h
      exact w_neRows (R := TlAt H') (d := tldD) (fun _ _ h => tld_dp h) tld_ok h'.g12 h'.g7 (hL.hT.mono fun _ _ => TlAt.mono h.tups) (hL.hN.mono fun _ _ => TlAt.mono h.tups) q
    refine w_forR (n := r) (by omega) (fun i σ H' => ∃ (D : DS) (B : Hp) (cm : Int) (cs : List Int) (v9 : Option V), σ = [some (.ref x), some (.ref N.st), some gv, some (.ref plA), some (.str (keptD ls p0 p1).shown), some (.ref N.x), some (.ref N.m), some (.ref N.sA), some (.ref N.mvA), v9, none] ∧ Same B6 B ∧ Hs B (lawL a N gv D cm cs) H' ∧ Good cm cs ∧ Lf N gv v0 v1 (.ref plA) p0 p1 ls i D B) (fun Q q => q) (by omega) ⟨_, B6, m4, c4, none, rfl, Same.refl _, h1, g4, hL0⟩ ?_ ?_
    · clear h1 g4 hL0
      rintro i σ H13 hi ⟨D, B, cm, cs, v9, rfl, sB, h2, g, hL⟩
      walk_at "ss"
      refine ⟨N, gv, v0, v1, .ref plA, p0, p1, ls, i, D, B, cm, cs, rfl, h2, g, hL, by omega, fun D2 B2 cm2 cs2 H14 s2 h3 g2 hL2 => ?_⟩
      refine ⟨_, rfl, iteF ?_⟩
      have i4 : atI [V.ref N.m0, .ref N.m1, .ref N.m2, .ref N.m3, .ref N.m4, .int (D2.n : Nat)] 4 = some (.ref N.m4) := a4
      have h3' : Hs B2 (_ :: _ :: _ :: _ :: _ :: _ :: _ :: _ :: _ :: _ :: _ :: _ :: _ :: _ :: _ :: _ :: _ :: _) H14 := h3
      walk_at "ss"
      refine noF h3 hL2 _ ?_
      refine ⟨_, rfl, iteF ?_⟩
      walk_at "ss"
      refine noT h3 hL2 _ ?_
      refine ⟨_, rfl, iteF ?_⟩
      walk_at "ss"
      exact ⟨D2, B2, cm2, cs2, _, rfl, sB.trans s2, h3, g2, hL2⟩
    · rintro σ H13 ⟨D, B, cm, cs, v9, rfl, sB, h2, g, hL⟩
      clear h1 g4 hL0
      have hk0 : r.toNat ≤ 41 := by omega
      walk_at "ss"
      refine w_forR (n := 60) (by decide) (fun i σ H' => ∃ (D : DS) (B : Hp) (cm : Int) (cs : List Int) (v9 v10 : Option V), σ = [some (.ref x), some (.ref N.st), some gv, some (.ref plA), some (.str (keptD ls p0 p1).shown), some (.ref N.x), some (.ref N.m), some (.ref N.sA), some (.ref N.mvA), v9, v10] ∧ Same B6 B ∧ Hs B (lawL a N gv D cm cs) H' ∧ Good cm cs ∧ Lf N gv v0 v1 (.ref plA) p0 p1 ls (r.toNat + i) D B) (fun Q q => q) (by decide) ⟨D, B, cm, cs, v9, none, rfl, sB, h2, g, hL⟩ ?_ ?_
      · clear h2 g hL sB
        rintro i σ H13 hi ⟨D, B, cm, cs, v9, v10, rfl, sB, h2, g, hL⟩
        have h2' : Hs B (_ :: _ :: _ :: _ :: _ :: _ :: _ :: _ :: _ :: _ :: _ :: _ :: _ :: _ :: _ :: _ :: _ :: _) H13 := h2
        have stay : ∀ v9 : Option V, ∃ (D : DS) (B : Hp) (cm : Int) (cs : List Int) (v9' v10' : Option V), ([some (.ref x), some (.ref N.st), some gv, some (.ref plA), some (.str (keptD ls p0 p1).shown), some (.ref N.x), some (.ref N.m), some (.ref N.sA), some (.ref N.mvA), v9, v10] : L2.St) = [some (.ref x), some (.ref N.st), some gv, some (.ref plA), some (.str (keptD ls p0 p1).shown), some (.ref N.x), some (.ref N.m), some (.ref N.sA), some (.ref N.mvA), v9', v10'] ∧ Same B6 B ∧ Hs B (lawL a N gv D cm cs) H13 ∧ Good cm cs ∧ Lf N gv v0 v1 (.ref plA) p0 p1 ls (r.toNat + (i + 1)) D B := fun v9 => ⟨D, B, cm, cs, v9, v10, rfl, sB, h2, g, hL.up⟩
        have hml : D.ms.length = D.F.length := hL.hM.1
        have hvl : D.mvs.length = D.n := by
          have := hL.hA.ml
          rwa [List.length_map] at this
        walk_at "ss"
        refine ifd (fun e1 => ?_) (fun e1 => ?_)
        · walk_at "ss"
          refine ifd (fun e2 => ?_) (fun e2 => ?_)
          · obtain ⟨f, hf⟩ : ∃ f, D.F[0]? = some f := ⟨D.F[0]'(by omega), List.getElem?_eq_getElem _⟩
            obtain ⟨u, hu1⟩ : ∃ u, D.ms[0]? = some u := ⟨D.ms[0]'(by omega), List.getElem?_eq_getElem _⟩
            obtain ⟨t, pv, rfl, ht, hpv⟩ := hL.hM.2 0 u f hu1 hf
            have hfn : f.1 < D.n := by
              obtain ⟨p, hp⟩ := hL.hA.fb f (List.mem_of_getElem? hf)
              have := (List.getElem?_eq_some_iff.mp hp).1
              rwa [hL.hA.sl] at this
            obtain ⟨⟨p, mv⟩, hp⟩ : ∃ x, D.mvs[f.1]? = some x := ⟨D.mvs[f.1]'(by omega), List.getElem?_eq_getElem _⟩
            have hmvz := hL.zM _ (List.mem_of_getElem? hp)
            have ht2 := h2.same _ _ ht
            have b1 : atI D.ms 0 = some (.ref t) := at_of (j := 0) rfl hu1
            have b2 : atI (mvU D.mvs) (f.1 : Nat) = some (.ref p) := at_of rfl (by rw [List.getElem?_map, hp]; rfl)
            have hpH : H13 p = some (.lst (mv.map natV)) := h2.gets (put_mv (c := 0) hp)
            walk_at "ss"
            refine w_app h2 (put_mv (c := cntOf D.F 0 f.1) hp) (szl (by rw [List.length_map]; have : mv.length ≤ r.toNat + i := hmvz; omega)) fun H14 h3 => ?_
            walk_at "ss"
            refine w_lmove (i := 0) hp h3 hL (by omega) hf fun D2 B2 H15 s2 h4 hL2 => ?_
            refine ⟨_, rfl, iteF ?_⟩
            walk_at "ss"
            exact ⟨D2, B2, cm, cs, _, _, rfl, sB.trans s2, h4, g, hL2⟩
          · walk_at "ss"
            exact stay _
        · refine iteF ?_
          walk_at "ss"
          exact stay _
      · clear h2 g hL sB
        rintro σ H13 ⟨D, B, cm, cs, v9, v10, rfl, sB, h2, g, hL⟩
        have hL : Lf N gv v0 v1 (.ref plA) p0 p1 ls (r.toNat + 60) D B := hL
        have i4 : atI [V.ref N.m0, .ref N.m1, .ref N.m2, .ref N.m3, .ref N.m4, .int (D.n : Nat)] 4 = some (.ref N.m4) := a4
        have h2' : Hs B (_ :: _ :: _ :: _ :: _ :: _ :: _ :: _ :: _ :: _ :: _ :: _ :: _ :: _ :: _ :: _ :: _ :: _) H13 := h2
        walk_at "ss"
        refine noF h2 hL _ ?_
        refine ⟨_, rfl, iteF ?_⟩
        walk_at "ss"
        refine noT h2 hL _ ?_
        refine ⟨_, rfl, iteF ?_⟩
        walk_at "ss"
        rename_i kl2 H16 hs17
        refine w_reprD (hkept H16 kl2 (sB.trans hs17.same) hs17.g0) hsh ?_
        walk_at "ss"
        refine w_ne rfl ?_
        rw [decide_eq_true rfl]
        refine ⟨_, rfl, iteF ?_⟩
        walk_at "ss"
        have h5 : Hs B (lawL a N gv D cm cs) H16 := hs17.tl
        have h5' : Hs B (_ :: _ :: _ :: _ :: _ :: _ :: _ :: _ :: _ :: _ :: _ :: _ :: _ :: _ :: _ :: _ :: _ :: _) H16 := h5
        have zF := hL.zF
        have zT := hL.zT
        have zn := hL.zn
        refine ⟨N.m, N.m3, N.m4, N.sA, N.mvA, _, _, _, _, .ref plA, gv, v0, v1, D.ms, D.mt, D.ss, mvU D.mvs, D.n, ls, p0, p1, D.S, D.mvs.map (·.2), D.F, D.Td, rfl, h5'.g2, h5'.g6, h5'.g7, h5'.g8, h5'.g9, hL.mv.same h5.same, hL.hM.mono fun _ _ => FlAt.mono h5.tups, hL.hN.mono fun _ _ => TlAt.mono h5.tups, hL.hS.mono fun _ _ => HsAt.mono h5.tups, ⟨by rw [List.length_map, List.length_map], fun i u ms hu hm => ?_⟩, by omega, by omega, by omega, fun y hy => ?_, hL.hA, fun H' _ => k H'⟩
        · rw [List.getElem?_map] at hu hm
          obtain ⟨y, hy, rfl⟩ := Option.map_eq_some_iff.mp hu
          rw [hy] at hm
          cases hm
          exact ⟨y.1, rfl, h5.gets (put_mv (c := 0) hy)⟩
        · obtain ⟨z, hz, rfl⟩ := List.mem_map.mp hy
          have := hL.zM z hz
          omega
end
theorem all_mk {l : PySem.W.OpenLaw} {w : World} {K : PySem.W.Frag} {h : Heap} {mg : Str → Option Value} {fa : Addr} (hl : l.prog = PySem.Challenge.pw_hangbridge_k50_whole_new_policies_while) (X : K.In h) (G : h.Ns mainGlobals mg) (hfa : mg "law" = some (.ref fa))
    {A_BridgeError A_StateError A_Rollout A_peer A_StateError_init cc_StateError_init ca_StateError_init A_test_holds A_with_number A_after_star A_after A_after_any A_does A_steps A_Rollout_init A_Rollout_is_done_everywhere A_Rollout_is_switch A_Rollout_may A_Rollout_perform A_Rollout_has A_Rollout_enter A_Rollout_move A__law_state A__law_draw A__law_holds A__law_after A__law_graph A__law_end A__law_local A__law_start A__law_steps A__law_may A__law_perform A__law_move A__law_wrong_move A__law_alone A__law_each_right A__law_deed A_law A_FIELD_PLACES : Addr} {od_peer an_peer od_StateError_init an_StateError_init cod_StateError_init cod2_StateError_init od_test_holds an_test_holds od_with_number an_with_number od_after_star an_after_star od_after an_after od_after_any an_after_any od_does an_does od_steps an_steps od_Rollout_init an_Rollout_init od_Rollout_is_done_everywhere an_Rollout_is_done_everywhere od_Rollout_is_switch an_Rollout_is_switch od_Rollout_may an_Rollout_may od_Rollout_perform an_Rollout_perform od_Rollout_has an_Rollout_has od_Rollout_enter an_Rollout_enter od_Rollout_move an_Rollout_move od__law_state an__law_state od__law_draw an__law_draw od__law_holds an__law_holds od__law_after an__law_after od__law_graph an__law_graph od__law_end an__law_end od__law_local an__law_local od__law_start an__law_start od__law_steps an__law_steps od__law_may an__law_may od__law_perform an__law_perform od__law_move an__law_move od__law_wrong_move an__law_wrong_move od__law_alone an__law_alone od__law_each_right an__law_each_right od__law_deed an__law_deed od_law an_law : Option Addr} {sl_peer sl_StateError_init csl_StateError_init csl2_StateError_init sl_test_holds sl_with_number sl_after_star sl_after sl_after_any sl_does sl_steps sl_Rollout_init sl_Rollout_is_done_everywhere sl_Rollout_is_switch sl_Rollout_may sl_Rollout_perform sl_Rollout_has sl_Rollout_enter sl_Rollout_move sl__law_state sl__law_draw sl__law_holds sl__law_after sl__law_graph sl__law_end sl__law_local sl__law_start sl__law_steps sl__law_may sl__law_perform sl__law_move sl__law_wrong_move sl__law_alone sl__law_each_right sl__law_deed sl_law : Array (Option Value)} {oc_peer kV_peer dc_peer pm_peer cd_peer ct_peer oc_StateError_init kV_StateError_init dc_StateError_init pm_StateError_init ct_StateError_init cl_StateError_init cl2_StateError_init oc_test_holds kV_test_holds dc_test_holds pm_test_holds cd_test_holds ct_test_holds oc_with_number kV_with_number dc_with_number pm_with_number cd_with_number ct_with_number oc_after_star kV_after_star dc_after_star pm_after_star cd_after_star ct_after_star oc_after kV_after dc_after pm_after cd_after ct_after oc_after_any kV_after_any dc_after_any pm_after_any cd_after_any ct_after_any oc_does kV_does dc_does pm_does cd_does ct_does oc_steps kV_steps dc_steps pm_steps cd_steps ct_steps oc_Rollout_init kV_Rollout_init dc_Rollout_init pm_Rollout_init cd_Rollout_init ct_Rollout_init oc_Rollout_is_done_everywhere kV_Rollout_is_done_everywhere dc_Rollout_is_done_everywhere pm_Rollout_is_done_everywhere cd_Rollout_is_done_everywhere ct_Rollout_is_done_everywhere oc_Rollout_is_switch kV_Rollout_is_switch dc_Rollout_is_switch pm_Rollout_is_switch cd_Rollout_is_switch ct_Rollout_is_switch oc_Rollout_may kV_Rollout_may dc_Rollout_may pm_Rollout_may cd_Rollout_may ct_Rollout_may oc_Rollout_perform kV_Rollout_perform dc_Rollout_perform pm_Rollout_perform cd_Rollout_perform ct_Rollout_perform oc_Rollout_has kV_Rollout_has dc_Rollout_has pm_Rollout_has cd_Rollout_has ct_Rollout_has oc_Rollout_enter kV_Rollout_enter dc_Rollout_enter pm_Rollout_enter cd_Rollout_enter ct_Rollout_enter oc_Rollout_move kV_Rollout_move dc_Rollout_move pm_Rollout_move cd_Rollout_move ct_Rollout_move oc__law_state kV__law_state dc__law_state pm__law_state cd__law_state ct__law_state oc__law_draw kV__law_draw dc__law_draw pm__law_draw cd__law_draw ct__law_draw oc__law_holds kV__law_holds dc__law_holds pm__law_holds cd__law_holds ct__law_holds oc__law_after kV__law_after dc__law_after pm__law_after cd__law_after ct__law_after oc__law_graph kV__law_graph dc__law_graph pm__law_graph cd__law_graph ct__law_graph oc__law_end kV__law_end dc__law_end pm__law_end cd__law_end ct__law_end oc__law_local kV__law_local dc__law_local pm__law_local cd__law_local ct__law_local oc__law_start kV__law_start dc__law_start pm__law_start cd__law_start ct__law_start oc__law_steps kV__law_steps dc__law_steps pm__law_steps cd__law_steps ct__law_steps oc__law_may kV__law_may dc__law_may pm__law_may cd__law_may ct__law_may oc__law_perform kV__law_perform dc__law_perform pm__law_perform cd__law_perform ct__law_perform oc__law_move kV__law_move dc__law_move pm__law_move cd__law_move ct__law_move oc__law_wrong_move kV__law_wrong_move dc__law_wrong_move pm__law_wrong_move cd__law_wrong_move ct__law_wrong_move oc__law_alone kV__law_alone dc__law_alone pm__law_alone cd__law_alone ct__law_alone oc__law_each_right kV__law_each_right dc__law_each_right pm__law_each_right cd__law_each_right ct__law_each_right oc__law_deed kV__law_deed dc__law_deed pm__law_deed cd__law_deed ct__law_deed oc_law kV_law dc_law pm_law cd_law ct_law : Value} {tk_FIELD_PLACES_switch tk_FIELD_PLACES_port tk_FIELD_PLACES_src tk_FIELD_PLACES_dst tk_FIELD_PLACES_kind tk_OUTSIDE tk_OLD tk_NEW : Tok} {nm_StateError q_StateError : Str} {N_StateError : Addr} {bs_StateError : List Value} {sn_StateError : List Str} {sub_StateError : List Value} {ab_StateError : Bool} {col_StateError : Option Bool} {dd_StateError : Option Addr} {k0_StateError k1_StateError k2_StateError k3_StateError k5_StateError : Option Value} {vs_StateError_init : Array Value} {fi_StateError_init : Str} {tf_StateError_init : Tok} {cz_StateError_init : ClassData} {es_FIELD_PLACES : Array DictEntry} {n_FIELD_PLACES : Nat}
        (h_cBridgeError : PySem.W.nsIn K mainGlobals "BridgeError" = some (some (.ref A_BridgeError)))
    (h_rdBridgeError : PySem.W.readsIn K A_BridgeError (.type "type") = true)
    (h_gaBridgeError : PySem.W.specialIn K (.ref A_BridgeError) "__getattribute__" = some (some (.builtin "type.__getattribute__")))
    (h_cvBridgeError : PySem.W.findCls K (.ref A_BridgeError) (.type "type") "__init__" = some (.val (.builtin "ValueError.__init__")))
    (h_cStateError : PySem.W.nsIn K mainGlobals "StateError" = some (some (.ref A_StateError)))
    (h_lkStateError : K.lookup A_StateError = some (excClassObj nm_StateError q_StateError A_StateError N_StateError bs_StateError [.ref A_BridgeError, .type "ValueError", .type "Exception", .type "BaseException", .type "object"] true sn_StateError sub_StateError ab_StateError col_StateError dd_StateError k0_StateError k1_StateError k2_StateError k3_StateError k5_StateError "ValueError.__new__"))
    (h_saStateError : PySem.W.findIn K (.ref A_StateError) "__setattr__" = some (some (.builtin "object.__setattr__")))
    (h_exStateError : PySem.W.subIn K (.ref A_StateError) (.type "BaseException") = some true)
    (h_tyStateError : PySem.W.typeIn K (.ref A_StateError) = some (.type "type"))
    (h_kcStateError : PySem.W.keepIn K (.ref A_StateError) = true)
    (h_noStateError : PySem.W.findIn K (.ref A_StateError) "state" = some none)
    (h_gaStateError : PySem.W.findIn K (.ref A_StateError) "__getattribute__" = some (some (.builtin "BaseException.__getattribute__")))
    (h_ggStateError : PySem.W.findIn K (.ref A_StateError) "__getattr__" = some none)
    (h_hdStateError : PySem.W.hasDictIn K A_StateError = true)
    (h_icStateError : PySem.W.isClsIn K A_StateError = true)
    (h_scStateError : PySem.W.subIn K (.ref A_StateError) (.ref A_StateError) = some true)
    (h_caStateError : PySem.W.findIn K (.ref A_StateError) "__class__" = some (some (.builtin "object.__class__")))
    (h_moStateError : PySem.W.mroIn K A_StateError (.type "object") = some true)
    (h_gdStateError : PySem.W.specialIn K (.builtin "object.__class__") "__get__" = some (some (.builtin "getset_descriptor.__get__")))
    (h_tkStateError : PySem.W.takesIn K (.builtin "object.__class__") = some true)
    (h_ibStateErrorBridgeError : PySem.W.isClsIn K A_BridgeError = true)
    (h_itStateErrorBridgeError : PySem.W.typeIn K (.ref A_BridgeError) = some (.type "type"))
    (h_isStateErrorBridgeError : PySem.W.subIn K (.ref A_StateError) (.ref A_BridgeError) = some true)
    (h_cRollout : PySem.W.nsIn K mainGlobals "Rollout" = some (some (.ref A_Rollout)))
    (h_pgRollout : PySem.W.plainGet K A_Rollout Str.empty = true)
    (h_hdRollout : PySem.W.hasDictIn K A_Rollout = true)
    (h_poRollout : PySem.W.plainOver K A_Rollout = true)
    (h_saRollout : PySem.W.findIn K (.ref A_Rollout) "__setattr__" = some (some (.builtin "object.__setattr__")))
    (h_mkRollout : PySem.W.makesIn K A_Rollout = true)
    (h_kcRollout : PySem.W.keepIn K (.ref A_Rollout) = true)
    (h_naRollout_flying : PySem.W.findIn K (.ref A_Rollout) "flying" = some none)
    (h_naRollout_told : PySem.W.findIn K (.ref A_Rollout) "told" = some none)
    (h_naRollout__graph : PySem.W.findIn K (.ref A_Rollout) "_graph" = some none)
    (h_naRollout__policies : PySem.W.findIn K (.ref A_Rollout) "_policies" = some none)
    (h_naRollout__done : PySem.W.findIn K (.ref A_Rollout) "_done" = some none)
    (h_naRollout__data : PySem.W.findIn K (.ref A_Rollout) "_data" = some none)
    (h_apeer : PySem.W.nsIn K mainGlobals "peer" = some (some (.ref A_peer)))
    (h_lpeer : K.lookup A_peer = some ⟨oc_peer, od_peer, .func (PySem.W.fnOf "peer" "peer" (defArgs s_peer) (defBody s_peer) (defScope s_peer) .none kV_peer dc_peer pm_peer an_peer cd_peer ct_peer), sl_peer⟩)
    (h_cdpeer : PySem.W.codeIn K cd_peer "peer" = true)
    (h_kpeer : PySem.W.keepIn K (.ref A_peer) = true)
    (h_aStateError_init : PySem.W.findIn K (.ref A_StateError) "__init__" = some (some (.ref A_StateError_init)))
    (h_tiStateError : PySem.W.typeIn K (.ref A_StateError_init) = some (.type "function"))
    (h_lStateError_init : K.lookup A_StateError_init = some ⟨oc_StateError_init, od_StateError_init, .func (PySem.W.fnX "__init__" "StateError.__init__" (defArgs s_StateError_init) (defBody s_StateError_init) (defScope s_StateError_init) [("__class__", cc_StateError_init)] .none kV_StateError_init dc_StateError_init pm_StateError_init an_StateError_init (.ref ca_StateError_init) ct_StateError_init), sl_StateError_init⟩)
    (h_cdStateError_init : PySem.W.codeIn K (.ref ca_StateError_init) "StateError.__init__" = true)
    (h_lcStateError_init : K.lookup ca_StateError_init = some ⟨cl_StateError_init, cod_StateError_init, .fields vs_StateError_init, csl_StateError_init⟩)
    (h_vsStateError_init : vs_StateError_init[2]? = some (.str fi_StateError_init tf_StateError_init))
    (h_fiStateError_init : ((PySem.Challenge.pw_hangbridge_k50_whole_new_policies_while.main.file : Str) == fi_StateError_init) = true)
    (h_ccStateError_init : K.lookup cc_StateError_init = some ⟨cl2_StateError_init, cod2_StateError_init, .cell (some (.ref A_StateError)), csl2_StateError_init⟩)
    (h_czStateError_init : PySem.W.clsIn K A_StateError = some cz_StateError_init)
    (h_msStateError_init : PySem.W.mroIn K A_StateError (.ref A_StateError) = some true)
    (h_suStateError_init : PySem.W.nsIn K mainGlobals "super" = some none)
    (h_anStateError_init : PySem.W.nsIn K cStatics "thirdparty.any" = some none)
    (h_spStateError_init : PySem.W.ks_superIn K A_StateError A_StateError "__init__" = some (some (.builtin "ValueError.__init__")))
    (h_ivStateError_init : PySem.W.subIn K (.ref A_StateError) (.type "ValueError") = some true)
    (h_tpStateError_init : (PySem.Challenge.pw_hangbridge_k50_whole_new_policies_while.main.scope.names.lookup ("super" : Str)).isSome = false)
    (h_atest_holds : PySem.W.nsIn K mainGlobals "test_holds" = some (some (.ref A_test_holds)))
    (h_ltest_holds : K.lookup A_test_holds = some ⟨oc_test_holds, od_test_holds, .func (PySem.W.fnOf "test_holds" "test_holds" (defArgs s_test_holds) (defBody s_test_holds) (defScope s_test_holds) .none kV_test_holds dc_test_holds pm_test_holds an_test_holds cd_test_holds ct_test_holds), sl_test_holds⟩)
    (h_cdtest_holds : PySem.W.codeIn K cd_test_holds "test_holds" = true)
    (h_ktest_holds : PySem.W.keepIn K (.ref A_test_holds) = true)
    (h_awith_number : PySem.W.nsIn K mainGlobals "with_number" = some (some (.ref A_with_number)))
    (h_lwith_number : K.lookup A_with_number = some ⟨oc_with_number, od_with_number, .func (PySem.W.fnOf "with_number" "with_number" (defArgs s_with_number) (defBody s_with_number) (defScope s_with_number) .none kV_with_number dc_with_number pm_with_number an_with_number cd_with_number ct_with_number), sl_with_number⟩)
    (h_cdwith_number : PySem.W.codeIn K cd_with_number "with_number" = true)
    (h_kwith_number : PySem.W.keepIn K (.ref A_with_number) = true)
    (h_aafter_star : PySem.W.nsIn K mainGlobals "after_star" = some (some (.ref A_after_star)))
    (h_lafter_star : K.lookup A_after_star = some ⟨oc_after_star, od_after_star, .func (PySem.W.fnOf "after_star" "after_star" (defArgs s_after_star) (defBody s_after_star) (defScope s_after_star) .none kV_after_star dc_after_star pm_after_star an_after_star cd_after_star ct_after_star), sl_after_star⟩)
    (h_cdafter_star : PySem.W.codeIn K cd_after_star "after_star" = true)
    (h_kafter_star : PySem.W.keepIn K (.ref A_after_star) = true)
    (h_aafter : PySem.W.nsIn K mainGlobals "after" = some (some (.ref A_after)))
    (h_lafter : K.lookup A_after = some ⟨oc_after, od_after, .func (PySem.W.fnOf "after" "after" (defArgs s_after) (defBody s_after) (defScope s_after) .none kV_after dc_after pm_after an_after cd_after ct_after), sl_after⟩)
    (h_cdafter : PySem.W.codeIn K cd_after "after" = true)
    (h_kafter : PySem.W.keepIn K (.ref A_after) = true)
    (h_aafter_any : PySem.W.nsIn K mainGlobals "after_any" = some (some (.ref A_after_any)))
    (h_lafter_any : K.lookup A_after_any = some ⟨oc_after_any, od_after_any, .func (PySem.W.fnOf "after_any" "after_any" (defArgs s_after_any) (defBody s_after_any) (defScope s_after_any) .none kV_after_any dc_after_any pm_after_any an_after_any cd_after_any ct_after_any), sl_after_any⟩)
    (h_cdafter_any : PySem.W.codeIn K cd_after_any "after_any" = true)
    (h_kafter_any : PySem.W.keepIn K (.ref A_after_any) = true)
    (h_adoes : PySem.W.nsIn K mainGlobals "does" = some (some (.ref A_does)))
    (h_ldoes : K.lookup A_does = some ⟨oc_does, od_does, .func (PySem.W.fnOf "does" "does" (defArgs s_does) (defBody s_does) (defScope s_does) .none kV_does dc_does pm_does an_does cd_does ct_does), sl_does⟩)
    (h_cddoes : PySem.W.codeIn K cd_does "does" = true)
    (h_kdoes : PySem.W.keepIn K (.ref A_does) = true)
    (h_asteps : PySem.W.nsIn K mainGlobals "steps" = some (some (.ref A_steps)))
    (h_lsteps : K.lookup A_steps = some ⟨oc_steps, od_steps, .func (PySem.W.fnOf "steps" "steps" (defArgs s_steps) (defBody s_steps) (defScope s_steps) .none kV_steps dc_steps pm_steps an_steps cd_steps ct_steps), sl_steps⟩)
    (h_cdsteps : PySem.W.codeIn K cd_steps "steps" = true)
    (h_ksteps : PySem.W.keepIn K (.ref A_steps) = true)
    (h_aRollout_init : PySem.W.findIn K (.ref A_Rollout) "__init__" = some (some (.ref A_Rollout_init)))
    (h_iRollout_init : PySem.W.isFn K (.ref A_Rollout_init) = true)
    (h_lRollout_init : K.lookup A_Rollout_init = some ⟨oc_Rollout_init, od_Rollout_init, .func (PySem.W.fnOf "__init__" "Rollout.__init__" (defArgs s_Rollout_init) (defBody s_Rollout_init) (defScope s_Rollout_init) .none kV_Rollout_init dc_Rollout_init pm_Rollout_init an_Rollout_init cd_Rollout_init ct_Rollout_init), sl_Rollout_init⟩)
    (h_cdRollout_init : PySem.W.codeIn K cd_Rollout_init "Rollout.__init__" = true)
    (h_kRollout_init : PySem.W.keepIn K (.ref A_Rollout_init) = true)
    (h_aRollout_is_done_everywhere : PySem.W.findIn K (.ref A_Rollout) "_is_done_everywhere" = some (some (.ref A_Rollout_is_done_everywhere)))
    (h_iRollout_is_done_everywhere : PySem.W.isFn K (.ref A_Rollout_is_done_everywhere) = true)
    (h_lRollout_is_done_everywhere : K.lookup A_Rollout_is_done_everywhere = some ⟨oc_Rollout_is_done_everywhere, od_Rollout_is_done_everywhere, .func (PySem.W.fnOf "_is_done_everywhere" "Rollout._is_done_everywhere" (defArgs s_Rollout_is_done_everywhere) (defBody s_Rollout_is_done_everywhere) (defScope s_Rollout_is_done_everywhere) .none kV_Rollout_is_done_everywhere dc_Rollout_is_done_everywhere pm_Rollout_is_done_everywhere an_Rollout_is_done_everywhere cd_Rollout_is_done_everywhere ct_Rollout_is_done_everywhere), sl_Rollout_is_done_everywhere⟩)
    (h_cdRollout_is_done_everywhere : PySem.W.codeIn K cd_Rollout_is_done_everywhere "Rollout._is_done_everywhere" = true)
    (h_kRollout_is_done_everywhere : PySem.W.keepIn K (.ref A_Rollout_is_done_everywhere) = true)
    (h_aRollout_is_switch : PySem.W.findIn K (.ref A_Rollout) "_is_switch" = some (some (.ref A_Rollout_is_switch)))
    (h_iRollout_is_switch : PySem.W.isFn K (.ref A_Rollout_is_switch) = true)
    (h_lRollout_is_switch : K.lookup A_Rollout_is_switch = some ⟨oc_Rollout_is_switch, od_Rollout_is_switch, .func (PySem.W.fnOf "_is_switch" "Rollout._is_switch" (defArgs s_Rollout_is_switch) (defBody s_Rollout_is_switch) (defScope s_Rollout_is_switch) .none kV_Rollout_is_switch dc_Rollout_is_switch pm_Rollout_is_switch an_Rollout_is_switch cd_Rollout_is_switch ct_Rollout_is_switch), sl_Rollout_is_switch⟩)
    (h_cdRollout_is_switch : PySem.W.codeIn K cd_Rollout_is_switch "Rollout._is_switch" = true)
    (h_kRollout_is_switch : PySem.W.keepIn K (.ref A_Rollout_is_switch) = true)
    (h_aRollout_may : PySem.W.findIn K (.ref A_Rollout) "may" = some (some (.ref A_Rollout_may)))
    (h_iRollout_may : PySem.W.isFn K (.ref A_Rollout_may) = true)
    (h_lRollout_may : K.lookup A_Rollout_may = some ⟨oc_Rollout_may, od_Rollout_may, .func (PySem.W.fnOf "may" "Rollout.may" (defArgs s_Rollout_may) (defBody s_Rollout_may) (defScope s_Rollout_may) .none kV_Rollout_may dc_Rollout_may pm_Rollout_may an_Rollout_may cd_Rollout_may ct_Rollout_may), sl_Rollout_may⟩)
    (h_cdRollout_may : PySem.W.codeIn K cd_Rollout_may "Rollout.may" = true)
    (h_kRollout_may : PySem.W.keepIn K (.ref A_Rollout_may) = true)
    (h_aRollout_perform : PySem.W.findIn K (.ref A_Rollout) "perform" = some (some (.ref A_Rollout_perform)))
    (h_iRollout_perform : PySem.W.isFn K (.ref A_Rollout_perform) = true)
    (h_lRollout_perform : K.lookup A_Rollout_perform = some ⟨oc_Rollout_perform, od_Rollout_perform, .func (PySem.W.fnOf "perform" "Rollout.perform" (defArgs s_Rollout_perform) (defBody s_Rollout_perform) (defScope s_Rollout_perform) .none kV_Rollout_perform dc_Rollout_perform pm_Rollout_perform an_Rollout_perform cd_Rollout_perform ct_Rollout_perform), sl_Rollout_perform⟩)
    (h_cdRollout_perform : PySem.W.codeIn K cd_Rollout_perform "Rollout.perform" = true)
    (h_kRollout_perform : PySem.W.keepIn K (.ref A_Rollout_perform) = true)
    (h_aRollout_has : PySem.W.findIn K (.ref A_Rollout) "has" = some (some (.ref A_Rollout_has)))
    (h_iRollout_has : PySem.W.isFn K (.ref A_Rollout_has) = true)
    (h_lRollout_has : K.lookup A_Rollout_has = some ⟨oc_Rollout_has, od_Rollout_has, .func (PySem.W.fnOf "has" "Rollout.has" (defArgs s_Rollout_has) (defBody s_Rollout_has) (defScope s_Rollout_has) .none kV_Rollout_has dc_Rollout_has pm_Rollout_has an_Rollout_has cd_Rollout_has ct_Rollout_has), sl_Rollout_has⟩)
    (h_cdRollout_has : PySem.W.codeIn K cd_Rollout_has "Rollout.has" = true)
    (h_kRollout_has : PySem.W.keepIn K (.ref A_Rollout_has) = true)
    (h_aRollout_enter : PySem.W.findIn K (.ref A_Rollout) "enter" = some (some (.ref A_Rollout_enter)))
    (h_iRollout_enter : PySem.W.isFn K (.ref A_Rollout_enter) = true)
    (h_lRollout_enter : K.lookup A_Rollout_enter = some ⟨oc_Rollout_enter, od_Rollout_enter, .func (PySem.W.fnOf "enter" "Rollout.enter" (defArgs s_Rollout_enter) (defBody s_Rollout_enter) (defScope s_Rollout_enter) .none kV_Rollout_enter dc_Rollout_enter pm_Rollout_enter an_Rollout_enter cd_Rollout_enter ct_Rollout_enter), sl_Rollout_enter⟩)
    (h_cdRollout_enter : PySem.W.codeIn K cd_Rollout_enter "Rollout.enter" = true)
    (h_kRollout_enter : PySem.W.keepIn K (.ref A_Rollout_enter) = true)
    (h_aRollout_move : PySem.W.findIn K (.ref A_Rollout) "move" = some (some (.ref A_Rollout_move)))
    (h_iRollout_move : PySem.W.isFn K (.ref A_Rollout_move) = true)
    (h_lRollout_move : K.lookup A_Rollout_move = some ⟨oc_Rollout_move, od_Rollout_move, .func (PySem.W.fnOf "move" "Rollout.move" (defArgs s_Rollout_move) (defBody s_Rollout_move) (defScope s_Rollout_move) .none kV_Rollout_move dc_Rollout_move pm_Rollout_move an_Rollout_move cd_Rollout_move ct_Rollout_move), sl_Rollout_move⟩)
    (h_cdRollout_move : PySem.W.codeIn K cd_Rollout_move "Rollout.move" = true)
    (h_kRollout_move : PySem.W.keepIn K (.ref A_Rollout_move) = true)
    (h_a_law_state : PySem.W.nsIn K mainGlobals "_law_state" = some (some (.ref A__law_state)))
    (h_l_law_state : K.lookup A__law_state = some ⟨oc__law_state, od__law_state, .func (PySem.W.fnOf "_law_state" "_law_state" (defArgs s__law_state) (defBody s__law_state) (defScope s__law_state) .none kV__law_state dc__law_state pm__law_state an__law_state cd__law_state ct__law_state), sl__law_state⟩)
    (h_cd_law_state : PySem.W.codeIn K cd__law_state "_law_state" = true)
    (h_k_law_state : PySem.W.keepIn K (.ref A__law_state) = true)
    (h_a_law_draw : PySem.W.nsIn K mainGlobals "_law_draw" = some (some (.ref A__law_draw)))
    (h_l_law_draw : K.lookup A__law_draw = some ⟨oc__law_draw, od__law_draw, .func (PySem.W.fnOf "_law_draw" "_law_draw" (defArgs s__law_draw) (defBody s__law_draw) (defScope s__law_draw) .none kV__law_draw dc__law_draw pm__law_draw an__law_draw cd__law_draw ct__law_draw), sl__law_draw⟩)
    (h_cd_law_draw : PySem.W.codeIn K cd__law_draw "_law_draw" = true)
    (h_k_law_draw : PySem.W.keepIn K (.ref A__law_draw) = true)
    (h_a_law_holds : PySem.W.nsIn K mainGlobals "_law_holds" = some (some (.ref A__law_holds)))
    (h_l_law_holds : K.lookup A__law_holds = some ⟨oc__law_holds, od__law_holds, .func (PySem.W.fnOf "_law_holds" "_law_holds" (defArgs s__law_holds) (defBody s__law_holds) (defScope s__law_holds) .none kV__law_holds dc__law_holds pm__law_holds an__law_holds cd__law_holds ct__law_holds), sl__law_holds⟩)
    (h_cd_law_holds : PySem.W.codeIn K cd__law_holds "_law_holds" = true)
    (h_k_law_holds : PySem.W.keepIn K (.ref A__law_holds) = true)
    (h_a_law_after : PySem.W.nsIn K mainGlobals "_law_after" = some (some (.ref A__law_after)))
    (h_l_law_after : K.lookup A__law_after = some ⟨oc__law_after, od__law_after, .func (PySem.W.fnOf "_law_after" "_law_after" (defArgs s__law_after) (defBody s__law_after) (defScope s__law_after) .none kV__law_after dc__law_after pm__law_after an__law_after cd__law_after ct__law_after), sl__law_after⟩)
    (h_cd_law_after : PySem.W.codeIn K cd__law_after "_law_after" = true)
    (h_k_law_after : PySem.W.keepIn K (.ref A__law_after) = true)
    (h_a_law_graph : PySem.W.nsIn K mainGlobals "_law_graph" = some (some (.ref A__law_graph)))
    (h_l_law_graph : K.lookup A__law_graph = some ⟨oc__law_graph, od__law_graph, .func (PySem.W.fnOf "_law_graph" "_law_graph" (defArgs s__law_graph) (defBody s__law_graph) (defScope s__law_graph) .none kV__law_graph dc__law_graph pm__law_graph an__law_graph cd__law_graph ct__law_graph), sl__law_graph⟩)
    (h_cd_law_graph : PySem.W.codeIn K cd__law_graph "_law_graph" = true)
    (h_k_law_graph : PySem.W.keepIn K (.ref A__law_graph) = true)
    (h_a_law_end : PySem.W.nsIn K mainGlobals "_law_end" = some (some (.ref A__law_end)))
    (h_l_law_end : K.lookup A__law_end = some ⟨oc__law_end, od__law_end, .func (PySem.W.fnOf "_law_end" "_law_end" (defArgs s__law_end) (defBody s__law_end) (defScope s__law_end) .none kV__law_end dc__law_end pm__law_end an__law_end cd__law_end ct__law_end), sl__law_end⟩)
    (h_cd_law_end : PySem.W.codeIn K cd__law_end "_law_end" = true)
    (h_k_law_end : PySem.W.keepIn K (.ref A__law_end) = true)
    (h_a_law_local : PySem.W.nsIn K mainGlobals "_law_local" = some (some (.ref A__law_local)))
    (h_l_law_local : K.lookup A__law_local = some ⟨oc__law_local, od__law_local, .func (PySem.W.fnOf "_law_local" "_law_local" (defArgs s__law_local) (defBody s__law_local) (defScope s__law_local) .none kV__law_local dc__law_local pm__law_local an__law_local cd__law_local ct__law_local), sl__law_local⟩)
    (h_cd_law_local : PySem.W.codeIn K cd__law_local "_law_local" = true)
    (h_k_law_local : PySem.W.keepIn K (.ref A__law_local) = true)
    (h_a_law_start : PySem.W.nsIn K mainGlobals "_law_start" = some (some (.ref A__law_start)))
    (h_l_law_start : K.lookup A__law_start = some ⟨oc__law_start, od__law_start, .func (PySem.W.fnOf "_law_start" "_law_start" (defArgs s__law_start) (defBody s__law_start) (defScope s__law_start) .none kV__law_start dc__law_start pm__law_start an__law_start cd__law_start ct__law_start), sl__law_start⟩)
    (h_cd_law_start : PySem.W.codeIn K cd__law_start "_law_start" = true)
    (h_k_law_start : PySem.W.keepIn K (.ref A__law_start) = true)
    (h_a_law_steps : PySem.W.nsIn K mainGlobals "_law_steps" = some (some (.ref A__law_steps)))
    (h_l_law_steps : K.lookup A__law_steps = some ⟨oc__law_steps, od__law_steps, .func (PySem.W.fnOf "_law_steps" "_law_steps" (defArgs s__law_steps) (defBody s__law_steps) (defScope s__law_steps) .none kV__law_steps dc__law_steps pm__law_steps an__law_steps cd__law_steps ct__law_steps), sl__law_steps⟩)
    (h_cd_law_steps : PySem.W.codeIn K cd__law_steps "_law_steps" = true)
    (h_k_law_steps : PySem.W.keepIn K (.ref A__law_steps) = true)
    (h_a_law_may : PySem.W.nsIn K mainGlobals "_law_may" = some (some (.ref A__law_may)))
    (h_l_law_may : K.lookup A__law_may = some ⟨oc__law_may, od__law_may, .func (PySem.W.fnOf "_law_may" "_law_may" (defArgs s__law_may) (defBody s__law_may) (defScope s__law_may) .none kV__law_may dc__law_may pm__law_may an__law_may cd__law_may ct__law_may), sl__law_may⟩)
    (h_cd_law_may : PySem.W.codeIn K cd__law_may "_law_may" = true)
    (h_k_law_may : PySem.W.keepIn K (.ref A__law_may) = true)
    (h_a_law_perform : PySem.W.nsIn K mainGlobals "_law_perform" = some (some (.ref A__law_perform)))
    (h_l_law_perform : K.lookup A__law_perform = some ⟨oc__law_perform, od__law_perform, .func (PySem.W.fnOf "_law_perform" "_law_perform" (defArgs s__law_perform) (defBody s__law_perform) (defScope s__law_perform) .none kV__law_perform dc__law_perform pm__law_perform an__law_perform cd__law_perform ct__law_perform), sl__law_perform⟩)
    (h_cd_law_perform : PySem.W.codeIn K cd__law_perform "_law_perform" = true)
    (h_k_law_perform : PySem.W.keepIn K (.ref A__law_perform) = true)
    (h_a_law_move : PySem.W.nsIn K mainGlobals "_law_move" = some (some (.ref A__law_move)))
    (h_l_law_move : K.lookup A__law_move = some ⟨oc__law_move, od__law_move, .func (PySem.W.fnOf "_law_move" "_law_move" (defArgs s__law_move) (defBody s__law_move) (defScope s__law_move) .none kV__law_move dc__law_move pm__law_move an__law_move cd__law_move ct__law_move), sl__law_move⟩)
    (h_cd_law_move : PySem.W.codeIn K cd__law_move "_law_move" = true)
    (h_k_law_move : PySem.W.keepIn K (.ref A__law_move) = true)
    (h_a_law_wrong_move : PySem.W.nsIn K mainGlobals "_law_wrong_move" = some (some (.ref A__law_wrong_move)))
    (h_l_law_wrong_move : K.lookup A__law_wrong_move = some ⟨oc__law_wrong_move, od__law_wrong_move, .func (PySem.W.fnOf "_law_wrong_move" "_law_wrong_move" (defArgs s__law_wrong_move) (defBody s__law_wrong_move) (defScope s__law_wrong_move) .none kV__law_wrong_move dc__law_wrong_move pm__law_wrong_move an__law_wrong_move cd__law_wrong_move ct__law_wrong_move), sl__law_wrong_move⟩)
    (h_cd_law_wrong_move : PySem.W.codeIn K cd__law_wrong_move "_law_wrong_move" = true)
    (h_k_law_wrong_move : PySem.W.keepIn K (.ref A__law_wrong_move) = true)
    (h_a_law_alone : PySem.W.nsIn K mainGlobals "_law_alone" = some (some (.ref A__law_alone)))
    (h_l_law_alone : K.lookup A__law_alone = some ⟨oc__law_alone, od__law_alone, .func (PySem.W.fnOf "_law_alone" "_law_alone" (defArgs s__law_alone) (defBody s__law_alone) (defScope s__law_alone) .none kV__law_alone dc__law_alone pm__law_alone an__law_alone cd__law_alone ct__law_alone), sl__law_alone⟩)
    (h_cd_law_alone : PySem.W.codeIn K cd__law_alone "_law_alone" = true)
    (h_k_law_alone : PySem.W.keepIn K (.ref A__law_alone) = true)
    (h_a_law_each_right : PySem.W.nsIn K mainGlobals "_law_each_right" = some (some (.ref A__law_each_right)))
    (h_l_law_each_right : K.lookup A__law_each_right = some ⟨oc__law_each_right, od__law_each_right, .func (PySem.W.fnOf "_law_each_right" "_law_each_right" (defArgs s__law_each_right) (defBody s__law_each_right) (defScope s__law_each_right) .none kV__law_each_right dc__law_each_right pm__law_each_right an__law_each_right cd__law_each_right ct__law_each_right), sl__law_each_right⟩)
    (h_cd_law_each_right : PySem.W.codeIn K cd__law_each_right "_law_each_right" = true)
    (h_k_law_each_right : PySem.W.keepIn K (.ref A__law_each_right) = true)
    (h_a_law_deed : PySem.W.nsIn K mainGlobals "_law_deed" = some (some (.ref A__law_deed)))
    (h_l_law_deed : K.lookup A__law_deed = some ⟨oc__law_deed, od__law_deed, .func (PySem.W.fnOf "_law_deed" "_law_deed" (defArgs s__law_deed) (defBody s__law_deed) (defScope s__law_deed) .none kV__law_deed dc__law_deed pm__law_deed an__law_deed cd__law_deed ct__law_deed), sl__law_deed⟩)
    (h_cd_law_deed : PySem.W.codeIn K cd__law_deed "_law_deed" = true)
    (h_k_law_deed : PySem.W.keepIn K (.ref A__law_deed) = true)
    (h_alaw : PySem.W.nsIn K mainGlobals "law" = some (some (.ref A_law)))
    (h_llaw : K.lookup A_law = some ⟨oc_law, od_law, .func (PySem.W.fnOf "law" "law" (defArgs s_law) (defBody s_law) (defScope s_law) .none kV_law dc_law pm_law an_law cd_law ct_law), sl_law⟩)
    (h_cdlaw : PySem.W.codeIn K cd_law "law" = true)
    (h_klaw : PySem.W.keepIn K (.ref A_law) = true)
    (h_gFIELD_PLACES : PySem.W.nsIn K mainGlobals "FIELD_PLACES" = some (some (.ref A_FIELD_PLACES)))
    (h_lFIELD_PLACES : K.lookup A_FIELD_PLACES = some ⟨.type "dict", none, .dict es_FIELD_PLACES n_FIELD_PLACES, #[]⟩)
    (h_kFIELD_PLACES : PySem.W.KeysLit w.params es_FIELD_PLACES.toList)
    (h_nFIELD_PLACES_switch : PySem.W.nsIn K A_FIELD_PLACES "switch" = some (some (.int 0 tk_FIELD_PLACES_switch)))
    (h_nFIELD_PLACES_port : PySem.W.nsIn K A_FIELD_PLACES "port" = some (some (.int 1 tk_FIELD_PLACES_port)))
    (h_nFIELD_PLACES_src : PySem.W.nsIn K A_FIELD_PLACES "src" = some (some (.int 2 tk_FIELD_PLACES_src)))
    (h_nFIELD_PLACES_dst : PySem.W.nsIn K A_FIELD_PLACES "dst" = some (some (.int 3 tk_FIELD_PLACES_dst)))
    (h_nFIELD_PLACES_kind : PySem.W.nsIn K A_FIELD_PLACES "kind" = some (some (.int 4 tk_FIELD_PLACES_kind)))
    (h_gOUTSIDE : PySem.W.nsIn K mainGlobals "OUTSIDE" = some (some (.int 0 tk_OUTSIDE)))
    (h_gOLD : PySem.W.nsIn K mainGlobals "OLD" = some (some (.int 0 tk_OLD)))
    (h_gNEW : PySem.W.nsIn K mainGlobals "NEW" = some (some (.int 1 tk_NEW)))
    (h_bany : PySem.W.nsIn K mainGlobals "any" = some none)
    (h_ball : PySem.W.nsIn K mainGlobals "all" = some none)
    (h_blist : PySem.W.nsIn K mainGlobals "list" = some none)
    (h_bsorted : PySem.W.nsIn K mainGlobals "sorted" = some none)
    (h_blen : PySem.W.nsIn K mainGlobals "len" = some none)
    (h_babs : PySem.W.nsIn K mainGlobals "abs" = some none)
    (h_bint : PySem.W.nsIn K mainGlobals "int" = some none)
    (h_brange : PySem.W.nsIn K mainGlobals "range" = some none)
    (h_bset : PySem.W.nsIn K mainGlobals "set" = some none)
    (h_btuple : PySem.W.nsIn K mainGlobals "tuple" = some none)
    (h_brepr : PySem.W.nsIn K mainGlobals "repr" = some none) :
    ∃ fd : FuncData, (∀ (s : Shared) (v : Value), BindsTo s fd ⟨[v], []⟩ [("script", v)]) ∧ ∀ base : Heap, K.In base → base.Ns mainGlobals mg → LawRun l.prog w K mg base 14 fa fd ["script"] (sp_law K) := by
  haveI : IsP l.prog := ⟨hl⟩
  have e := hfa.symm.trans (PySem.W.mg_of X G h_alaw)
  have e2 : fa = A_law := Value.ref.inj (Option.some.inj e)
  rw [e2]
  have T : Txt w K mg ⟨A_BridgeError, A_StateError, A_Rollout, A_peer, (PySem.W.fnOf "peer" "peer" (defArgs s_peer) (defBody s_peer) (defScope s_peer) .none kV_peer dc_peer pm_peer an_peer cd_peer ct_peer), A_StateError_init, (PySem.W.fnX "__init__" "StateError.__init__" (defArgs s_StateError_init) (defBody s_StateError_init) (defScope s_StateError_init) [("__class__", cc_StateError_init)] .none kV_StateError_init dc_StateError_init pm_StateError_init an_StateError_init (.ref ca_StateError_init) ct_StateError_init), A_test_holds, (PySem.W.fnOf "test_holds" "test_holds" (defArgs s_test_holds) (defBody s_test_holds) (defScope s_test_holds) .none kV_test_holds dc_test_holds pm_test_holds an_test_holds cd_test_holds ct_test_holds), A_with_number, (PySem.W.fnOf "with_number" "with_number" (defArgs s_with_number) (defBody s_with_number) (defScope s_with_number) .none kV_with_number dc_with_number pm_with_number an_with_number cd_with_number ct_with_number), A_after_star, (PySem.W.fnOf "after_star" "after_star" (defArgs s_after_star) (defBody s_after_star) (defScope s_after_star) .none kV_after_star dc_after_star pm_after_star an_after_star cd_after_star ct_after_star), A_after, (PySem.W.fnOf "after" "after" (defArgs s_after) (defBody s_after) (defScope s_after) .none kV_after dc_after pm_after an_after cd_after ct_after), A_after_any, (PySem.W.fnOf "after_any" "after_any" (defArgs s_after_any) (defBody s_after_any) (defScope s_after_any) .none kV_after_any dc_after_any pm_after_any an_after_any cd_after_any ct_after_any), A_does, (PySem.W.fnOf "does" "does" (defArgs s_does) (defBody s_does) (defScope s_does) .none kV_does dc_does pm_does an_does cd_does ct_does), A_steps, (PySem.W.fnOf "steps" "steps" (defArgs s_steps) (defBody s_steps) (defScope s_steps) .none kV_steps dc_steps pm_steps an_steps cd_steps ct_steps), A_Rollout_init, (PySem.W.fnOf "__init__" "Rollout.__init__" (defArgs s_Rollout_init) (defBody s_Rollout_init) (defScope s_Rollout_init) .none kV_Rollout_init dc_Rollout_init pm_Rollout_init an_Rollout_init cd_Rollout_init ct_Rollout_init), A_Rollout_is_done_everywhere, (PySem.W.fnOf "_is_done_everywhere" "Rollout._is_done_everywhere" (defArgs s_Rollout_is_done_everywhere) (defBody s_Rollout_is_done_everywhere) (defScope s_Rollout_is_done_everywhere) .none kV_Rollout_is_done_everywhere dc_Rollout_is_done_everywhere pm_Rollout_is_done_everywhere an_Rollout_is_done_everywhere cd_Rollout_is_done_everywhere ct_Rollout_is_done_everywhere), A_Rollout_is_switch, (PySem.W.fnOf "_is_switch" "Rollout._is_switch" (defArgs s_Rollout_is_switch) (defBody s_Rollout_is_switch) (defScope s_Rollout_is_switch) .none kV_Rollout_is_switch dc_Rollout_is_switch pm_Rollout_is_switch an_Rollout_is_switch cd_Rollout_is_switch ct_Rollout_is_switch), A_Rollout_may, (PySem.W.fnOf "may" "Rollout.may" (defArgs s_Rollout_may) (defBody s_Rollout_may) (defScope s_Rollout_may) .none kV_Rollout_may dc_Rollout_may pm_Rollout_may an_Rollout_may cd_Rollout_may ct_Rollout_may), A_Rollout_perform, (PySem.W.fnOf "perform" "Rollout.perform" (defArgs s_Rollout_perform) (defBody s_Rollout_perform) (defScope s_Rollout_perform) .none kV_Rollout_perform dc_Rollout_perform pm_Rollout_perform an_Rollout_perform cd_Rollout_perform ct_Rollout_perform), A_Rollout_has, (PySem.W.fnOf "has" "Rollout.has" (defArgs s_Rollout_has) (defBody s_Rollout_has) (defScope s_Rollout_has) .none kV_Rollout_has dc_Rollout_has pm_Rollout_has an_Rollout_has cd_Rollout_has ct_Rollout_has), A_Rollout_enter, (PySem.W.fnOf "enter" "Rollout.enter" (defArgs s_Rollout_enter) (defBody s_Rollout_enter) (defScope s_Rollout_enter) .none kV_Rollout_enter dc_Rollout_enter pm_Rollout_enter an_Rollout_enter cd_Rollout_enter ct_Rollout_enter), A_Rollout_move, (PySem.W.fnOf "move" "Rollout.move" (defArgs s_Rollout_move) (defBody s_Rollout_move) (defScope s_Rollout_move) .none kV_Rollout_move dc_Rollout_move pm_Rollout_move an_Rollout_move cd_Rollout_move ct_Rollout_move), A__law_state, (PySem.W.fnOf "_law_state" "_law_state" (defArgs s__law_state) (defBody s__law_state) (defScope s__law_state) .none kV__law_state dc__law_state pm__law_state an__law_state cd__law_state ct__law_state), A__law_draw, (PySem.W.fnOf "_law_draw" "_law_draw" (defArgs s__law_draw) (defBody s__law_draw) (defScope s__law_draw) .none kV__law_draw dc__law_draw pm__law_draw an__law_draw cd__law_draw ct__law_draw), A__law_holds, (PySem.W.fnOf "_law_holds" "_law_holds" (defArgs s__law_holds) (defBody s__law_holds) (defScope s__law_holds) .none kV__law_holds dc__law_holds pm__law_holds an__law_holds cd__law_holds ct__law_holds), A__law_after, (PySem.W.fnOf "_law_after" "_law_after" (defArgs s__law_after) (defBody s__law_after) (defScope s__law_after) .none kV__law_after dc__law_after pm__law_after an__law_after cd__law_after ct__law_after), A__law_graph, (PySem.W.fnOf "_law_graph" "_law_graph" (defArgs s__law_graph) (defBody s__law_graph) (defScope s__law_graph) .none kV__law_graph dc__law_graph pm__law_graph an__law_graph cd__law_graph ct__law_graph), A__law_end, (PySem.W.fnOf "_law_end" "_law_end" (defArgs s__law_end) (defBody s__law_end) (defScope s__law_end) .none kV__law_end dc__law_end pm__law_end an__law_end cd__law_end ct__law_end), A__law_local, (PySem.W.fnOf "_law_local" "_law_local" (defArgs s__law_local) (defBody s__law_local) (defScope s__law_local) .none kV__law_local dc__law_local pm__law_local an__law_local cd__law_local ct__law_local), A__law_start, (PySem.W.fnOf "_law_start" "_law_start" (defArgs s__law_start) (defBody s__law_start) (defScope s__law_start) .none kV__law_start dc__law_start pm__law_start an__law_start cd__law_start ct__law_start), A__law_steps, (PySem.W.fnOf "_law_steps" "_law_steps" (defArgs s__law_steps) (defBody s__law_steps) (defScope s__law_steps) .none kV__law_steps dc__law_steps pm__law_steps an__law_steps cd__law_steps ct__law_steps), A__law_may, (PySem.W.fnOf "_law_may" "_law_may" (defArgs s__law_may) (defBody s__law_may) (defScope s__law_may) .none kV__law_may dc__law_may pm__law_may an__law_may cd__law_may ct__law_may), A__law_perform, (PySem.W.fnOf "_law_perform" "_law_perform" (defArgs s__law_perform) (defBody s__law_perform) (defScope s__law_perform) .none kV__law_perform dc__law_perform pm__law_perform an__law_perform cd__law_perform ct__law_perform), A__law_move, (PySem.W.fnOf "_law_move" "_law_move" (defArgs s__law_move) (defBody s__law_move) (defScope s__law_move) .none kV__law_move dc__law_move pm__law_move an__law_move cd__law_move ct__law_move), A__law_wrong_move, (PySem.W.fnOf "_law_wrong_move" "_law_wrong_move" (defArgs s__law_wrong_move) (defBody s__law_wrong_move) (defScope s__law_wrong_move) .none kV__law_wrong_move dc__law_wrong_move pm__law_wrong_move an__law_wrong_move cd__law_wrong_move ct__law_wrong_move), A__law_alone, (PySem.W.fnOf "_law_alone" "_law_alone" (defArgs s__law_alone) (defBody s__law_alone) (defScope s__law_alone) .none kV__law_alone dc__law_alone pm__law_alone an__law_alone cd__law_alone ct__law_alone), A__law_each_right, (PySem.W.fnOf "_law_each_right" "_law_each_right" (defArgs s__law_each_right) (defBody s__law_each_right) (defScope s__law_each_right) .none kV__law_each_right dc__law_each_right pm__law_each_right an__law_each_right cd__law_each_right ct__law_each_right), A__law_deed, (PySem.W.fnOf "_law_deed" "_law_deed" (defArgs s__law_deed) (defBody s__law_deed) (defScope s__law_deed) .none kV__law_deed dc__law_deed pm__law_deed an__law_deed cd__law_deed ct__law_deed), A_law, (PySem.W.fnOf "law" "law" (defArgs s_law) (defBody s_law) (defScope s_law) .none kV_law dc_law pm_law an_law cd_law ct_law), A_FIELD_PLACES⟩ := {
    mg_BridgeError := PySem.W.mg_of X G h_cBridgeError
    rd_BridgeError := ⟨h_rdBridgeError, h_gaBridgeError⟩
    cv_BridgeError := h_cvBridgeError
    mg_StateError := PySem.W.mg_of X G h_cStateError
    ox_StateError := ⟨⟨_, _, _, _, _, _, _, _, _, _, _, _, _, _, _, h_lkStateError, rfl⟩, h_saStateError, h_exStateError, h_tyStateError, h_kcStateError⟩
    iC_StateError := h_aStateError_init
    tI_StateError := h_tiStateError
    no_StateError_state := h_noStateError
    xf_StateError := ⟨h_gaStateError, h_ggStateError, h_exStateError, h_hdStateError⟩
    xc_StateError := ⟨h_icStateError, h_gaStateError, h_ggStateError, h_exStateError, h_caStateError, h_gdStateError, h_tkStateError, h_moStateError⟩
    te_StateError := PySem.W.exm_ref h_exStateError h_hdStateError h_tyStateError h_scStateError
    is_StateError_BridgeError := kit_ownT h_ibStateErrorBridgeError h_itStateErrorBridgeError h_isStateErrorBridgeError
    cl_Rollout := ⟨h_pgRollout, h_hdRollout, h_poRollout, h_saRollout⟩
    mg_Rollout := PySem.W.mg_of X G h_cRollout
    na_Rollout_flying := h_naRollout_flying
    na_Rollout_told := h_naRollout_told
    na_Rollout__graph := h_naRollout__graph
    na_Rollout__policies := h_naRollout__policies
    na_Rollout__done := h_naRollout__done
    na_Rollout__data := h_naRollout__data
    fn_peer := fun_mk (st := s_peer) h_lpeer h_cdpeer h_kpeer
    bi_peer := (fun_mk (st := s_peer) h_lpeer h_cdpeer h_kpeer).binds (ps := ["links", "end"]) fun _ _ _ _ _ _ us hl => match us, hl with | [_, _], _ => rfl
    mg_peer := PySem.W.mg_of X G h_apeer
    kp_peer := h_kpeer
    fn_StateError_init := ⟨⟨_, _, _, _, _, _, _, _, _, _, _, _, _, _, _, _, _, _, _, rfl, h_lStateError_init, h_cdStateError_init, h_lcStateError_init, h_vsStateError_init, h_fiStateError_init, h_ccStateError_init⟩, ⟨_, h_czStateError_init⟩, h_msStateError_init, PySem.W.mg_none_of X G h_suStateError_init, h_anStateError_init, h_spStateError_init, h_ivStateError_init, h_tpStateError_init⟩
    bi_StateError_init := FunS.binds (P := PySem.Challenge.pw_hangbridge_k50_whole_new_policies_while) (mg := mg) (C := A_StateError) (x := "__init__") (qual := "StateError.__init__") (st := s_StateError_init) (f := A_StateError_init) (ps := ["self", "state"]) ⟨⟨_, _, _, _, _, _, _, _, _, _, _, _, _, _, _, _, _, _, _, rfl, h_lStateError_init, h_cdStateError_init, h_lcStateError_init, h_vsStateError_init, h_fiStateError_init, h_ccStateError_init⟩, ⟨_, h_czStateError_init⟩, h_msStateError_init, PySem.W.mg_none_of X G h_suStateError_init, h_anStateError_init, h_spStateError_init, h_ivStateError_init, h_tpStateError_init⟩ fun _ _ _ _ _ _ _ us hl => match us, hl with | [_, _], _ => rfl
    fn_test_holds := fun_mk (st := s_test_holds) h_ltest_holds h_cdtest_holds h_ktest_holds
    bi_test_holds := (fun_mk (st := s_test_holds) h_ltest_holds h_cdtest_holds h_ktest_holds).binds (ps := ["test", "state"]) fun _ _ _ _ _ _ us hl => match us, hl with | [_, _], _ => rfl
    mg_test_holds := PySem.W.mg_of X G h_atest_holds
    kp_test_holds := h_ktest_holds
    fn_with_number := fun_mk (st := s_with_number) h_lwith_number h_cdwith_number h_kwith_number
    bi_with_number := (fun_mk (st := s_with_number) h_lwith_number h_cdwith_number h_kwith_number).binds (ps := ["state", "field", "number"]) fun _ _ _ _ _ _ us hl => match us, hl with | [_, _, _], _ => rfl
    mg_with_number := PySem.W.mg_of X G h_awith_number
    kp_with_number := h_kwith_number
    fn_after_star := fun_mk (st := s_after_star) h_lafter_star h_cdafter_star h_kafter_star
    bi_after_star := (fun_mk (st := s_after_star) h_lafter_star h_cdafter_star h_kafter_star).binds (ps := ["policy", "state"]) fun _ _ _ _ _ _ us hl => match us, hl with | [_, _], _ => rfl
    mg_after_star := PySem.W.mg_of X G h_aafter_star
    kp_after_star := h_kafter_star
    fn_after := fun_mk (st := s_after) h_lafter h_cdafter h_kafter
    bi_after := (fun_mk (st := s_after) h_lafter h_cdafter h_kafter).binds (ps := ["policy", "state"]) fun _ _ _ _ _ _ us hl => match us, hl with | [_, _], _ => rfl
    mg_after := PySem.W.mg_of X G h_aafter
    kp_after := h_kafter
    fn_after_any := fun_mk (st := s_after_any) h_lafter_any h_cdafter_any h_kafter_any
    bi_after_any := (fun_mk (st := s_after_any) h_lafter_any h_cdafter_any h_kafter_any).binds (ps := ["policies", "states"]) fun _ _ _ _ _ _ us hl => match us, hl with | [_, _], _ => rfl
    mg_after_any := PySem.W.mg_of X G h_aafter_any
    kp_after_any := h_kafter_any
    fn_does := fun_mk (st := s_does) h_ldoes h_cddoes h_kdoes
    bi_does := (fun_mk (st := s_does) h_ldoes h_cddoes h_kdoes).binds (ps := ["policy", "switch", "port", "header"]) fun _ _ _ _ _ _ us hl => match us, hl with | [_, _, _, _], _ => rfl
    mg_does := PySem.W.mg_of X G h_adoes
    kp_does := h_kdoes
    fn_steps := fun_mk (st := s_steps) h_lsteps h_cdsteps h_ksteps
    bi_steps := (fun_mk (st := s_steps) h_lsteps h_cdsteps h_ksteps).binds (ps := ["policy", "graph", "place"]) fun _ _ _ _ _ _ us hl => match us, hl with | [_, _, _], _ => rfl
    mg_steps := PySem.W.mg_of X G h_asteps
    kp_steps := h_ksteps
    fn_Rollout_init := fun_mk (st := s_Rollout_init) h_lRollout_init h_cdRollout_init h_kRollout_init
    bi_Rollout_init := (fun_mk (st := s_Rollout_init) h_lRollout_init h_cdRollout_init h_kRollout_init).binds (ps := ["self", "graph", "old", "new"]) fun _ _ _ _ _ _ us hl => match us, hl with | [_, _, _, _], _ => rfl
    mk_Rollout := ⟨h_mkRollout, h_aRollout_init, h_iRollout_init, h_kcRollout⟩
    fn_Rollout_is_done_everywhere := fun_mk (st := s_Rollout_is_done_everywhere) h_lRollout_is_done_everywhere h_cdRollout_is_done_everywhere h_kRollout_is_done_everywhere
    bi_Rollout_is_done_everywhere := (fun_mk (st := s_Rollout_is_done_everywhere) h_lRollout_is_done_everywhere h_cdRollout_is_done_everywhere h_kRollout_is_done_everywhere).binds (ps := ["self", "deed"]) fun _ _ _ _ _ _ us hl => match us, hl with | [_, _], _ => rfl
    me_Rollout_is_done_everywhere := ⟨h_aRollout_is_done_everywhere, h_iRollout_is_done_everywhere, h_kRollout_is_done_everywhere⟩
    fn_Rollout_is_switch := fun_mk (st := s_Rollout_is_switch) h_lRollout_is_switch h_cdRollout_is_switch h_kRollout_is_switch
    bi_Rollout_is_switch := (fun_mk (st := s_Rollout_is_switch) h_lRollout_is_switch h_cdRollout_is_switch h_kRollout_is_switch).binds (ps := ["self", "switch"]) fun _ _ _ _ _ _ us hl => match us, hl with | [_, _], _ => rfl
    me_Rollout_is_switch := ⟨h_aRollout_is_switch, h_iRollout_is_switch, h_kRollout_is_switch⟩
    fn_Rollout_may := fun_mk (st := s_Rollout_may) h_lRollout_may h_cdRollout_may h_kRollout_may
    bi_Rollout_may := (fun_mk (st := s_Rollout_may) h_lRollout_may h_cdRollout_may h_kRollout_may).binds (ps := ["self", "deed", "switch"]) fun _ _ _ _ _ _ us hl => match us, hl with | [_, _, _], _ => rfl
    me_Rollout_may := ⟨h_aRollout_may, h_iRollout_may, h_kRollout_may⟩
    fn_Rollout_perform := fun_mk (st := s_Rollout_perform) h_lRollout_perform h_cdRollout_perform h_kRollout_perform
    bi_Rollout_perform := (fun_mk (st := s_Rollout_perform) h_lRollout_perform h_cdRollout_perform h_kRollout_perform).binds (ps := ["self", "deed", "switch"]) fun _ _ _ _ _ _ us hl => match us, hl with | [_, _, _], _ => rfl
    me_Rollout_perform := ⟨h_aRollout_perform, h_iRollout_perform, h_kRollout_perform⟩
    fn_Rollout_has := fun_mk (st := s_Rollout_has) h_lRollout_has h_cdRollout_has h_kRollout_has
    bi_Rollout_has := (fun_mk (st := s_Rollout_has) h_lRollout_has h_cdRollout_has h_kRollout_has).binds (ps := ["self", "switch", "version"]) fun _ _ _ _ _ _ us hl => match us, hl with | [_, _, _], _ => rfl
    me_Rollout_has := ⟨h_aRollout_has, h_iRollout_has, h_kRollout_has⟩
    fn_Rollout_enter := fun_mk (st := s_Rollout_enter) h_lRollout_enter h_cdRollout_enter h_kRollout_enter
    bi_Rollout_enter := (fun_mk (st := s_Rollout_enter) h_lRollout_enter h_cdRollout_enter h_kRollout_enter).binds (ps := ["self", "switch", "port", "header"]) fun _ _ _ _ _ _ us hl => match us, hl with | [_, _, _, _], _ => rfl
    me_Rollout_enter := ⟨h_aRollout_enter, h_iRollout_enter, h_kRollout_enter⟩
    fn_Rollout_move := fun_mk (st := s_Rollout_move) h_lRollout_move h_cdRollout_move h_kRollout_move
    bi_Rollout_move := (fun_mk (st := s_Rollout_move) h_lRollout_move h_cdRollout_move h_kRollout_move).binds (ps := ["self", "index"]) fun _ _ _ _ _ _ us hl => match us, hl with | [_, _], _ => rfl
    me_Rollout_move := ⟨h_aRollout_move, h_iRollout_move, h_kRollout_move⟩
    fn__law_state := fun_mk (st := s__law_state) h_l_law_state h_cd_law_state h_k_law_state
    bi__law_state := (fun_mk (st := s__law_state) h_l_law_state h_cd_law_state h_k_law_state).binds (ps := ["script"]) fun _ _ _ _ _ _ us hl => match us, hl with | [_], _ => rfl
    mg__law_state := PySem.W.mg_of X G h_a_law_state
    kp__law_state := h_k_law_state
    fn__law_draw := fun_mk (st := s__law_draw) h_l_law_draw h_cd_law_draw h_k_law_draw
    bi__law_draw := (fun_mk (st := s__law_draw) h_l_law_draw h_cd_law_draw h_k_law_draw).binds (ps := ["state", "many"]) fun _ _ _ _ _ _ us hl => match us, hl with | [_, _], _ => rfl
    mg__law_draw := PySem.W.mg_of X G h_a_law_draw
    kp__law_draw := h_k_law_draw
    fn__law_holds := fun_mk (st := s__law_holds) h_l_law_holds h_cd_law_holds h_k_law_holds
    bi__law_holds := (fun_mk (st := s__law_holds) h_l_law_holds h_cd_law_holds h_k_law_holds).binds (ps := ["test", "state"]) fun _ _ _ _ _ _ us hl => match us, hl with | [_, _], _ => rfl
    mg__law_holds := PySem.W.mg_of X G h_a_law_holds
    kp__law_holds := h_k_law_holds
    fn__law_after := fun_mk (st := s__law_after) h_l_law_after h_cd_law_after h_k_law_after
    bi__law_after := (fun_mk (st := s__law_after) h_l_law_after h_cd_law_after h_k_law_after).binds (ps := ["policy", "states"]) fun _ _ _ _ _ _ us hl => match us, hl with | [_, _], _ => rfl
    mg__law_after := PySem.W.mg_of X G h_a_law_after
    kp__law_after := h_k_law_after
    fn__law_graph := fun_mk (st := s__law_graph) h_l_law_graph h_cd_law_graph h_k_law_graph
    bi__law_graph := (fun_mk (st := s__law_graph) h_l_law_graph h_cd_law_graph h_k_law_graph).binds (ps := ["state"]) fun _ _ _ _ _ _ us hl => match us, hl with | [_], _ => rfl
    mg__law_graph := PySem.W.mg_of X G h_a_law_graph
    kp__law_graph := h_k_law_graph
    fn__law_end := fun_mk (st := s__law_end) h_l_law_end h_cd_law_end h_k_law_end
    bi__law_end := (fun_mk (st := s__law_end) h_l_law_end h_cd_law_end h_k_law_end).binds (ps := ["graph", "end"]) fun _ _ _ _ _ _ us hl => match us, hl with | [_, _], _ => rfl
    mg__law_end := PySem.W.mg_of X G h_a_law_end
    kp__law_end := h_k_law_end
    fn__law_local := fun_mk (st := s__law_local) h_l_law_local h_cd_law_local h_k_law_local
    bi__law_local := (fun_mk (st := s__law_local) h_l_law_local h_cd_law_local h_k_law_local).binds (ps := ["state", "deep"]) fun _ _ _ _ _ _ us hl => match us, hl with | [_, _], _ => rfl
    mg__law_local := PySem.W.mg_of X G h_a_law_local
    kp__law_local := h_k_law_local
    fn__law_start := fun_mk (st := s__law_start) h_l_law_start h_cd_law_start h_k_law_start
    bi__law_start := (fun_mk (st := s__law_start) h_l_law_start h_cd_law_start h_k_law_start).binds (ps := ["state"]) fun _ _ _ _ _ _ us hl => match us, hl with | [_], _ => rfl
    mg__law_start := PySem.W.mg_of X G h_a_law_start
    kp__law_start := h_k_law_start
    fn__law_steps := fun_mk (st := s__law_steps) h_l_law_steps h_cd_law_steps h_k_law_steps
    bi__law_steps := (fun_mk (st := s__law_steps) h_l_law_steps h_cd_law_steps h_k_law_steps).binds (ps := ["policy", "graph", "place"]) fun _ _ _ _ _ _ us hl => match us, hl with | [_, _, _], _ => rfl
    mg__law_steps := PySem.W.mg_of X G h_a_law_steps
    kp__law_steps := h_k_law_steps
    fn__law_may := fun_mk (st := s__law_may) h_l_law_may h_cd_law_may h_k_law_may
    bi__law_may := (fun_mk (st := s__law_may) h_l_law_may h_cd_law_may h_k_law_may).binds (ps := ["m", "deed", "switch"]) fun _ _ _ _ _ _ us hl => match us, hl with | [_, _, _], _ => rfl
    mg__law_may := PySem.W.mg_of X G h_a_law_may
    kp__law_may := h_k_law_may
    fn__law_perform := fun_mk (st := s__law_perform) h_l_law_perform h_cd_law_perform h_k_law_perform
    bi__law_perform := (fun_mk (st := s__law_perform) h_l_law_perform h_cd_law_perform h_k_law_perform).binds (ps := ["net", "m", "deed", "switch"]) fun _ _ _ _ _ _ us hl => match us, hl with | [_, _, _, _], _ => rfl
    mg__law_perform := PySem.W.mg_of X G h_a_law_perform
    kp__law_perform := h_k_law_perform
    fn__law_move := fun_mk (st := s__law_move) h_l_law_move h_cd_law_move h_k_law_move
    bi__law_move := (fun_mk (st := s__law_move) h_l_law_move h_cd_law_move h_k_law_move).binds (ps := ["net", "m", "index", "policies", "graph"]) fun _ _ _ _ _ _ us hl => match us, hl with | [_, _, _, _, _], _ => rfl
    mg__law_move := PySem.W.mg_of X G h_a_law_move
    kp__law_move := h_k_law_move
    fn__law_wrong_move := fun_mk (st := s__law_wrong_move) h_l_law_wrong_move h_cd_law_wrong_move h_k_law_wrong_move
    bi__law_wrong_move := (fun_mk (st := s__law_wrong_move) h_l_law_wrong_move h_cd_law_wrong_move h_k_law_wrong_move).binds (ps := ["net", "m"]) fun _ _ _ _ _ _ us hl => match us, hl with | [_, _], _ => rfl
    mg__law_wrong_move := PySem.W.mg_of X G h_a_law_wrong_move
    kp__law_wrong_move := h_k_law_wrong_move
    fn__law_alone := fun_mk (st := s__law_alone) h_l_law_alone h_cd_law_alone h_k_law_alone
    bi__law_alone := (fun_mk (st := s__law_alone) h_l_law_alone h_cd_law_alone h_k_law_alone).binds (ps := ["policy", "graph", "start", "moved"]) fun _ _ _ _ _ _ us hl => match us, hl with | [_, _, _, _], _ => rfl
    mg__law_alone := PySem.W.mg_of X G h_a_law_alone
    kp__law_alone := h_k_law_alone
    fn__law_each_right := fun_mk (st := s__law_each_right) h_l_law_each_right h_cd_law_each_right h_k_law_each_right
    bi__law_each_right := (fun_mk (st := s__law_each_right) h_l_law_each_right h_cd_law_each_right h_k_law_each_right).binds (ps := ["m", "starts", "moves", "policies", "graph"]) fun _ _ _ _ _ _ us hl => match us, hl with | [_, _, _, _, _], _ => rfl
    mg__law_each_right := PySem.W.mg_of X G h_a_law_each_right
    kp__law_each_right := h_k_law_each_right
    fn__law_deed := fun_mk (st := s__law_deed) h_l_law_deed h_cd_law_deed h_k_law_deed
    bi__law_deed := (fun_mk (st := s__law_deed) h_l_law_deed h_cd_law_deed h_k_law_deed).binds (ps := ["state", "net", "m", "starts", "moves", "policies", "graph"]) fun _ _ _ _ _ _ us hl => match us, hl with | [_, _, _, _, _, _, _], _ => rfl
    mg__law_deed := PySem.W.mg_of X G h_a_law_deed
    kp__law_deed := h_k_law_deed
    fn_law := fun_mk (st := s_law) h_llaw h_cdlaw h_klaw
    bi_law := (fun_mk (st := s_law) h_llaw h_cdlaw h_klaw).binds (ps := ["script"]) fun _ _ _ _ _ _ us hl => match us, hl with | [_], _ => rfl
    mg_law := PySem.W.mg_of X G h_alaw
    kp_law := h_klaw
    mg_FIELD_PLACES := PySem.W.mg_of X G h_gFIELD_PLACES
    kd_FIELD_PLACES_switch := ⟨_, _, _, h_lFIELD_PLACES, h_kFIELD_PLACES, h_nFIELD_PLACES_switch, ⟨_, rfl⟩⟩
    kd_FIELD_PLACES_port := ⟨_, _, _, h_lFIELD_PLACES, h_kFIELD_PLACES, h_nFIELD_PLACES_port, ⟨_, rfl⟩⟩
    kd_FIELD_PLACES_src := ⟨_, _, _, h_lFIELD_PLACES, h_kFIELD_PLACES, h_nFIELD_PLACES_src, ⟨_, rfl⟩⟩
    kd_FIELD_PLACES_dst := ⟨_, _, _, h_lFIELD_PLACES, h_kFIELD_PLACES, h_nFIELD_PLACES_dst, ⟨_, rfl⟩⟩
    kd_FIELD_PLACES_kind := ⟨_, _, _, h_lFIELD_PLACES, h_kFIELD_PLACES, h_nFIELD_PLACES_kind, ⟨_, rfl⟩⟩
    mg_OUTSIDE := ⟨_, PySem.W.mg_of X G h_gOUTSIDE⟩
    mg_OLD := ⟨_, PySem.W.mg_of X G h_gOLD⟩
    mg_NEW := ⟨_, PySem.W.mg_of X G h_gNEW⟩
    mg_any := PySem.W.mg_none_of X G h_bany
    mg_all := PySem.W.mg_none_of X G h_ball
    mg_list := PySem.W.mg_none_of X G h_blist
    mg_sorted := PySem.W.mg_none_of X G h_bsorted
    mg_len := PySem.W.mg_none_of X G h_blen
    mg_abs := PySem.W.mg_none_of X G h_babs
    mg_int := PySem.W.mg_none_of X G h_bint
    mg_range := PySem.W.mg_none_of X G h_brange
    mg_set := PySem.W.mg_none_of X G h_bset
    mg_tuple := PySem.W.mg_none_of X G h_btuple
    mg_repr := PySem.W.mg_none_of X G h_brepr }
  exact ⟨_, fun s v => .of_eq rfl, fun base _ _ => ok_law T⟩
theorem walk {l : PySem.W.OpenLaw} {q : Program} {loose : List Str} {XP : (Str → Option Value) → Heap → Prop} {YP : World → Heap → Prop} {d : DefRec} {K : Params → PySem.W.Frag} (hn : l.most = some 63) (hdf : d.params.defaults = [])
    (hY : ∀ (w : World) (h : Heap), YP w h → (K w.params).In h)
    (F : ∀ (w : World) (mg : Str → Option Value) (fa : Addr) (h : Heap), (K w.params).In h → h.Ns mainGlobals mg → mg d.name = some (.ref fa) →
      ∃ fd : FuncData, (∀ (s : Shared) (u : Value), BindsTo s fd ⟨[u], []⟩ [("script", u)]) ∧ ∀ base : Heap, (K w.params).In base → base.Ns mainGlobals mg → LawRun l.prog w (K w.params) mg base 14 fa fd ["script"] (sp_law (K w.params))) :
    PySem.W.WalkO q loose XP YP l.row.toRowW d [] (fun f vs => PySem.call f vs) :=
  walk_run (n := 63) (k := 14) (x := "script") (sp := fun w => sp_law (K w.params)) hn (by decide) hdf ⟨rfl, by decide, by decide⟩ hY F (fun _ _ a ns hl _ hS => ⟨a, ns, rfl, hS, hl, fun _ => rfl⟩)
end K50

open PySem PySem.W PyProof.Rows in
set_option maxRecDepth 100000 in
set_option maxHeartbeats 0 in
theorem PySem.Challenge.cw_hangbridge_k50_whole_new_policies_while_holds : PySem.Challenge.rw_hangbridge_k50_whole_new_policies_while.Holds := by
  w_on; o_law; k_head; (case hw => w_witness2)
  k_fill
  refine K50.walk (l := PySem.Challenge.rw_hangbridge_k50_whole_new_policies_while) rfl rfl (fun w h Y => PySem.W.kIn_of Y) ?F
  case F =>
    intro w mg fa h KX G hmg
    refine' K50.all_mk (l := PySem.Challenge.rw_hangbridge_k50_whole_new_policies_while) rfl KX G hmg ?h_cBridgeError ?h_rdBridgeError ?h_gaBridgeError ?h_cvBridgeError ?h_cStateError ?h_lkStateError ?h_saStateError ?h_exStateError ?h_tyStateError ?h_kcStateError ?h_noStateError ?h_gaStateError ?h_ggStateError ?h_hdStateError ?h_icStateError ?h_scStateError ?h_caStateError ?h_moStateError ?h_gdStateError ?h_tkStateError ?h_ibStateErrorBridgeError ?h_itStateErrorBridgeError ?h_isStateErrorBridgeError ?h_cRollout ?h_pgRollout ?h_hdRollout ?h_poRollout ?h_saRollout ?h_mkRollout ?h_kcRollout ?h_naRollout_flying ?h_naRollout_told ?h_naRollout__graph ?h_naRollout__policies ?h_naRollout__done ?h_naRollout__data ?h_apeer ?h_lpeer ?h_cdpeer ?h_kpeer ?h_aStateError_init ?h_tiStateError ?h_lStateError_init ?h_cdStateError_init ?h_lcStateError_init ?h_vsStateError_init ?h_fiStateError_init ?h_ccStateError_init ?h_czStateError_init ?h_msStateError_init ?h_suStateError_init ?h_anStateError_init ?h_spStateError_init ?h_ivStateError_init ?h_tpStateError_init ?h_atest_holds ?h_ltest_holds ?h_cdtest_holds ?h_ktest_holds ?h_awith_number ?h_lwith_number ?h_cdwith_number ?h_kwith_number ?h_aafter_star ?h_lafter_star ?h_cdafter_star ?h_kafter_star ?h_aafter ?h_lafter ?h_cdafter ?h_kafter ?h_aafter_any ?h_lafter_any ?h_cdafter_any ?h_kafter_any ?h_adoes ?h_ldoes ?h_cddoes ?h_kdoes ?h_asteps ?h_lsteps ?h_cdsteps ?h_ksteps ?h_aRollout_init ?h_iRollout_init ?h_lRollout_init ?h_cdRollout_init ?h_kRollout_init ?h_aRollout_is_done_everywhere ?h_iRollout_is_done_everywhere ?h_lRollout_is_done_everywhere ?h_cdRollout_is_done_everywhere ?h_kRollout_is_done_everywhere ?h_aRollout_is_switch ?h_iRollout_is_switch ?h_lRollout_is_switch ?h_cdRollout_is_switch ?h_kRollout_is_switch ?h_aRollout_may ?h_iRollout_may ?h_lRollout_may ?h_cdRollout_may ?h_kRollout_may ?h_aRollout_perform ?h_iRollout_perform ?h_lRollout_perform ?h_cdRollout_perform ?h_kRollout_perform ?h_aRollout_has ?h_iRollout_has ?h_lRollout_has ?h_cdRollout_has ?h_kRollout_has ?h_aRollout_enter ?h_iRollout_enter ?h_lRollout_enter ?h_cdRollout_enter ?h_kRollout_enter ?h_aRollout_move ?h_iRollout_move ?h_lRollout_move ?h_cdRollout_move ?h_kRollout_move ?h_a_law_state ?h_l_law_state ?h_cd_law_state ?h_k_law_state ?h_a_law_draw ?h_l_law_draw ?h_cd_law_draw ?h_k_law_draw ?h_a_law_holds ?h_l_law_holds ?h_cd_law_holds ?h_k_law_holds ?h_a_law_after ?h_l_law_after ?h_cd_law_after ?h_k_law_after ?h_a_law_graph ?h_l_law_graph ?h_cd_law_graph ?h_k_law_graph ?h_a_law_end ?h_l_law_end ?h_cd_law_end ?h_k_law_end ?h_a_law_local ?h_l_law_local ?h_cd_law_local ?h_k_law_local ?h_a_law_start ?h_l_law_start ?h_cd_law_start ?h_k_law_start ?h_a_law_steps ?h_l_law_steps ?h_cd_law_steps ?h_k_law_steps ?h_a_law_may ?h_l_law_may ?h_cd_law_may ?h_k_law_may ?h_a_law_perform ?h_l_law_perform ?h_cd_law_perform ?h_k_law_perform ?h_a_law_move ?h_l_law_move ?h_cd_law_move ?h_k_law_move ?h_a_law_wrong_move ?h_l_law_wrong_move ?h_cd_law_wrong_move ?h_k_law_wrong_move ?h_a_law_alone ?h_l_law_alone ?h_cd_law_alone ?h_k_law_alone ?h_a_law_each_right ?h_l_law_each_right ?h_cd_law_each_right ?h_k_law_each_right ?h_a_law_deed ?h_l_law_deed ?h_cd_law_deed ?h_k_law_deed ?h_alaw ?h_llaw ?h_cdlaw ?h_klaw ?h_gFIELD_PLACES ?h_lFIELD_PLACES ?h_kFIELD_PLACES ?h_nFIELD_PLACES_switch ?h_nFIELD_PLACES_port ?h_nFIELD_PLACES_src ?h_nFIELD_PLACES_dst ?h_nFIELD_PLACES_kind ?h_gOUTSIDE ?h_gOLD ?h_gNEW ?h_bany ?h_ball ?h_blist ?h_bsorted ?h_blen ?h_babs ?h_bint ?h_brange ?h_bset ?h_btuple ?h_brepr
    (case h_cBridgeError => k_is)
    (case h_rdBridgeError => k_is)
    (case h_gaBridgeError => k_is)
    (case h_cvBridgeError => k_is)
    (case h_cStateError => k_is)
    (case h_lkStateError => k_is)
    (case h_saStateError => k_is)
    (case h_exStateError => k_is)
    (case h_tyStateError => k_is)
    (case h_kcStateError => k_is)
    (case h_noStateError => k_is)
    (case h_gaStateError => k_is)
    (case h_ggStateError => k_is)
    (case h_hdStateError => k_is)
    (case h_icStateError => k_is)
    (case h_scStateError => k_is)
    (case h_caStateError => k_is)
    (case h_moStateError => k_is)
    (case h_gdStateError => k_is)
    (case h_tkStateError => k_is)
    (case h_ibStateErrorBridgeError => k_is)
    (case h_itStateErrorBridgeError => k_is)
    (case h_isStateErrorBridgeError => k_is)
    (case h_cRollout => k_is)
    (case h_pgRollout => k_is)
    (case h_hdRollout => k_is)
    (case h_poRollout => k_is)
    (case h_saRollout => k_is)
    (case h_mkRollout => k_is)
    (case h_kcRollout => k_is)
    (case h_naRollout_flying => k_is)
    (case h_naRollout_told => k_is)
    (case h_naRollout__graph => k_is)
    (case h_naRollout__policies => k_is)
    (case h_naRollout__done => k_is)
    (case h_naRollout__data => k_is)
    (case h_apeer => k_is)
    (case h_lpeer => k_is)
    (case h_cdpeer => k_is)
    (case h_kpeer => k_is)
    (case h_aStateError_init => k_is)
    (case h_tiStateError => k_is)
    (case h_lStateError_init => k_is)
    (case h_cdStateError_init => k_is)
    (case h_lcStateError_init => k_is)
    (case h_vsStateError_init => rfl)
    (case h_fiStateError_init => first | rfl | decide +kernel)
    (case h_ccStateError_init => k_is)
    (case h_czStateError_init => k_is)
    (case h_msStateError_init => k_is)
    (case h_suStateError_init => k_is)
    (case h_anStateError_init => k_is)
    (case h_spStateError_init => ks_is)
    (case h_ivStateError_init => k_is)
    (case h_tpStateError_init => first | rfl | decide +kernel)
    (case h_atest_holds => k_is)
    (case h_ltest_holds => k_is)
    (case h_cdtest_holds => k_is)
    (case h_ktest_holds => k_is)
    (case h_awith_number => k_is)
    (case h_lwith_number => k_is)
    (case h_cdwith_number => k_is)
    (case h_kwith_number => k_is)
    (case h_aafter_star => k_is)
    (case h_lafter_star => k_is)
    (case h_cdafter_star => k_is)
    (case h_kafter_star => k_is)
    (case h_aafter => k_is)
    (case h_lafter => k_is)
    (case h_cdafter => k_is)
    (case h_kafter => k_is)
    (case h_aafter_any => k_is)
    (case h_lafter_any => k_is)
    (case h_cdafter_any => k_is)
    (case h_kafter_any => k_is)
    (case h_adoes => k_is)
    (case h_ldoes => k_is)
    (case h_cddoes => k_is)
    (case h_kdoes => k_is)
    (case h_asteps => k_is)
    (case h_lsteps => k_is)
    (case h_cdsteps => k_is)
    (case h_ksteps => k_is)
    (case h_aRollout_init => k_is)
    (case h_iRollout_init => k_is)
    (case h_lRollout_init => k_is)
    (case h_cdRollout_init => k_is)
    (case h_kRollout_init => k_is)
    (case h_aRollout_is_done_everywhere => k_is)
    (case h_iRollout_is_done_everywhere => k_is)
    (case h_lRollout_is_done_everywhere => k_is)
    (case h_cdRollout_is_done_everywhere => k_is)
    (case h_kRollout_is_done_everywhere => k_is)
    (case h_aRollout_is_switch => k_is)
    (case h_iRollout_is_switch => k_is)
    (case h_lRollout_is_switch => k_is)
    (case h_cdRollout_is_switch => k_is)
    (case h_kRollout_is_switch => k_is)
    (case h_aRollout_may => k_is)
    (case h_iRollout_may => k_is)
    (case h_lRollout_may => k_is)
    (case h_cdRollout_may => k_is)
    (case h_kRollout_may => k_is)
    (case h_aRollout_perform => k_is)
    (case h_iRollout_perform => k_is)
    (case h_lRollout_perform => k_is)
    (case h_cdRollout_perform => k_is)
    (case h_kRollout_perform => k_is)
    (case h_aRollout_has => k_is)
    (case h_iRollout_has => k_is)
    (case h_lRollout_has => k_is)
    (case h_cdRollout_has => k_is)
    (case h_kRollout_has => k_is)
    (case h_aRollout_enter => k_is)
    (case h_iRollout_enter => k_is)
    (case h_lRollout_enter => k_is)
    (case h_cdRollout_enter => k_is)
    (case h_kRollout_enter => k_is)
    (case h_aRollout_move => k_is)
    (case h_iRollout_move => k_is)
    (case h_lRollout_move => k_is)
    (case h_cdRollout_move => k_is)
    (case h_kRollout_move => k_is)
    (case h_a_law_state => k_is)
    (case h_l_law_state => k_is)
    (case h_cd_law_state => k_is)
    (case h_k_law_state => k_is)
    (case h_a_law_draw => k_is)
    (case h_l_law_draw => k_is)
    (case h_cd_law_draw => k_is)
    (case h_k_law_draw => k_is)
    (case h_a_law_holds => k_is)
    (case h_l_law_holds => k_is)
    (case h_cd_law_holds => k_is)
    (case h_k_law_holds => k_is)
    (case h_a_law_after => k_is)
    (case h_l_law_after => k_is)
    (case h_cd_law_after => k_is)
    (case h_k_law_after => k_is)
    (case h_a_law_graph => k_is)
    (case h_l_law_graph => k_is)
    (case h_cd_law_graph => k_is)
    (case h_k_law_graph => k_is)
    (case h_a_law_end => k_is)
    (case h_l_law_end => k_is)
    (case h_cd_law_end => k_is)
    (case h_k_law_end => k_is)
    (case h_a_law_local => k_is)
    (case h_l_law_local => k_is)
    (case h_cd_law_local => k_is)
    (case h_k_law_local => k_is)
    (case h_a_law_start => k_is)
    (case h_l_law_start => k_is)
    (case h_cd_law_start => k_is)
    (case h_k_law_start => k_is)
    (case h_a_law_steps => k_is)
    (case h_l_law_steps => k_is)
    (case h_cd_law_steps => k_is)
    (case h_k_law_steps => k_is)
    (case h_a_law_may => k_is)
    (case h_l_law_may => k_is)
    (case h_cd_law_may => k_is)
    (case h_k_law_may => k_is)
    (case h_a_law_perform => k_is)
    (case h_l_law_perform => k_is)
    (case h_cd_law_perform => k_is)
    (case h_k_law_perform => k_is)
    (case h_a_law_move => k_is)
    (case h_l_law_move => k_is)
    (case h_cd_law_move => k_is)
    (case h_k_law_move => k_is)
    (case h_a_law_wrong_move => k_is)
    (case h_l_law_wrong_move => k_is)
    (case h_cd_law_wrong_move => k_is)
    (case h_k_law_wrong_move => k_is)
    (case h_a_law_alone => k_is)
    (case h_l_law_alone => k_is)
    (case h_cd_law_alone => k_is)
    (case h_k_law_alone => k_is)
    (case h_a_law_each_right => k_is)
    (case h_l_law_each_right => k_is)
    (case h_cd_law_each_right => k_is)
    (case h_k_law_each_right => k_is)
    (case h_a_law_deed => k_is)
    (case h_l_law_deed => k_is)
    (case h_cd_law_deed => k_is)
    (case h_k_law_deed => k_is)
    (case h_alaw => k_is)
    (case h_llaw => k_is)
    (case h_cdlaw => k_is)
    (case h_klaw => k_is)
    (case h_gFIELD_PLACES => k_is)
    (case h_lFIELD_PLACES => k_is)
    (case h_kFIELD_PLACES => repeat' first | exact True.intro | exact ⟨_, _, rfl, rfl⟩ | constructor)
    (case h_nFIELD_PLACES_switch => k_is)
    (case h_nFIELD_PLACES_port => k_is)
    (case h_nFIELD_PLACES_src => k_is)
    (case h_nFIELD_PLACES_dst => k_is)
    (case h_nFIELD_PLACES_kind => k_is)
    (case h_gOUTSIDE => k_is)
    (case h_gOLD => k_is)
    (case h_gNEW => k_is)
    (case h_bany => k_is)
    (case h_ball => k_is)
    (case h_blist => k_is)
    (case h_bsorted => k_is)
    (case h_blen => k_is)
    (case h_babs => k_is)
    (case h_bint => k_is)
    (case h_brange => k_is)
    (case h_bset => k_is)
    (case h_btuple => k_is)
    (case h_brepr => k_is)
