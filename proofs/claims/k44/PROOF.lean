import PyProof.Rows.All
import Wide.All
import OpenK.AllK
import Wide.FinOn
import HandS.ForMost
import HandS.Flow
import HandS.More
import HandS.IsInst
import HandS.Wide
import HandS.Style
import HandS.FStr
import HandS.Exc
import HandS.ExcInit
import HandS.ExcOwn
import HandS.ExcField
import HandS.ExcIs
import HandS.ClsMeth
import HandS.Codes
import HandS.TryOnly
import HandS.WordsExc
import KE.KExcIs
import KE.KIsAll
import KE.KExcSuper
import HandS.Small
import KE.KeyNested
import KE.KDictKeyed
import HandS.SortOrd
import HandS.SortRule
import HandS.Dict
import HandS.Iter
import HandS.Conv
import HandS.Deep
import KE.DataMinMax
import KE.SortData
import HandS.TupSets
import HandS.SetBool
import HandS.Zip
import HandS.Star
import HandS.SetKeys
import HandS.DictComp
import HandS.SortInts
import PyProof.ReprRoads
import PyProof.ReprLen
import PyProof.ReprBulk
import HandS.TupAny
import HandS.List
import KE.DataCmp
import KE.KIndexOf
import HandS.SortKw
import KE.KDictCopyH
import HandS.TupLen
import HandS.FStrTup
import KE.KUnpackStar
import KE.GoesZip
import KE.GoesMore
import HandS.Text
import HandS.StrMore
import HandS.NoneIn
import HandS.RaiseMore
import HandS.Steps
import HandS.CallLocal
import HandS.StrSplit
import PySem.Challenge.RW_hangbridge_k44_texts_of_policies
set_option Elab.async false
set_option maxRecDepth 100000
set_option maxHeartbeats 4000000
/-! A heap as what stood and what is our own; steps of readings over it. -/
namespace Hb
open PySem L2

/-- B stood and is kept; L are our own objects, each once -/
structure Hs (B : Hp) (L : List (Addr × HO)) (H : Hp) : Prop where
  same : Same B H
  nd : (L.map (·.1)).Nodup
  out : ∀ e ∈ L, B e.1 = none
  at_ : ∀ e ∈ L, H e.1 = some e.2

section
variable {B H H' : Hp} {L R A : List (Addr × HO)} {p l : Addr} {o o' : HO} {i : Nat}
theorem Hs.start (H : Hp) : Hs H [] H := ⟨Same.refl H, List.nodup_nil, (fun _ h => nomatch h), (fun _ h => nomatch h)⟩
theorem Hs.of_same (h : Same B H) : Hs B [] H := ⟨h, List.nodup_nil, (fun _ h => nomatch h), (fun _ h => nomatch h)⟩
theorem Hs.get (hs : Hs B L H) (h : L[i]? = some (p, o)) : H p = some o := hs.at_ (p, o) (List.mem_of_getElem? h)
theorem Hs.mem (hs : Hs B L H) (h : (p, o) ∈ L) : H p = some o := hs.at_ (p, o) h
theorem Hs.g0 (hs : Hs B ((p, o) :: L) H) : H p = some o := hs.get (i := 0) rfl
theorem Hs.g1 {x} (hs : Hs B (x :: (p, o) :: L) H) : H p = some o := hs.get (i := 1) rfl
theorem Hs.g2 {x y} (hs : Hs B (x :: y :: (p, o) :: L) H) : H p = some o := hs.get (i := 2) rfl
theorem Hs.g3 {x y z} (hs : Hs B (x :: y :: z :: (p, o) :: L) H) : H p = some o := hs.get (i := 3) rfl
theorem Hs.g4 {x y z w} (hs : Hs B (x :: y :: z :: w :: (p, o) :: L) H) : H p = some o := hs.get (i := 4) rfl
theorem Hs.g5 {x y z w v} (hs : Hs B (x :: y :: z :: w :: v :: (p, o) :: L) H) : H p = some o := hs.get (i := 5) rfl
theorem Hs.g6 {x y z w v u} (hs : Hs B (x :: y :: z :: w :: v :: u :: (p, o) :: L) H) : H p = some o := hs.get (i := 6) rfl
theorem Hs.g7 {x y z w v u t} (hs : Hs B (x :: y :: z :: w :: v :: u :: t :: (p, o) :: L) H) : H p = some o := hs.get (i := 7) rfl
theorem Hs.g8 {x y z w v u t s} (hs : Hs B (x :: y :: z :: w :: v :: u :: t :: s :: (p, o) :: L) H) : H p = some o := hs.get (i := 8) rfl
theorem Hs.g9 {x y z w v u t s r} (hs : Hs B (x :: y :: z :: w :: v :: u :: t :: s :: r :: (p, o) :: L) H) : H p = some o := hs.get (i := 9) rfl
theorem Hs.g10 {x y z w v u t s r q} (hs : Hs B (x :: y :: z :: w :: v :: u :: t :: s :: r :: q :: (p, o) :: L) H) : H p = some o := hs.get (i := 10) rfl
theorem Hs.g11 {x y z w v u t s r q n} (hs : Hs B (x :: y :: z :: w :: v :: u :: t :: s :: r :: q :: n :: (p, o) :: L) H) : H p = some o := hs.get (i := 11) rfl
theorem Hs.g12 {x y z w v u t s r q n m} (hs : Hs B (x :: y :: z :: w :: v :: u :: t :: s :: r :: q :: n :: m :: (p, o) :: L) H) : H p = some o := hs.get (i := 12) rfl
theorem Hs.g13 {x y z w v u t s r q n m k} (hs : Hs B (x :: y :: z :: w :: v :: u :: t :: s :: r :: q :: n :: m :: k :: (p, o) :: L) H) : H p = some o := hs.get (i := 13) rfl
theorem Hs.g14 {x y z w v u t s r q n m k j} (hs : Hs B (x :: y :: z :: w :: v :: u :: t :: s :: r :: q :: n :: m :: k :: j :: (p, o) :: L) H) : H p = some o := hs.get (i := 14) rfl
theorem Hs.g15 {x y z w v u t s r q n m k j h} (hs : Hs B (x :: y :: z :: w :: v :: u :: t :: s :: r :: q :: n :: m :: k :: j :: h :: (p, o) :: L) H) : H p = some o := hs.get (i := 15) rfl
theorem Hs.sql {K : PySem.W.Frag} {xs : List V} (hs : Hs B L H) (h : SqL K B p xs) : SqL K H p xs := hs.same.seq h
theorem Hs.old (hs : Hs B L H) (h : B p = some o) : H p = some o := hs.same _ _ h
theorem Hs.fresh (hs : Hs B L H) (h : H p = none) : p ∉ L.map (·.1) := fun m => by
  obtain ⟨e, he, rfl⟩ := List.mem_map.mp m
  rw [hs.at_ e he] at h
  cases h
/-- a new object -/
theorem Hs.new (hs : Hs B L H) (h : H p = none) : Hs B ((p, o) :: L) (upd H p o) := by
  have hf := hs.fresh h
  refine ⟨fun b u e => ?_, ?_, fun e he => ?_, fun e he => ?_⟩
  · rw [upd_ne (ne_of_none (hs.same b u e) h)]
    exact hs.same b u e
  · rw [List.map_cons, List.nodup_cons]
    exact ⟨hf, hs.nd⟩
  · rcases List.mem_cons.mp he with rfl | he
    · exact hs.same.free h
    · exact hs.out e he
  · rcases List.mem_cons.mp he with rfl | he
    · exact upd_same
    · rw [upd_ne (ne_of_none (hs.at_ e he) h)]
      exact hs.at_ e he
theorem set_fst : ∀ {L : List (Addr × HO)} {i : Nat} {p : Addr} {o o' : HO}, L[i]? = some (p, o) → (L.set i (p, o')).map (·.1) = L.map (·.1)
  | [], _, _, _, _, h => by simp at h
  | x :: L, 0, p, o, o', h => by
    have e : x = (p, o) := by simpa using h
    subst e
    rfl
  | x :: L, i + 1, p, o, o', h => by
    have := set_fst (L := L) (i := i) (o' := o') (by simpa using h)
    show _ :: ((L.set i (p, o')).map (·.1)) = _ :: L.map (·.1)
    rw [this]
theorem nd_only : ∀ {L : List (Addr × HO)} {e : Addr × HO} {i : Nat} {p : Addr} {o o' : HO}, (L.map (·.1)).Nodup → L[i]? = some (p, o) → e ∈ L.set i (p, o') → e = (p, o') ∨ (e ∈ L ∧ e.1 ≠ p)
  | [], _, _, _, _, _, _, h, _ => by simp at h
  | x :: L, e, 0, p, o, o', nd, h, m => by
    have ex : x = (p, o) := by simpa using h
    subst ex
    rcases List.mem_cons.mp m with rfl | m
    · exact .inl rfl
    · refine .inr ⟨List.mem_cons_of_mem _ m, fun q => ?_⟩
      rw [List.map_cons, List.nodup_cons] at nd
      exact nd.1 (List.mem_map.mpr ⟨e, m, q⟩)
  | x :: L, e, i + 1, p, o, o', nd, h, m => by
    rw [List.map_cons, List.nodup_cons] at nd
    have h' : L[i]? = some (p, o) := by simpa using h
    rcases List.mem_cons.mp m with rfl | m
    · refine .inr ⟨List.mem_cons_self, fun q => ?_⟩
      exact nd.1 (List.mem_map.mpr ⟨(p, o), List.mem_of_getElem? h', q.symm⟩)
    · rcases nd_only nd.2 h' m with r | ⟨r, q⟩
      · exact .inl r
      · exact .inr ⟨List.mem_cons_of_mem _ r, q⟩
/-- a store to one's own object -/
theorem Hs.put (hs : Hs B L H) (h : L[i]? = some (p, o)) : Hs B (L.set i (p, o')) (upd H p o') := by
  have hp : B p = none := hs.out (p, o) (List.mem_of_getElem? h)
  refine ⟨fun b u e => ?_, ?_, fun e he => ?_, fun e he => ?_⟩
  · have n : b ≠ p := fun q => by
      rw [q, hp] at e
      cases e
    rw [upd_ne n]
    exact hs.same b u e
  · rw [set_fst h]
    exact hs.nd
  · rcases nd_only hs.nd h he with rfl | ⟨m, _⟩
    · exact hp
    · exact hs.out e m
  · rcases nd_only hs.nd h he with rfl | ⟨m, q⟩
    · exact upd_same
    · rw [upd_ne q]
      exact hs.at_ e m
theorem Hs.p0 (o' : HO) (hs : Hs B ((p, o) :: L) H) : Hs B ((p, o') :: L) (upd H p o') := hs.put (i := 0) rfl
theorem Hs.p1 (o' : HO) {x} (hs : Hs B (x :: (p, o) :: L) H) : Hs B (x :: (p, o') :: L) (upd H p o') := hs.put (i := 1) rfl
theorem Hs.p2 (o' : HO) {x y} (hs : Hs B (x :: y :: (p, o) :: L) H) : Hs B (x :: y :: (p, o') :: L) (upd H p o') := hs.put (i := 2) rfl
theorem Hs.p3 (o' : HO) {x y z} (hs : Hs B (x :: y :: z :: (p, o) :: L) H) : Hs B (x :: y :: z :: (p, o') :: L) (upd H p o') := hs.put (i := 3) rfl
theorem Hs.p4 (o' : HO) {x y z w} (hs : Hs B (x :: y :: z :: w :: (p, o) :: L) H) : Hs B (x :: y :: z :: w :: (p, o') :: L) (upd H p o') := hs.put (i := 4) rfl
theorem Hs.p5 (o' : HO) {x y z w v} (hs : Hs B (x :: y :: z :: w :: v :: (p, o) :: L) H) : Hs B (x :: y :: z :: w :: v :: (p, o') :: L) (upd H p o') := hs.put (i := 5) rfl
theorem Hs.p6 (o' : HO) {x y z w v u} (hs : Hs B (x :: y :: z :: w :: v :: u :: (p, o) :: L) H) : Hs B (x :: y :: z :: w :: v :: u :: (p, o') :: L) (upd H p o') := hs.put (i := 6) rfl
theorem Hs.p7 (o' : HO) {x y z w v u t} (hs : Hs B (x :: y :: z :: w :: v :: u :: t :: (p, o) :: L) H) : Hs B (x :: y :: z :: w :: v :: u :: t :: (p, o') :: L) (upd H p o') := hs.put (i := 7) rfl
/-- L with o' in the place of o at p -/
inductive Put : List (Addr × HO) → Addr → HO → HO → List (Addr × HO) → Prop
  | here {p : Addr} {o o' : HO} {L : List (Addr × HO)} : Put ((p, o) :: L) p o o' ((p, o') :: L)
  | there {p : Addr} {o o' : HO} {x : Addr × HO} {L L' : List (Addr × HO)} : Put L p o o' L' → Put (x :: L) p o o' (x :: L')
theorem Put.ix {L' : List (Addr × HO)} (h : Put L p o o' L') : ∃ i : Nat, L[i]? = some (p, o) ∧ L' = L.set i (p, o') := by
  induction h with
  | here => exact ⟨0, rfl, rfl⟩
  | there _ ih =>
    obtain ⟨i, h1, h2⟩ := ih
    exact ⟨i + 1, by simpa using h1, by rw [h2]; rfl⟩
theorem Hs.puts {L' : List (Addr × HO)} (hs : Hs B L H) (h : Put L p o o' L') : Hs B L' (upd H p o') := by
  obtain ⟨i, h1, rfl⟩ := h.ix
  exact hs.put h1
theorem Hs.gets {L' : List (Addr × HO)} (hs : Hs B L H) (h : Put L p o o' L') : H p = some o := by
  obtain ⟨i, h1, _⟩ := h.ix
  exact hs.get h1
/-- any part of our own, in any order -/
theorem Hs.sub (hs : Hs B L H) (h : R.Sublist L) : Hs B R H :=
  ⟨hs.same, hs.nd.sublist (h.map _), fun e he => hs.out e (h.subset he), fun e he => hs.at_ e (h.subset he)⟩
theorem Hs.perm (hs : Hs B L H) (h : R.Perm L) : Hs B R H :=
  ⟨hs.same, (h.map (·.1)).nodup_iff.mpr hs.nd, fun e he => hs.out e (h.subset he), fun e he => hs.at_ e (h.subset he)⟩
theorem Hs.tl {x} (hs : Hs B (x :: L) H) : Hs B L H := hs.sub (List.sublist_cons_self _ _)
/-- the i-th ahead -/
theorem up_perm : ∀ {L : List (Addr × HO)} {i : Nat} {x : Addr × HO}, L[i]? = some x → (x :: L.eraseIdx i).Perm L
  | [], _, _, h => by simp at h
  | y :: L, 0, x, h => by
    have e : y = x := by simpa using h
    subst e
    exact .refl _
  | y :: L, i + 1, x, h => (List.Perm.swap y x _).trans ((up_perm (L := L) (i := i) (by simpa using h)).cons y)
theorem Hs.up (i : Nat) (hs : Hs B L H) {x} (h : L[i]? = some x := by rfl) : Hs B (x :: L.eraseIdx i) H := by
  exact hs.perm (up_perm h)
theorem Hs.del (i : Nat) (hs : Hs B L H) : Hs B (L.eraseIdx i) H := hs.sub (List.eraseIdx_sublist _ _)
theorem Hs.m1 {a b} (hs : Hs B (a :: b :: L) H) : Hs B (b :: a :: L) H := hs.up 1
theorem Hs.m2 {a b c} (hs : Hs B (a :: b :: c :: L) H) : Hs B (c :: a :: b :: L) H := hs.up 2
theorem Hs.m3 {a b c d} (hs : Hs B (a :: b :: c :: d :: L) H) : Hs B (d :: a :: b :: c :: L) H := hs.up 3
theorem Hs.m4 {a b c d e} (hs : Hs B (a :: b :: c :: d :: e :: L) H) : Hs B (e :: a :: b :: c :: d :: L) H := hs.up 4
theorem Hs.m5 {a b c d e f} (hs : Hs B (a :: b :: c :: d :: e :: f :: L) H) : Hs B (f :: a :: b :: c :: d :: e :: L) H := hs.up 5
theorem Hs.m6 {a b c d e f g} (hs : Hs B (a :: b :: c :: d :: e :: f :: g :: L) H) : Hs B (g :: a :: b :: c :: d :: e :: f :: L) H := hs.up 6
theorem Hs.m7 {a b c d e f g h} (hs : Hs B (a :: b :: c :: d :: e :: f :: g :: h :: L) H) : Hs B (h :: a :: b :: c :: d :: e :: f :: g :: L) H := hs.up 7
theorem Hs.d1 {a b} (hs : Hs B (a :: b :: L) H) : Hs B (a :: L) H := hs.del 1
theorem Hs.d2 {a b c} (hs : Hs B (a :: b :: c :: L) H) : Hs B (a :: b :: L) H := hs.del 2
theorem Hs.d3 {a b c d} (hs : Hs B (a :: b :: c :: d :: L) H) : Hs B (a :: b :: c :: L) H := hs.del 3
theorem Hs.d4 {a b c d e} (hs : Hs B (a :: b :: c :: d :: e :: L) H) : Hs B (a :: b :: c :: d :: L) H := hs.del 4
theorem Hs.d5 {a b c d e f} (hs : Hs B (a :: b :: c :: d :: e :: f :: L) H) : Hs B (a :: b :: c :: d :: e :: L) H := hs.del 5
theorem Hs.d6 {a b c d e f g} (hs : Hs B (a :: b :: c :: d :: e :: f :: g :: L) H) : Hs B (a :: b :: c :: d :: e :: f :: L) H := hs.del 6
theorem sel_mem {idx : List Nat} {e : Addr × HO} (h : e ∈ idx.filterMap (fun i => L[i]?)) : ∃ i ∈ idx, L[i]? = some e := by
  obtain ⟨i, hi, e⟩ := List.mem_filterMap.mp h
  exact ⟨i, hi, e⟩
theorem sel_nd (nd : (L.map (·.1)).Nodup) : ∀ {idx : List Nat}, idx.Nodup → ((idx.filterMap (fun i => L[i]?)).map (·.1)).Nodup
  | [], _ => List.nodup_nil
  | i :: idx, h => by
    rw [List.nodup_cons] at h
    rw [List.filterMap_cons]
    cases e : L[i]? with
    | none => exact sel_nd nd h.2
    | some x =>
      rw [List.map_cons, List.nodup_cons]
      refine ⟨fun m => ?_, sel_nd nd h.2⟩
      obtain ⟨y, hy, q⟩ := List.mem_map.mp m
      obtain ⟨j, hj, ej⟩ := sel_mem hy
      have a : (L.map (·.1))[i]? = some x.1 := by rw [List.getElem?_map, e]; rfl
      have b : (L.map (·.1))[j]? = some x.1 := by rw [List.getElem?_map, ej]; exact congrArg some q
      rw [nd_ix nd a b] at h
      exact h.1 hj
/-- some of our own, by places -/
theorem Hs.sel (hs : Hs B L H) (idx : List Nat) (h : idx.Nodup := by decide) : Hs B (idx.filterMap (fun i => L[i]?)) H :=
  ⟨hs.same, sel_nd hs.nd h, fun e he => by
    obtain ⟨i, _, q⟩ := sel_mem he
    exact hs.out e (List.mem_of_getElem? q), fun e he => by
    obtain ⟨i, _, q⟩ := sel_mem he
    exact hs.at_ e (List.mem_of_getElem? q)⟩
/-- a callee that owns A; what else is ours stands for it -/
def around (A : List (Addr × HO)) (H : Hp) : Hp := fun a => if a ∈ A.map (·.1) then none else H a
theorem around_out {a : Addr} (h : a ∉ A.map (·.1)) : around A H a = H a := if_neg h
theorem Hs.frame (A : List (Addr × HO)) (hs : Hs B (A ++ R) H) : Same B (around A H) ∧ Hs (around A H) A H ∧ ∀ A' H', Hs (around A H) A' H' → Hs B (A' ++ R) H' := by
  have nd := hs.nd
  rw [List.map_append, List.nodup_append] at nd
  obtain ⟨n1, n2, n3⟩ := nd
  have sb : Same B (around A H) := fun b u e => by
    rw [around_out fun m => ?_]
    · exact hs.same b u e
    · obtain ⟨z, hz, rfl⟩ := List.mem_map.mp m
      rw [hs.out z (List.mem_append_left _ hz)] at e
      cases e
  refine ⟨sb, ⟨fun b u e => ?_, n1, fun e he => if_pos (List.mem_map.mpr ⟨e, he, rfl⟩), fun e he => hs.at_ e (List.mem_append_left _ he)⟩, fun A' H' h => ?_⟩
  · unfold around at e
    split at e
    · cases e
    · exact e
  · have fr : ∀ e ∈ R, around A H e.1 = some e.2 := fun e he => by
      rw [around_out fun m => n3 _ m _ (List.mem_map.mpr ⟨e, he, rfl⟩) rfl]
      exact hs.at_ e (List.mem_append_right _ he)
    refine ⟨fun b u e => h.same b u (sb b u e), ?_, fun e he => ?_, fun e he => ?_⟩
    · rw [List.map_append, List.nodup_append]
      refine ⟨h.nd, n2, fun a ha b hb q => ?_⟩
      subst q
      obtain ⟨x, hx, rfl⟩ := List.mem_map.mp ha
      obtain ⟨y, hy, q⟩ := List.mem_map.mp hb
      have h1 := h.out x hx
      have h2 := fr y hy
      rw [q, h1] at h2
      cases h2
    · rcases List.mem_append.mp he with he | he
      · exact sb.free (h.out e he)
      · exact hs.out e (List.mem_append_right _ he)
    · rcases List.mem_append.mp he with he | he
      · exact h.at_ e he
      · exact h.same _ _ (fr e he)
theorem Hs.frame1 {x} (hs : Hs B (x :: R) H) : ∃ B', Same B B' ∧ Hs B' [x] H ∧ ∀ A' H', Hs B' A' H' → Hs B (A' ++ R) H' := ⟨_, hs.frame [x]⟩
theorem Hs.frame2 {x y} (hs : Hs B (x :: y :: R) H) : ∃ B', Same B B' ∧ Hs B' [x, y] H ∧ ∀ A' H', Hs B' A' H' → Hs B (A' ++ R) H' := ⟨_, hs.frame [x, y]⟩
theorem Hs.frame3 {x y z} (hs : Hs B (x :: y :: z :: R) H) : ∃ B', Same B B' ∧ Hs B' [x, y, z] H ∧ ∀ A' H', Hs B' A' H' → Hs B (A' ++ R) H' := ⟨_, hs.frame [x, y, z]⟩
theorem Hs.frame4 {x y z w} (hs : Hs B (x :: y :: z :: w :: R) H) : ∃ B', Same B B' ∧ Hs B' [x, y, z, w] H ∧ ∀ A' H', Hs B' A' H' → Hs B (A' ++ R) H' := ⟨_, hs.frame [x, y, z, w]⟩
theorem Hs.frame5 {x y z w v} (hs : Hs B (x :: y :: z :: w :: v :: R) H) : ∃ B', Same B B' ∧ Hs B' [x, y, z, w, v] H ∧ ∀ A' H', Hs B' A' H' → Hs B (A' ++ R) H' := ⟨_, hs.frame [x, y, z, w, v]⟩
theorem Hs.frame6 {x y z w v u} (hs : Hs B (x :: y :: z :: w :: v :: u :: R) H) : ∃ B', Same B B' ∧ Hs B' [x, y, z, w, v, u] H ∧ ∀ A' H', Hs B' A' H' → Hs B (A' ++ R) H' := ⟨_, hs.frame [x, y, z, w, v, u]⟩
/-- a callee that only makes objects -/
theorem Hs.add {N : List (Addr × HO)} (hs : Hs B L H) (h : Hs H N H') : Hs B (N ++ L) H' := by
  refine ⟨fun b u e => h.same b u (hs.same b u e), ?_, fun e he => ?_, fun e he => ?_⟩
  · rw [List.map_append, List.nodup_append]
    refine ⟨h.nd, hs.nd, fun a ha b hb q => ?_⟩
    subst q
    obtain ⟨x, hx, rfl⟩ := List.mem_map.mp ha
    obtain ⟨y, hy, q⟩ := List.mem_map.mp hb
    have h1 := h.out x hx
    have h2 := hs.at_ y hy
    rw [q, h1] at h2
    cases h2
  · rcases List.mem_append.mp he with he | he
    · exact hs.same.free (h.out e he)
    · exact hs.out e he
  · rcases List.mem_append.mp he with he | he
    · exact h.at_ e he
    · exact h.same _ _ (hs.at_ e he)
/-- a new object that nobody changes any more: it stands -/
theorem Hs.freeze (hs : Hs B ((p, o) :: L) H) : Same B (upd B p o) ∧ Hs (upd B p o) L H := by
  have hp := hs.out (p, o) List.mem_cons_self
  have nd := hs.nd
  rw [List.map_cons, List.nodup_cons] at nd
  refine ⟨fun b u e => ?_, ⟨fun b u e => ?_, nd.2, fun e he => ?_, fun e he => hs.at_ e (List.mem_cons_of_mem _ he)⟩⟩
  · rw [upd_ne (ne_of_none e hp)]
    exact e
  · unfold upd at e
    split at e
    · next q =>
      subst q
      cases e
      exact hs.g0
    · exact hs.same b u e
  · have n : e.1 ≠ p := fun q => nd.1 (by rw [← q]; exact List.mem_map.mpr ⟨e, he, rfl⟩)
    rw [upd_ne n]
    exact hs.out e (List.mem_cons_of_mem _ he)
end

/-! ### steps: a reading's head, what is left -/
section
variable {K : PySem.W.Frag} {σ : St} {H : Hp} {Q : VK} {D : Ends} {ta tb tc te tv to ti : TE} {t u tr : TS} {c d : TT} {r r' : R2} {g : TG} {i : Nat} {v x y : V} {E : XK} {ts : TA} {f m : Str} {p : Addr}
theorem w_var (h : σ[i]? = some (some v)) (q : Q v H) : tVar i σ H Q := ⟨v, h, q⟩
theorem w_c (q : Q v H) : tC v σ H Q := q
theorem w_seq (q : t { D with nx := u D } σ H) : tSeq t u D σ H := q
theorem w_next (q : D.nx σ H) : tNext D σ H := q
theorem w_brk (q : D.bk σ H) : tBreak D σ H := q
theorem w_cont (q : D.ct σ H) : tCont D σ H := q
theorem w_drop (q : te σ H fun _ H1 => D.nx σ H1) : tDrop te D σ H := q
theorem w_ret (q : te σ H D.rt) : tRet te D σ H := q
theorem w_retN (q : D.rt .non H) : tRetN D σ H := q
theorem w_asg (q : te σ H fun x H1 => g x σ H1 D.nx) : tAsg te g D σ H := q
theorem w_name {Q : St → Hp → Prop} (q : Q (σ.set i (some v)) H) : gName i v σ H Q := q
theorem w_if (q : c σ H fun b H1 => if b = true then t D σ H1 else u D σ H1) : tIfS c t u D σ H := q
theorem w_test {Q : Bool → Hp → Prop} (q : te σ H fun x H1 => ∃ k, x = .bl k ∧ Q k H1) : tTest te σ H Q := q
theorem w_B {Q : Bool → Hp → Prop} (q : te σ H fun x H1 => ∃ k, x = .bl k ∧ Q k H1) : tB te σ H Q := q
theorem w_exb {b : Bool} {P : Bool → Prop} (q : P b) : ∃ k, V.bl b = .bl k ∧ P k := ⟨b, rfl, q⟩
theorem w_not {Q : Bool → Hp → Prop} (q : c σ H fun b H1 => Q (!b) H1) : tNot c σ H Q := q
theorem w_and {Q : Bool → Hp → Prop} (q : c σ H fun b H1 => if b = true then d σ H1 Q else Q false H1) : tAnd c d σ H Q := q
theorem w_or {Q : Bool → Hp → Prop} (q : c σ H fun b H1 => if b = true then Q true H1 else d σ H1 Q) : tOr c d σ H Q := q
theorem w_andV (q : ta σ H fun x H1 => ∃ k, x = .bl k ∧ if k = true then tb σ H1 Q else Q (.bl false) H1) : tAndV ta tb σ H Q := q
theorem w_orV (q : ta σ H fun x H1 => ∃ k, x = .bl k ∧ if k = true then Q (.bl true) H1 else tb σ H1 Q) : tOrV ta tb σ H Q := q
theorem w_notV (q : ta σ H fun x H1 => ∃ k, x = .bl k ∧ Q (.bl (!k)) H1) : tNotV ta σ H Q := q
theorem w_ifE (q : c σ H fun b H1 => if b = true then ta σ H1 Q else tb σ H1 Q) : tIf c ta tb σ H Q := q
theorem w_op (q : ta σ H fun x H1 => tb σ H1 fun y H2 => r x y H2 Q) : tOp r ta tb σ H Q := q
theorem w_un {r : V → Hp → VK → Prop} (q : ta σ H fun x H1 => r x H1 Q) : tUn r ta σ H Q := q
theorem w_chain (q : ta σ H fun x H1 => tb σ H1 fun y H2 => r x y H2 fun z H3 => ∃ k, z = .bl k ∧ if k = true then tc σ H3 fun w H4 => r' y w H4 Q else Q (.bl false) H3) : tChain r r' ta tb tc σ H Q := q
theorem w_I0 {g : Int → Int → V} {a b : Int} (q : Q (g a b) H) : rI0 g (.int a) (.int b) H Q := ⟨a, b, rfl, rfl, q⟩
theorem w_I {C : Int → Int → Prop} {g : Int → Int → V} {a b : Int} (h : C a b) (q : Q (g a b) H) : rI C g (.int a) (.int b) H Q := ⟨a, b, rfl, rfl, h, q⟩
theorem w_U {g : Int → V} {a : Int} (q : Q (g a) H) : rU g (.int a) H Q := ⟨a, rfl, q⟩
theorem w_eqI {a b : Int} (q : Q (.bl (decide (a = b))) H) : rEq (.int a) (.int b) H Q := ⟨rfl, by
  have e : decide (V.int a = V.int b) = decide (a = b) := by
    rw [dec_int]
    by_cases h : a = b
    · rw [decide_eq_true h]
      exact beq_iff_eq.mpr h
    · rw [decide_eq_false h]
      exact beq_eq_false_iff_ne.mpr h
  rw [e]
  exact q⟩
theorem w_neI {a b : Int} (q : Q (.bl (!decide (a = b))) H) : rNe (.int a) (.int b) H Q := ⟨rfl, by
  have e : decide (V.int a = V.int b) = decide (a = b) := by
    rw [dec_int]
    by_cases h : a = b
    · rw [decide_eq_true h]
      exact beq_iff_eq.mpr h
    · rw [decide_eq_false h]
      exact beq_eq_false_iff_ne.mpr h
  rw [e]
  exact q⟩
theorem w_eq (h : scal x y = true) (q : Q (.bl (decide (x = y))) H) : rEq x y H Q := ⟨h, q⟩
theorem w_ne (h : scal x y = true) (q : Q (.bl (!decide (x = y))) H) : rNe x y H Q := ⟨h, q⟩
theorem w_ixL {xs : List V} {j : Int} (h : SqL K H p xs) (a : atI xs j = some v) (q : Q v H) : rIxL K (.ref p) (.int j) H Q := ⟨p, xs, j, v, rfl, rfl, h, a, q⟩
theorem w_ixT {xs : List V} {j : Int} (h : SqT K H p xs) (a : atI xs j = some v) (q : Q v H) : rIxT K (.ref p) (.int j) H Q := ⟨p, xs, j, v, rfl, rfl, h, a, q⟩
theorem at0 {x : V} {xs : List V} : atI (x :: xs) 0 = some x := at_of (j := 0) rfl rfl
theorem at1 {x y : V} {xs : List V} : atI (x :: y :: xs) 1 = some y := at_of (j := 1) rfl rfl
theorem at2 {x y z : V} {xs : List V} : atI (x :: y :: z :: xs) 2 = some z := at_of (j := 2) rfl rfl
theorem at3 {x y z u : V} {xs : List V} : atI (x :: y :: z :: u :: xs) 3 = some u := at_of (j := 3) rfl rfl
/-- a field's value -/
def Fl (K : PySem.W.Frag) (f : Str) (x : V) (H : Hp) (Q : VK) : Prop := ∃ a C dx fs v, x = .ref a ∧ H a = some (.ins C dx fs) ∧ Cls K C ∧ NoAttr K C f ∧ fs.lookup f = some v ∧ Q v H
theorem w_fld (q : ta σ H fun x H1 => Fl K f x H1 Q) : tFld K ta f σ H Q := q
theorem w_fl {C dx : Addr} {fs : List (Str × V)} (h : H p = some (.ins C dx fs)) (hc : Cls K C) (hn : NoAttr K C f) (hl : fs.lookup f = some v) (q : Q v H) : Fl K f (.ref p) H Q := ⟨p, C, dx, fs, v, rfl, h, hc, hn, hl, q⟩
/-- a field's store -/
def Fs (K : PySem.W.Frag) (f : Str) (y x : V) (H : Hp) (R : Hp → Prop) : Prop := ∃ a C dx fs, x = .ref a ∧ H a = some (.ins C dx fs) ∧ Cls K C ∧ NoAttr K C f ∧ fs.length < 1000 ∧ R (upd H a (.ins C dx (putF f y fs)))
theorem w_sfld (q : tv σ H fun y H1 => ta σ H1 fun x H2 => Fs K f y x H2 (D.nx σ)) : sFld K ta tv f D σ H := q
theorem w_fs {R : Hp → Prop} {C dx : Addr} {fs : List (Str × V)} (h : H p = some (.ins C dx fs)) (hc : Cls K C) (hn : NoAttr K C f) (hl : fs.length < 1000) (q : R (upd H p (.ins C dx (putF f y fs)))) : Fs K f y (.ref p) H R := ⟨p, C, dx, fs, rfl, h, hc, hn, hl, q⟩
theorem lk0 {k : Str} {v : V} {r : List (Str × V)} : ((k, v) :: r).lookup k = some v := by simp [List.lookup]
theorem lk1 {k k' : Str} {v w : V} {r : List (Str × V)} (h : ¬ k = k') (q : r.lookup k = some w) : ((k', v) :: r).lookup k = some w := by
  have e : (k == k') = false := beq_eq_false_iff_ne.mpr h
  show (match k == k' with | true => some v | false => List.lookup k r) = some w
  rw [e]
  exact q
theorem lkn {k k' : Str} {v : V} {r : List (Str × V)} (h : ¬ k = k') (q : r.lookup k = none) : ((k', v) :: r).lookup k = none := by
  have e : (k == k') = false := beq_eq_false_iff_ne.mpr h
  show (match k == k' with | true => some v | false => List.lookup k r) = none
  rw [e]
  exact q
theorem lke {k : Str} : ([] : List (Str × V)).lookup k = none := rfl
theorem pu0 {k : Str} {v w : V} {r : List (Str × V)} : putF k w ((k, v) :: r) = (k, w) :: r := by
  show (if k = k then _ else _) = _
  rw [if_pos rfl]
theorem pu1 {k k' : Str} {v w : V} {r : List (Str × V)} (h : ¬ k' = k) : putF k w ((k', v) :: r) = (k', v) :: putF k w r := by
  show (if k' = k then _ else _) = _
  rw [if_neg h]
theorem pu2 {k k' : Str} {v w : V} {r r' : List (Str × V)} (h : ¬ k' = k) (q : putF k w r = r') : putF k w ((k', v) :: r) = (k', v) :: r' := by
  rw [pu1 h, q]
theorem pue {k : Str} {w : V} : putF k w [] = [(k, w)] := rfl
theorem w_yes {Q : Bool → Hp → Prop} (q : Q true H) : tYes σ H Q := q
theorem w_nil {Q : List V → Hp → Prop} (q : Q [] H) : tNil σ H Q := q
theorem w_cons {Q : List V → Hp → Prop} (q : ta σ H fun x H1 => ts σ H1 fun xs H2 => Q (x :: xs) H2) : tCons ta ts σ H Q := q
theorem w_cb {r : List V → Hp → VK → Prop} (q : ts σ H fun vs H1 => r vs H1 Q) : tCB r ts σ H Q := q
theorem w_call {sp : Sp} {dvs : List V} (q : ts σ H fun vs H1 => sp (vs ++ dvs) H1 Q E) : tCall sp dvs E ts σ H Q := q
/-- a new instance -/
def Mkr (C : Addr) (sp : Sp) (vs : List V) (E : XK) (Q : VK) (H : Hp) : Prop := ∀ x dx, H x = none → H dx = none → dx ≠ x → sp (.ref x :: vs) (upd (upd H dx (.own x)) x (.ins C dx [])) (fun v H2 => v = .non ∧ Q (.ref x) H2) E
theorem w_make {C : Addr} {sp : Sp} {dvs : List V} (q : ts σ H fun vs H1 => Mkr C sp (vs ++ dvs) E Q H1) : tMake C sp dvs E ts σ H Q := q
theorem w_mkr {C : Addr} {sp : Sp} {vs : List V} {B : Hp} {L : List (Addr × HO)} (hs : Hs B L H) (q : ∀ x dx H', Hs B ((x, .ins C dx []) :: L) H' → sp (.ref x :: vs) H' (fun v H2 => v = .non ∧ Q (.ref x) H2) E) : Mkr C sp vs E Q H := fun x dx hx hd ne =>
  q x dx _ ((hs.new hd).new (p := x) (by rw [upd_ne ne.symm]; exact hx)).d1
/-- an own method's receiver -/
def Rc (m : Str) (C : Addr) (x : V) (H : Hp) (R : Prop) : Prop := ∃ a dx fs, x = .ref a ∧ H a = some (.ins C dx fs) ∧ fs.lookup m = none ∧ R
theorem w_meth {C : Addr} {sp : Sp} {dvs : List V} (q : ta σ H fun x H1 => Rc m C x H1 (ts σ H1 fun vs H2 => sp (x :: (vs ++ dvs)) H2 Q E)) : tMeth C m sp dvs E ta ts σ H Q := by
  revert q
  unfold tMeth Rc
  exact id
theorem w_rc {C dx : Addr} {fs : List (Str × V)} {R : Prop} (h : H p = some (.ins C dx fs)) (hl : fs.lookup m = none) (q : R) : Rc m C (.ref p) H R := ⟨p, dx, fs, rfl, h, hl, q⟩
theorem w_bm {T : String} {r : V → List V → Hp → VK → Prop} (q : to σ H fun x H1 => tyV K T x H1 ∧ ts σ H1 fun xs H2 => r x xs H2 Q) : tBM K T r to ts σ H Q := q
theorem w_bm0 {T : String} {r : V → List V → Hp → VK → Prop} (q : to σ H fun x H1 => tyV K T x H1 ∧ r x [] H1 Q) : tBM0 K T r to σ H Q := q
theorem w_tyL {xs : List V} {R : Prop} (h : SqL K H p xs) (q : R) : tyV K "list" (.ref p) H ∧ R := ⟨.inl ⟨rfl, _, h⟩, q⟩
theorem w_tyS {s : Str} {R : Prop} (q : R) : tyV K "str" (.str s) H ∧ R := ⟨rfl, q⟩
/-- a new list, a new tuple -/
def NewL (Q : VK) (xs : List V) (H : Hp) : Prop := xs.length ≤ sizeLine ∧ ∀ p, H p = none → Q (.ref p) (upd H p (.lst xs))
def NewT (Q : VK) (xs : List V) (H : Hp) : Prop := xs.length ≤ sizeLine ∧ ∀ p, H p = none → Q (.ref p) (upd H p (.tup xs))
theorem w_tup (q : ts σ H fun xs H1 => NewT Q xs H1) : tTup ts σ H Q := q
theorem w_lst (q : ts σ H fun xs H1 => NewL Q xs H1) : tLst ts σ H Q := q
theorem w_new {B : Hp} {L : List (Addr × HO)} {o : HO} (hs : Hs B L H) (q : ∀ p H', Hs B ((p, o) :: L) H' → Q (.ref p) H') : ∀ p, H p = none → Q (.ref p) (upd H p o) := fun p hp => q p _ (hs.new hp)
theorem w_newL {B : Hp} {L : List (Addr × HO)} {xs : List V} (hs : Hs B L H) (hl : xs.length ≤ sizeLine) (q : ∀ p H', Hs B ((p, .lst xs) :: L) H' → Q (.ref p) H') : NewL Q xs H := ⟨hl, w_new hs q⟩
theorem w_newT {B : Hp} {L : List (Addr × HO)} {xs : List V} (hs : Hs B L H) (hl : xs.length ≤ sizeLine) (q : ∀ p H', Hs B ((p, .tup xs) :: L) H' → Q (.ref p) H') : NewT Q xs H := ⟨hl, w_new hs q⟩
theorem w_sl {r : V → Option Int → Option Int → Hp → VK → Prop} {tl th : TO} (q : te σ H fun x H1 => tl σ H1 fun l H2 => th σ H2 fun u H3 => r x l u H3 Q) : tSl r te tl th σ H Q := q
theorem w_noPart {Q : Option Int → Hp → Prop} (q : Q none H) : tNoPart σ H Q := q
theorem w_part {Q : Option Int → Hp → Prop} (q : te σ H fun x H1 => ∃ i, x = .int i ∧ Q (some i) H1) : tPart te σ H Q := q
theorem w_exi {b : Int} {P : Int → Prop} (q : P b) : ∃ k, V.int b = .int k ∧ P k := ⟨b, rfl, q⟩
theorem w_slL {B : Hp} {L : List (Addr × HO)} {xs : List V} {lo hi : Option Int} (hs : Hs B L H) (h : SqL K H p xs) (q : ∀ l H', Hs B ((l, .lst (cutV xs lo hi)) :: L) H' → Q (.ref l) H') : rSlL K (.ref p) lo hi H Q := ⟨p, xs, rfl, h, w_new hs q⟩
theorem w_cat {B : Hp} {L : List (Addr × HO)} {a b : Addr} {xs ys : List V} (hs : Hs B L H) (ha : H a = some (.lst xs)) (hb : H b = some (.lst ys)) (hl : xs.length + ys.length ≤ sizeLine) (q : ∀ l H', Hs B ((l, .lst (xs ++ ys)) :: L) H' → Q (.ref l) H') : rCat (.ref a) (.ref b) H Q :=
  ⟨a, b, xs, ys, rfl, rfl, ha, hb, hl, w_new hs q⟩
/-! #### calls of built-ins -/
def rLen (K : PySem.W.Frag) : List V → Hp → VK → Prop := fun xs H Q => ∃ p ys, xs = [.ref p] ∧ (SqL K H p ys ∨ SqT K H p ys) ∧ Q (.int ys.length) H
theorem call_lenQ {X : Cx} : CallR X (.builtin "len") (rLen X.K) := call_len_seq
theorem w_len {xs : List V} (h : SqL K H p xs) (q : Q (.int xs.length) H) : rLen K [.ref p] H Q := ⟨p, xs, rfl, .inl h, q⟩
theorem w_lenT {xs : List V} (h : SqT K H p xs) (q : Q (.int xs.length) H) : rLen K [.ref p] H Q := ⟨p, xs, rfl, .inr h, q⟩
def rAbs : List V → Hp → VK → Prop := fun xs H Q => ∃ i, xs = [.int i] ∧ Q (.int (if i < 0 then -i else i)) H
theorem call_absQ {X : Cx} : CallR X (.builtin "abs") rAbs := call_abs
theorem w_abs {a : Int} (q : Q (.int (if a < 0 then -a else a)) H) : rAbs [.int a] H Q := ⟨a, rfl, q⟩
def rInt : List V → Hp → VK → Prop := fun xs H Q => (∃ i, xs = [.int i] ∧ Q (.int i) H) ∨ ∃ k, xs = [.bl k] ∧ Q (.int (if k then 1 else 0)) H
theorem call_intQ {X : Cx} : CallR X (.type "int") rInt := call_int1
theorem w_int {a : Int} (q : Q (.int a) H) : rInt [.int a] H Q := .inl ⟨a, rfl, q⟩
theorem w_intB {b : Bool} (q : Q (.int (if b then 1 else 0)) H) : rInt [.bl b] H Q := .inr ⟨b, rfl, q⟩
def rStr : List V → Hp → VK → Prop := fun xs H Q => ∃ i, xs = [.int i] ∧ i.natAbs.log2 < 1920 ∧ Q (.str (toString i)) H
theorem call_strQ {X : Cx} : CallR X (.type "str") rStr := call_str_int
theorem w_str {a : Int} (h : a.natAbs < 2 ^ 64) (q : Q (.str (toString a)) H) : rStr [.int a] H Q := ⟨a, rfl, Nat.lt_of_lt_of_le (PySem.Flt.log2_lt_of (by decide) h) (by decide), q⟩
def rAddS : R2 := fun x y H Q => ∃ i j, x = .str i ∧ y = .str j ∧ i.length + j.length ≤ sizeLine ∧ Q (.str (i ++ j)) H
theorem op_addS {X : Cx} : OpR X (binaryOp .Add) rAddS := op_add_str
theorem w_addS {a b : Str} (h : a.length + b.length ≤ sizeLine) (q : Q (.str (a ++ b)) H) : rAddS (.str a) (.str b) H Q := ⟨a, b, rfl, rfl, h, q⟩
/-! #### methods of lists -/
section
variable {B : Hp} {L L' : List (Addr × HO)} {l : Addr} {xs : List V}
theorem w_app (hs : Hs B L H) (h : Put L l (.lst xs) (.lst (xs ++ [y])) L') (hl : xs.length < sizeLine) (q : ∀ H', Hs B L' H' → Q .non H') : rAppend (.ref l) [y] H Q := ⟨l, xs, y, rfl, rfl, hs.gets h, hl, q _ (hs.puts h)⟩
theorem w_clear (hs : Hs B L H) (h : Put L l (.lst xs) (.lst []) L') (q : ∀ H', Hs B L' H' → Q .non H') : rClear (.ref l) [] H Q := ⟨l, xs, rfl, rfl, hs.gets h, q _ (hs.puts h)⟩
theorem six_nat {n k : Nat} {j : Int} (e : j = (k : Int)) (h : k < n) : seqIndex? j n = some k := by
  subst e
  unfold seqIndex?
  have h1 : ¬ (k : Int) < 0 := by omega
  have h2 : (k : Int) < (n : Int) := by omega
  simp only [if_neg h1]
  simp [h2]
theorem w_popAt {k : Nat} {j : Int} (hs : Hs B L H) (h : Put L l (.lst xs) (.lst (xs.eraseIdx k)) L') (e : j = (k : Int)) (hk : xs[k]? = some y) (hz : xs.length ≤ sizeLine) (q : ∀ H', Hs B L' H' → Q y H') : rPopAt (.ref l) [.int j] H Q := by
  have hk' := (List.getElem?_eq_some_iff.mp hk).1
  have h63 := line63
  refine ⟨l, xs, j, k, y, rfl, rfl, hs.gets h, by omega, ?_, six_nat e hk', hk, q _ (hs.puts h)⟩
  have : xs.length < 2 ^ 63 := Nat.lt_of_le_of_lt hz h63
  omega
def rInsert : V → List V → Hp → VK → Prop := fun x vs H Q => ∃ (l : Addr) (xs : List V) (i : Int) (y : V), x = .ref l ∧ vs = [.int i, y] ∧ H l = some (.lst xs) ∧ xs.length < sizeLine ∧ 0 ≤ i ∧ i < 2 ^ 63 ∧ Q .non (upd H l (.lst (xs.take i.toNat ++ [y] ++ xs.drop i.toNat)))
theorem mt_insertQ {X : Cx} : MtR X "list.insert" rInsert := mt_insert
theorem w_insert0 (hs : Hs B L H) (h : Put L l (.lst xs) (.lst (y :: xs)) L') (hl : xs.length < sizeLine) (q : ∀ H', Hs B L' H' → Q .non H') : rInsert (.ref l) [.int 0, y] H Q :=
  ⟨l, xs, 0, y, rfl, rfl, hs.gets h, hl, by decide, by decide, q _ (hs.puts h)⟩
def rDelL (x y : V) (H : Hp) (R : Hp → Prop) : Prop := ∃ (l : Addr) (xs : List V) (i : Int) (k : Nat), x = .ref l ∧ y = .int i ∧ H l = some (.lst xs) ∧ -(2 ^ 63) ≤ i ∧ i < 2 ^ 63 ∧ seqIndex? i xs.length = some k ∧ R (upd H l (.lst (xs.eraseIdx k)))
theorem w_delL0 (q : to σ H fun x H1 => ti σ H1 fun y H2 => rDelL x y H2 (D.nx σ)) : tDelL to ti D σ H := q
theorem w_delL {k : Nat} {j : Int} {R : Hp → Prop} (hs : Hs B L H) (h : Put L l (.lst xs) (.lst (xs.eraseIdx k)) L') (e : j = (k : Int)) (hk : k < xs.length) (hz : xs.length ≤ sizeLine) (q : ∀ H', Hs B L' H' → R H') : rDelL (.ref l) (.int j) H R := by
  have h63 := line63
  refine ⟨l, xs, j, k, rfl, rfl, hs.gets h, by omega, ?_, six_nat e hk, q _ (hs.puts h)⟩
  have : xs.length < 2 ^ 63 := Nat.lt_of_le_of_lt hz h63
  omega
theorem w_setL {k : Nat} {j : Int} {R : Hp → Prop} (hs : Hs B L H) (h : Put L l (.lst xs) (.lst (xs.set k y)) L') (e : j = (k : Int)) (hk : k < xs.length) (q : ∀ H', Hs B L' H' → R H') : rSetL (.ref l) (.int j) y H R := by
  refine ⟨l, xs, j, k, rfl, rfl, hs.gets h, ?_, q _ (hs.puts h)⟩
  subst e
  unfold ixN
  rw [if_pos (by omega), if_pos (by omega)]
  simp
/-- a field's store -/
theorem w_fsP {R : Hp → Prop} {C dx : Addr} {fs gs : List (Str × V)} (hs : Hs B L H) (h : Put L p (.ins C dx fs) (.ins C dx gs) L') (hc : Cls K C) (hn : NoAttr K C f) (hl : fs.length < 1000) (hg : putF f y fs = gs) (q : ∀ H', Hs B L' H' → R H') : Fs K f y (.ref p) H R := by
  subst hg
  exact w_fs (hs.gets h) hc hn hl (q _ (hs.puts h))
/-! #### loops -/
theorem w_forL {tl : TE} {a : Addr} {tb : TS} (hx : SqL K H a xs) (Pv : Nat → St → Hp → Prop) (htl : ∀ Q : VK, Q (.ref a) H → tl σ H Q) (h0 : Pv 0 σ H) (hl : ∀ i σ H, i ≤ xs.length → Pv i σ H → SqL K H a xs)
    (hs : ∀ i x σ H, xs[i]? = some x → Pv i σ H → g x σ H fun σ2 H2 => tb { D with nx := Pv (i + 1), ct := Pv (i + 1), bk := D.nx } σ2 H2) (hd : ∀ σ H, Pv xs.length σ H → D.nx σ H) : tFor (iList K tl) g tb D σ H :=
  htl _ ⟨a, rfl, ⟨xs, hx⟩, for_list Pv h0 hl hs hd⟩
theorem w_forR {ta : TA} {tb : TS} {n : Int} (hn : n < 2 ^ 62) (Pv : Nat → St → Hp → Prop) (hta : ∀ Q : List V → Hp → Prop, Q [.int n] H → ta σ H Q) (hm : -(2 ^ 62) ≤ n) (h0 : Pv 0 σ H)
    (hs : ∀ (i : Nat) σ H, (i : Int) < n → Pv i σ H → g (.int (i : Int)) σ H fun σ2 H2 => tb { D with nx := Pv (i + 1), ct := Pv (i + 1), bk := D.nx } σ2 H2) (hd : ∀ σ H, Pv n.toNat σ H → D.nx σ H) : tFor (iRng1 ta) g tb D σ H :=
  hta _ ⟨n, rfl, hm, hn, for_range (lo := 0) (n := n.toNat) Pv h0 (fun i σ' H' hi p => by
    have e0 : (0 : Int) + (i : Int) = (i : Int) := Int.zero_add _
    rw [e0]
    exact hs i σ' H' (by omega) p) hd⟩
/-- [e for x in xs] over a list -/
theorem w_lc {tl : TE} {a : Addr} {vs : List Nat} {tt : TT} (hx : SqL K H a xs) (Pv : Addr → Nat → Hp → Prop) (htl : ∀ Q : VK, Q (.ref a) H → tl σ H Q) (h0 : ∀ D, H D = none → Pv D 0 (upd H D (.lst []))) (hl : ∀ D i H, i ≤ xs.length → Pv D i H → SqL K H a xs)
    (hs : ∀ D i x H, xs[i]? = some x → Pv D i H → g x (wipe σ vs) H fun σ2 H2 => wipe σ2 vs = wipe σ vs ∧ tt σ2 H2 fun b H3 =>
      if b = true then te σ2 H3 fun y H4 => ∃ acc, H4 D = some (.lst acc) ∧ acc.length < sizeLine ∧ Pv D (i + 1) (upd H4 D (.lst (acc ++ [y]))) else Pv D (i + 1) H3) (hd : ∀ D H, Pv D xs.length H → Q (.ref D) H) : tLc (iList K tl) g tt te vs σ H Q :=
  htl _ ⟨a, rfl, ⟨xs, hx⟩, fun D hD => lc_list (Pv D) (h0 D hD) (hl D) (hs D) (hd D)⟩
end
theorem w_sub {R : St → Hp → Prop} {tset : TSet} (q : to σ H fun o H1 => ti σ H1 fun i H2 => tset o i v H2 fun H3 => R σ H3) : gSub to ti tset v σ H R := q
/-- a while's body, at the measure m -/
def LpB (W : Nat → St → Hp → Prop) (m : Nat) (D : Ends) (tb : TS) (σ : St) (H1 : Hp) : Prop := ∃ N : St → Hp → Prop, (∀ σ' H', N σ' H' → ∃ m', m' < m ∧ W m' σ' H') ∧ tb { D with nx := N, ct := N, bk := D.nx } σ H1
theorem w_while {c : TT} {tb : TS} {D : Ends} {σ : St} {H : Hp} (W : Nat → St → Hp → Prop) (m : Nat) (h0 : W m σ H)
    (hs : ∀ m σ H, W m σ H → c σ H fun b H1 => if b = true then LpB W m D tb σ H1 else D.nx σ H1) : tWhile c tb D σ H := ⟨W, ⟨m, h0⟩, hs⟩
theorem w_lpb {W : Nat → St → Hp → Prop} {m : Nat} {D : Ends} {tb : TS} {σ : St} {H : Hp} (q : tb { D with nx := fun σ' H' => ∃ m', m' < m ∧ W m' σ' H', ct := fun σ' H' => ∃ m', m' < m ∧ W m' σ' H', bk := D.nx } σ H) : LpB W m D tb σ H := ⟨_, fun _ _ h => h, q⟩
end
theorem ifd {p A B : Prop} [Decidable p] (h1 : p → A) (h2 : ¬ p → B) : if decide p = true then A else B := by
  by_cases h : p
  · rw [decide_eq_true h]
    exact iteT (h1 h)
  · rw [decide_eq_false h]
    exact iteF (h2 h)
theorem ifn {p A B : Prop} [Decidable p] (h1 : ¬ p → A) (h2 : p → B) : if (!decide p) = true then A else B := by
  by_cases h : p
  · rw [decide_eq_true h]
    exact iteF (h2 h)
  · rw [decide_eq_false h]
    exact iteT (h1 h)
theorem ifb {b : Bool} {A B : Prop} (h1 : b = true → A) (h2 : b = false → B) : if b = true then A else B := by
  cases b with
  | true => exact iteT (h1 rfl)
  | false => exact iteF (h2 rfl)
theorem eraseIdx_map {α β : Type} (f : α → β) : ∀ (l : List α) (k : Nat), (l.map f).eraseIdx k = (l.eraseIdx k).map f
  | [], _ => rfl
  | _ :: _, 0 => rfl
  | x :: l, k + 1 => congrArg (f x :: ·) (eraseIdx_map f l k)
theorem sz {n : Nat} (h : n ≤ 1000000) : n ≤ sizeLine := Nat.le_trans h (by decide)
theorem szl {n : Nat} (h : n ≤ 1000000) : n < sizeLine := Nat.lt_of_le_of_lt h (by decide)
theorem take_min {α : Type} (xs : List α) (n : Nat) : xs.take (min n xs.length) = xs.take n := by
  by_cases h : n ≤ xs.length
  · rw [Nat.min_eq_left h]
  · rw [Nat.min_eq_right (by omega), List.take_length, List.take_of_length_le (by omega)]
theorem drop_min {α : Type} (xs : List α) (n : Nat) : xs.drop (min n xs.length) = xs.drop n := by
  by_cases h : n ≤ xs.length
  · rw [Nat.min_eq_left h]
  · rw [Nat.min_eq_right (by omega), List.drop_length, List.drop_of_length_le (by omega)]
theorem cut_to {xs : List V} {j : Int} (n : Nat) (e : j = (n : Int)) : cutV xs none (some j) = xs.take n := by
  subst e
  unfold cutV
  rw [HT.sIx_none, HT.sIx_nat, List.drop_zero, Nat.sub_zero, take_min]
theorem cut_from {xs : List V} {j : Int} (n : Nat) (e : j = (n : Int)) : cutV xs (some j) none = xs.drop n := by
  subst e
  unfold cutV
  rw [HT.sIx_none, HT.sIx_nat, drop_min, List.take_of_length_le]
  rw [List.length_drop]
  omega
theorem cut_len {xs : List V} {lo hi : Option Int} : (cutV xs lo hi).length ≤ xs.length := by
  unfold cutV
  rw [List.length_take, List.length_drop]
  omega
theorem cut_all {xs : List V} : cutV xs none none = xs := by
  unfold cutV HT.sIx
  simp
/-! ### lists of texts, of ints, as data -/
theorem dpa_str {K : PySem.W.Frag} {H : Hp} : ∀ xs : List Str, DpAll K H (xs.map V.str) (xs.map PyData.str)
  | [] => .nil
  | x :: xs => .cons (.str x) (dpa_str xs)
theorem dpa_int {K : PySem.W.Frag} {H : Hp} : ∀ xs : List Int, DpAll K H (xs.map V.int) (xs.map PyData.int)
  | [] => .nil
  | x :: xs => .cons (.int x) (dpa_int xs)
theorem depth_str : ∀ xs : List Str, PyData.depthAll (xs.map PyData.str) ≤ 1
  | [] => by simp [PyData.depthAll]
  | x :: xs => by
    have := depth_str xs
    simp [PyData.depthAll, PyData.depth] at this ⊢
    omega
theorem lay_str : ∀ xs : List Str, (∀ x ∈ xs, PyData.strOk x = true) → PyData.canLayAll0 (xs.map PyData.str) = true
  | [], _ => by simp [PyData.canLayAll0]
  | x :: xs, h => by
    have h1 := h x List.mem_cons_self
    have h2 := lay_str xs fun y hy => h y (List.mem_cons_of_mem _ hy)
    simp only [List.map_cons, PyData.canLayAll0, PyData.canLay0, h1, h2, Bool.and_self]
theorem shp_str {xs : List Str} (h : ∀ x ∈ xs, PyData.strOk x = true) : SeqAt.shaped (.list (xs.map PyData.str)) = true := by
  have e := depth_str xs
  have l := lay_str xs h
  unfold SeqAt.shaped PyData.canLay0 PyData.depth
  rw [l]
  simp only [Bool.true_and, decide_eq_true_eq]
  omega
theorem w_neS {K : PySem.W.Frag} {H : Hp} {Q : VK} {p q : Addr} {xs : List Str} (h1 : SqL K H p (xs.map V.str)) (h2 : SqL K H q (xs.map V.str)) (hk : ∀ x ∈ xs, PyData.strOk x = true) (k : Q (.bl false) H) : rNeD K (.ref p) (.ref q) H Q :=
  ⟨_, _, .lst h1 (dpa_str xs), .lst h2 (dpa_str xs), shp_str hk, shp_str hk, by
    rw [SeqAt.eqv_refl _ (by have := shp_str hk; unfold SeqAt.shaped at this; exact (Bool.and_eq_true_iff.mp this).1)]
    exact k⟩
theorem w_isi {K : PySem.W.Frag} {H : Hp} {Q : VK} {b : Bool} (k : Q (.bl true) H) : rIsi K [.bl b, .ty "bool"] H Q :=
  ⟨_, _, _, _, true, rfl, .ty "bool", .base (.bl b), kit_ty (by decide +kernel), k⟩
theorem w_neB {a b : Bool} {H : Hp} {Q : VK} (q : Q (.bl (!decide (a = b))) H) : rNe (.bl a) (.bl b) H Q := ⟨rfl, by
  have e : decide (V.bl a = V.bl b) = decide (a = b) := by cases a <;> cases b <;> decide
  rw [e]
  exact q⟩
end Hb

set_option Elab.async false
set_option maxRecDepth 100000
set_option maxHeartbeats 4000000
/-! More steps: dicts, fields changed by an operator, ranges, and an own exception with a field. -/
namespace Hb
open PySem L2 ClX

section
variable {K : PySem.W.Frag} {σ : St} {H : Hp} {Q : VK} {D : Ends} {ta tb td tc te tv ty to ti : TE} {t u tr : TS} {g : TG} {i : Nat} {v x y : V} {E : XK} {ts : TA} {f m : Str} {p : Addr} {B : Hp} {L L' : List (Addr × HO)}
/-! ### dicts with keys that are ints -/
def RDin (x y : V) (H : Hp) (Q : VK) : Prop := ∃ a o, x = .ref a ∧ DGet H a y o ∧ Q (.bl o.isSome) H
def RDni (x y : V) (H : Hp) (Q : VK) : Prop := ∃ a o, x = .ref a ∧ DGet H a y o ∧ Q (.bl (!o.isSome)) H
theorem w_din (q : ty σ H fun y H1 => td σ H1 fun x H2 => RDin x y H2 Q) : tDIn ty td σ H Q := q
theorem w_dni (q : ty σ H fun y H1 => td σ H1 fun x H2 => RDni x y H2 Q) : tDNotIn ty td σ H Q := q
theorem w_dinI {kvs : List (Key × V)} {n : Int} (h : H p = some (.dK kvs)) (q : Q (.bl (valV kvs (Sum.inl n)).isSome) H) : RDin (.ref p) (.int n) H Q := ⟨p, _, rfl, DGet.k (k := Sum.inl n) h, q⟩
theorem w_dniI {kvs : List (Key × V)} {n : Int} (h : H p = some (.dK kvs)) (q : Q (.bl (!(valV kvs (Sum.inl n)).isSome)) H) : RDni (.ref p) (.int n) H Q := ⟨p, _, rfl, DGet.k (k := Sum.inl n) h, q⟩
def RDput (x y v : V) (H : Hp) (R : Hp → Prop) : Prop := ∃ a H4, x = .ref a ∧ DPut H a y v H4 ∧ R H4
theorem w_dput (q : tv σ H fun v H1 => td σ H1 fun x H2 => ty σ H2 fun y H3 => RDput x y v H3 (D.nx σ)) : sDPut td ty tv D σ H := q
theorem w_dputI {kvs : List (Key × V)} {n : Int} {R : Hp → Prop} (hs : Hs B L H) (h : Put L p (.dK kvs) (.dK (putK kvs (Sum.inl n) v)) L') (hl : kvs.length < sizeLine) (q : ∀ H', Hs B L' H' → R H') : RDput (.ref p) (.int n) v H R :=
  ⟨p, _, rfl, DPut.k (k := Sum.inl n) (hs.gets h) hl, q _ (hs.puts h)⟩
def RPopA (x : V) (H : Hp) (R : Addr → Prop) : Prop := ∃ a, x = .ref a ∧ IsD H a ∧ R a
def RPopB (a : Addr) (y : V) (H : Hp) (Q : VK) : Prop := ∃ kvs k v, H a = some (.dK kvs) ∧ y = kV k ∧ valV kvs k = some v ∧ Q v (upd H a (.dK (dropK kvs k)))
theorem w_dpop (q : td σ H fun x H1 => RPopA x H1 fun a => ty σ H1 fun y H2 => RPopB a y H2 Q) : tDPop1 td ty σ H Q := q
theorem w_dpopA {kvs : List (Key × V)} {R : Addr → Prop} (h : H p = some (.dK kvs)) (q : R p) : RPopA (.ref p) H R := ⟨p, rfl, .inl ⟨kvs, .inl h⟩, q⟩
theorem w_dpopB {kvs : List (Key × V)} {n : Int} (hs : Hs B L H) (h : Put L p (.dK kvs) (.dK (dropK kvs (Sum.inl n))) L') (hv : valV kvs (Sum.inl n) = some v) (q : ∀ H', Hs B L' H' → Q v H') : RPopB p (.int n) H Q :=
  ⟨kvs, Sum.inl n, v, hs.gets h, rfl, hv, q _ (hs.puts h)⟩
def NewD (Q : VK) (H : Hp) : Prop := ∀ p, H p = none → Q (.ref p) (upd H p (.dK []))
theorem w_dnew (q : NewD Q H) : tDNewK σ H Q := q
theorem w_newD (hs : Hs B L H) (q : ∀ p H', Hs B ((p, .dK []) :: L) H' → Q (.ref p) H') : NewD Q H := w_new hs q
/-! ### o.f op= e -/
def FA1 (K : PySem.W.Frag) (f : Str) (x : V) (H : Hp) (R : Addr → Addr → V → Prop) : Prop := ∃ a C dx fs v, x = .ref a ∧ H a = some (.ins C dx fs) ∧ Cls K C ∧ NoAttr K C f ∧ fs.lookup f = some v ∧ R a C v
def FA2 (f : Str) (a C : Addr) (z : V) (H : Hp) (R : Hp → Prop) : Prop := ∃ dx' fs', H a = some (.ins C dx' fs') ∧ fs'.length < 1000 ∧ R (upd H a (.ins C dx' (putF f z fs')))
theorem w_faug {rd : V → V → Hp → VK → Prop} (q : ta σ H fun x H1 => FA1 K f x H1 fun a C v => tv σ H1 fun y H2 => rd v y H2 fun z H3 => FA2 f a C z H3 (D.nx σ)) : sFldAug K ta tv rd f D σ H := by
  revert q
  unfold sFldAug FA1 FA2
  exact id
theorem w_fa1 {C dx : Addr} {fs : List (Str × V)} {R : Addr → Addr → V → Prop} (h : H p = some (.ins C dx fs)) (hc : Cls K C) (hn : NoAttr K C f) (hl : fs.lookup f = some v) (q : R p C v) : FA1 K f (.ref p) H R := ⟨p, C, dx, fs, v, rfl, h, hc, hn, hl, q⟩
theorem w_fa2 {R : Hp → Prop} {C dx : Addr} {fs gs : List (Str × V)} (hs : Hs B L H) (h : Put L p (.ins C dx fs) (.ins C dx gs) L') (hl : fs.length < 1000) (hg : putF f v fs = gs) (q : ∀ H', Hs B L' H' → R H') : FA2 f p C v H R := by
  subst hg
  exact ⟨dx, fs, hs.gets h, hl, q _ (hs.puts h)⟩
theorem w_rAdd {a b : Int} (q : Q (.int (a + b)) H) : rAdd (.int a) (.int b) H Q := ⟨a, b, rfl, rfl, q⟩
theorem w_rSub {a b : Int} (q : Q (.int (a - b)) H) : rSub (.int a) (.int b) H Q := ⟨a, b, rfl, rfl, q⟩
/-! ### built-ins -/
def rMax2 : List V → Hp → VK → Prop := fun xs H Q => ∃ i j, xs = [.int i, .int j] ∧ Q (.int (if j > i then j else i)) H
def rMin2 : List V → Hp → VK → Prop := fun xs H Q => ∃ i j, xs = [.int i, .int j] ∧ Q (.int (if j < i then j else i)) H
theorem call_maxQ {X : Cx} (hc : X.calm = true) : CallR X (.builtin "max") rMax2 := call_max2 hc
theorem call_minQ {X : Cx} (hc : X.calm = true) : CallR X (.builtin "min") rMin2 := call_min2 hc
theorem w_max {a b : Int} (q : Q (.int (if b > a then b else a)) H) : rMax2 [.int a, .int b] H Q := ⟨a, b, rfl, q⟩
theorem w_min {a b : Int} (q : Q (.int (if b < a then b else a)) H) : rMin2 [.int a, .int b] H Q := ⟨a, b, rfl, q⟩
def rIsN : R2 := fun x y H Q => y = .non ∧ Q (.bl (decide (x = .non))) H
def rNotN : R2 := fun x y H Q => y = .non ∧ Q (.bl (!decide (x = .non))) H
theorem op_isNQ {X : Cx} : OpR X (compareOp .Is) rIsN := op_isN
theorem op_notNQ {X : Cx} : OpR X (compareOp .IsNot) rNotN := op_notN
theorem w_isN (q : Q (.bl (decide (x = .non))) H) : rIsN x .non H Q := ⟨rfl, q⟩
theorem w_notN (q : Q (.bl (!decide (x = .non))) H) : rNotN x .non H Q := ⟨rfl, q⟩
theorem w_eqD {a b : Addr} {d e : PyData} (h1 : Dp K H (.ref a) d) (h2 : Dp K H (.ref b) e) (s1 : SeqAt.shaped d = true) (s2 : SeqAt.shaped e = true) (q : Q (.bl (PyData.eqv d e)) H) : rEqD K (.ref a) (.ref b) H Q := ⟨d, e, h1, h2, s1, s2, q⟩
/-! ### targets -/
theorem w_gtup {n : Nat} {t : TGs} {xs : List V} {R : St → Hp → Prop} (h : SqT K H p xs) (hl : xs.length = n) (q : t xs σ H R) : gTup K n t (.ref p) σ H R := ⟨p, xs, rfl, h, hl, q⟩
theorem w_gnil {R : St → Hp → Prop} (q : R σ H) : gNil [] σ H R := ⟨rfl, q⟩
theorem w_gcons {t : TG} {u : TGs} {r : List V} {R : St → Hp → Prop} (q : t v σ H fun σ' H' => u r σ' H' R) : gCons t u (v :: r) σ H R := ⟨v, r, rfl, q⟩
theorem w_par3 {j l : Nat} (q : ts σ H fun vs H1 => ∃ u v w, vs = [u, v, w] ∧ D.nx (((σ.set i (some u)).set j (some v)).set l (some w)) H1) : tPar3 i j l ts D σ H := q
theorem w_ex3 {a b c : V} {P : V → V → V → Prop} (q : P a b c) : ∃ u v w, [a, b, c] = [u, v, w] ∧ P u v w := ⟨a, b, c, rfl, q⟩
theorem w_par2 {j : Nat} (q : ts σ H fun vs H1 => ∃ u v, vs = [u, v] ∧ D.nx ((σ.set i (some u)).set j (some v)) H1) : tPar i j ts D σ H := q
theorem w_ex2 {a b : V} {P : V → V → Prop} (q : P a b) : ∃ u v, [a, b] = [u, v] ∧ P u v := ⟨a, b, rfl, q⟩
/-! ### [e for i in range(a, b)] -/
theorem w_lcR {vs : List Nat} {tt : TT} {lo hi : Int} (b1 : -(2 ^ 62) ≤ lo ∧ lo < 2 ^ 62 ∧ -(2 ^ 62) ≤ hi ∧ hi < 2 ^ 62) (Pv : Addr → Nat → Hp → Prop) (hta : ∀ Q : List V → Hp → Prop, Q [.int lo, .int hi] H → ts σ H Q) (h0 : ∀ D, H D = none → Pv D 0 (upd H D (.lst [])))
    (hs : ∀ D (i : Nat) H, lo + (i : Int) < hi → Pv D i H → g (.int (lo + (i : Int))) (wipe σ vs) H fun σ2 H2 => wipe σ2 vs = wipe σ vs ∧ tt σ2 H2 fun b H3 =>
      if b = true then te σ2 H3 fun y H4 => ∃ acc, H4 D = some (.lst acc) ∧ acc.length < sizeLine ∧ Pv D (i + 1) (upd H4 D (.lst (acc ++ [y]))) else Pv D (i + 1) H3) (hd : ∀ D H, Pv D (hi - lo).toNat H → Q (.ref D) H) : tLc (iRng2 ts) g tt te vs σ H Q :=
  hta _ ⟨lo, hi, rfl, b1, fun D hD => lc_range (Pv D) (h0 D hD) (fun i H' hi' p => hs D i H' (by omega) p) (hd D)⟩
theorem w_lcR1 {vs : List Nat} {tt : TT} {hi : Int} (b1 : -(2 ^ 62) ≤ hi ∧ hi < 2 ^ 62) (Pv : Addr → Nat → Hp → Prop) (hta : ∀ Q : List V → Hp → Prop, Q [.int hi] H → ts σ H Q) (h0 : ∀ D, H D = none → Pv D 0 (upd H D (.lst [])))
    (hs : ∀ D (i : Nat) H, (i : Int) < hi → Pv D i H → g (.int (i : Int)) (wipe σ vs) H fun σ2 H2 => wipe σ2 vs = wipe σ vs ∧ tt σ2 H2 fun b H3 =>
      if b = true then te σ2 H3 fun y H4 => ∃ acc, H4 D = some (.lst acc) ∧ acc.length < sizeLine ∧ Pv D (i + 1) (upd H4 D (.lst (acc ++ [y]))) else Pv D (i + 1) H3) (hd : ∀ D H, Pv D hi.toNat H → Q (.ref D) H) : tLc (iRng1 ts) g tt te vs σ H Q :=
  hta _ ⟨hi, rfl, b1.1, b1.2, fun D hD => lc_range (Pv D) (h0 D hD) (fun i H' hi' p => by
    have e0 : (0 : Int) + (i : Int) = (i : Int) := Int.zero_add _
    rw [e0]
    exact hs D i H' (by omega) p) (hd D)⟩
end

/-- a statement, then the rest: what stands between is said once -/
theorem w_cut {σ : St} {H : Hp} {D : Ends} {t u : TS} (Mid : St → Hp → Prop) (h1 : t { D with nx := Mid } σ H) (h2 : ∀ σ' H', Mid σ' H' → u D σ' H') : C8.tCut t u D σ H := ⟨Mid, h1, h2⟩
/-! ### rules whose reading names the written part itself -/
section
variable {X : Cx} {K : PySem.W.Frag}
theorem pe_fldK {e : Expr} {f : Str} {ta : TE} {pos : Pos} (he : PE X e ta) (hb : attributeBase e f X.env (eval e X.env) = eval e X.env := by rfl) (hK : X.K = K := by rfl) : PE X (.Attribute e f pos) (tFld K ta f) := by
  subst hK
  exact pe_fld he hb
theorem ps_fldK {o value : Expr} {f : Str} {ta tv : TE} {pos pos' : Pos} (ha : PE X o ta) (hv : PE X value tv) (hs : swapsWith value (some (.Attribute o f pos')) pos.line X.env = pure false := by rfl) (hK : X.K = K := by rfl) : PS X (.Assign [.Attribute o f pos'] value pos) (sFld K ta tv f) := by
  subst hK
  exact ps_fld ha hv hs
theorem ps_fldaugK {o value : Expr} {f : Str} {ta tv : TE} {pos tpos : Pos} {op : Operator} {rd : V → V → Hp → VK → Prop} (ha : PE X o ta) (hv : PE X value tv) (hop : InOp X op rd) (hK : X.K = K := by rfl) : PS X (.AugAssign (.Attribute o f tpos) op value pos) (sFldAug K ta tv rd f) := by
  subst hK
  exact ps_fldaug ha hv hop
theorem ix_listK (hK : X.K = K := by rfl) : IxR X (rIxL K) := by
  subst hK
  exact ix_list
theorem ix_tupK (hK : X.K = K := by rfl) : IxR X (rIxT K) := by
  subst hK
  exact ix_tup
theorem sl_listK (hK : X.K = K := by rfl) : SlR X (rSlL K) := by
  subst hK
  exact sl_list
theorem sl_tupK (hK : X.K = K := by rfl) : SlR X (rSlT K) := by
  subst hK
  exact sl_tup
theorem call_lenK (hK : X.K = K := by rfl) : CallR X (.builtin "len") (rLen K) := by
  subst hK
  exact call_lenQ
theorem op_eqDK (hu : X.A.units + 64 < cLine) (hK : X.K = K := by rfl) : OpR X (compareOp .Eq) (rEqD K) := by
  subst hK
  exact op_eqD hu
theorem op_neDK (hu : X.A.units + 64 < cLine) (hK : X.K = K := by rfl) : OpR X (compareOp .NotEq) (rNeD K) := by
  subst hK
  exact op_neD hu
theorem op_inK (hK : X.K = K := by rfl) : OpR X (compareOp .In) (rIn K false) := by
  subst hK
  exact op_in_seq
theorem op_niK (hK : X.K = K := by rfl) : OpR X (compareOp .NotIn) (rIn K true) := by
  subst hK
  exact op_notIn_seq
theorem pi_listK {tg l : Expr} {tl : TE} (hl : PE X l tl) (hK : X.K = K := by rfl) : PI X tg l (iList K tl) := by
  subst hK
  exact pi_list hl
theorem pi_tupK {tg l : Expr} {tl : TE} (hl : PE X l tl) (hK : X.K = K := by rfl) : PI X tg l (iTup K tl) := by
  subst hK
  exact pi_tup hl
theorem pg_tupK {es : List Expr} {k : Nat} {t : TGs} {n : Nat} {pos : Pos} (hc : X.calm = true) (h : PGs X es t) (hn : (assignEach es X.env).length = n := by rfl) (hst : (assignEach es X.env).findIdx? (·.1) = none := by rfl) (hK : X.K = K := by rfl) : PG X (.Tuple es k pos) (gTup K n t) := by
  subst hK
  exact pg_tup hc h hn hst
theorem pt_truthK {a : Expr} {ta : TE} (ha : PE X a ta) (he : ∀ whole, isTrue a X.env whole = (do let v ← whole; standAt a.pos; holding [v] (truthy v)) := by intro _; rfl) (hK : X.K = K := by rfl) : PT X a (fun σ H Q => ta σ H fun x H' => ∃ k, TruV K x H' k ∧ Q k H') := by
  subst hK
  exact pt_truth ha he
theorem call_isiK (hK : X.K = K := by rfl) : CallR X (.builtin "isinstance") (rIsi K) := by
  subst hK
  exact call_isi
variable {o e : Expr} {es : List Expr} {to : TE} {t : TA} {name : Str} {apos cpos : Pos} {T id : String} {r : V → List V → Hp → VK → Prop}
theorem pe_bm0K (pa : PlainAttrs T) (slot : Slot T name id) (hty : typeOf (.builtin id) = pure (.type "method_descriptor")) (hm : MtR X id r) (ho : PE X o to)
    (hbase : attributeBase o name X.env (eval o X.env) = eval o X.env := by rfl) (hline : (apos.endLine == cpos.line) = true := by rfl) (hK : X.K = K := by rfl) : PE X (.Call (.Attribute o name apos) [] [] cpos) (tBM0 K T r to) := by
  subst hK
  exact pe_bm0 pa slot hty hm ho hbase hline
theorem pe_bmK (pa : PlainAttrs T) (slot : Slot T name id) (hty : typeOf (.builtin id) = pure (.type "method_descriptor")) (hm : MtR X id r) (ho : PE X o to) (ha : PA X (e :: es) t)
    (hb : attributeBase o name X.env (eval o X.env) = eval o X.env := by rfl)
    (hf : ((backTo cpos (starEach (e :: es) X.env)).all (fun x => !x.1) && (backToKw cpos (keywordEach [] X.env)).all (fun x => x.1.isSome) && decide ((e :: es).length + ([] : List Keyword).length + (if ([] : List Keyword).isEmpty then 0 else 1) < 30)) = true := by rfl)
    (hl : (apos.endLine == cpos.line) = true := by rfl) (h1 : starEach (e :: es) X.env = (false, eval e X.env) :: starEach es X.env := by rfl) (h2 : (backTo cpos (starEach es X.env)).any (·.1) = false := by rfl) (hK : X.K = K := by rfl) :
    PE X (.Call (.Attribute o name apos) (e :: es) [] cpos) (tBM K T r to t) := by
  subst hK
  exact pe_bm pa slot hty hm ho ha hb hf hl h1 h2
end
section
variable {H B : Hp} {L L' : List (Addr × HO)} {l : Addr} {y a b c d e : V} {r : List V} {R : Hp → Prop}
theorem w_set0 (hs : Hs B L H) (h : Put L l (.lst (a :: r)) (.lst (y :: r)) L') (q : ∀ H', Hs B L' H' → R H') : rSetL (.ref l) (.int 0) y H R := w_setL (k := 0) hs h rfl (by simp) q
theorem w_set1 (hs : Hs B L H) (h : Put L l (.lst (a :: b :: r)) (.lst (a :: y :: r)) L') (q : ∀ H', Hs B L' H' → R H') : rSetL (.ref l) (.int 1) y H R := w_setL (k := 1) hs h rfl (by simp) q
theorem w_set2 (hs : Hs B L H) (h : Put L l (.lst (a :: b :: c :: r)) (.lst (a :: b :: y :: r)) L') (q : ∀ H', Hs B L' H' → R H') : rSetL (.ref l) (.int 2) y H R := w_setL (k := 2) hs h rfl (by simp) q
theorem w_set3 (hs : Hs B L H) (h : Put L l (.lst (a :: b :: c :: d :: r)) (.lst (a :: b :: c :: y :: r)) L') (q : ∀ H', Hs B L' H' → R H') : rSetL (.ref l) (.int 3) y H R := w_setL (k := 3) hs h rfl (by simp) q
theorem w_set4 (hs : Hs B L H) (h : Put L l (.lst (a :: b :: c :: d :: e :: r)) (.lst (a :: b :: c :: d :: y :: r)) L') (q : ∀ H', Hs B L' H' → R H') : rSetL (.ref l) (.int 4) y H R := w_setL (k := 4) hs h rfl (by simp) q
end
theorem w_eqB {a b : Bool} {H : Hp} {Q : VK} (q : Q (.bl (decide (a = b))) H) : rEq (.bl a) (.bl b) H Q := ⟨rfl, by
  have e : decide (V.bl a = V.bl b) = decide (a = b) := by cases a <;> cases b <;> decide
  rw [e]
  exact q⟩
/-- arguments that are known -/
def kTA (vs : List V) : TA := fun _ H Q => Q vs H
theorem w_for1 {σ : St} {H : Hp} {D : Ends} {ta : TA} {tb : TS} {g : TG} (q : ta σ H fun vs H1 => tFor (iRng1 (kTA vs)) g tb D σ H1) : tFor (iRng1 ta) g tb D σ H := q
theorem w_for2 {σ : St} {H : Hp} {D : Ends} {ta : TA} {tb : TS} {g : TG} (q : ta σ H fun vs H1 => tFor (iRng2 (kTA vs)) g tb D σ H1) : tFor (iRng2 ta) g tb D σ H := q
/-! ### an own exception -/
section
variable {X : Cx} {C a : Addr}
/-- X.__init__(self, ..) of an own class that has its __init__ from ValueError -/
theorem pe_ownInit {x : Str} {e : Expr} {es : List Expr} {ta : TA} {p1 p2 pos : Pos} {pl : Sem Bool} (hg : Gl X x) (hm : X.mg x = some (.ref C)) (r : CRead X.K C (.type "type")) (cv : PySem.W.findCls X.K (.ref C) (.type "type") "__init__" = some (.val (.builtin "ValueError.__init__"))) (ha : PA X (e :: es) ta)
    (hdb : (x == ("__debug__" : Str)) = false := by decide)
    (hc : eval (.Call (.Attribute (.Name x p1) "__init__" p2) (e :: es) [] pos) X.env = (do
      let ov ← eval (.Name x p1) X.env
      standAt p2.atName
      let (f, first) ← holding [ov] (getMethod ov "__init__" pl)
      callWith pos f first (backTo pos (starEach (e :: es) X.env)) (backToKw pos (keywordEach [] X.env))) := by rfl)
    (he : starEach (e :: es) X.env = (false, eval e X.env) :: starEach es X.env := by rfl) (hpl : (backTo pos (starEach es X.env)).any (·.1) = false := by rfl) :
    PE X (.Call (.Attribute (.Name x p1) "__init__" p2) (e :: es) [] pos) (tVeI X.K ta) := by
  constructor
  intro pins s σ H Q I h
  refine PySem.W.methodCall_KW ?_ hc
  refine ld_glob I hg hm ?_ hdb
  refine PySem.W.method_cls I.kIn r.ga (PySem.W.cls_value I.kIn r.rd cv rfl ?_)
  have fin : ∀ (us : List Value) (s1 : Shared), AP X pins σ (fun vs H1 => ∃ (a C : Addr) (ws : List V), vs = .ref a :: ws ∧ ws.length ≤ 1000 ∧ OexC X.K C ∧ H1 a = some (exo a C none) ∧ Q .non H1) us s1 → wpAny (model X.prog X.w) X.A (call (.builtin "ValueError.__init__") us) (EP X pins σ Q) X.xe s1 := by
    rintro us s1 ⟨vs, H1, I1, r1, a', C', ws, rfl, hw, hT, hE, q1⟩
    match us, r1 with
    | u0 :: ur, .cons r0 rr =>
      cases (show u0 = Value.ref a' from r0)
      have hn : ur.length ≤ sizeLine := by
        rw [← Paired.length rr, sizeLine_eq]
        omega
      exact oinit_ok hT I1 hE hn fun _ J => ⟨.non, _, J, rfl, q1⟩
  exact PyProof.Rows.callWith_method1 (thn (ha.run pos pins _ σ H _ (I.tok _) h) fin) he hpl
/-- o.m(e), what it lets out by the slots -/
def tMethQ (C : Addr) (m : Str) (sp : Sp) (E : St → XK) (ta : TE) (t : TA) : TE := fun σ H Q => ta σ H fun x H1 => ∃ a dx fs, x = .ref a ∧ H1 a = some (.ins C dx fs) ∧ fs.lookup m = none ∧ t σ H1 fun vs H2 => sp (x :: vs) H2 Q (E σ)
theorem pe_methQ {CX : CXT} {k : Nat} {f : Addr} {fd : FuncData} {ps : List Str} {sp : Sp} {E : St → XK} {m : Str} {pos apos : Pos} {e o : Expr} {es : List Expr} {ta : TE} {t : TA} {pl : Sem Bool} (ho : PE X o ta) (c : Cls X.K C) (hm : Meth X.K C m f) (F : FnOk X.prog X.w X.K X.mg X.base CX k f fd ps sp)
    (hr : Room k X.A) (hb : Binds X.K fd ps []) (hx : ∀ σ, PassesAt CX X σ (E σ)) (ha : PA X (e :: es) t) (h1 : starEach (e :: es) X.env = (false, eval e X.env) :: starEach es X.env := by rfl) (h2 : (backTo pos (starEach es X.env)).any (·.1) = false := by rfl)
    (h3 : eval (.Call (.Attribute o m apos) (e :: es) [] pos) X.env = (do
      let ov ← eval o X.env
      standAt apos.atName
      let (f, first) ← holding [ov] (getMethod ov m pl)
      callWith pos f first (backTo pos (starEach (e :: es) X.env)) (backToKw pos (keywordEach [] X.env))) := by rfl) :
    PE X (.Call (.Attribute o m apos) (e :: es) [] pos) (tMethQ C m sp E ta t) := by
  constructor
  intro pins s σ H Q I h
  refine PySem.W.methodCall_KW (pl := pl) (thn (ho.run pins s σ H _ I h) ?_) h3
  rintro u s1 ⟨x, H1, I1, rx, a, dx, fs, rfl, ea, l, q⟩
  cases (show u = Value.ref a from rx)
  refine getmeth_ok I1 ea c hm l (PySem.W.callWith_K (first := [.ref a]) (h₀ := X.base) I.ok.mod.kin hm.kp (thn (ha.run pos pins s1 σ H1 _ I1 q) ?_) h1 h2)
  rintro us s2 ⟨vs, H2, I2, r, q2⟩
  exact ⟨I2.kIn, run_fnS (us := .ref a :: us) (vs := .ref a :: vs) F hr hb (hx σ) I2 (.cons rfl r) q2⟩
/-- what an own exception's class D must have for isinstance -/
structure XcC (K : PySem.W.Frag) (D : Addr) : Prop where
  cl : (PySem.W.clsIn K D).isSome = true
  ga : PySem.W.findIn K (.ref D) "__getattribute__" = some (some (.builtin "BaseException.__getattribute__"))
  gt : PySem.W.findIn K (.ref D) "__getattr__" = some none
  ex : PySem.W.subIn K (.ref D) (.type "BaseException") = some true
  cs : PySem.W.findIn K (.ref D) "__class__" = some (some (.builtin "object.__class__"))
  gd : PySem.W.specialIn K (.builtin "object.__class__") "__get__" = some (some (.builtin "getset_descriptor.__get__"))
  tk : PySem.W.takesIn K (.builtin "object.__class__") = some true
  mo : PySem.W.mroIn K D (.type "object") = some true
theorem kit_own {K : PySem.W.Frag} {D C : Addr} {b : Bool} (n : D ≠ C) (hc : PySem.W.isClsIn K C = true) (ht : PySem.W.typeIn K (.ref C) = some (.type "type")) (h : PySem.W.subIn K (.ref D) (.ref C) = some b) : PySem.W.kitOne K (.ref D) (.ref C) = some b := by
  have e : (Value.ref D == Value.ref C) = false := beq_eq_false_iff_ne.mpr fun q => n (Value.ref.inj q)
  have hc' : (PySem.W.clsIn K C).isSome = true := hc
  unfold PySem.W.kitOne PySem.W.kitCls
  simp [e, hc', ht, h]
theorem kit_ownT {K : PySem.W.Frag} {D C : Addr} (hc : PySem.W.isClsIn K C = true) (ht : PySem.W.typeIn K (.ref C) = some (.type "type")) (h : PySem.W.subIn K (.ref D) (.ref C) = some true) : PySem.W.kitOne K (.ref D) (.ref C) = some true := by
  by_cases e : D = C
  · subst e
    unfold PySem.W.kitOne
    rw [if_pos (beq_self_eq_true _)]
  · exact kit_own e hc ht h
/-- isinstance(e, c) of an exception that the suite holds, with its dict -/
def rIsX (K : PySem.W.Frag) (a : Addr) (cls : Value) (d : Option Addr) : List V → Hp → VK → Prop := fun xs H Q => ∃ (D C dd : Addr) (fs : List (Str × V)) (b : Bool), cls = .ref D ∧ d = some dd ∧ H dd = some (.xd fs) ∧ xs = [.ref a, .ref C] ∧ XcC K D ∧ PySem.W.kitOne K (.ref D) (.ref C) = some b ∧ Q (.bl b) H
theorem call_isX {oe : Obj} {cls : Value} {d : Option Addr} {pn : List (Addr × Obj)} (hz : Zc cls d oe) (hf : ∃ vs, oe.data = .fields vs) : CallR (X.suite a ((a, oe) :: pn)) (.builtin "isinstance") (rIsX X.K a cls d) := by
  rintro pins s σ H xs us Q I r ⟨D, C, dd, fs, b, rfl, rfl, hd, rfl, hD, hk, q⟩
  obtain ⟨u1, u2, rfl, r1, r2⟩ := vals2 r
  cases (show u1 = Value.ref a from r1)
  cases (show u2 = Value.ref C from r2)
  obtain ⟨ha, _⟩ := I.pin (a, oe) (List.mem_append_left _ List.mem_cons_self)
  obtain ⟨vs, hv⟩ := hf
  obtain ⟨mA, hns, _⟩ := (show ObjOk X.prog X.w H s.heap dd (.xd fs) from I.hok dd _ hd)
  obtain ⟨od, ho, _⟩ := lookIn_ns hns
  have J : PySem.W.InstAt s.heap a oe D (some od) := ⟨ha, hz.1, by unfold PySem.W.notCls; rw [hv] <;> rfl, by rw [hz.2]; exact ho⟩
  exact PySem.W.kia_one (PySem.W.kitx_exc hD.cl hD.ga hD.gt hD.ex hD.cs hD.gd hD.tk hD.mo) I.kIn J hk (fun z => nomatch z) fun tk => ⟨.bl b, H, I.kept (t' := tk) fun _ _ z => z, rfl, q⟩
end
section
variable {K : PySem.W.Frag} {σ : St} {H : Hp} {Q : VK} {D : Ends} {te tv to : TE} {ts : TA} {f : Str} {v x y : V} {C a : Addr} {B : Hp} {L L' : List (Addr × HO)}
def RVe (K : PySem.W.Frag) (vs : List V) (H : Hp) (Q : VK) : Prop := ∃ (a C : Addr) (ws : List V), vs = .ref a :: ws ∧ ws.length ≤ 1000 ∧ OexC K C ∧ H a = some (exo a C none) ∧ Q .non H
theorem w_vei (q : ts σ H fun vs H1 => RVe K vs H1 Q) : tVeI K ts σ H Q := q
theorem w_ve {ws : List V} (hl : ws.length ≤ 1000) (hT : OexC K C) (h : H a = some (exo a C none)) (q : Q .non H) : RVe K (.ref a :: ws) H Q := ⟨a, C, ws, rfl, hl, hT, h, q⟩
def ROst (K : PySem.W.Frag) (f : Str) (y x : V) (H : Hp) (R : Hp → Prop) : Prop := ∃ a C : Addr, x = .ref a ∧ OexC K C ∧ PySem.W.findIn K (.ref C) f = some none ∧
  ((H a = some (exo a C none) ∧ ∀ dx, H dx = none → dx ≠ a → R (upd (upd H dx (exd dx [(f, y)])) a (exo a C (some dx)))) ∨
    ∃ (dx : Addr) (fs : List (Str × V)), H a = some (exo a C (some dx)) ∧ H dx = some (exd dx fs) ∧ fs.length ≤ 900 ∧ R (upd H dx (exd dx ((f, y) :: fs))))
theorem w_ost0 (q : te σ H fun y H1 => to σ H1 fun x H2 => ROst K f y x H2 (D.nx σ)) : tOst K f to te D σ H := q
theorem w_ost {R : Hp → Prop} (hs : Hs B ((a, exo a C none) :: L) H) (hT : OexC K C) (hn : PySem.W.findIn K (.ref C) f = some none) (q : ∀ dx H', Hs B ((dx, exd dx [(f, y)]) :: (a, exo a C (some dx)) :: L) H' → R H') : ROst K f y (.ref a) H R :=
  ⟨a, C, rfl, hT, hn, .inl ⟨hs.g0, fun dx hd _ => q dx _ ((hs.new hd).p1 _)⟩⟩
/-- the making of an own exception -/
def MkO (C : Addr) (sp : Sp) (vs dvs : List V) (H1 : Hp) (Q : XK) : Prop := vs.length ≤ 1000 ∧ ∀ a, H1 a = none → sp (.ref a :: (vs ++ dvs)) (upd H1 a (exo a C none))
  (fun v H2 => v = .non ∧ ∃ (d : Addr) (fs : List (Str × V)), H2 a = some (exo a C (some d)) ∧ H2 d = some (exd d fs) ∧ H1 d = none ∧ Q (.ref C) (some d) (upd (del H2 a) d (.xd fs))) (fun _ _ _ => False)
theorem w_mko {sp : Sp} {dvs : List V} {Q : XK} (q : ts σ H fun vs H1 => MkO C sp vs dvs H1 Q) : tMkO C sp dvs ts σ H Q := by
  revert q
  unfold tMkO MkO
  exact id
/-- what an own __init__ with one field promises -/
def spXinit (C : Addr) (f : Str) (ok : V → Prop) : Sp := fun vs H Q _ => ∃ (B : Hp) (e : Addr) (v : V), vs = [.ref e, v] ∧ Hs B [(e, exo e C none)] H ∧ ok v ∧ ∀ dx H', Hs B [(dx, exd dx [(f, v)]), (e, exo e C (some dx))] H' → Q .non H'
theorem w_mkX {ok : V → Prop} {Q : XK} (hs : Hs B L H) (hv : ok v) (q : ∀ d H', Hs B ((d, .xd [(f, v)]) :: L) H' → Q (.ref C) (some d) H') : MkO C (spXinit C f ok) [v] [] H Q := by
  refine ⟨by simp, fun a ha => ?_⟩
  have h1 := hs.new (o := exo a C none) ha
  obtain ⟨_, h2, back⟩ := h1.frame [(a, exo a C none)]
  refine ⟨_, a, v, rfl, h2, hv, fun dx H2 h3 => ⟨rfl, dx, [(f, v)], h3.g1, h3.g0, ?_, ?_⟩⟩
  · have n : dx ≠ a := fun e => by
      have := h3.nd
      rw [e] at this
      simp at this
    have z := h3.out _ List.mem_cons_self
    have nm : dx ∉ [(a, exo a C none)].map (·.1) := by
      simp only [List.map_cons, List.map_nil, List.mem_singleton]
      exact n
    have z2 : upd H a (exo a C none) dx = none := (around_out nm).symm.trans z
    rwa [upd_ne n] at z2
  · have h4 := back _ _ h3
    have nd := h4.nd
    have hda : dx ≠ a := fun e => by
      rw [e] at nd
      simp at nd
    have nL : ∀ e ∈ L, e.1 ≠ dx ∧ e.1 ≠ a := fun e he => by
      simp only [List.cons_append, List.nil_append, List.map_cons, List.nodup_cons, List.mem_cons, not_or] at nd
      refine ⟨fun z => nd.1.2 ?_, fun z => nd.2.1 ?_⟩
      · rw [← z]
        exact List.mem_map.mpr ⟨e, he, rfl⟩
      · rw [← z]
        exact List.mem_map.mpr ⟨e, he, rfl⟩
    have ba : B a = none := hs.same.free ha
    have bd : B dx = none := h4.out _ List.mem_cons_self
    refine q dx _ ⟨fun b o e => ?_, ?_, fun e he => ?_, fun e he => ?_⟩
    · have n1 : b ≠ dx := fun z => by
        rw [z, bd] at e
        cases e
      have n2 : b ≠ a := fun z => by
        rw [z, ba] at e
        cases e
      rw [upd_ne n1, del_ne n2]
      exact h4.same b o e
    · simp only [List.cons_append, List.nil_append, List.map_cons, List.nodup_cons, List.mem_cons, not_or] at nd ⊢
      exact ⟨nd.1.2, nd.2.2⟩
    · rcases List.mem_cons.mp he with rfl | he
      · exact bd
      · exact hs.out e he
    · rcases List.mem_cons.mp he with rfl | he
      · exact upd_same
      · obtain ⟨n1, n2⟩ := nL e he
        rw [upd_ne n1, del_ne n2]
        exact h4.at_ e (List.mem_cons_of_mem _ (List.mem_cons_of_mem _ he))
theorem w_methQ {sp : Sp} {E : St → XK} {m : Str} {ta : TE} (q : ta σ H fun x H1 => Rc m C x H1 (ts σ H1 fun vs H2 => sp (x :: vs) H2 Q (E σ))) : tMethQ C m sp E ta ts σ H Q := by
  revert q
  unfold tMethQ Rc
  exact id
theorem w_isX {d : Addr} {fs : List (Str × V)} {C' : Addr} {b : Bool} (h : H d = some (.xd fs)) (hx : XcC K C) (hk : PySem.W.kitOne K (.ref C) (.ref C') = some b) (q : Q (.bl b) H) : rIsX K a (.ref C) (some d) [.ref a, .ref C'] H Q := ⟨C, C', d, fs, b, rfl, rfl, h, rfl, hx, hk, q⟩
def RXf (a : Addr) (cls : Value) (d : Option Addr) (C : Addr) (f : Str) (x : V) (H : Hp) (Q : VK) : Prop := x = .ref a ∧ cls = .ref C ∧ ∃ (dd : Addr) (fs : List (Str × V)) (v : V), d = some dd ∧ H dd = some (.xd fs) ∧ fs.lookup f = some v ∧ Q v H
theorem w_xf0 {cls : Value} {d : Option Addr} (q : te σ H fun x H1 => RXf a cls d C f x H1 Q) : tXf a cls d C f te σ H Q := q
theorem w_xf {d : Addr} {fs : List (Str × V)} (h : H d = some (.xd fs)) (hl : fs.lookup f = some v) (q : Q v H) : RXf a (.ref C) (some d) C f (.ref a) H Q := ⟨rfl, rfl, d, fs, v, rfl, h, hl, q⟩
theorem w_was {i : Nat} {ts : Addr → Value → Option Addr → TS} {Wout : WX} {d : Addr} (he : PySem.W.exmOne K (.ref C) (.ref C) = some true)
    (q : ∀ e, H e = none → ts e (.ref C) (some d) { nx := fun σ' H' => D.nx (σ'.set i none) H', rt := D.rt, bk := fun σ' H' => D.bk (σ'.set i none) H', ct := fun σ' H' => D.ct (σ'.set i none) H' } (σ.set i (some (.ref e))) H) :
    wAs K (.ref C) i ts Wout D (.ref C) (some d) σ H := ⟨true, he, fun _ e h => q e h, fun z => Bool.noConfusion z⟩
theorem w_eqSt {a b : Str} (q : Q (.bl (decide (a = b))) H) : rEq (.str a) (.str b) H Q := ⟨rfl, by
  have e : decide (V.str a = V.str b) = decide (a = b) := by
    by_cases h : a = b
    · rw [decide_eq_true h, decide_eq_true (congrArg V.str h)]
    · rw [decide_eq_false h, decide_eq_false fun q => h (V.str.inj q)]
  rw [e]
  exact q⟩
/-- texts of an f-string -/
theorem w_js {t : TE} {us : List TE} {acc : Str} {Q : Str → Hp → Prop} (q : t σ H fun x H1 => ∃ y : Str, x = .str y ∧ (acc ++ y).length ≤ sizeLine ∧ tJs us (acc ++ y) σ H1 Q) : tJs (t :: us) acc σ H Q := q
theorem w_js0 {acc : Str} {Q : Str → Hp → Prop} (q : Q acc H) : tJs [] acc σ H Q := q
theorem w_js1 {s acc : Str} {R : Str → Prop} (h : (acc ++ s).length ≤ sizeLine) (q : R s) : ∃ y : Str, V.str s = .str y ∧ (acc ++ y).length ≤ sizeLine ∧ R y := ⟨s, rfl, h, q⟩
def RFmt (x : V) (H : Hp) (Q : VK) : Prop := (∃ y : Str, x = .str y ∧ y.length ≤ sizeLine ∧ Q (.str y) H) ∨ ∃ i : Int, x = .int i ∧ i.natAbs.log2 < 1920 ∧ Q (.str (toString i)) H
theorem w_fmt (q : te σ H fun x H1 => RFmt x H1 Q) : tFmt te σ H Q := q
theorem w_fmtS {s : Str} (h : s.length ≤ sizeLine) (q : Q (.str s) H) : RFmt (.str s) H Q := .inl ⟨s, rfl, h, q⟩
theorem w_fmtI {n : Int} (h : n.natAbs < 2 ^ 64) (q : Q (.str (toString n)) H) : RFmt (.int n) H Q := .inr ⟨n, rfl, Nat.lt_of_lt_of_le (PySem.Flt.log2_lt_of (by decide) h) (by decide), q⟩
def tRaiseX (W : WX) (t : St → Hp → XK → Prop) : TS := fun _ σ H => t σ H fun cls d H' => W cls d σ H'
theorem ps_raiseQ {X : Cx} {W : WX} {e : Expr} {t : St → Hp → XK → Prop} {pos : Pos} (hc : X.calm = true) (tk : Takes X W) (he : PMk X e t) : PS X (.Raise (some e) none pos) (tRaiseX W t) := ps_raise hc tk he
theorem w_raise {W : WX} {t : St → Hp → XK → Prop} (q : t σ H fun cls d H' => W cls d σ H') : tRaiseX W t D σ H := q
end

/-! ### data that nobody changes: scalars and tuples -/
mutual
inductive Im (K : PySem.W.Frag) (H : Hp) : V → PyData → Prop
  | non : Im K H .non .none
  | bl (b : Bool) : Im K H (.bl b) (.bool b)
  | int (i : Int) : Im K H (.int i) (.int i)
  | str (x : Str) : Im K H (.str x) (.str x)
  | tup {a : Addr} {xs : List V} {ds : List PyData} : H a = some (.tup xs) → ImAll K H xs ds → Im K H (.ref a) (.tuple ds)
inductive ImAll (K : PySem.W.Frag) (H : Hp) : List V → List PyData → Prop
  | nil : ImAll K H [] []
  | cons {v : V} {vs : List V} {d : PyData} {ds : List PyData} : Im K H v d → ImAll K H vs ds → ImAll K H (v :: vs) (d :: ds)
end
section
variable {K : PySem.W.Frag} {H H' : Hp}
mutual
theorem Im.dp : ∀ {d : PyData} {v : V}, Im K H v d → Dp K H v d
  | .none, _, h => by cases h; exact .non
  | .bool _, _, h => by cases h; exact .bl _
  | .int _, _, h => by cases h; exact .int _
  | .str _, _, h => by cases h; exact .str _
  | .tuple _, _, h => by
    cases h with
    | tup h1 h2 => exact .tup (SqT.of h1) h2.dp
  | .list _, _, h => nomatch h
  | .dict _, _, h => nomatch h
theorem ImAll.dp : ∀ {ds : List PyData} {vs : List V}, ImAll K H vs ds → DpAll K H vs ds
  | [], _, h => by cases h; exact .nil
  | _ :: _, _, h => by
    cases h with
    | cons h1 h2 => exact .cons h1.dp h2.dp
end
mutual
theorem Im.mono (e : ∀ a xs, H a = some (.tup xs) → H' a = some (.tup xs)) : ∀ {d : PyData} {v : V}, Im K H v d → Im K H' v d
  | .none, _, h => by cases h; exact .non
  | .bool _, _, h => by cases h; exact .bl _
  | .int _, _, h => by cases h; exact .int _
  | .str _, _, h => by cases h; exact .str _
  | .tuple _, _, h => by
    cases h with
    | tup h1 h2 => exact .tup (e _ _ h1) (h2.mono e)
  | .list _, _, h => nomatch h
  | .dict _, _, h => nomatch h
theorem ImAll.mono (e : ∀ a xs, H a = some (.tup xs) → H' a = some (.tup xs)) : ∀ {ds : List PyData} {vs : List V}, ImAll K H vs ds → ImAll K H' vs ds
  | [], _, h => by cases h; exact .nil
  | _ :: _, _, h => by
    cases h with
    | cons h1 h2 => exact .cons (h1.mono e) (h2.mono e)
end
theorem Im.same (e : Same H H') {d : PyData} {v : V} (h : Im K H v d) : Im K H' v d := h.mono fun _ _ => e _ _
theorem ImAll.same (e : Same H H') {ds : List PyData} {vs : List V} (h : ImAll K H vs ds) : ImAll K H' vs ds := h.mono fun _ _ => e _ _
theorem ImAll.snoc {ds : List PyData} {vs : List V} {d : PyData} {v : V} (h : ImAll K H vs ds) (h1 : Im K H v d) : ImAll K H (vs ++ [v]) (ds ++ [d]) := by
  induction vs generalizing ds with
  | nil =>
    cases h
    exact .cons h1 .nil
  | cons w ws ih =>
    cases h with
    | cons a b => exact .cons a (ih b)
theorem ImAll.len : ∀ {ds : List PyData} {vs : List V}, ImAll K H vs ds → vs.length = ds.length
  | [], _, h => by cases h; rfl
  | _ :: _, _, h => by
    cases h with
    | cons _ b => exact congrArg (· + 1) b.len
/-- what is data stays data where a list changes -/
theorem tup_but {p : Addr} {o o' : HO} (h : H p = some o) (n : ∀ xs, o ≠ .tup xs) (a : Addr) (xs : List V) (e : H a = some (.tup xs)) : upd H p o' a = some (.tup xs) := by
  have d : a ≠ p := fun z => by
    rw [z, h] at e
    exact n xs (Option.some.inj e)
  rw [upd_ne d]
  exact e
theorem Hs.base {B B2 : Hp} {L : List (Addr × HO)} (e : Same B B2) (h : Hs B2 L H) : Hs B L H := ⟨e.trans h.same, h.nd, fun x hx => e.free (h.out x hx), h.at_⟩
end
section
variable {K : PySem.W.Frag} {σ : St} {H : Hp} {Q : VK} {te : TE} {ts : TA}
/-- [e for i in range(lo, hi)], each e data that is made anew -/
theorem w_lcI {vs : List Nat} {j : Nat} {lo hi : Int} (b1 : -(2 ^ 62) ≤ lo ∧ lo < 2 ^ 62 ∧ -(2 ^ 62) ≤ hi ∧ hi < 2 ^ 62) (hz : hi - lo ≤ 1000000) (ds : Nat → PyData) (hta : ∀ Q : List V → Hp → Prop, Q [.int lo, .int hi] H → ts σ H Q)
    (hw : ∀ v, wipe ((wipe σ vs).set j (some v)) vs = wipe σ vs)
    (he : ∀ (i : Nat) (H' : Hp) (Q' : VK), lo + (i : Int) < hi → Same H H' → (∀ y H3, Same H' H3 → Im K H3 y (ds i) → Q' y H3) → te ((wipe σ vs).set j (some (.int (lo + (i : Int))))) H' Q')
    (hq : ∀ D acc H', Hs H [(D, .lst acc)] H' → ImAll K H' acc ((List.range (hi - lo).toNat).map ds) → Q (.ref D) H') : tLc (iRng2 ts) (gName j) tYes te vs σ H Q := by
  refine w_lcR b1 (fun D i H' => ∃ acc, Hs H [(D, .lst acc)] H' ∧ ImAll K H' acc ((List.range i).map ds)) hta (fun D hD => ⟨[], (Hs.start H).new hD, .nil⟩) ?_ ?_
  · rintro D i H' hi' ⟨acc, h1, h2⟩
    refine ⟨hw _, ?_⟩
    refine w_yes (iteT ?_)
    refine he i H' _ hi' h1.same fun y H3 s3 hy => ?_
    have hD : H3 D = some (.lst acc) := s3 _ _ h1.g0
    have hl := h2.len
    rw [List.length_map, List.length_range] at hl
    refine ⟨acc, hD, szl (by omega), acc ++ [y], ?_, ?_⟩
    · have h3 : Hs H [(D, .lst acc)] H3 := ⟨h1.same.trans s3, h1.nd, h1.out, fun e he => s3 _ _ (h1.at_ e he)⟩
      exact h3.p0 _
    · rw [List.range_succ, List.map_append]
      exact ((h2.same s3).snoc hy).mono fun a xs => tup_but hD (fun _ z => by cases z) a xs
  · rintro D H' ⟨acc, h1, h2⟩
    exact hq D acc H' h1 h2
theorem w_lcI1 {vs : List Nat} {j : Nat} {hi : Int} (b1 : -(2 ^ 62) ≤ hi ∧ hi < 2 ^ 62) (hz : hi ≤ 1000000) (ds : Nat → PyData) (hta : ∀ Q : List V → Hp → Prop, Q [.int hi] H → ts σ H Q)
    (hw : ∀ v, wipe ((wipe σ vs).set j (some v)) vs = wipe σ vs)
    (he : ∀ (i : Nat) (H' : Hp) (Q' : VK), (i : Int) < hi → Same H H' → (∀ y H3, Same H' H3 → Im K H3 y (ds i) → Q' y H3) → te ((wipe σ vs).set j (some (.int (i : Int)))) H' Q')
    (hq : ∀ D acc H', Hs H [(D, .lst acc)] H' → ImAll K H' acc ((List.range hi.toNat).map ds) → Q (.ref D) H') : tLc (iRng1 ts) (gName j) tYes te vs σ H Q := by
  refine w_lcR1 b1 (fun D i H' => ∃ acc, Hs H [(D, .lst acc)] H' ∧ ImAll K H' acc ((List.range i).map ds)) hta (fun D hD => ⟨[], (Hs.start H).new hD, .nil⟩) ?_ ?_
  · rintro D i H' hi' ⟨acc, h1, h2⟩
    refine ⟨hw _, ?_⟩
    refine w_yes (iteT ?_)
    refine he i H' _ hi' h1.same fun y H3 s3 hy => ?_
    have hD : H3 D = some (.lst acc) := s3 _ _ h1.g0
    have hl := h2.len
    rw [List.length_map, List.length_range] at hl
    refine ⟨acc, hD, szl (by omega), acc ++ [y], ?_, ?_⟩
    · have h3 : Hs H [(D, .lst acc)] H3 := ⟨h1.same.trans s3, h1.nd, h1.out, fun e he => s3 _ _ (h1.at_ e he)⟩
      exact h3.p0 _
    · rw [List.range_succ, List.map_append]
      exact ((h2.same s3).snoc hy).mono fun a xs => tup_but hD (fun _ z => by cases z) a xs
  · rintro D H' ⟨acc, h1, h2⟩
    exact hq D acc H' h1 h2
theorem depth_all {n : Nat} : ∀ ds : List PyData, (∀ d ∈ ds, d.depth ≤ n) → PyData.depthAll ds ≤ n
  | [], _ => by simp [PyData.depthAll]
  | d :: ds, h => by
    have h1 := h d List.mem_cons_self
    have h2 := depth_all ds fun x hx => h x (List.mem_cons_of_mem _ hx)
    simp only [PyData.depthAll]
    omega
theorem lay_all : ∀ ds : List PyData, (∀ d ∈ ds, d.canLay0 = true) → PyData.canLayAll0 ds = true
  | [], _ => by simp [PyData.canLayAll0]
  | d :: ds, h => by
    have h1 := h d List.mem_cons_self
    have h2 := lay_all ds fun x hx => h x (List.mem_cons_of_mem _ hx)
    simp only [PyData.canLayAll0, h1, h2, Bool.and_self]
theorem shp_list {ds : List PyData} (h : ∀ d ∈ ds, d.canLay0 = true ∧ d.depth ≤ 60) : SeqAt.shaped (.list ds) = true := by
  have e := depth_all ds fun d hd => (h d hd).2
  have l := lay_all ds fun d hd => (h d hd).1
  unfold SeqAt.shaped PyData.canLay0 PyData.depth
  rw [l]
  simp only [Bool.true_and, decide_eq_true_eq]
  omega
/-- two lists of like data are equal -/
theorem w_eqL {p q : Addr} {xs ys : List V} {ds : List PyData} (hp : H p = some (.lst xs)) (hq : H q = some (.lst ys)) (h1 : ImAll K H xs ds) (h2 : ImAll K H ys ds) (h : ∀ d ∈ ds, d.canLay0 = true ∧ d.depth ≤ 60) (k : Q (.bl true) H) : rEqD K (.ref p) (.ref q) H Q :=
  ⟨_, _, .lst (SqL.of hp) h1.dp, .lst (SqL.of hq) h2.dp, shp_list h, shp_list h, by
    rw [SeqAt.eqv_refl _ (by have := shp_list h; unfold SeqAt.shaped at this; exact (Bool.and_eq_true_iff.mp this).1)]
    exact k⟩
theorem w_neL {p q : Addr} {xs ys : List V} {ds : List PyData} (hp : H p = some (.lst xs)) (hq : H q = some (.lst ys)) (h1 : ImAll K H xs ds) (h2 : ImAll K H ys ds) (h : ∀ d ∈ ds, d.canLay0 = true ∧ d.depth ≤ 60) (k : Q (.bl false) H) : rNeD K (.ref p) (.ref q) H Q :=
  ⟨_, _, .lst (SqL.of hp) h1.dp, .lst (SqL.of hq) h2.dp, shp_list h, shp_list h, by
    rw [SeqAt.eqv_refl _ (by have := shp_list h; unfold SeqAt.shaped at this; exact (Bool.and_eq_true_iff.mp this).1)]
    exact k⟩
theorem ima_str : ∀ xs : List Str, ImAll K H (xs.map V.str) (xs.map PyData.str)
  | [] => .nil
  | x :: xs => .cons (.str x) (ima_str xs)
end
end Hb

set_option Elab.async false
set_option maxRecDepth 100000
set_option maxHeartbeats 4000000
/-! An own exception's __init__ that says super().__init__(..): the def closes over its class. -/
namespace Hb
open PySem L2 ClX PySem.W PyProof.Rows

section
variable {X : Cx} {pins : List (Addr × Obj)} {σ : L2.St} {H : Hp} {s : Shared} {a C u : Addr} {A : Around} {E : Value → Shared → Prop}
theorem exo_upd {H : Hp} {a : Addr} {o : HO} (e : H a = some o) : upd H a o = H := by
  funext b
  by_cases hb : b = a
  · rw [hb, upd_same, e]
  · rw [upd_ne hb]
/-- ValueError's __init__ bound to the exception, called -/
theorem call_mw {us : List Value} {Q : Value → Shared → Prop} (T : OexC X.K C) (I : Inv X pins σ H s) (e : H a = some (exo a C none)) (hu : s.heap.get? u = some (kxs_mw "ValueError.__init__" a)) (hl : us.length ≤ sizeLine)
    (h : ∀ s', Inv X pins σ H s' → Q .none s') : wpAny (model X.prog X.w) A (call (.ref u) us) Q E s := by
  obtain ⟨nm, q, N, bs, bm, sn, sub, ab, col, dd, k0, k1, k2, k3, k5, hC, hbm⟩ := T.cls
  obtain ⟨t1, ho⟩ := exo_at I.hok e
  have hC' := I.kIn _ _ hC
  have FB := F.excBase_ValueError
  obtain ⟨hp, g, d, t, os⟩ := s
  refine wpAny_call (codeAny_of_tree ?_)
  show wpAny _ A.in1 (callAny (.ref u) ⟨us, []⟩) _ _ _
  simp only [callAny]
  refine wpAny_bind (wpAny_load hu ?_)
  simp only [show (Value.type "method-wrapper" == Value.type "method" || Value.type "method-wrapper" == Value.type "builtin_function_or_method" || Value.type "method-wrapper" == Value.type "method-wrapper") = true by decide, if_true]
  refine KFB.if_so (by decide) ?_
  refine wpAny_bind (check_bound_init FB.toExcCallFacts hC' ho rfl ?_)
  refine wpAny_bind (wpAny_pure (wpAny_pure ?_))
  refine ⟨plainId_quiet FB.init.plain _, codeAny_builtin FB.initEntry ?_⟩
  refine exc_init_tree (cls := .ref C) (t0 := t1) (dv := none) (c2 := .none) (c3 := .none) (b4 := .bool false) ho hl fun h' k hx _ => ?_
  have J := I.write (t' := t) (x := a) (e := a) (o := exo a C none) (by rw [e]; exact True.intro) (.inl rfl) k ⟨_, hx⟩ (exo_ok hx)
  rw [exo_upd e] at J
  exact h _ J
end

/-- what stands of a def that closes over its class -/
structure FunS (P : Program) (K : PySem.W.Frag) (mg : Str → Option Value) (x qual : Str) (st : Stmt) (f : Addr) (fd : FuncData) (C : Addr) : Prop where
  ex : ∃ (oc : Value) (od : Option Addr) (kV doc pm : Value) (an : Option Addr) (cda : Addr) (ct : Value) (cc : Addr) (osl : Array (Option Value)) (ccl : Value) (cdd : Option Addr) (vs : Array Value) (ccs : Array (Option Value)) (file : Str) (tf : Tok) (cl : Value) (cld : Option Addr) (csl : Array (Option Value)),
    fd = fnX x qual (defArgs st) (defBody st) (defScope st) [("__class__", cc)] .none kV doc pm an (.ref cda) ct ∧ K.lookup f = some ⟨oc, od, .func fd, osl⟩ ∧ codeIn K (.ref cda) qual = true ∧
    K.lookup cda = some ⟨ccl, cdd, .fields vs, ccs⟩ ∧ vs[2]? = some (.str file tf) ∧ ((P.main.file : Str) == file) = true ∧ K.lookup cc = some ⟨cl, cld, .cell (some (.ref C)), csl⟩
  cls : ∃ cd, clsIn K C = some cd
  sub : mroIn K C (.ref C) = some true
  nsup : mg "super" = none
  nany : nsIn K cStatics "thirdparty.any" = some none
  sup : ks_superIn K C C "__init__" = some (some (.builtin "ValueError.__init__"))
  isV : subIn K (.ref C) (.type "ValueError") = some true
  top : (P.main.scope.names.lookup ("super" : Str)).isSome = false

/-- .. and of its names -/
structure ScS (N ps : List Str) (ar : Arg) (st : Stmt) : Prop where
  kind : (defScope st).kind = .function
  co : (defScope st).isCoroutine = false
  gen : (defScope st).isGenerator = false
  nd : N.Nodup
  pre : N.take ps.length = ps
  par : ∀ x ∈ ps, (defScope st).names.lookup x = some .local
  nocell : ∀ y ∈ (defScope st).names, y.2 ≠ .cell
  free : ∀ y, (defScope st).names.lookup y = some .free → y = ("__class__" : Str)
  sup : (defScope st).names.lookup ("super" : Str) = some .globalImplicit
  cls : (defScope st).names.lookup ("__class__" : Str) = some .free
  head : ((defArgs st).posonlyargs ++ (defArgs st).args).head? = some ar
  self : N[0]? = some ar.arg
  selfL : (defScope st).names.lookup ar.arg = some .local

theorem scS_by {N ps : List Str} {ar : Arg} {st : Stmt} (h : (decide ((defScope st).kind = .function) && !(defScope st).isCoroutine && !(defScope st).isGenerator && decide N.Nodup && decide (N.take ps.length = ps)) = true)
    (hn : (ps.all (fun x => decide ((defScope st).names.lookup x = some .local)) && (defScope st).names.all (fun y => !decide (y.2 = .cell)) && (defScope st).names.all (fun y => !decide (y.2 = .free) || decide (y.1 = ("__class__" : Str))) &&
      decide ((defScope st).names.lookup ("super" : Str) = some .globalImplicit) && decide ((defScope st).names.lookup ("__class__" : Str) = some .free)) = true)
    (head : ((defArgs st).posonlyargs ++ (defArgs st).args).head? = some ar) (hp : (decide (0 < ps.length)) = true) (self : N[0]? = some ar.arg) (selfL : (decide ((defScope st).names.lookup ar.arg = some .local)) = true) : ScS N ps ar st := by
  simp only [Bool.and_eq_true, Bool.not_eq_true', decide_eq_true_eq, List.all_eq_true, Bool.or_eq_true, decide_eq_false_iff_not] at h hn selfL
  obtain ⟨⟨⟨⟨h1, h2⟩, h3⟩, h4⟩, h5⟩ := h
  obtain ⟨⟨⟨⟨n1, n2⟩, n3⟩, n4⟩, n5⟩ := hn
  exact ⟨h1, h2, h3, h4, h5, n1, n2, fun y hy => (n3 _ (PySem.mem_of_lookup hy)).resolve_left (fun z => z rfl), n4, n5, head, self, selfL⟩

/-- the context of its body -/
def sxOf (P : Program) (w : World) (K : PySem.W.Frag) (mg : Str → Option Value) (base : Heap) (N : List Str) (qual : Str) (scope : Scope) (f cda cc : Addr) (A : Around) (outer : List Env) (s : Shared) (H : Hp) : Cx where
  prog := P
  w := w
  K := K
  mg := mg
  base := base
  A := A.deeper (ksEnv qual scope s.heap.objs.size f (.ref cda) cc)
  N := N
  s_0 := s
  H_0 := H
  env := ksEnv qual scope s.heap.objs.size f (.ref cda) cc
  outer := outer
  stack := ksEnv qual scope s.heap.objs.size f (.ref cda) cc :: outer
  ex := []
  calm := true
  fn := fun x => x != ("__class__" : Str)
  pn := []
  xe := fun _ _ => False

theorem rev_zip_get : ∀ {ps : List Str} {us : List Value} {i : Nat} {y : Str} {u : Value}, ps.Nodup → ps[i]? = some y → us[i]? = some u → (ps.zip us).reverse.lookup y = some u
  | [], _, _, _, _, _, h, _ => by cases h
  | _ :: _, [], _, _, _, _, _, h => by simp at h
  | p :: ps, v :: us, 0, y, u, nd, h1, h2 => by
    obtain rfl : p = y := Option.some.inj h1
    obtain rfl : v = u := Option.some.inj h2
    rw [List.zip_cons_cons, List.reverse_cons, List.lookup_append]
    have n : (ps.zip us).reverse.lookup p = none := by
      rw [List.lookup_eq_none_iff]
      intro q hq
      have := (List.of_mem_zip (List.mem_reverse.mp hq)).1
      simp only [bne_iff_ne, ne_eq]
      exact fun e => (List.nodup_cons.mp nd).1 (by rw [e]; exact this)
    rw [n]
    simp [List.lookup]
  | p :: ps, v :: us, i + 1, y, u, nd, h1, h2 => by
    rw [List.zip_cons_cons, List.reverse_cons, List.lookup_append, rev_zip_get (i := i) (List.nodup_cons.mp nd).2 (by simpa using h1) (by simpa using h2)]
    rfl

section
variable {P : Program} {w : World} {K : PySem.W.Frag} {mg : Str → Option Value} {base : Heap} {N ps : List Str} {qual : Str} {f cda cc C : Addr} {A : Around} {outer : List Env} {s : Shared} {H : Hp} {st : Stmt} {ar : Arg}
theorem inv_startS {us : List Value} {vs : List V} {h₀ : Heap} {t' : Nat} {oC : Obj} (S : ScS N ps ar st) (hd : A.handled = none) (e0 : Env0 P w K mg base A outer s H) (hl : vs.length = ps.length) (r : Vals vs us)
    (hcc : base.get? cc = some oC) (hco : ∃ v, oC.data = .cell v) (hns : h₀.Ns s.heap.objs.size (fun x => (ps.zip us).reverse.lookup x)) (hk : ∀ b o, s.heap.get? b = some o → h₀.get? b = some o) :
    Inv (sxOf P w K mg base N qual (defScope st) f cda cc A outer s H) [] (L2.start N vs) H { s with heap := h₀, toks := t' } := by
  have hpl : ps.length ≤ N.length := by have := congrArg List.length S.pre; rw [List.length_take] at this; omega
  have noA : ∀ b : Addr, b ∉ (sxOf P w K mg base N qual (defScope st) f cda cc A outer s H).ex := fun b z => absurd (show b ∈ ([] : List Addr) from z) (by simp)
  have cell1 : ∀ {x : Str} {c : Addr}, (sxOf P w K mg base N qual (defScope st) f cda cc A outer s H).env.cells.lookup x = some c → x = "__class__" ∧ c = cc := fun {x c} e => by
    have e' : List.lookup x [(("__class__" : Str), cc)] = some c := e
    by_cases hx : x = "__class__"
    · subst hx
      refine ⟨rfl, ?_⟩
      simp [List.lookup] at e'
      exact e'.symm
    · have hb : (x == ("__class__" : Str)) = false := by simpa using hx
      simp [List.lookup, hb] at e'
  have hcs := (e0.bs cc oC hcc)
  refine ⟨⟨e0.mod, S.kind, rfl, rfl, Nat.le_refl _, fun y z c h1 h2 => ?_, fun y hy => ?_, fun y c hf h => ?_, fun _ => hd, Around.frames_deeper e0.frames, .inr ⟨rfl, rfl⟩, fun b z => absurd z (noA b), e0.bs, e0.bsz, fun b _ _ => noA b, fun b z => absurd z (noA b), e0.funs, e0.frf⟩,
    rfl, e0.bare, Un.kept hk, ⟨_, hns, fun i y v h1 h2 h3 => ?_⟩, fun y c h => ?_, e0.hok.fresh (Nat.le_refl _), fun y c h => ?_, fun p hp => absurd (show p ∈ ([] : List (Addr × Obj)) from hp) (by simp), e0.hok.kept hk, ?_⟩
  · rw [(cell1 h1).1, (cell1 h2).1]
  · have hy : (defScope st).names.lookup y = some .cell ∨ (defScope st).names.lookup y = some .free := hy
    rcases hy with hy | hy
    · exact absurd rfl (S.nocell _ (PySem.mem_of_lookup hy))
    · rw [S.free y hy]
      exact ⟨cc, rfl⟩
  · rw [(cell1 h).1] at hf
    exact absurd (show (("__class__" : Str) != ("__class__" : Str)) = true from hf) (by decide)
  · have hi : i < vs.length := by
      unfold L2.start at h2
      by_cases hi : i < vs.length
      · exact hi
      · rw [List.getElem?_append_right (by simpa using hi)] at h2
        rw [List.getElem?_replicate] at h2
        split at h2 <;> cases h2
    have ha : vs[i]? = some v := by
      unfold L2.start at h2
      rw [List.getElem?_append_left (by simpa using hi), List.getElem?_map] at h2
      cases e : vs[i]? with
      | none => rw [e] at h2; cases h2
      | some a => rw [e] at h2; cases h2; rfl
    obtain ⟨u, hu, rv⟩ := r.get ha
    have hp : ps[i]? = some y := by
      rw [← S.pre, List.getElem?_take_of_lt (by omega)]; exact h1
    have ndP : ps.Nodup := by rw [← S.pre]; exact S.nd.sublist (List.take_sublist _ _)
    exact ⟨u, rv, .inl ⟨S.par y (List.mem_of_getElem? hp), rev_zip_get ndP hp hu⟩⟩
  · obtain ⟨v, hv⟩ := hco
    rw [(cell1 h).2]
    exact ⟨v, oC, hk _ _ hcs.1, hv⟩
  · rw [(cell1 h).2]
    exact hcs.2
  · unfold L2.start
    show _ = N.length
    rw [List.length_append, List.length_map, List.length_replicate]
    omega

/-- the line super().__init__(..) -/
theorem super_line {fd : FuncData} {x : Str} {body : List Stmt} {a L : Addr} {e : Expr} {es : List Expr} {p0 p1 p2 p3 p4 : Pos} {ta : TA} {σ : L2.St} {s1 : Shared} {H1 : Hp} {D : Hp → Prop} {X : Cx} {oc : Value} {od : Option Addr} {kV doc pm : Value} {an : Option Addr} {ct : Value} {osl : Array (Option Value)}
    {ccl : Value} {cdd : Option Addr} {vs : Array Value} {ccs : Array (Option Value)} {file : Str} {tf : Tok} {cl : Value} {cld : Option Addr} {csl : Array (Option Value)}
    (S : ScS N ps ar st) (F : FunS X.prog X.K X.mg x qual st f fd C) (henv : X.env = ksEnv qual (defScope st) L f (.ref cda) cc) (hN : X.N = N)
    (h1 : fd = fnX x qual (defArgs st) (defBody st) (defScope st) [("__class__", cc)] .none kV doc pm an (.ref cda) ct) (h2 : X.K.lookup f = some ⟨oc, od, .func fd, osl⟩)
    (h4 : X.K.lookup cda = some ⟨ccl, cdd, .fields vs, ccs⟩) (h5 : vs[2]? = some (.str file tf)) (h6 : ((X.prog.main.file : Str) == file) = true) (h7 : X.K.lookup cc = some ⟨cl, cld, .cell (some (.ref C)), csl⟩)
    (T : OexC X.K C) (I : Inv X [] σ H1 s1) (h0 : σ[0]? = some (some (.ref a))) (ea : H1 a = some (exo a C none)) (ha : PA X (e :: es) ta)
    (ht : ta σ H1 fun us H2 => us.length ≤ 1000 ∧ H2 a = some (exo a C none) ∧ D H2)
    {pl : Sem Bool} (hc : eval (.Call (.Attribute (.Call (.Name "super" p0) [] [] p1) "__init__" p2) (e :: es) [] p3) X.env = (do
      let ov ← attributeBase (.Call (.Name "super" p0) [] [] p1) "__init__" X.env (eval (.Call (.Name "super" p0) [] [] p1) X.env)
      standAt p2.atName
      let (f, first) ← holding [ov] (getMethod ov "__init__" pl)
      callWith p3 f first (backTo p3 (starEach (e :: es) X.env)) []))
    (he : starEach (e :: es) X.env = (false, eval e X.env) :: starEach es X.env) (hpl : (backTo p3 (starEach es X.env)).any (·.1) = false) (hi : interactive X.env = false) :
    PySem.wpAt (model X.prog X.w) X.A (.func body X.env) (exec (.Expr (.Call (.Attribute (.Call (.Name "super" p0) [] [] p1) "__init__" p2) (e :: es) [] p3) p4) X.env)
      (fun fl s' => fl = .next ∧ ∃ H2, Inv X [] σ H2 s' ∧ D H2) X.xe s1 := by
  obtain ⟨cdD, hD⟩ := F.cls
  obtain ⟨m, hns, hlook⟩ := I.loc
  obtain ⟨ux, rux, hlx⟩ := hlook 0 ar.arg (.ref a) (by rw [hN]; exact S.self) h0 (by rw [henv]; exact .inl S.selfL)
  obtain rfl : ux = Value.ref a := rux
  have hv : m ar.arg = some (.ref a) := by
    rcases hlx with hlx | ⟨hk, _⟩
    · exact hlx.2
    · have e' : (defScope st).names.lookup ar.arg = some .cell ∨ (defScope st).names.lookup ar.arg = some .free := by rw [henv] at hk; exact hk
      rw [S.selfL] at e'
      rcases e' with e' | e' <;> cases e'
  have X1 : X.K.In s1.heap := I.kIn
  obtain ⟨t1, ho⟩ := exo_at I.hok ea
  have Ia : InstAt s1.heap a _ C none := ⟨ho, rfl, rfl, trivial⟩
  obtain ⟨oD, hD1, hD2⟩ : ∃ oD, s1.heap.get? C = some oD ∧ oD.data = .cls cdD := by
    unfold clsIn at hD
    split at hD
    · rename_i c d cd' sl ho
      cases hD
      exact ⟨_, X1 _ _ ho, rfl⟩
    · cases hD
  obtain ⟨mb, hb1, hb2⟩ := I.mod.blt
  have hks : X.env.kindOf "super" = some .globalImplicit := by rw [henv]; exact S.sup
  have hkc : X.env.kindOf "__class__" = some .free := by rw [henv]; exact S.cls
  have hka : X.env.kindOf ar.arg = some .local := by rw [henv]; exact S.selfL
  have hcells : X.env.cells.lookup ("__class__" : Str) = some cc := by rw [henv]; rfl
  have hfun : X.env.func = some f := by rw [henv]
  have hcod : X.env.code = .ref cda := by rw [henv]
  have hns' : s1.heap.Ns X.env.locals m := hns
  have hgl : s1.heap.Ns X.env.globals X.mg := by rw [I.ok.glob]; exact I.mod.glob.keeps I.bk
  have hbl : s1.heap.Ns X.env.builtins mb := by rw [I.ok.blt]; exact hb1.keeps I.bk
  have hsz := I.lt
  obtain ⟨hh, g, d, t, os⟩ := s1
  refine ks_wpAt_Expr_any (hi := hi) (ks_wpAt_MethodCall ?_ hc)
  refine ks_wpAt_super_base (fd := fd) (ar := ar) hks hkc (by decide) hfun (X1 _ _ h2) rfl (by rw [h1]; exact S.head) hcod (X1 _ _ h4) rfl h5 h6 F.top ?_
  refine ks_loadName_global I.ok.kind hks (Calls.loadGlobal_builtin hgl F.nsup hbl ((hb2 _ (by decide)).trans (by first | boot_by_name | rfl | kernel_rfl)) ⟨rfl, ?_⟩)
  refine wpAny_loadName_free I.ok.kind hkc hcells ⟨_, X1 _ _ h7, rfl⟩ ?_
  refine wpAny_loadName_local I.ok.kind hka hns' hv ?_
  refine ks_wpAny_isType_cls hD1 hD2 ⟨rfl, ?_⟩
  refine ks_wpAny_call_super hD1 hD2 Ia.at_ Ia.cls (fun c z => ?_) (looks_mroIn X1 F.sub) (fun h' e' k => ?_)
  · have := Ia.no
    unfold notCls at this
    rw [z] at this
    exact Bool.noConfusion this
  -- the super object
  have I2 : Inv X [] σ H1 ⟨h', g, d, t, os⟩ := I.kept (t' := t) k
  have X2 : X.K.In h' := I2.kIn
  have Ia2 : InstAt h' a _ C none := ⟨k _ _ ho, rfl, rfl, trivial⟩
  have hI : Looks (model X.prog X.w) h' (isInstance (.ref a) (.type "ValueError")) true := Ia2.type.andThen (looks_subIn X2 F.isV)
  have hsup := F.sup
  unfold ks_superIn at hsup
  rw [hD] at hsup
  refine kxs_getMethod kxs_ValueError e' (looks_opaque X2 F.nany) (l₀ := cdD.mro) (fun A Q E s k q => wpAny_bind ((looks_clsIn X2 hD) A _ E s k (wpAny_pure q))) rfl X2 hsup hI (ks_ne X2 Ia2 hD) (by decide) ?_
  -- the bound __init__
  have k3 : ∀ b o, h'.get? b = some o → (h'.push (kxs_mw "ValueError.__init__" a)).get? b = some o := fun b o z => Heap.get?_push_of_some _ z
  have hu : (h'.push (kxs_mw "ValueError.__init__" a)).get? h'.objs.size = some (kxs_mw "ValueError.__init__" a) := Heap.get?_push_at rfl rfl
  have I3 : Inv X [] σ H1 ⟨h'.push (kxs_mw "ValueError.__init__" a), g, d, t + 1, os⟩ := I2.kept (t' := t + 1) k3
  have I4 : Inv X [(h'.objs.size, kxs_mw "ValueError.__init__" a)] σ H1 ⟨h'.push (kxs_mw "ValueError.__init__" a), g, d, t + 1, os⟩ := by
    refine I3.pins_of fun p hp => ?_
    have hp' : p ∈ X.pn ++ [(h'.objs.size, kxs_mw "ValueError.__init__" a)] ∨ p ∈ [(h'.objs.size, kxs_mw "ValueError.__init__" a)] := .inr hp
    obtain rfl : p = (h'.objs.size, kxs_mw "ValueError.__init__" a) := by simpa using hp
    have lt := I2.lt
    refine ⟨hu, I2.hok.fresh (Nat.le_refl _), fun z => ?_, I2.nofs (Nat.le_refl _), fun v z => ?_⟩
    · exact absurd (show X.env.locals < h'.objs.size from lt) (by rw [← z]; exact Nat.lt_irrefl _)
    · cases z
  refine kxs_callWith (i := "ValueError.__init__") (x := a) (u := h'.objs.size) ?_ ?_
  · rw [he]
    show (false || (backTo p3 (starEach es X.env)).any (·.1)) = false
    rw [hpl]
    rfl
  · rw [he]
    refine Calls.evalArgs_plain ?_
    have run := ha.run p3 _ _ σ H1 _ I4 ht
    rw [he] at run
    refine wpAny_mono run (fun us s2 ⟨ws, H2, I5, r, hw, ea2, q⟩ => ?_) fun _ _ z => z
    have hu2 := (I5.pin (h'.objs.size, kxs_mw "ValueError.__init__" a) (by simp)).1
    refine ⟨hu2, ?_⟩
    have hz : us.length ≤ sizeLine := by
      rw [← r.length, sizeLine_eq]
      omega
    refine call_mw T I5 ea2 hu2 hz fun s3 J => ⟨rfl, H2, ?_, q⟩
    exact J.pins_of fun p hp => absurd hp (by simp)

/-- THE RULE: an __init__ whose first line is super().__init__(..) -/
theorem FunS.ok {fd : FuncData} {x : Str} {e : Expr} {es : List Expr} {rest : List Stmt} {p0 p1 p2 p3 p4 : Pos} {k : Nat} {sp : Sp} (F : FunS P K mg x qual st f fd C) (T : OexC K C) (S : ScS N ps ar st) (len : ∀ vs H Q E, sp vs H Q E → vs.length = ps.length)
    (hb : defBody st = .Expr (.Call (.Attribute (.Call (.Name "super" p0) [] [] p1) "__init__" p2) (e :: es) [] p3) p4 :: rest)
    (hbody : ∀ (cda cc : Addr) (A : Around) (outer : List Env) (s : Shared) (H : Hp) (vs : List V) (Q : VK) (E : XK), Room k (A.deeper (ksEnv qual (defScope st) s.heap.objs.size f (.ref cda) cc)) → sp vs H Q E →
      ∃ (a : Addr) (ta : TA) (t : TS), (L2.start N vs)[0]? = some (some (.ref a)) ∧ H a = some (exo a C none) ∧ PA (sxOf P w K mg base N qual (defScope st) f cda cc A outer s H) (e :: es) ta ∧ PSs (sxOf P w K mg base N qual (defScope st) f cda cc A outer s H) rest t ∧
        ta (L2.start N vs) H fun us H2 => us.length ≤ 1000 ∧ H2 a = some (exo a C none) ∧ t { nx := fun _ H' => Q .non H', rt := Q } (L2.start N vs) H2)
    {pl : Addr → Addr → Addr → Sem Bool} (hc : ∀ L cda cc : Addr, eval (.Call (.Attribute (.Call (.Name "super" p0) [] [] p1) "__init__" p2) (e :: es) [] p3) (ksEnv qual (defScope st) L f (.ref cda) cc) = (do
      let ov ← attributeBase (.Call (.Name "super" p0) [] [] p1) "__init__" (ksEnv qual (defScope st) L f (.ref cda) cc) (eval (.Call (.Name "super" p0) [] [] p1) (ksEnv qual (defScope st) L f (.ref cda) cc))
      standAt p2.atName
      let (f', first) ← holding [ov] (getMethod ov "__init__" (pl L cda cc))
      callWith p3 f' first (backTo p3 (starEach (e :: es) (ksEnv qual (defScope st) L f (.ref cda) cc))) []) := by intros; rfl)
    (he : ∀ env : Env, starEach (e :: es) env = (false, eval e env) :: starEach es env := by intros; rfl) (hpl : ∀ env : Env, (backTo p3 (starEach es env)).any (·.1) = false := by intros; rfl)
    (hi : ∀ L cda cc : Addr, interactive (ksEnv qual (defScope st) L f (.ref cda) cc) = false := by intros; rfl) : FnOk P w K mg base L2.CX0 (k + 1) f fd ps sp := by
  obtain ⟨oc, od, kV, doc, pm, an, cda, ct, cc, osl, ccl, cdd, vs4, ccs, file, tf, cl, cld, csl, rfl, lk, hcd, h4, h5, h6, h7⟩ := F.ex
  refine ⟨len, fun A outer s H args us vs Q E hr e0 hbi r hsp => ?_⟩
  have hl := len _ _ _ _ hsp
  have KX : K.In s.heap := e0.mod.kin.keeps fun b o e => (e0.bs b o e).1
  have lim : s.heap.NoLimit := e0.mod.nolimit.keeps fun b o e => (e0.bs b o e).1
  have hloc : ∀ y ∈ ps.zip us, (defScope st).names.lookup y.1 = some .local := fun ⟨n, v⟩ hy => S.par n (List.of_mem_zip hy).1
  refine ks_codeAny_call_defAt (fd := fnX x qual (defArgs st) (defBody st) (defScope st) [("__class__", cc)] .none kV doc pm an (.ref cda) ct) (body := defBody st) (binds := ps.zip us) hr.depth (KX _ _ lk) rfl lim (codeRec_of KX hcd) rfl hbi S.nocell hloc (fun h₀ hns hk => ?_) S.co S.gen S.kind
  obtain ⟨a, ta, t, h0, ea, ha, hrest, ht⟩ := hbody cda cc A outer s H vs Q E (hr.deeper _) hsp
  have I : Inv (sxOf P w K mg base N qual (defScope st) f cda cc A outer s H) [] (L2.start N vs) H { s with heap := h₀, toks := s.toks + (ps.zip us).length } :=
    inv_startS S hr.hd e0 hl r (e0.mod.kin _ _ h7) ⟨_, rfl⟩ hns hk
  show _root_.PySem.wpAt (model P w) (A.deeper (ksEnv qual (defScope st) s.heap.objs.size f (.ref cda) cc)) (.func (defBody st) (ksEnv qual (defScope st) s.heap.objs.size f (.ref cda) cc)) (execs (defBody st) (ksEnv qual (defScope st) s.heap.objs.size f (.ref cda) cc)) _ _ _
  have fin : ∀ {σ' : L2.St} {H' : Hp} {v : V} {u : Value} {s' : Shared}, Inv (sxOf P w K mg base N qual (defScope st) f cda cc A outer s H) [] σ' H' s' → RelV v u → Q v H' → CE outer P w H s Q u s' :=
    fun {σ' H' v u s'} J rv q => ⟨v, H', J.os, J.bare, J.base, J.hok, rv, q⟩
  have line := super_line (X := sxOf P w K mg base N qual (defScope st) f cda cc A outer s H) (body := defBody st) (L := s.heap.objs.size) (p0 := p0) (p1 := p1) (p2 := p2) (p3 := p3) (p4 := p4) S F rfl rfl rfl lk h4 h5 h6 h7 T I h0 ea ha ht (hc _ _ _) (he _) (hpl _) (hi _ _ _)
  have all : _root_.PySem.wpAt (model P w) (A.deeper (ksEnv qual (defScope st) s.heap.objs.size f (.ref cda) cc)) (.func (defBody st) (ksEnv qual (defScope st) s.heap.objs.size f (.ref cda) cc))
      (execs (.Expr (.Call (.Attribute (.Call (.Name "super" p0) [] [] p1) "__init__" p2) (e :: es) [] p3) p4 :: rest) (ksEnv qual (defScope st) s.heap.objs.size f (.ref cda) cc))
      (fun fl s' => CE outer P w H s Q (match fl with | .ret v => v | _ => .none) s') (fun _ _ => False) { s with heap := h₀, toks := s.toks + (ps.zip us).length } := by
    refine ks_wpAt_execs_cons (ks_wpAt_mono line (fun fl s' hs => ?_) fun _ _ z => z.elim)
    obtain ⟨rfl, H2, J, q⟩ := hs
    refine wpAt_of_wpAny (wpAny_mono (hrest.run [] s' _ H2 _ J q) (fun fl s'' hs => ?_) fun _ _ z => z)
    cases fl with
    | ret u =>
      obtain ⟨v, σ', H', J', rv, q'⟩ := hs
      exact fin J' rv q'
    | next =>
      obtain ⟨σ', H', J', q'⟩ := hs
      exact fin (v := V.non) (u := Value.none) J' rfl q'
    | brk =>
      obtain ⟨_, _, _, q'⟩ := hs
      exact False.elim q'
    | cont =>
      obtain ⟨_, _, _, q'⟩ := hs
      exact False.elim q'
  rw [← hb] at all
  exact ks_wpAt_mono all (fun fl s' hs => hs) fun _ _ z => z.elim
/-- how its arguments bind -/
theorem FunS.binds {fd : FuncData} {x : Str} (F : FunS P K mg x qual st f fd C)
    (h : ∀ (cc : Addr) (kV doc pm : Value) (an : Option Addr) (cdv ct : Value) (us : List Value), us.length = ps.length → bindArgs (fnX x qual (defArgs st) (defBody st) (defScope st) [("__class__", cc)] .none kV doc pm an cdv ct) ⟨us, []⟩ = pure (ps.zip us)) : Binds K fd ps [] := by
  obtain ⟨oc, od, kV, doc, pm, an, cda, ct, cc, osl, ccl, cdd, vs4, ccs, file, tf, cl, cld, csl, rfl, lk, hcd, h4, h5, h6, h7⟩ := F.ex
  exact .all (h cc kV doc pm an _ ct)
end
end Hb

set_option Elab.async false
set_option maxRecDepth 100000
set_option maxHeartbeats 4000000
/-! Still more steps: truth of lists, texts in a tuple, slices of tuples, comprehensions over lists of tuples. -/
namespace Hb
open PySem L2
/-- the truth of a list -/
theorem w_truL {K : PySem.W.Frag} {H : Hp} {p : Addr} {xs : List V} {R : Bool → Prop} (h : SqL K H p xs) (q : R (!xs.isEmpty)) : ∃ k, TruV K (.ref p) H k ∧ R k := ⟨_, .inl ⟨xs, h, rfl⟩, q⟩
/-- a text in a new tuple of texts -/
theorem w_inT {K : PySem.W.Frag} {H : Hp} {Q : VK} {x : V} {p : Addr} {neg : Bool} {xs : List V} (h : SqT K H p xs) (hx : flatV x = true) (hf : xs.all flatV = true) (q : Q (.bl (if neg then !inV x xs else inV x xs)) H) : rIn K neg x (.ref p) H Q := ⟨p, xs, rfl, .inr h, hx, hf, q⟩
/-- a tuple's slice, not the whole -/
theorem w_slT0 {K : PySem.W.Frag} {B H : Hp} {L : List (Addr × HO)} {Q : VK} {p : Addr} {xs : List V} {lo hi : Option Int} (hs : Hs B L H) (h : SqT K H p xs) (hw : ¬ (HT.sIx xs.length 0 lo = 0 ∧ HT.sIx xs.length xs.length hi = xs.length)) (q : ∀ l H', Hs B ((l, .tup (cutV xs lo hi)) :: L) H' → Q (.ref l) H') : rSlT K (.ref p) lo hi H Q := by
  exact ⟨p, xs, rfl, h, hw, w_new hs q⟩
/-- what stands aside of our own objects becomes the ground -/
theorem Hs.rebase {B H : Hp} {L : List (Addr × HO)} (hs : Hs B L H) : Same B (around L H) ∧ Hs (around L H) L H := by
  have h := Hs.frame (R := []) L (by rw [List.append_nil]; exact hs)
  exact ⟨h.1, h.2.1⟩
theorem im_around {K : PySem.W.Frag} {H : Hp} {L : List (Addr × HO)} (nt : ∀ e ∈ L, ∀ xs, H e.1 ≠ some (.tup xs)) {vs : List V} {ds : List PyData} (h : ImAll K H vs ds) : ImAll K (around L H) vs ds :=
  h.mono fun a xs e => by
    rw [around_out fun m => ?_]
    · exact e
    · obtain ⟨z, hz, rfl⟩ := List.mem_map.mp m
      exact nt z hz xs e

theorem w_slT {K : PySem.W.Frag} {B H : Hp} {L : List (Addr × HO)} {Q : VK} {p : Addr} {xs : List V} {j : Int} (n : Nat) (e : j = (n : Int)) (hs : Hs B L H) (h : SqT K H p xs) (h0 : 0 < n) (h1 : n ≤ xs.length) (q : ∀ l H', Hs B ((l, .tup (xs.drop n)) :: L) H' → Q (.ref l) H') : rSlT K (.ref p) (some j) none H Q := by
  refine w_slT0 hs h ?_ fun l H' hs' => ?_
  · subst e
    rw [HT.sIx_nat]
    omega
  · rw [cut_from n e] at hs'
    exact q l H' hs'
section
variable {K : PySem.W.Frag} {σ : St} {H : Hp} {Q : VK} {te : TE} {g : TG}
/-- [e for .. in xs], xs a list of data, each e data that is made anew -/
theorem w_lcD {tl : TE} {a : Addr} {xs : List V} {vs : List Nat} (hx : SqL K H a xs) (hz : xs.length ≤ 1000000) (ds : List PyData) (hl : ds.length = xs.length) (htl : ∀ Q : VK, Q (.ref a) H → tl σ H Q)
    (he : ∀ (i : Nat) (x : V) (d : PyData) (H' : Hp) (Q' : VK), xs[i]? = some x → ds[i]? = some d → Same H H' → (∀ y H3, Same H' H3 → Im K H3 y d → Q' y H3) → g x (wipe σ vs) H' fun σ2 H2 => wipe σ2 vs = wipe σ vs ∧ te σ2 H2 Q')
    (hq : ∀ D acc H', Hs H [(D, .lst acc)] H' → ImAll K H' acc ds → Q (.ref D) H') (gm : ∀ x σ H R R', (∀ σ' H', R σ' H' → R' σ' H') → g x σ H R → g x σ H R') : tLc (iList K tl) g tYes te vs σ H Q := by
  refine w_lc hx (fun D i H' => ∃ acc, Hs H [(D, .lst acc)] H' ∧ ImAll K H' acc (ds.take i)) htl (fun D hD => ⟨[], (Hs.start H).new hD, by rw [List.take_zero]; exact .nil⟩) (fun D i H' _ ⟨_, h, _⟩ => h.same.seq hx) ?_ ?_
  · rintro D i x H' hi ⟨acc, h1, h2⟩
    have hin := (List.getElem?_eq_some_iff.mp hi).1
    have hd : ds[i]? = some ds[i] := List.getElem?_eq_getElem (by omega)
    refine gm _ _ _ _ _ (fun σ' H2 ⟨e1, e2⟩ => ⟨e1, w_yes (iteT e2)⟩) (he i x ds[i] H' _ hi hd h1.same fun y H3 s3 hy => ?_)
    have hD : H3 D = some (.lst acc) := s3 _ _ h1.g0
    have hl2 := h2.len
    rw [List.length_take] at hl2
    refine ⟨acc, hD, szl (by omega), acc ++ [y], ?_, ?_⟩
    · have h3 : Hs H [(D, .lst acc)] H3 := ⟨h1.same.trans s3, h1.nd, h1.out, fun e he => s3 _ _ (h1.at_ e he)⟩
      exact h3.p0 _
    · have e : ds.take (i + 1) = ds.take i ++ [ds[i]] := by
        rw [List.take_succ, hd]
        rfl
      rw [e]
      exact ((h2.same s3).snoc hy).mono fun a xs => tup_but hD (fun _ z => by cases z) a xs
  · rintro D H' ⟨acc, h1, h2⟩
    rw [← hl, List.take_length] at h2
    exact hq D acc H' h1 h2
theorem ImAll.get {H : Hp} : ∀ {xs : List V} {ds : List PyData} {i : Nat} {x : V} {d : PyData}, ImAll K H xs ds → xs[i]? = some x → ds[i]? = some d → Im K H x d
  | _ :: _, _ :: _, 0, x, d, .cons h _, e1, e2 => by
    cases e1
    cases e2
    exact h
  | _ :: _, _ :: _, i + 1, x, d, .cons _ h, e1, e2 => ImAll.get (i := i) h (by simpa using e1) (by simpa using e2)
theorem ImAll.app {H : Hp} : ∀ {xs ys : List V} {ds es : List PyData}, ImAll K H xs ds → ImAll K H ys es → ImAll K H (xs ++ ys) (ds ++ es)
  | [], _, _, _, .nil, h => h
  | _ :: _, _, _, _, .cons a b, h => .cons a (b.app h)
end
end Hb

set_option Elab.async false
set_option maxRecDepth 100000
set_option maxHeartbeats 4000000
/-! Dicts with a fixed row of text keys, as a law's plain models have them; tuples put together. -/
namespace Hb
open PySem L2
/-- a dict whose keys are a fixed row of texts -/
def zipK (ks : List Str) (vs : List V) : List (Key × V) := (ks.map Sum.inr).zip vs
theorem val_zip : ∀ {ks : List Str} {vs : List V} {i : Nat} {k : Str} {v : V}, ks.Nodup → ks[i]? = some k → vs[i]? = some v → valV (zipK ks vs) (Sum.inr k) = some v
  | k0 :: ks, v0 :: vs, 0, k, v, _, hk, hv => by
    cases hk
    cases hv
    show Option.map _ (List.find? _ ((Sum.inr k0, v0) :: zipK ks vs)) = _
    rw [List.find?_cons, decide_eq_true (rfl : (Sum.inr k0 : Key) = Sum.inr k0)]
    rfl
  | k0 :: ks, v0 :: vs, i + 1, k, v, nd, hk, hv => by
    have h1 := List.nodup_cons.mp nd
    have hk' : ks[i]? = some k := by simpa using hk
    have hv' : vs[i]? = some v := by simpa using hv
    have hne : ¬ (Sum.inr k0 : Key) = Sum.inr k := fun e => h1.1 (by cases e; exact List.mem_of_getElem? hk')
    show Option.map _ (List.find? _ ((Sum.inr k0, v0) :: zipK ks vs)) = _
    rw [List.find?_cons, decide_eq_false hne]
    exact val_zip h1.2 hk' hv'
theorem map_zip_out : ∀ {ks : List Str} {vs : List V} {k : Str} {v : V}, k ∉ ks → (zipK ks vs).map (fun kv => if kv.1 = (Sum.inr k : Key) then (kv.1, v) else kv) = zipK ks vs
  | [], _, _, _, _ => rfl
  | _ :: _, [], _, _, _ => rfl
  | k0 :: ks, v0 :: vs, k, v, h => by
    have hne : ¬ (Sum.inr k0 : Key) = Sum.inr k := fun e => h (by cases e; exact List.mem_cons_self)
    show (if (Sum.inr k0 : Key) = Sum.inr k then ((Sum.inr k0 : Key), v) else (Sum.inr k0, v0)) :: (zipK ks vs).map _ = _
    rw [if_neg hne, map_zip_out (fun m => h (List.mem_cons_of_mem _ m))]
    rfl
theorem map_zip : ∀ {ks : List Str} {vs : List V} {i : Nat} {k : Str} {v : V}, ks.Nodup → ks[i]? = some k → i < vs.length → (zipK ks vs).map (fun kv => if kv.1 = (Sum.inr k : Key) then (kv.1, v) else kv) = zipK ks (vs.set i v)
  | k0 :: ks, v0 :: vs, 0, k, v, nd, hk, _ => by
    cases hk
    have h1 := List.nodup_cons.mp nd
    show (if (Sum.inr k0 : Key) = Sum.inr k0 then ((Sum.inr k0 : Key), v) else (Sum.inr k0, v0)) :: (zipK ks vs).map _ = _
    rw [if_pos rfl, map_zip_out h1.1]
    rfl
  | k0 :: ks, v0 :: vs, i + 1, k, v, nd, hk, hl => by
    have h1 := List.nodup_cons.mp nd
    have hk' : ks[i]? = some k := by simpa using hk
    have hne : ¬ (Sum.inr k0 : Key) = Sum.inr k := fun e => h1.1 (by cases e; exact List.mem_of_getElem? hk')
    show (if (Sum.inr k0 : Key) = Sum.inr k then ((Sum.inr k0 : Key), v) else (Sum.inr k0, v0)) :: (zipK ks vs).map _ = _
    rw [if_neg hne, map_zip h1.2 hk' (Nat.lt_of_succ_lt_succ hl)]
    rfl
theorem any_of_val {kvs : List (Key × V)} {k : Key} {v : V} (h : valV kvs k = some v) : (kvs.any fun kv => decide (kv.1 = k)) = true := by
  unfold valV at h
  cases e : kvs.find? (fun kv => decide (kv.1 = k)) with
  | none =>
    rw [e] at h
    cases h
  | some z =>
    have h1 := List.find?_some e
    exact List.any_eq_true.mpr ⟨z, List.mem_of_find?_eq_some e, h1⟩
theorem put_zip {ks : List Str} {vs : List V} {i : Nat} {k : Str} {v u : V} (nd : ks.Nodup) (hk : ks[i]? = some k) (hv : vs[i]? = some u) : putK (zipK ks vs) (Sum.inr k) v = zipK ks (vs.set i v) := by
  unfold putK
  rw [if_pos (any_of_val (val_zip nd hk hv))]
  exact map_zip nd hk (List.getElem?_eq_some_iff.mp hv).1
/-! ### their steps -/
section
variable {σ : St} {H : Hp} {Q : VK} {D : Ends} {td ty tv : TE} {p : Addr} {B : Hp} {L L' : List (Addr × HO)} {ks : List Str} {vs us : List V} {i : Nat} {k : Str} {v u : V}
def RDget (x y : V) (H : Hp) (Q : VK) : Prop := ∃ a v, x = .ref a ∧ DGet H a y (some v) ∧ Q v H
theorem w_dget (q : td σ H fun x H1 => ty σ H1 fun y H2 => RDget x y H2 Q) : tDGet td ty σ H Q := q
theorem w_dgetZ (h : H p = some (.dK (zipK ks vs))) (nd : ks.Nodup) (hk : ks[i]? = some k) (hv : vs[i]? = some v) (q : Q v H) : RDget (.ref p) (.str k) H Q :=
  ⟨p, v, rfl, val_zip nd hk hv ▸ DGet.k (k := Sum.inr k) h, q⟩
theorem w_dgetI {kvs : List (Key × V)} {n : Int} (h : H p = some (.dK kvs)) (hv : valV kvs (Sum.inl n) = some v) (q : Q v H) : RDget (.ref p) (.int n) H Q :=
  ⟨p, v, rfl, hv ▸ DGet.k (k := Sum.inl n) h, q⟩
theorem w_dputZ {R : Hp → Prop} (hs : Hs B L H) (h : Put L p (.dK (zipK ks vs)) (.dK (zipK ks us)) L') (nd : ks.Nodup) (hk : ks[i]? = some k) (hv : vs[i]? = some u) (hu : vs.set i v = us) (hl : ks.length < 1000) (q : ∀ H', Hs B L' H' → R H') : RDput (.ref p) (.str k) v H R := by
  subst hu
  refine ⟨p, _, rfl, DPut.k (k := Sum.inr k) (hs.gets h) ?_, ?_⟩
  · refine szl ?_
    show ((ks.map Sum.inr).zip vs).length ≤ 1000000
    rw [List.length_zip, List.length_map]
    omega
  · rw [put_zip nd hk hv]
    exact q _ (hs.puts h)
/-- the same as a target among others -/
theorem w_gsub {tset : TSet} {R : St → Hp → Prop} (q : td σ H fun o H1 => ty σ H1 fun i H2 => tset o i v H2 fun H3 => R σ H3) : gSub td ty tset v σ H R := q
theorem w_setD {x y : V} {R : Hp → Prop} (q : RDput x y v H R) : rSetD x y v H R := q
end
section
variable {K : PySem.W.Frag}
theorem op_catTK {X : Cx} (hK : X.K = K := by rfl) : OpR X (binaryOp .Add) (rCatT K) := by
  subst hK
  exact op_catT
theorem w_catT {B H : Hp} {L : List (Addr × HO)} {Q : VK} {p r : Addr} {xs ys : List V} (hs : Hs B L H) (h1 : SqT K H p xs) (h2 : SqT K H r ys) (n1 : xs ≠ []) (n2 : ys ≠ []) (hl : xs.length + ys.length ≤ 1000) (q : ∀ l H', Hs B ((l, .tup (xs ++ ys)) :: L) H' → Q (.ref l) H') : rCatT K (.ref p) (.ref r) H Q :=
  ⟨p, r, xs, ys, rfl, rfl, h1, h2, n1, Nat.le_of_lt (szl (by omega)), fun e => absurd e n2, fun _ => w_new hs q⟩
end
section
variable {α : Type} {a b c d e f g h i v : α} {l : List α}
theorem v0 : (a :: l)[0]? = some a := rfl
theorem v1 : (a :: b :: l)[1]? = some b := rfl
theorem v2 : (a :: b :: c :: l)[2]? = some c := rfl
theorem v3 : (a :: b :: c :: d :: l)[3]? = some d := rfl
theorem v4 : (a :: b :: c :: d :: e :: l)[4]? = some e := rfl
theorem v5 : (a :: b :: c :: d :: e :: f :: l)[5]? = some f := rfl
theorem v6 : (a :: b :: c :: d :: e :: f :: g :: l)[6]? = some g := rfl
theorem v7 : (a :: b :: c :: d :: e :: f :: g :: h :: l)[7]? = some h := rfl
theorem v8 : (a :: b :: c :: d :: e :: f :: g :: h :: i :: l)[8]? = some i := rfl
theorem st0 : (a :: l).set 0 v = v :: l := rfl
theorem st1 : (a :: b :: l).set 1 v = a :: v :: l := rfl
theorem st2 : (a :: b :: c :: l).set 2 v = a :: b :: v :: l := rfl
theorem st3 : (a :: b :: c :: d :: l).set 3 v = a :: b :: c :: v :: l := rfl
theorem st4 : (a :: b :: c :: d :: e :: l).set 4 v = a :: b :: c :: d :: v :: l := rfl
theorem st5 : (a :: b :: c :: d :: e :: f :: l).set 5 v = a :: b :: c :: d :: e :: v :: l := rfl
theorem st6 : (a :: b :: c :: d :: e :: f :: g :: l).set 6 v = a :: b :: c :: d :: e :: f :: v :: l := rfl
theorem st7 : (a :: b :: c :: d :: e :: f :: g :: h :: l).set 7 v = a :: b :: c :: d :: e :: f :: g :: v :: l := rfl
theorem st8 : (a :: b :: c :: d :: e :: f :: g :: h :: i :: l).set 8 v = a :: b :: c :: d :: e :: f :: g :: h :: v :: l := rfl
end
/-! ### a dict that is written down -/
theorem merge_zip : ∀ {ks : List Str} {vs : List V} {acc : List (Key × V)}, ks.Nodup → (∀ k ∈ ks, ∀ kv ∈ acc, kv.1 ≠ (Sum.inr k : Key)) → mergeK acc (zipK ks vs) = acc ++ zipK ks vs
  | [], _, acc, _, _ => by
    show acc = acc ++ []
    rw [List.append_nil]
  | _ :: _, [], acc, _, _ => by
    show acc = acc ++ []
    rw [List.append_nil]
  | k :: ks, v :: vs, acc, nd, h => by
    have h1 := List.nodup_cons.mp nd
    have e : putK acc (Sum.inr k) v = acc ++ [(Sum.inr k, v)] := by
      unfold putK
      rw [if_neg]
      intro h2
      obtain ⟨z, hz, h3⟩ := List.any_eq_true.mp h2
      exact h k List.mem_cons_self z hz (of_decide_eq_true h3)
    show mergeK (putK acc (Sum.inr k) v) (zipK ks vs) = acc ++ ((Sum.inr k, v) :: zipK ks vs)
    rw [e, merge_zip h1.2 ?_, List.append_assoc]
    · rfl
    · intro k2 hk2 kv hkv
      rcases List.mem_append.mp hkv with m | m
      · exact h k2 (List.mem_cons_of_mem _ hk2) kv m
      · rw [List.mem_singleton.mp m]
        intro c
        cases c
        exact h1.1 hk2
section
variable {σ : St} {H : Hp} {Q : VK} {B : Hp} {L L' : List (Addr × HO)}
def NewP (trs : List (TE × TE)) (σ : St) (Q : VK) (H : Hp) : Prop := ∀ p, H p = none → tPairs trs σ (upd H p (.dK [])) fun ps H2 => H2 p = some (.dK []) ∧ ∃ kvs : List (Key × V), ps = kvs.map (fun kv => (kV kv.1, kv.2)) ∧ kvs.length ≤ 15 ∧ Q (.ref p) (upd H2 p (.dK (mergeK [] kvs)))
def DispP (p : Addr) (Q : VK) (ps : List (V × V)) (H2 : Hp) : Prop := H2 p = some (.dK []) ∧ ∃ kvs : List (Key × V), ps = kvs.map (fun kv => (kV kv.1, kv.2)) ∧ kvs.length ≤ 15 ∧ Q (.ref p) (upd H2 p (.dK (mergeK [] kvs)))
theorem w_disp {trs : List (TE × TE)} (q : NewP trs σ Q H) : tDisp trs σ H Q := q
theorem w_newP {trs : List (TE × TE)} (hs : Hs B L H) (q : ∀ p H', Hs B ((p, .dK []) :: L) H' → tPairs trs σ H' (DispP p Q)) : NewP trs σ Q H := fun p hp => q p _ (hs.new hp)
theorem w_pcons {tk tv : TE} {trs : List (TE × TE)} {R : List (V × V) → Hp → Prop} (q : tk σ H fun k H1 => tv σ H1 fun v H2 => tPairs trs σ H2 fun ps H3 => R ((k, v) :: ps) H3) : tPairs ((tk, tv) :: trs) σ H R := q
theorem w_pnil {R : List (V × V) → Hp → Prop} (q : R [] H) : tPairs [] σ H R := q
theorem w_dispZ {p : Addr} {ps : List (V × V)} (ks : List Str) (vs : List V) (hs : Hs B L H) (h : Put L p (.dK []) (.dK (zipK ks vs)) L') (nd : ks.Nodup) (hl : ks.length ≤ 15) (hp : ps = (zipK ks vs).map (fun kv => (kV kv.1, kv.2))) (q : ∀ H', Hs B L' H' → Q (.ref p) H') : DispP p Q ps H := by
  refine ⟨hs.gets h, zipK ks vs, hp, ?_, ?_⟩
  · unfold zipK
    rw [List.length_zip, List.length_map]
    omega
  · rw [merge_zip nd (fun _ _ _ z => absurd z List.not_mem_nil)]
    exact q _ (hs.puts h)
end
end Hb

set_option Elab.async false
set_option maxRecDepth 100000
set_option maxHeartbeats 4000000
/-! Dicts whose keys are tuples of any depth; sorted of such keys. -/
namespace Hb
open PySem L2
mutual
/-- the value v in the abstract heap is the key k -/
inductive NK (H : Hp) : NestedKey → V → Prop
  | non : NK H .none .non
  | int (i : Int) : NK H (.num i) (.int i)
  | str (x : Str) : NK H (.text x) (.str x)
  | tup {p : Addr} {vs : List V} {ks : List NestedKey} : H p = some (.tup vs) → NKs H ks vs → NK H (.tup ks) (.ref p)
inductive NKs (H : Hp) : List NestedKey → List V → Prop
  | nil : NKs H [] []
  | cons {k : NestedKey} {v : V} {ks : List NestedKey} {vs : List V} : NK H k v → NKs H ks vs → NKs H (k :: ks) (v :: vs)
end
mutual
theorem NK.mono {H H' : Hp} (e : ∀ p xs, H p = some (.tup xs) → H' p = some (.tup xs)) : ∀ {k : NestedKey} {v : V}, NK H k v → NK H' k v
  | _, _, .non => .non
  | _, _, .int i => .int i
  | _, _, .str x => .str x
  | _, _, .tup h hs => .tup (e _ _ h) (NKs.mono e hs)
theorem NKs.mono {H H' : Hp} (e : ∀ p xs, H p = some (.tup xs) → H' p = some (.tup xs)) : ∀ {ks : List NestedKey} {vs : List V}, NKs H ks vs → NKs H' ks vs
  | _, _, .nil => .nil
  | _, _, .cons h hs => .cons (NK.mono e h) (NKs.mono e hs)
end
theorem NK.same {H H' : Hp} (e : Same H H') {k : NestedKey} {v : V} (h : NK H k v) : NK H' k v := h.mono fun _ _ => e _ _
mutual
theorem NK.inj {H : Hp} : ∀ {k k' : NestedKey} {v : V}, NK H k v → NK H k' v → k = k'
  | _, _, _, .non, h => by cases h; rfl
  | _, _, _, .int i, h => by cases h; rfl
  | _, _, _, .str x, h => by cases h; rfl
  | _, _, _, .tup h1 h2, h => by
    cases h with
    | tup k1 k2 =>
      rw [h1] at k1
      cases k1
      rw [NKs.inj h2 k2]
theorem NKs.inj {H : Hp} : ∀ {ks ks' : List NestedKey} {vs : List V}, NKs H ks vs → NKs H ks' vs → ks = ks'
  | _, _, _, .nil, h => by cases h; rfl
  | _, _, _, .cons h1 h2, h => by
    cases h with
    | cons k1 k2 => rw [NK.inj h1 k1, NKs.inj h2 k2]
end
mutual
theorem NK.im {K : PySem.W.Frag} {H : Hp} : ∀ {k : NestedKey} {v : V}, NK H k v → Im K H v k.data
  | _, _, .non => .non
  | _, _, .int i => .int i
  | _, _, .str x => .str x
  | _, _, .tup h hs => .tup h (NKs.im hs)
theorem NKs.im {K : PySem.W.Frag} {H : Hp} : ∀ {ks : List NestedKey} {vs : List V}, NKs H ks vs → ImAll K H vs (NestedKey.datas ks)
  | _, _, .nil => .nil
  | _, _, .cons h hs => .cons (NK.im h) (NKs.im hs)
end
section
variable {P : Program} {w : World} {H : Hp} {h : Heap}
mutual
theorem NK.is (ok : HOk P w H h) : ∀ {k : NestedKey} {v : V} {u : Value}, NK H k v → RelV v u → NestedIs h k u
  | _, _, _, .non, r => by
    cases (show _ = Value.none from r)
    exact .none
  | _, _, _, .int i, r => by
    obtain ⟨t, rfl⟩ := r
    exact .int i t
  | _, _, _, .str x, r => by
    obtain ⟨t, rfl⟩ := r
    exact .text x t
  | _, _, _, .tup e hs, r => by
    cases (show _ = Value.ref _ from r)
    obtain ⟨_, its, r2, o, ho, hc, n, hd⟩ := ok _ _ e
    exact .tup ho hc hd (NKs.is ok hs r2)
theorem NKs.is (ok : HOk P w H h) : ∀ {ks : List NestedKey} {vs : List V} {us : List Value}, NKs H ks vs → Vals vs us → NestedAll h ks us
  | _, _, _, .nil, r => by cases r; exact .nil
  | _, _, _, .cons h1 h2, r => by
    cases r with
    | cons r1 r2 => exact .cons (NK.is ok h1 r1) (NKs.is ok h2 r2)
end
end
/-- a key, where its tuple stands, what it holds -/
abbrev Ent := NestedKey × Addr × V
def atN (es : List Ent) (k : NestedKey) : Option V := (es.find? fun e => decide (e.1 = k)).map (·.2.2)
def putN (es : List Ent) (k : NestedKey) (b : Addr) (v : V) : List Ent := if (atN es k).isSome then es.map (fun e => if e.1 = k then (e.1, e.2.1, v) else e) else es ++ [(k, b, v)]
def dropN (es : List Ent) (k : NestedKey) : List Ent := es.filter fun e => decide (e.1 ≠ k)
abbrev RelE (p : Ent) (q : NestedKey × Addr × Value) : Prop := p.1 = q.1 ∧ p.2.1 = q.2.1 ∧ RelV p.2.2 q.2.2
abbrev RelEs : List Ent → List (NestedKey × Addr × Value) → Prop := Paired RelE
def entN (w : World) (x : NestedKey × Addr × Value) : DictEntry := ⟨x.1.hash w, .ref x.2.1, x.2.2⟩
def DNx (w : World) (a : Addr) (es : List Ent) (h : Heap) : Prop := es.length ≤ sizeLine ∧ (a == sysModules) = false ∧ ∃ xs, RelEs es xs ∧ ∃ o ds ep, h.get? a = some o ∧ o.ExactDict ∧ o.data = .dict ds ep ∧ ds.toList = xs.map (entN w) ∧ (xs.map (·.1)).Nodup
/-- a dict with such keys -/
abbrev DN (w : World) (a : Addr) (es : List Ent) : HO := .ext (DNx w a es)
/-- its keys stand as they are told -/
def EntsOk (H : Hp) (es : List Ent) : Prop := ∀ e ∈ es, NK H e.1 (.ref e.2.1) ∧ e.1.depth ≤ 8
theorem EntsOk.mono {H H' : Hp} (e : ∀ p xs, H p = some (.tup xs) → H' p = some (.tup xs)) {es : List Ent} (h : EntsOk H es) : EntsOk H' es := fun x hx => ⟨(h x hx).1.mono e, (h x hx).2⟩
theorem EntsOk.same {H H' : Hp} (e : Same H H') {es : List Ent} (h : EntsOk H es) : EntsOk H' es := h.mono fun _ _ => e _ _
theorem EntsOk.nil {H : Hp} : EntsOk H [] := fun _ h => nomatch h
theorem EntsOk.drop {H : Hp} {es : List Ent} {k : NestedKey} (h : EntsOk H es) : EntsOk H (dropN es k) := fun e he => h e (List.mem_filter.mp he).1
theorem EntsOk.put {H : Hp} {es : List Ent} {k : NestedKey} {b : Addr} {v : V} (h : EntsOk H es) (hk : NK H k (.ref b)) (hd : k.depth ≤ 8) : EntsOk H (putN es k b v) := fun e he => by
  unfold putN at he
  split at he
  · obtain ⟨y, hy, rfl⟩ := List.mem_map.mp he
    by_cases hc : y.1 = k
    · rw [if_pos hc]
      exact h y hy
    · rw [if_neg hc]
      exact h y hy
  · rcases List.mem_append.mp he with m | m
    · exact h e m
    · rw [List.mem_singleton.mp m]
      exact ⟨hk, hd⟩
theorem RelEs.at {es : List Ent} {xs : List (NestedKey × Addr × Value)} (r : RelEs es xs) (k : NestedKey) : RelO (atN es k) ((atKey xs k).map (·.2)) := by
  induction r with
  | nil => exact trivial
  | @cons p q ps qs h _ ih =>
    obtain ⟨h1, h2, h3⟩ := h
    unfold atN atKey at ih ⊢
    rw [List.find?_cons, List.find?_cons, ← h1]
    by_cases hc : p.1 = k
    · rw [decide_eq_true hc]
      exact h3
    · rw [decide_eq_false hc]
      exact ih
theorem RelEs.keys {es : List Ent} {xs : List (NestedKey × Addr × Value)} (r : RelEs es xs) : xs.map (·.1) = es.map (·.1) := by
  induction r with
  | nil => rfl
  | cons h _ ih => rw [List.map_cons, List.map_cons, ih, h.1]
theorem RelEs.some {es : List Ent} {xs : List (NestedKey × Addr × Value)} (r : RelEs es xs) (k : NestedKey) : (atN es k).isSome = (atKey xs k).isSome := by
  have q := (r.at k).isSome_eq
  rw [Option.isSome_map] at q
  exact q
theorem relEs_map {k : NestedKey} {v : V} {u : Value} (hv : RelV v u) : ∀ {es : List Ent} {xs : List (NestedKey × Addr × Value)}, RelEs es xs → RelEs (es.map (fun e => if e.1 = k then (e.1, e.2.1, v) else e)) (xs.map (putAt k u))
  | _, _, .nil => .nil
  | p :: ps, q :: qs, .cons h t => by
    refine .cons ?_ (relEs_map hv t)
    show RelE (if p.1 = k then (p.1, p.2.1, v) else p) (if q.1 = k then (q.1, q.2.1, u) else q)
    rw [← h.1]
    by_cases hc : p.1 = k
    · rw [if_pos hc, if_pos hc]
      exact ⟨rfl, h.2.1, hv⟩
    · rw [if_neg hc, if_neg hc]
      exact h
theorem relEs_snoc {p : Ent} {q : NestedKey × Addr × Value} (h : RelE p q) : ∀ {es : List Ent} {xs : List (NestedKey × Addr × Value)}, RelEs es xs → RelEs (es ++ [p]) (xs ++ [q])
  | _, _, .nil => .cons h .nil
  | _, _, .cons r t => .cons r (relEs_snoc h t)
theorem RelEs.put {es : List Ent} {xs : List (NestedKey × Addr × Value)} (r : RelEs es xs) (k : NestedKey) (b : Addr) {v : V} {u : Value} (hv : RelV v u) : RelEs (putN es k b v) (storedH xs k b u) := by
  unfold putN storedH
  rw [r.some k]
  cases (atKey xs k).isSome with
  | true =>
    rw [if_pos rfl, if_pos rfl]
    exact relEs_map hv r
  | false =>
    rw [if_neg Bool.false_ne_true, if_neg Bool.false_ne_true]
    exact relEs_snoc ⟨rfl, rfl, hv⟩ r
theorem RelEs.drop {es : List Ent} {xs : List (NestedKey × Addr × Value)} (r : RelEs es xs) (k : NestedKey) : RelEs (dropN es k) (withoutH xs k) := by
  unfold dropN withoutH
  induction r with
  | nil => exact .nil
  | @cons p q ps qs h _ ih =>
    rw [List.filter_cons, List.filter_cons, ← h.1]
    by_cases hc : p.1 = k
    · have e : decide (p.1 ≠ k) = false := decide_eq_false (fun z => z hc)
      rw [e]
      exact ih
    · have e : decide (p.1 ≠ k) = true := decide_eq_true hc
      rw [e]
      exact .cons h ih
theorem RelEs.len {es : List Ent} {xs : List (NestedKey × Addr × Value)} (r : RelEs es xs) : es.length = xs.length := Paired.length r
theorem putN_len {es : List Ent} {k : NestedKey} {b : Addr} {v : V} : (putN es k b v).length ≤ es.length + 1 := by
  unfold putN
  split
  · rw [List.length_map]
    omega
  · rw [List.length_append, List.length_singleton]
    exact Nat.le_refl _
theorem dropN_len {es : List Ent} {k : NestedKey} : (dropN es k).length ≤ es.length := List.length_filter_le _ _
section
variable {P : Program} {w : World} {H : Hp} {h : Heap} {a : Addr} {es : List Ent}
theorem dn_of (ok : HOk P w H h) (e : H a = some (DN w a es)) (hk : EntsOk H es) : es.length ≤ sizeLine ∧ (a == sysModules) = false ∧ ∃ xs, RelEs es xs ∧ h.DictOfH (nestedKind P w) a xs := by
  obtain ⟨⟨z, y, xs, r, o, ds, ep, h1, h2, h3, h4, h5⟩, _, _⟩ := (show ObjOk P w H h a (DN w a es) from ok _ _ e)
  refine ⟨z, y, xs, r, o, ds, ep, h1, h2, h3, h4, ?_, h5⟩
  have all : ∀ {l : List Ent} {m : List (NestedKey × Addr × Value)}, EntsOk H l → RelEs l m → ∀ x ∈ m, (nestedKind P w).is h x.1 x.2.1 := by
    intro l m hl r
    induction r with
    | nil => exact fun _ hx => nomatch hx
    | @cons p q ps qs hpq _ ih =>
      intro x hx
      rcases List.mem_cons.mp hx with rfl | hx
      · obtain ⟨k1, k2⟩ := hl p List.mem_cons_self
        rw [← hpq.1, ← hpq.2.1]
        exact ⟨k1.is ok rfl, k2⟩
      · exact ih (fun e he => hl e (List.mem_cons_of_mem _ he)) x hx
  exact all hk r
theorem dn_obj {H' : Hp} {h' : Heap} {xs : List (NestedKey × Addr × Value)} (z : es.length ≤ sizeLine) (y : (a == sysModules) = false) (r : RelEs es xs) (dd : h'.DictOfH (nestedKind P w) a xs) : ObjOk P w H' h' a (DN w a es) := by
  obtain ⟨o, ds, ep, h1, h2, h3, h4, _, h5⟩ := dd
  refine ⟨⟨z, y, xs, r, o, ds, ep, h1, h2, h3, h4, h5⟩, ⟨o, h1⟩, fun g1 g2 ⟨z, y, xs, r, o, ds, ep, h1, h2⟩ hg => ⟨z, y, xs, r, o, ds, ep, hg _ h1, h2⟩⟩
theorem dn_empty (h : Heap) (hb : sysModules < h.objs.size) : ObjOk P w H (h.push { cls := .type "dict", data := .dict #[] }) h.objs.size (DN w h.objs.size []) :=
  dn_obj (Nat.zero_le _) (beq_eq_false_iff_ne.mpr (Ne.symm (Nat.ne_of_lt hb))) .nil (Heap.DictOfH.new h)
end
/-- the parts of what is asked of such a dict -/
structure AtN (w : World) (H : Hp) (x y : V) (a b : Addr) (es : List Ent) (k : NestedKey) : Prop where
  ex : x = .ref a
  ey : y = .ref b
  ha : H a = some (DN w a es)
  he : EntsOk H es
  hk : NK H k (.ref b)
  hd : k.depth ≤ 8
def rNGet (w : World) (x y : V) (H : Hp) (Q : VK) : Prop := ∃ a b es k v, AtN w H x y a b es k ∧ atN es k = some v ∧ Q v H
def rNIn (w : World) (x y : V) (H : Hp) (Q : Bool → Prop) : Prop := ∃ a b es k, AtN w H x y a b es k ∧ Q (atN es k).isSome
def rNPut (w : World) (x y v : V) (H : Hp) (Q : Hp → Prop) : Prop := ∃ a b es k, AtN w H x y a b es k ∧ es.length < sizeLine ∧ Q (upd H a (DN w a (putN es k b v)))
def rNDel (w : World) (x y : V) (H : Hp) (Q : V → Hp → Prop) : Prop := ∃ a b es k v, AtN w H x y a b es k ∧ atN es k = some v ∧ Q v (upd H a (DN w a (dropN es k)))
def tNGet (w : World) (td ty : TE) : TE := fun σ H Q => td σ H fun x H1 => ty σ H1 fun y H2 => rNGet w x y H2 Q
def tNIn (w : World) (ty td : TE) : TE := fun σ H Q => ty σ H fun y H1 => td σ H1 fun x H2 => rNIn w x y H2 fun b => Q (.bl b) H2
def tNNot (w : World) (ty td : TE) : TE := fun σ H Q => ty σ H fun y H1 => td σ H1 fun x H2 => rNIn w x y H2 fun b => Q (.bl (!b)) H2
def sNPut (w : World) (td ty tv : TE) : TS := fun D σ H => tv σ H fun v H1 => td σ H1 fun x H2 => ty σ H2 fun y H3 => rNPut w x y v H3 fun H4 => D.nx σ H4
def sNDel (w : World) (td ty : TE) : TS := fun D σ H => td σ H fun x H1 => ty σ H1 fun y H2 => rNDel w x y H2 fun _ H3 => D.nx σ H3
def tNNew (w : World) : TE := fun _ H Q => ∀ p, H p = none → Q (.ref p) (upd H p (DN w p []))
def tNPop (w : World) (td ty : TE) : TE := fun σ H Q => td σ H fun x H1 => (∃ a es, x = .ref a ∧ H1 a = some (DN w a es)) ∧ ty σ H1 fun y H2 => rNDel w x y H2 Q
section
variable {X : Cx} {w : World} {o i value : Expr} {pos pos' tpos : Pos} {td ty tv : TE}
theorem AtN.dn {H : Hp} {x y : V} {a b : Addr} {es : List Ent} {k : NestedKey} {pins : List (Addr × Obj)} {σ : St} {s : Shared} (I : Inv X pins σ H s) (hw : X.w = w) (g : AtN w H x y a b es k) : es.length ≤ sizeLine ∧ (a == sysModules) = false ∧ ∃ xs, RelEs es xs ∧ s.heap.DictOfH (nestedKind X.prog X.w) a xs ∧ (nestedKind X.prog X.w).is s.heap k b := by
  subst hw
  obtain ⟨z, hd, xs, r, dd⟩ := dn_of I.hok g.ha g.he
  exact ⟨z, hd, xs, r, dd, g.hk.is I.hok rfl, g.hd⟩
theorem n_room {A : Around} (hu : A.units + 64 < cLine) {P : Program} {w : World} : (nestedKind P w).room A.in1 := by
  show A.in1.units + 8 < cLine
  have e : A.in1.units = A.units + 1 := rfl
  omega
theorem pe_ndget (hu : X.A.units + 64 < cLine) (ho : PE X o td) (hi : PE X i ty) (hs : NoSl i) (hw : X.w = w := by rfl) : PE X (.Subscript o i pos) (tNGet w td ty) := by
  refine ⟨fun pins s σ H Q I h => ?_⟩
  refine subD_of PySem.F.slot_dict_getitem.lookup hs (thn (ho.run pins s σ H _ I h) fun u s1 ⟨x, H1, I1, rx, q1⟩ => thn (hi.run pins s1 σ H1 _ I1 q1) fun iv s2 ⟨y, H2, I2, ry, a, b, es, k, v, g, hv, q2⟩ => ?_)
  obtain ⟨z, hd, xs, r, dd, hk⟩ := g.dn I2 hw
  cases g.ex
  cases g.ey
  obtain rfl : u = Value.ref a := rx
  obtain rfl : iv = Value.ref b := ry
  obtain ⟨w', hw', rw'⟩ := RelO.some_of (v := v) (o := (atKey xs k).map (·.2)) (by rw [← hv]; exact r.at k)
  obtain ⟨p, hp, hp2⟩ := Option.map_eq_some_iff.mp hw'
  refine ⟨dd.typeIs, wpAny_getItem_heap (n_room hu) hk dd hp ?_⟩
  rw [hp2]
  exact ⟨v, H2, I2.tok _, rw', q2⟩
theorem pc_nin (hu : X.A.units + 64 < cLine) (hi : PE X i ty) (ho : PE X o td) (hw : X.w = w := by rfl) : PC X .In i o (tNIn w ty td) := by
  refine ⟨fun pins s σ H Q I h => ?_⟩
  refine thn (hi.run pins s σ H _ I h) fun iv s1 ⟨y, H1, I1, ry, q1⟩ => thn (ho.run pins s1 σ H1 _ I1 q1) fun u s2 ⟨x, H2, I2, rx, a, b, es, k, g, q2⟩ => ?_
  obtain ⟨z, hd, xs, r, dd, hk⟩ := g.dn I2 hw
  cases g.ex
  cases g.ey
  obtain rfl : u = Value.ref a := rx
  obtain rfl : iv = Value.ref b := ry
  refine wpAny_in_heap (n_room hu) hk hd dd ?_
  rw [← r.some k]
  exact ⟨.bl _, H2, I2.tok _, rfl, q2⟩
theorem pc_nnot (hu : X.A.units + 64 < cLine) (hi : PE X i ty) (ho : PE X o td) (hw : X.w = w := by rfl) : PC X .NotIn i o (tNNot w ty td) := by
  refine ⟨fun pins s σ H Q I h => ?_⟩
  refine thn (hi.run pins s σ H _ I h) fun iv s1 ⟨y, H1, I1, ry, q1⟩ => thn (ho.run pins s1 σ H1 _ I1 q1) fun u s2 ⟨x, H2, I2, rx, a, b, es, k, g, q2⟩ => ?_
  obtain ⟨z, hd, xs, r, dd, hk⟩ := g.dn I2 hw
  cases g.ex
  cases g.ey
  obtain rfl : u = Value.ref a := rx
  obtain rfl : iv = Value.ref b := ry
  refine PyProof.Rows.wpAny_notIn_heap (n_room hu) hk hd dd ?_
  rw [← r.some k]
  exact ⟨.bl _, H2, I2.tok _, rfl, q2⟩
theorem ps_nput (hu : X.A.units + 64 < cLine) (ho : PE X o td) (hi : PE X i ty) (hv : PE X value tv) (hs : swapsWith value (some (.Subscript o i pos')) pos.line X.env = pure false) (hw : X.w = w := by rfl) :
    PS X (.Assign [.Subscript o i pos'] value pos) (sNPut w td ty tv) := by
  refine ⟨fun pins s σ H D I h => ?_⟩
  refine wpAny_Assign_Subscript (thn (hv.run pins s σ H _ I h) fun r s1 ⟨v, H1, I1, rv, q1⟩ => thn (ho.run pins s1 σ H1 _ I1 q1) fun u s2 ⟨x, H2, I2, rx, q2⟩ => thn (hi.run pins s2 σ H2 _ I2 q2) fun iv s3 ⟨y, H3, I3, ry, a, b, es, k, g, hl, q3⟩ => ?_) hs
  obtain ⟨z, hd, xs, rr, dd, hk⟩ := g.dn I3 hw
  subst hw
  cases g.ex
  cases g.ey
  obtain rfl : u = Value.ref a := rx
  obtain rfl : iv = Value.ref b := ry
  have hz : xs.length ≤ sizeLine := by rw [← rr.len]; exact z
  have hl2 : (putN es k b v).length ≤ sizeLine := Nat.le_trans putN_len hl
  refine wpAny_setItem_heap (hsz := hz) (n_room hu) hk dd fun h' dd' hs => ⟨σ, _, ?_, q3⟩
  have he : ∃ q, h'.get? a = some q := let ⟨q, _, _, hq, _⟩ := dd'; ⟨q, hq⟩
  exact d_write I3 (by rw [g.ha]; exact True.intro) hs he (dn_obj hl2 hd (rr.put k b rv) dd')
theorem ps_ndel (hu : X.A.units + 64 < cLine) (ho : PE X o td) (hi : PE X i ty) (hw : X.w = w := by rfl) : PS X (.Delete [.Subscript o i tpos] pos) (sNDel w td ty) := by
  refine ⟨fun pins s σ H D I h => ?_⟩
  refine wpAny_Delete (wpAny_deleteEach_cons (wpAny_delete_Subscript (thn (ho.run pins s σ H _ I h) fun u s1 ⟨x, H1, I1, rx, q1⟩ => thn (hi.run pins s1 σ H1 _ I1 q1) fun iv s2 ⟨y, H2, I2, ry, a, b, es, k, v, g, hv, q2⟩ => ?_)))
  obtain ⟨z, hd, xs, rr, dd, hk⟩ := g.dn I2 hw
  subst hw
  cases g.ex
  cases g.ey
  obtain rfl : u = Value.ref a := rx
  obtain rfl : iv = Value.ref b := ry
  have hz : xs.length ≤ sizeLine := by rw [← rr.len]; exact z
  obtain ⟨w', hw', rw'⟩ := RelO.some_of (v := v) (o := (atKey xs k).map (·.2)) (by rw [← hv]; exact rr.at k)
  obtain ⟨p, hp, hp2⟩ := Option.map_eq_some_iff.mp hw'
  refine wpAny_delItem_heap (hsz := hz) (n_room hu) hk hd dd hp fun h' dd' hs => wpAny_deleteEach_nil ⟨σ, _, ?_, q2⟩
  have he : ∃ q, h'.get? a = some q := let ⟨q, _, _, hq, _⟩ := dd'; ⟨q, hq⟩
  exact d_write I2 (by rw [g.ha]; exact True.intro) hs he (dn_obj (Nat.le_trans dropN_len z) hd (rr.drop k) dd')
theorem dn_type {H : Hp} {a : Addr} {es : List Ent} {pins : List (Addr × Obj)} {σ : St} {s : Shared} (I : Inv X pins σ H s) (e : H a = some (DN w a es)) : s.TypeIs (.ref a) "dict" ∧ ∀ b, Value.ref a = .ref b → ∃ ob, s.heap.get? b = some ob ∧ ob.dict = none := by
  obtain ⟨⟨z, y, xs, r, o, ds, ep, h1, h2, h3, h4, h5⟩, _, _⟩ := (show ObjOk X.prog X.w H s.heap a (DN w a es) from I.hok _ _ e)
  exact ⟨⟨o, h1, h2.1⟩, fun b q => by
    cases q
    exact ⟨o, h1, h2.2.1⟩⟩
theorem pe_npop {e : Expr} {apos cpos : Pos} (hu : X.A.units + 64 < cLine) (ho : PE X o td) (he : PE X e ty) (m : M1 X o "pop" apos e cpos) (hw : X.w = w := by rfl) : PE X (.Call (.Attribute o "pop" apos) [e] [] cpos) (tNPop w td ty) := by
  refine ⟨fun pins s σ H Q I h => ?_⟩
  refine wpAny_Call_method m.base m.few m.line PySem.F.plainAttrs_dict PySem.F.slot_dict_pop PySem.F.type_dict_pop (thn (ho.run pins s σ H _ I h) fun u s1 ⟨x, H1, I1, rx, ⟨a0, es0, ex, ea⟩, q1⟩ => ?_)
  cases ex
  obtain rfl : u = Value.ref a0 := rx
  obtain ⟨t1, t2⟩ := dn_type I1 ea
  refine ⟨t1, t2, ?_⟩
  rw [m.trees]
  refine Calls.callWith_builtin rfl (Calls.evalArgs_plain (Calls.spliced_cons (thn (he.run pins s1 σ H1 _ I1 q1) fun iv s2 ⟨y, H2, I2, ry, a, b, es, k, v, g, hv, q2⟩ => Calls.spliced_nil ?_)))
  obtain ⟨z, hd, xs, rr, dd, hk⟩ := g.dn I2 hw
  subst hw
  cases g.ex
  cases g.ey
  obtain rfl : iv = Value.ref b := ry
  have hz : xs.length ≤ sizeLine := by rw [← rr.len]; exact z
  obtain ⟨w', hw', rw'⟩ := RelO.some_of (v := v) (o := (atKey xs k).map (·.2)) (by rw [← hv]; exact rr.at k)
  obtain ⟨p, hp, hp2⟩ := Option.map_eq_some_iff.mp hw'
  refine call_pop_heap (hsz := hz) (.inl rfl) (PySem.F.args_dict_pop_2 _ _) (n_room hu) hk hd dd hp fun h' dd' hs => ?_
  have he : ∃ q, h'.get? a0 = some q := let ⟨q, _, _, hq, _⟩ := dd'; ⟨q, hq⟩
  rw [hp2]
  exact ⟨v, _, d_write I2 (by rw [g.ha]; exact True.intro) hs he (dn_obj (Nat.le_trans dropN_len z) hd (rr.drop k) dd'), rw', q2⟩
theorem pe_nnew (hw : X.w = w := by rfl) : PE X (.Dict [] [] pos) (tNNew w) := ⟨fun pins s σ H Q I h => by
  subst hw
  exact wpAny_Dict_empty ⟨.ref s.heap.objs.size, _, I.laid (a := s.heap.objs.size) (o := DN X.w s.heap.objs.size []) (t' := s.toks) (fun _ _ q => Heap.get?_push_of_some _ q) (Nat.le_refl _) (dn_empty s.heap I.big), rfl, h _ (I.hok.fresh (Nat.le_refl _))⟩⟩
end
end Hb

set_option Elab.async false
set_option maxRecDepth 100000
set_option maxHeartbeats 4000000
/-! sorted(..) of tuples of ints and of tuples of ints. -/
namespace Hb
open PySem L2 PyProof.Rows
/-! ### the order of rows of ints -/
abbrev lexI (x y : List Int) : Bool := HT.lexLt x y
theorem lexI_cons {x y : Int} {xs ys : List Int} : lexI (x :: xs) (y :: ys) = if x = y then lexI xs ys else decide (x < y) := rfl
theorem lexI_self : ∀ x : List Int, lexI x x = false
  | [] => rfl
  | x :: xs => by rw [lexI_cons, if_pos rfl]; exact lexI_self xs
theorem lexI_asym : ∀ x y : List Int, lexI x y = true → lexI y x = false
  | [], [], h => nomatch h
  | [], _ :: _, _ => rfl
  | _ :: _, [], h => nomatch h
  | x :: xs, y :: ys, h => by
    rw [lexI_cons] at h ⊢
    by_cases e : x = y
    · rw [if_pos e] at h
      rw [if_pos e.symm]
      exact lexI_asym xs ys h
    · rw [if_neg e] at h
      rw [if_neg (fun q => e q.symm)]
      have := of_decide_eq_true h
      exact decide_eq_false (by omega)
theorem lexI_tr : ∀ x y z : List Int, lexI y x = false → lexI z y = false → lexI z x = false
  | [], [], _, _, h => h
  | [], _ :: _, _, h1, _ => by
    rename_i z _
    cases z with
    | nil => rfl
    | cons z zs => rfl
  | _ :: _, [], _, h1, _ => nomatch h1
  | x :: xs, y :: ys, [], h1, h2 => nomatch h2
  | x :: xs, y :: ys, z :: zs, h1, h2 => by
    rw [lexI_cons] at h1 h2 ⊢
    by_cases e1 : y = x
    · subst e1
      rw [if_pos rfl] at h1
      by_cases e2 : z = y
      · subst e2
        rw [if_pos rfl] at h2
        rw [if_pos rfl]
        exact lexI_tr xs ys zs h1 h2
      · rw [if_neg e2] at h2 ⊢
        exact h2
    · rw [if_neg e1] at h1
      have g1 := of_decide_eq_false h1
      by_cases e2 : z = y
      · subst e2
        rw [if_neg e1]
        exact h1
      · rw [if_neg e2] at h2
        have g2 := of_decide_eq_false h2
        rw [if_neg (by omega)]
        exact decide_eq_false (by omega)
theorem lexI_total : ∀ x y : List Int, lexI x y = false → lexI y x = false → x = y
  | [], [], _, _ => rfl
  | [], _ :: _, h, _ => nomatch h
  | _ :: _, [], _, h => nomatch h
  | x :: xs, y :: ys, h1, h2 => by
    rw [lexI_cons] at h1 h2
    by_cases e : x = y
    · subst e
      rw [if_pos rfl] at h1 h2
      rw [lexI_total xs ys h1 h2]
    · rw [if_neg e] at h1
      rw [if_neg (fun q => e q.symm)] at h2
      have g1 := of_decide_eq_false h1
      have g2 := of_decide_eq_false h2
      omega
theorem lexI_app : ∀ {x y r t : List Int}, x.length = y.length → lexI (x ++ r) (y ++ t) = if x = y then lexI r t else lexI x y
  | [], [], r, t, _ => by rw [if_pos rfl]; rfl
  | x :: xs, y :: ys, r, t, h => by
    have h' : xs.length = ys.length := by simpa using h
    show lexI (x :: (xs ++ r)) (y :: (ys ++ t)) = _
    rw [lexI_cons, lexI_cons]
    by_cases e : x = y
    · subst e
      rw [if_pos rfl, if_pos rfl, lexI_app h']
      by_cases e2 : xs = ys
      · rw [if_pos e2, if_pos (by rw [e2])]
      · rw [if_neg e2, if_neg (fun q => e2 (List.cons.inj q).2)]
    · rw [if_neg e, if_neg e, if_neg (fun q => e (List.cons.inj q).1)]
theorem swo_lexI {α : Type} (f : α → List Int) : SrtO.Swo fun x y => lexI (f x) (f y) := ⟨fun _ _ => lexI_asym _ _, fun _ _ _ => lexI_tr _ _ _⟩
/-! ### tuples of ints and of tuples of ints -/
abbrev Itm := Int ⊕ List Int
def flI : Itm → List Int
  | .inl i => [i]
  | .inr ns => ns
def flK (ks : List Itm) : List Int := ks.flatMap flI
def shp : Itm → Option Nat
  | .inl _ => none
  | .inr ns => some ns.length
def nkI : Itm → NestedKey
  | .inl i => .num i
  | .inr ns => .tup (ns.map .num)
def nkK (ks : List Itm) : NestedKey := .tup (ks.map nkI)
theorem shp_len {x y : Itm} (h : shp x = shp y) : (flI x).length = (flI y).length := by
  cases x with
  | inl i =>
    cases y with
    | inl j => rfl
    | inr ms => cases h
  | inr ns =>
    cases y with
    | inl j => cases h
    | inr ms => exact Option.some.inj h
theorem flI_inj {x y : Itm} (h : shp x = shp y) (e : flI x = flI y) : x = y := by
  cases x with
  | inl i =>
    cases y with
    | inl j => cases e; rfl
    | inr ms => cases h
  | inr ns =>
    cases y with
    | inl j => cases h
    | inr ms => cases e; rfl
theorem flK_inj : ∀ {xs ys : List Itm}, xs.map shp = ys.map shp → flK xs = flK ys → xs = ys
  | [], [], _, _ => rfl
  | [], _ :: _, h, _ => nomatch h
  | _ :: _, [], h, _ => nomatch h
  | x :: xs, y :: ys, h, e => by
    have h1 : shp x = shp y := (List.cons.inj h).1
    have e' : flI x ++ flK xs = flI y ++ flK ys := e
    have h2 := List.append_inj e' (shp_len h1)
    rw [flI_inj h1 h2.1, flK_inj (List.cons.inj h).2 h2.2]
theorem nums_inj : ∀ {a b : List Int}, a.map NestedKey.num = b.map NestedKey.num → a = b
  | [], [], _ => rfl
  | [], _ :: _, h => nomatch h
  | _ :: _, [], h => nomatch h
  | x :: xs, y :: ys, h => by
    have h1 := List.cons.inj h
    rw [NestedKey.num.inj h1.1, nums_inj h1.2]
theorem nkI_inj {x y : Itm} (h : nkI x = nkI y) : x = y := by
  cases x with
  | inl i =>
    cases y with
    | inl j => cases h; rfl
    | inr ms => cases h
  | inr ns =>
    cases y with
    | inl j => cases h
    | inr ms => rw [nums_inj (NestedKey.tup.inj h)]
section
variable {prog : Program} {w : World} {A : Around} {E : Value → Shared → Prop} {s : Shared}
theorem lt_any {f : Bool} {a b : Int} {t u : Tok} {Q : Bool → Shared → Prop} (h : Q (decide (a < b)) s) : wpAny (model prog w) A (oneLt' f (.int a t) (.int b u)) Q (fun _ _ => False) s := by
  cases f with
  | true => exact oneLt_int h
  | false => exact PySem.W.kat_one _ _ (lt_int h)
/-- an item of such a tuple -/
def ItIs (h : Heap) : Itm → Value → Prop
  | .inl i, v => ∃ t, v = .int i t
  | .inr ns, v => ∃ p items, v = .ref p ∧ IsTup h p items ∧ IntsAre items.toList ns
def K2Is (h : Heap) (ks : List Itm) (v : Value) : Prop := ∃ p o n vs, v = .ref p ∧ h.get? p = some o ∧ o.cls = .type "tuple" ∧ o.data = .seq vs n ∧ Paired (ItIs h) ks vs.toList
theorem ItIs.keeps {h h' : Heap} (k : ∀ b o, h.get? b = some o → o.cls = .type "tuple" → h'.get? b = some o) {x : Itm} {v : Value} (r : ItIs h x v) : ItIs h' x v := by
  cases x with
  | inl i => exact r
  | inr ns =>
    obtain ⟨p, items, e, ⟨o, ho, hc, n, hd⟩, hi⟩ := r
    exact ⟨p, items, e, ⟨o, k _ _ ho hc, hc, n, hd⟩, hi⟩
theorem K2Is.keeps {h h' : Heap} (k : ∀ b o, h.get? b = some o → o.cls = .type "tuple" → h'.get? b = some o) {ks : List Itm} {v : Value} (r : K2Is h ks v) : K2Is h' ks v := by
  obtain ⟨p, o, n, vs, e, ho, hc, hd, r⟩ := r
  exact ⟨p, o, n, vs, e, k _ _ ho hc, hc, hd, Paired.mapP r fun a b => ItIs.keeps k⟩
theorem ints_nested {h : Heap} : ∀ {vs : List Value} {ns : List Int}, IntsAre vs ns → NestedAll h (ns.map .num) vs
  | _, _, .nil => .nil
  | _, _, .cons i t r => .cons (.int i t) (ints_nested r)
theorem ItIs.nested {h : Heap} {x : Itm} {v : Value} (r : ItIs h x v) : NestedIs h (nkI x) v := by
  cases x with
  | inl i =>
    obtain ⟨t, rfl⟩ := r
    exact .int i t
  | inr ns =>
    obtain ⟨p, items, rfl, ⟨o, ho, hc, n, hd⟩, hi⟩ := r
    exact .tup ho hc hd (ints_nested hi)
theorem depth_nums : ∀ ns : List Int, NestedKey.depthAll (ns.map .num) ≤ 1
  | [] => by simp [NestedKey.depthAll]
  | n :: ns => by
    have := depth_nums ns
    simp only [List.map_cons, NestedKey.depthAll, NestedKey.depth]
    omega
theorem depth_nkI (x : Itm) : (nkI x).depth ≤ 2 := by
  cases x with
  | inl i => simp [nkI, NestedKey.depth]
  | inr ns =>
    have := depth_nums ns
    simp only [nkI, NestedKey.depth]
    omega
theorem k2_lex {b fin : Bool} {Q : Bool → Shared → Prop} (hu : A.units + 2 < cLine) : ∀ {xs ys : List Itm} {vs ws : List Value} {i : Nat}, Paired (ItIs s.heap) xs vs → Paired (ItIs s.heap) ys ws → xs.map shp = ys.map shp → (b = true → i = 0 → ∀ x ∈ xs.head?, shp x = none) → fin = false → Q (lexI (flK xs) (flK ys)) s →
    PySem.W.KatLex prog w A b fin Q (vs.zip ws) i s
  | _, _, _, _, i, .nil, .nil, _, _, hf, h => by
    subst hf
    exact PySem.W.kat_nil h
  | _, _, _, _, _, .nil, .cons _ _, hs, _, _, _ => nomatch hs
  | _, _, _, _, _, .cons _ _, .nil, hs, _, _, _ => nomatch hs
  | x :: xs, y :: ys, v :: vs, u :: us, i, .cons r rs, .cons q qs, hs, hb, hf, h => by
    have h1 : shp x = shp y := (List.cons.inj hs).1
    have h2 := (List.cons.inj hs).2
    have e : lexI (flK (x :: xs)) (flK (y :: ys)) = if flI x = flI y then lexI (flK xs) (flK ys) else lexI (flI x) (flI y) := lexI_app (shp_len h1)
    rw [e] at h
    refine PySem.W.kat_cons (eqAt_key (nkI x) (nkI y) A s v u r.nested q.nested (by have := depth_nkI x; omega) prog w _ _ ?_)
    rw [← NestedKey.decide_eq]
    refine PySem.W.kat_go (fun e1 => ?_) (fun e1 => ?_)
    · have e2 : x = y := nkI_inj (of_decide_eq_true e1)
      rw [if_pos (by rw [e2])] at h
      exact PySem.W.kat_yes (k2_lex hu rs qs h2 (fun _ z => nomatch z) hf h)
    · have e2 : ¬ flI x = flI y := fun z => of_decide_eq_false e1 (by rw [flI_inj h1 z])
      rw [if_neg e2] at h
      refine PySem.W.kat_no ?_
      cases x with
      | inl n =>
        cases y with
        | inr ms => cases h1
        | inl m =>
          obtain ⟨t, rfl⟩ := r
          obtain ⟨t', rfl⟩ := q
          have e3 : lexI (flI (.inl n)) (flI (.inl m)) = decide (n < m) := by
            show lexI [n] [m] = _
            rw [lexI_cons, if_neg (fun z => e2 (by rw [z]))]
          rw [e3] at h
          exact lt_any h
      | inr ns =>
        cases y with
        | inl m => cases h1
        | inr ms =>
          have hc : (b && i == 0) = false := by
            cases hb1 : b with
            | false => rfl
            | true =>
              cases hi : i == 0 with
              | false => rfl
              | true =>
                have := hb hb1 (by simpa using hi) (.inr ns) rfl
                cases this
          rw [hc]
          obtain ⟨p, its, rfl, ht, hi⟩ := r
          obtain ⟨p', its', rfl, ht', hi'⟩ := q
          exact PySem.W.kat_one _ _ (HT.lt_tupInts ht ht' hi hi' (by omega) h)
theorem paired_len {α β : Type} {R : α → β → Prop} {xs : List α} {ys : List β} (h : Paired R xs ys) : xs.length = ys.length := Paired.length h
/-- the first items -/
theorem firsts2 {h : Heap} {k : Value → List Itm} {c : Option Nat} {sh : List (Option Nat)} : ∀ {vs : List Value}, (∀ v ∈ vs, K2Is h (k v) v ∧ (k v).map shp = c :: sh) → ∃ fs : List Value, PySem.W.KatTups h vs fs ∧ fs.length = vs.length ∧ ∀ f ∈ fs, ∃ x, ItIs h x f ∧ shp x = c
  | [], _ => ⟨[], PySem.W.KatTups.nil, rfl, fun _ hm => by simp at hm⟩
  | v :: vs, hp => by
    obtain ⟨fs, h1, h2, h3⟩ := firsts2 (vs := vs) fun v' hm => hp v' (List.mem_cons_of_mem _ hm)
    obtain ⟨⟨p, o, n, ws, e, ho, hc, hd, r⟩, hsh⟩ := hp v (List.mem_cons_self ..)
    generalize k v = ks at r hsh
    match ks, hsh, hw : ws.toList, r with
    | x :: ks, hsh, u :: us, .cons r _ =>
      subst e
      refine ⟨u :: fs, PySem.W.KatTups.cons ho hc hd (by rw [← Array.getElem?_toList, hw]; rfl) h1, by rw [List.length_cons, List.length_cons, h2], fun f hm => ?_⟩
      rcases List.mem_cons.mp hm with rfl | hm
      · exact ⟨x, r, (List.cons.inj hsh).1⟩
      · exact h3 f hm
theorem k2_cmp {vs : List Value} {k : Value → List Itm} {b : Bool} {c : Option Nat} {sh : List (Option Nat)} (hu : A.units + 2 < cLine) (hb : b = true → c = none) (hp : ∀ v ∈ vs, K2Is s.heap (k v) v ∧ (k v).map shp = c :: sh) : SrtO.Cmp prog w A s (tuples' b) (fun p => p.1 ∈ vs) (SrtO.lt2 fun v u => lexI (flK (k v)) (flK (k u))) := by
  intro p q hm hm'
  obtain ⟨⟨a, o, n, ws, e, ho, hc, hd, r⟩, hs⟩ := hp _ hm
  obtain ⟨⟨a', o', n', ws', e', ho', hc', hd', r'⟩, hs'⟩ := hp _ hm'
  show wpAny (model prog w) A (keyLt' (tuples' b) p.1 q.1) (fun r s' => s' = s ∧ r = lexI (flK (k p.1)) (flK (k q.1))) (fun _ _ => False) s
  generalize k p.1 = ks at r hs ⊢
  generalize k q.1 = ks' at r' hs' ⊢
  rw [e, e']
  refine PySem.W.kat_lt ho hd ho' hd' ?_
  have l1 : ks.length = ws.size := by
    have := paired_len r
    simpa using this
  have l2 : ks'.length = ws'.size := by
    have := paired_len r'
    simpa using this
  have l3 : ks.length = ks'.length := by
    have := congrArg List.length (hs.trans hs'.symm)
    simpa using this
  refine k2_lex hu r r' (hs.trans hs'.symm) (fun h1 _ x hx => ?_) ?_ ⟨rfl, rfl⟩
  · match ks, hs, hx with
    | y :: ks, hs, hx =>
      cases hx
      rw [← hb h1]
      exact (List.cons.inj hs).1
  · exact decide_eq_false (by omega)
theorem k2_sortable {a : Addr} {vs : List Value} {k : Value → List Itm} {c : Option Nat} {sh : List (Option Nat)} (hu : A.units + 2 < cLine) (h0 : 0 < vs.length) (hp : ∀ v ∈ vs, K2Is s.heap (k v) v ∧ (k v).map shp = c :: sh) (ha : ∀ o, s.heap.get? a = some o → o.cls ≠ .type "tuple") : SrtO.SortableO prog w A s a vs fun v u => lexI (flK (k v)) (flK (k u)) := by
  intro h' keep
  have hp' : ∀ v ∈ vs, K2Is h' (k v) v ∧ (k v).map shp = c :: sh := fun v hm => ⟨(hp v hm).1.keeps fun b o e cc => keep b o (fun z => by subst z; exact ha o e cc) e, (hp v hm).2⟩
  obtain ⟨fs, h1, h2, h3⟩ := firsts2 hp'
  cases c with
  | none =>
    refine ⟨tuples' true, fun Q E hq => ?_, k2_cmp hu (fun _ => rfl) hp'⟩
    refine PySem.W.kat_kind (T := .type "int") h1 (by omega) (fun f hm => ?_) (by rfl) ?_
    · obtain ⟨x, r, e⟩ := h3 f hm
      cases x with
      | inr ns => cases e
      | inl i =>
        obtain ⟨t, rfl⟩ := r
        exact PySem.W.Looks.now
    · have e : (Value.type "int" != Value.type "tuple") = true := by first | decide +kernel | rfl | decide
      rw [e]
      exact hq
  | some n =>
    refine ⟨tuples' false, fun Q E hq => ?_, k2_cmp hu (fun z => nomatch z) hp'⟩
    refine PySem.W.kat_kind (T := .type "tuple") h1 (by omega) (fun f hm => ?_) (by rfl) ?_
    · obtain ⟨x, r, e⟩ := h3 f hm
      cases x with
      | inl i => cases e
      | inr ns =>
        obtain ⟨p, its, rfl, ⟨o, ho, hc, n, hd⟩, hi⟩ := r
        exact (PySem.W.Looks.ld ho).andThen (by rw [hc]; exact .now)
    · have e : (Value.type "tuple" != Value.type "tuple") = false := by first | decide +kernel | rfl | decide
      rw [e]
      exact hq
end
/-! ### as rules -/
theorem nums_ints {H : Hp} : ∀ {ns : List Int} {vs : List V} {us : List Value}, NKs H (ns.map .num) vs → Vals vs us → IntsAre us ns
  | [], _, _, .nil, r => by cases r; exact .nil
  | n :: ns, _, _, .cons h hs, r => by
    cases h
    cases r with
    | cons r1 r2 =>
      obtain ⟨t, rfl⟩ := r1
      exact .cons n t (nums_ints hs r2)
theorem NK.it {P : Program} {w : World} {H : Hp} {h : Heap} (ok : HOk P w H h) {x : Itm} {v : V} {u : Value} (hk : NK H (nkI x) v) (r : RelV v u) : ItIs h x u := by
  cases x with
  | inl i =>
    cases hk
    exact r
  | inr ns =>
    cases hk with
    | tup e hs =>
      cases (show u = Value.ref _ from r)
      obtain ⟨_, its, r2, ht⟩ := ok _ _ e
      exact ⟨_, _, rfl, ht, nums_ints hs r2⟩
theorem NKs.its {P : Program} {w : World} {H : Hp} {h : Heap} (ok : HOk P w H h) : ∀ {ks : List Itm} {vs : List V} {us : List Value}, NKs H (ks.map nkI) vs → Vals vs us → Paired (ItIs h) ks us
  | [], _, _, .nil, r => by cases r; exact .nil
  | k :: ks, _, _, .cons hk hs, r => by
    cases r with
    | cons r1 r2 => exact .cons (hk.it ok r1) (NKs.its ok hs r2)
theorem NK.k2 {P : Program} {w : World} {H : Hp} {h : Heap} (ok : HOk P w H h) {ks : List Itm} {b : Addr} (hk : NK H (nkK ks) (.ref b)) : K2Is h ks (.ref b) := by
  cases hk with
  | tup e hs =>
    obtain ⟨_, its, r2, o, ho, hc, n, hd⟩ := ok _ _ e
    exact ⟨b, o, n, _, rfl, ho, hc, hd, NKs.its ok hs r2⟩
theorem _root_.Hb.RelEs.addrs : ∀ {es : List Ent} {xs : List (NestedKey × Addr × Value)}, RelEs es xs → es.map (fun e => Value.ref e.2.1) = xs.map fun x => Value.ref x.2.1
  | _, _, .nil => rfl
  | _, _, .cons h t => by rw [List.map_cons, List.map_cons, RelEs.addrs t, h.2.1]
/-- by the ints of the keys -/
abbrev ltK (k : V → List Itm) (x y : V) : Bool := lexI (flK (k x)) (flK (k y))
theorem ltK_swo (k : V → List Itm) : SrtO.Swo (ltK k) := swo_lexI fun x => flK (k x)
/-- sorted(xs): xs a list of such tuples, all of one shape -/
def rSortN (K : PySem.W.Frag) (c : Option Nat) (sh : List (Option Nat)) : List V → Hp → VK → Prop := fun vs H Q => ∃ (a : Addr) (xs : List V) (k : V → List Itm), vs = [V.ref a] ∧ SqL K H a xs ∧ (∀ x ∈ xs, (∃ b, x = V.ref b) ∧ NK H (nkK (k x)) x ∧ (k x).map shp = c :: sh) ∧
  ∀ ys p, SrtO.Srtd (ltK k) ys → SrtO.Stb (ltK k) ys xs → H p = none → Q (.ref p) (upd H p (.lst ys))
/-- sorted(d) of a dict with such keys -/
def rSortDN (w : World) (c : Option Nat) (sh : List (Option Nat)) : List V → Hp → VK → Prop := fun vs H Q => ∃ (a : Addr) (es : List Ent) (k : V → List Itm), vs = [V.ref a] ∧ H a = some (DN w a es) ∧ (∀ e ∈ es, NK H (nkK (k (.ref e.2.1))) (.ref e.2.1) ∧ (k (.ref e.2.1)).map shp = c :: sh) ∧
  ∀ ys p, SrtO.Srtd (ltK k) ys → SrtO.Stb (ltK k) ys (es.map fun e => V.ref e.2.1) → H p = none → Q (.ref p) (upd H p (.lst ys))
section
variable {X : Cx} {c : Option Nat} {sh : List (Option Nat)} {K : PySem.W.Frag} {w : World}
theorem cr_sortN (hu : X.A.units + 64 < cLine) (hK : X.K = K := by rfl) : CallR X (.builtin "sorted") (rSortN K c sh) := by
  subst hK
  intro pins s σ H vs us Q I r h
  obtain ⟨a, xs, k, rfl, hs, hx, q⟩ := h
  obtain ⟨its, rv, hl, hz⟩ := I.list hs
  obtain ⟨u, rfl, ru⟩ := vals1 r
  obtain rfl : u = Value.ref a := ru
  obtain ⟨e1, e2⟩ := refs_back rv fun x m => (hx x m).1
  have hp : ∀ v ∈ its, K2Is s.heap (k (backV v)) v ∧ (k (backV v)).map shp = c :: sh := fun v hv => by
    obtain ⟨t, rfl⟩ := e2 v hv
    have hm : V.ref t ∈ xs := by
      rw [e1]
      exact List.mem_map.mpr ⟨_, hv, rfl⟩
    obtain ⟨_, h1, h2⟩ := hx _ hm
    exact ⟨NK.k2 I.hok h1, h2⟩
  have hu2 : X.A.in1.in1.units + 2 < cLine := by
    have e : X.A.in1.in1.units = X.A.units + 1 + 1 := rfl
    omega
  refine SrtO.sorted_ord (ltv := fun v u => lexI (flK (k (backV v))) (flK (k (backV u)))) (swo_lexI fun v => flK (k (backV v))) hl.isList (by rw [← rv.length]; exact hz) (fun h2 h₁ a ha kk => ?_) fun out h1 h2 => ?_
  · refine k2_sortable (s := { s with heap := h₁ }) hu2 (by omega) (fun v hm => ⟨(hp v hm).1.keeps fun b o e _ => (kk b o e).2, (hp v hm).2⟩) fun o e => ?_
    have e' : some o = some (seqObj "list" its.toArray 0) := e.symm.trans ha
    cases e'
    intro cc
    exact absurd (Value.type.inj cc) (by decide)
  · have h3 : ∀ u ∈ out, ∃ a, u = Value.ref a := fun u hu => e2 u (h2.perm.mem_iff.mp hu)
    obtain ⟨n, hn⟩ := sortedAll_at s.heap its out.toArray
    have hb : SrtO.Stb (ltK k) (out.map backV) xs := by
      rw [e1]
      exact SrtO.Stb.map (ltK_swo k) backV h2
    refine ⟨.ref (s.heap.objs.size + 1), upd H (s.heap.objs.size + 1) (.lst (out.map backV)), I.laid (t' := s.toks) (fun b o e => sortedAll_old e) (Nat.le_succ _) ⟨?_, out, n, vals_back h3, hn⟩, rfl, q _ _ (SrtO.srtd_map h1) hb (I.hok.fresh (Nat.le_succ _))⟩
    rw [hb.len]
    exact hz
theorem cr_sortDN (hc : X.calm = true) (hu : X.A.units + 64 < cLine) (hw : X.w = w := by rfl) : CallR X (.builtin "sorted") (rSortDN w c sh) := by
  subst hw
  intro pins s σ H vs us Q I r h
  obtain ⟨a, es, k, rfl, ha, hx, q⟩ := h
  obtain ⟨u, rfl, ru⟩ := vals1 r
  obtain rfl : u = Value.ref a := ru
  obtain ⟨⟨z, lo, xs, rel, o, ds, ep, h1, h2, h3, h4, h5⟩, _, _⟩ := (show ObjOk X.prog X.w H s.heap a (DN X.w a es) from I.hok _ _ ha)
  have hu2 : X.A.in1.in1.units + 2 < cLine := by
    have e : X.A.in1.in1.units = X.A.units + 1 + 1 := rfl
    omega
  have hsz : ds.size = es.length := by
    rw [← Array.length_toList, h4, List.length_map, rel.len]
  refine Calls.call_function_entry kind_sorted plain_sorted entry_sorted (args_sorted1 _) ?_
  unfold Builtin.«sorted»
  refine wpAny_bind (m := checkCount "sorted" 1 1 _) (wpAny_pure ?_)
  refine wpAny_bind (PySem.W.kdu_collect (A := X.A.in1) (kdl_raw lo h2 h3) (I.ok.hd hc) h1 (by rw [hsz]; exact z) fun h' tk acc hk hacc => ?_)
  have hal : acc.toList.length = es.length := by rw [Array.length_toList, hacc.1, hsz]
  have hac : acc.toList = es.map fun e => Value.ref e.2.1 := by
    refine List.ext_getElem? fun j => ?_
    rw [List.getElem?_map]
    cases e1 : acc.toList[j]? with
    | none =>
      have g1 := List.getElem?_eq_none_iff.mp e1
      rw [List.getElem?_eq_none (by omega)]
      rfl
    | some v =>
      obtain ⟨en, g1, g2⟩ := hacc.2 j v (by rw [← Array.getElem?_toList]; exact e1)
      rw [← Array.getElem?_toList, h4, List.getElem?_map] at g1
      obtain ⟨x, g3, g4⟩ := Option.map_eq_some_iff.mp g1
      have g5 : (es.map fun e => Value.ref e.2.1)[j]? = some (Value.ref x.2.1) := by
        have g6 : es.map (fun e => Value.ref e.2.1) = xs.map fun x => Value.ref x.2.1 := by
          exact rel.addrs
        rw [g6, List.getElem?_map, g3]
        rfl
      rw [List.getElem?_map] at g5
      rw [g5, g2, ← g4]
      rfl
  have I1 : Inv X pins σ H { s with heap := h', toks := tk } := I.kept hk
  have hp : ∀ v ∈ acc.toList, K2Is h' (k (backV v)) v ∧ (k (backV v)).map shp = c :: sh := fun v hv => by
    rw [hac] at hv
    obtain ⟨e, he, rfl⟩ := List.mem_map.mp hv
    obtain ⟨g1, g2⟩ := hx e he
    exact ⟨NK.k2 I1.hok g1, g2⟩
  refine wpAny_bind (wpAny_newList ?_ (by rw [hal]; exact z))
  have hoL : (h'.push (seqObj "list" acc.toList.toArray 0)).get? h'.objs.size = some (seqObj "list" acc.toList.toArray 0) := Heap.get?_push_size _ rfl
  show wpAny _ _ _ _ _ { s with heap := h'.push (seqObj "list" acc.toList.toArray 0), toks := tk }
  refine wpAny_bind (wpAny_holding (wpAny_call_entry slot_list_sort ⟨_, hoL, rfl⟩ entry_list_sort
    (SrtO.list_sort_ord (s := { s with heap := h'.push (seqObj "list" acc.toList.toArray 0), toks := tk }) (ltv := fun v u => lexI (flK (k (backV v))) (flK (k (backV u)))) (swo_lexI fun v => flK (k (backV v))) hoL (by rw [hal]; exact z) (fun g0 => ?_) fun out g1 g2 => ⟨_, rfl, ?_⟩) (args_list_sort _)))
  · refine k2_sortable (s := { s with heap := h'.push (seqObj "list" acc.toList.toArray 0), toks := tk }) hu2 (by omega) (fun v hm => ⟨(hp v hm).1.keeps fun b o e _ => Heap.get?_push_of_some _ e, (hp v hm).2⟩) fun o e => ?_
    have e' : some o = some (seqObj "list" acc.toList.toArray 0) := e.symm.trans hoL
    cases e'
    intro cc
    exact absurd (Value.type.inj cc) (by decide)
  · obtain ⟨e', he'⟩ := sortedHeap_at (vs := acc.toList) (out := out.toArray) hoL
    have g3 : ∀ u ∈ out, ∃ a, u = Value.ref a := fun u hu => by
      have hm := g2.perm.mem_iff.mp hu
      rw [hac] at hm
      obtain ⟨e, _, rfl⟩ := List.mem_map.mp hm
      exact ⟨_, rfl⟩
    have hb : SrtO.Stb (ltK k) (out.map backV) (es.map fun e => V.ref e.2.1) := by
      have hm := SrtO.Stb.map (ltK_swo k) backV g2
      rw [hac, List.map_map] at hm
      exact hm
    refine wpAny_pure ⟨_, rfl, .ref h'.objs.size, upd H h'.objs.size (.lst (out.map backV)), I1.laid (t' := tk) (fun b u e => ?_) (Nat.le_refl _)
      (show ObjOk X.prog X.w _ _ _ (.lst (out.map backV)) from ⟨?_, out, e', vals_back g3, he'⟩), rfl, q _ _ (SrtO.srtd_map g1) hb (I1.hok.fresh (Nat.le_refl _))⟩
    · have hlt : b < h'.objs.size := Heap.lt_size e
      rw [sortedHeap_old (Nat.ne_of_lt hlt) (by rw [size_push']; exact Nat.lt_succ_of_lt hlt)]
      exact Heap.get?_push_of_some _ e
    · rw [hb.len, List.length_map]
      exact z
end
/-! ### min and max of two tuples of ints -/
section
open PySem.SeqAt
open PySem.W (keyToksAll dataLt alike alikeAll dataLt_cons dataLt_int AlikeAll reads_keeps iter_tupleW cmpIn_lt cmpIn_gt moved_old)
theorem toks_ints : ∀ ns ms : List Int, PyProof.Rows.lexLt itemOrd (keyToksAll (ns.map .int)) (keyToksAll (ms.map .int)) = lexI ns ms
  | [], [] => lex_irrefl _
  | [], m :: ms => by
    show PyProof.Rows.lexLt itemOrd [.inl 0] (.inl 1 :: _) = true
    exact lex_diff (by decide)
  | n :: ns, [] => by
    show PyProof.Rows.lexLt itemOrd (.inl 1 :: _) [.inl 0] = false
    exact lex_diff (by decide)
  | n :: ns, m :: ms => by
    show PyProof.Rows.lexLt itemOrd (keyToksAll (.int n :: ns.map .int)) (keyToksAll (.int m :: ms.map .int)) = _
    rw [dataLt_cons (by rfl), lexI_cons, dataLt_int, toks_ints ns ms]
    have e : PyData.eqv (.int n) (.int m) = (n == m) := by simp only [PyData.eqv]
    rw [e]
    by_cases h : n = m
    · rw [if_pos h, if_pos (by rw [h]; exact beq_self_eq_true m)]
    · rw [if_neg h, if_neg (fun z => h (by simpa using z))]
theorem dataLt_ints (ns ms : List Int) : dataLt (.tuple (ns.map .int)) (.tuple (ms.map .int)) = lexI ns ms := toks_ints ns ms
theorem alike_ints : ∀ {ns ms : List Int}, ns.length = ms.length → alikeAll (ns.map .int) (ms.map .int) = true
  | [], [], _ => by simp [alikeAll]
  | n :: ns, m :: ms, h => by
    simp only [List.map_cons, alikeAll, alike, Bool.true_and]
    exact alike_ints (by simpa using h)
theorem depth_ints : ∀ ns : List Int, PyData.depthAll (ns.map .int) ≤ 1
  | [] => by simp [PyData.depthAll]
  | n :: ns => by
    have := depth_ints ns
    simp only [List.map_cons, PyData.depthAll, PyData.depth]
    omega
section
variable {prog : Program} {w : World} {A : Around} {E : Value → Shared → Prop} {s : Shared}
theorem alike2 {ns ms : List Int} (hl : ns.length = ms.length) : AlikeAll [PyData.tuple (ns.map .int), .tuple (ms.map .int)] := by
  have a : ∀ x y : List Int, x.length = y.length → alike (.tuple (x.map .int)) (.tuple (y.map .int)) = true := fun x y h => by
    simp only [alike]
    exact alike_ints h
  refine ⟨fun x hx y hy => ?_, fun x hx => ?_⟩
  · simp only [List.mem_cons, List.not_mem_nil, or_false] at hx hy
    rcases hx with rfl | rfl <;> rcases hy with rfl | rfl
    · exact a _ _ rfl
    · exact a _ _ hl
    · exact a _ _ hl.symm
    · exact a _ _ rfl
  · simp only [List.mem_cons, List.not_mem_nil, or_false] at hx
    rcases hx with rfl | rfl <;> exact fun z => nomatch z
theorem depth2 {ns ms : List Int} : PyData.depthAll [PyData.tuple (ns.map .int), .tuple (ms.map .int)] ≤ 2 := by
  have h1 := depth_ints ns
  have h2 := depth_ints ms
  simp only [PyData.depthAll, PyData.depth]
  omega
theorem min_two_tups {a b : Addr} {ns ms : List Int} {as bs : List Addr} {Q : Value → Shared → Prop} (hh : A.handled = none) (hu : A.units + 3 < cLine) (r1 : Reads s.heap (.ref a) (.tuple (ns.map .int)) as) (r2 : Reads s.heap (.ref b) (.tuple (ms.map .int)) bs) (hl : ns.length = ms.length)
    (h : ∀ h' tk, (∀ c o, s.heap.get? c = some o → h'.get? c = some o) → Q (.ref (if lexI ms ns = true then b else a)) { s with heap := h', toks := tk }) :
    wpAny (model prog w) A (call (.builtin "min") [.ref a, .ref b]) Q E s := by
  have hname : (toString "min" ++ toString ".loop" : String) = "min.loop" := by decide
  refine call_function_tree PySem.F.kind_min PySem.F.plain_min PySem.F.entry_min (PySem.F.args_min2 _ _) ?_
  show wpAny _ A.in1 (Builtin.Builtins.bindParams "min" ["key", "default"] 0 ⟨[], []⟩ >>= _) _ _ s
  refine wpAny_bind (wpAny_of_eq (show Builtin.Builtins.bindParams "min" ["key", "default"] 0 ⟨[], []⟩ = pure [none, none] from rfl) ?_)
  show wpAny _ A.in1 (newTuple [.ref a, .ref b] >>= _) _ _ s
  refine wpAny_bind (wpAny_newObj_type ?_)
  have k0 : ∀ c o, s.heap.get? c = some o → (s.heap.push { cls := .type "tuple", data := .seq #[Value.ref a, .ref b] }).get? c = some o := fun c o e => Heap.get?_push_of_some _ e
  have hT : (s.heap.push { cls := .type "tuple", data := .seq #[Value.ref a, .ref b] }).IsTuple s.heap.objs.size #[.ref a, .ref b] := ⟨_, Heap.get?_push_size _ rfl, rfl, 0, rfl⟩
  have hr : ReadsAll (s.heap.push { cls := .type "tuple", data := .seq #[Value.ref a, .ref b] }) (#[Value.ref a, .ref b] : Array Value).toList [PyData.tuple (ns.map .int), .tuple (ms.map .int)] (as ++ (bs ++ [])) := .cons (reads_keeps k0 r1) (.cons (reads_keeps k0 r2) .nil)
  refine wpAny_bind (iter_tupleW (A := A.in1) (s := { s with heap := s.heap.push { cls := .type "tuple", data := .seq #[Value.ref a, .ref b] } }) hh hT fun s₂ e W st hfp hw hk => ?_)
  refine wpAny_bind (wpAny_newObj_type ?_)
  have hSf : s₂.heap.objs.size ∉ [(s.heap.push { cls := .type "tuple", data := .seq #[Value.ref a, .ref b] }).objs.size, s.heap.objs.size] := fun hm => Nat.lt_irrefl _ (hfp _ hm)
  rw [hname]
  have hcm := cmpIn_lt (prog := prog) (w := w) (A := A.in1) (s := { s with heap := s.heap.push { cls := .type "tuple", data := .seq #[Value.ref a, .ref b] } }) hr (alike2 hl) (by
    have := depth2 (ns := ns) (ms := ms)
    show A.units + 1 + _ < cLine
    omega)
  refine wpAny_pure ⟨plainId_quiet PySem.F.plain_min_loop _, codeAny_min_loop_firstH W _ hw _ hcm s₂.heap.objs.size hSf (fresh_in hk) _ (Nat.succ_pos 1) (fun b o e => Heap.get?_push_of_some _ (hk b o e)) (W.frame 0 s₂ _ s₂.toks st (Nat.le_refl _) fun b _ o e => Heap.get?_push_of_some _ e) (Heap.get?_push_size _ rfl) fun v s' hP hm => ?_⟩
  have hm2 := Moved.drop_new (tk := s₂.toks) hm (Nat.le_refl _)
  obtain ⟨h', tk, rfl, hk'⟩ := moved_old e rfl hm2
  have e2 : v = .ref (if lexI ms ns = true then b else a) := by
    have e3 : argBest (fun i j => dataLt ([PyData.tuple (ns.map .int), .tuple (ms.map .int)].getD i .none) ([PyData.tuple (ns.map .int), .tuple (ms.map .int)].getD j .none)) 1 = if lexI ms ns = true then 1 else 0 := by
      show (if dataLt (.tuple (ms.map .int)) (.tuple (ns.map .int)) = true then 1 else 0) = _
      rw [dataLt_ints]
    have hP' : (#[Value.ref a, .ref b] : Array Value)[argBest (fun i j => dataLt ([PyData.tuple (ns.map .int), .tuple (ms.map .int)].getD i .none) ([PyData.tuple (ns.map .int), .tuple (ms.map .int)].getD j .none)) 1]? = some v := hP
    rw [e3] at hP'
    by_cases hc : lexI ms ns = true
    · rw [if_pos hc] at hP' ⊢
      exact (Option.some.inj hP').symm
    · rw [if_neg hc] at hP' ⊢
      exact (Option.some.inj hP').symm
  rw [e2]
  exact h h' tk fun c o ec => hk' c o (k0 c o ec)
theorem max_two_tups {a b : Addr} {ns ms : List Int} {as bs : List Addr} {Q : Value → Shared → Prop} (hh : A.handled = none) (hu : A.units + 3 < cLine) (r1 : Reads s.heap (.ref a) (.tuple (ns.map .int)) as) (r2 : Reads s.heap (.ref b) (.tuple (ms.map .int)) bs) (hl : ns.length = ms.length)
    (h : ∀ h' tk, (∀ c o, s.heap.get? c = some o → h'.get? c = some o) → Q (.ref (if lexI ns ms = true then b else a)) { s with heap := h', toks := tk }) :
    wpAny (model prog w) A (call (.builtin "max") [.ref a, .ref b]) Q E s := by
  have hname : (toString "max" ++ toString ".loop" : String) = "max.loop" := by decide
  refine call_function_tree PySem.F.kind_max PySem.F.plain_max PySem.F.entry_max (PySem.F.args_max2 _ _) ?_
  show wpAny _ A.in1 (Builtin.Builtins.bindParams "max" ["key", "default"] 0 ⟨[], []⟩ >>= _) _ _ s
  refine wpAny_bind (wpAny_of_eq (show Builtin.Builtins.bindParams "max" ["key", "default"] 0 ⟨[], []⟩ = pure [none, none] from rfl) ?_)
  show wpAny _ A.in1 (newTuple [.ref a, .ref b] >>= _) _ _ s
  refine wpAny_bind (wpAny_newObj_type ?_)
  have k0 : ∀ c o, s.heap.get? c = some o → (s.heap.push { cls := .type "tuple", data := .seq #[Value.ref a, .ref b] }).get? c = some o := fun c o e => Heap.get?_push_of_some _ e
  have hT : (s.heap.push { cls := .type "tuple", data := .seq #[Value.ref a, .ref b] }).IsTuple s.heap.objs.size #[.ref a, .ref b] := ⟨_, Heap.get?_push_size _ rfl, rfl, 0, rfl⟩
  have hr : ReadsAll (s.heap.push { cls := .type "tuple", data := .seq #[Value.ref a, .ref b] }) (#[Value.ref a, .ref b] : Array Value).toList [PyData.tuple (ns.map .int), .tuple (ms.map .int)] (as ++ (bs ++ [])) := .cons (reads_keeps k0 r1) (.cons (reads_keeps k0 r2) .nil)
  refine wpAny_bind (iter_tupleW (A := A.in1) (s := { s with heap := s.heap.push { cls := .type "tuple", data := .seq #[Value.ref a, .ref b] } }) hh hT fun s₂ e W st hfp hw hk => ?_)
  refine wpAny_bind (wpAny_newObj_type ?_)
  have hSf : s₂.heap.objs.size ∉ [(s.heap.push { cls := .type "tuple", data := .seq #[Value.ref a, .ref b] }).objs.size, s.heap.objs.size] := fun hm => Nat.lt_irrefl _ (hfp _ hm)
  rw [hname]
  have hcm := cmpIn_gt (prog := prog) (w := w) (A := A.in1) (s := { s with heap := s.heap.push { cls := .type "tuple", data := .seq #[Value.ref a, .ref b] } }) hr (alike2 hl) (by
    have := depth2 (ns := ns) (ms := ms)
    show A.units + 1 + _ < cLine
    omega)
  refine wpAny_pure ⟨plainId_quiet PySem.F.plain_max_loop _, codeAny_max_loop_firstH W _ hw _ hcm s₂.heap.objs.size hSf (fresh_in hk) _ (Nat.succ_pos 1) (fun b o e => Heap.get?_push_of_some _ (hk b o e)) (W.frame 0 s₂ _ s₂.toks st (Nat.le_refl _) fun b _ o e => Heap.get?_push_of_some _ e) (Heap.get?_push_size _ rfl) fun v s' hP hm => ?_⟩
  have hm2 := Moved.drop_new (tk := s₂.toks) hm (Nat.le_refl _)
  obtain ⟨h', tk, rfl, hk'⟩ := moved_old e rfl hm2
  have e2 : v = .ref (if lexI ns ms = true then b else a) := by
    have e3 : argBest (fun i j => dataLt ([PyData.tuple (ns.map .int), .tuple (ms.map .int)].getD j .none) ([PyData.tuple (ns.map .int), .tuple (ms.map .int)].getD i .none)) 1 = if lexI ns ms = true then 1 else 0 := by
      show (if dataLt (.tuple (ns.map .int)) (.tuple (ms.map .int)) = true then 1 else 0) = _
      rw [dataLt_ints]
    have hP' : (#[Value.ref a, .ref b] : Array Value)[argBest (fun i j => dataLt ([PyData.tuple (ns.map .int), .tuple (ms.map .int)].getD j .none) ([PyData.tuple (ns.map .int), .tuple (ms.map .int)].getD i .none)) 1]? = some v := hP
    rw [e3] at hP'
    by_cases hc : lexI ns ms = true
    · rw [if_pos hc] at hP' ⊢
      exact (Option.some.inj hP').symm
    · rw [if_neg hc] at hP' ⊢
      exact (Option.some.inj hP').symm
  rw [e2]
  exact h h' tk fun c o ec => hk' c o (k0 c o ec)
end
/-- min(t, u), max(t, u) of tuples of as many ints -/
def rMinT (mx : Bool) : List V → Hp → VK → Prop := fun vs H Q => ∃ (a b : Addr) (ns ms : List Int), vs = [.ref a, .ref b] ∧ H a = some (.tup (ns.map V.int)) ∧ H b = some (.tup (ms.map V.int)) ∧ ns.length = ms.length ∧ Q (.ref (if (if mx then lexI ns ms else lexI ms ns) = true then b else a)) H
/-- x in a tuple, data of any depth -/
def rInDT (K : PySem.W.Frag) (neg : Bool) : R2 := fun x y H Q => ∃ d ds, Dp K H x d ∧ Dp K H y (.tuple ds) ∧ SeqAt.shaped d = true ∧ SeqAt.shaped (.tuple ds) = true ∧ Q (.bl (if neg then !(ds.any fun z => PyData.eqv z d) else ds.any fun z => PyData.eqv z d)) H
def rInDL (K : PySem.W.Frag) (neg : Bool) : R2 := fun x y H Q => ∃ d ds, Dp K H x d ∧ Dp K H y (.list ds) ∧ SeqAt.shaped d = true ∧ SeqAt.shaped (.list ds) = true ∧ Q (.bl (if neg then !(ds.any fun z => PyData.eqv z d) else ds.any fun z => PyData.eqv z d)) H
section
variable {X : Cx} {K : PySem.W.Frag}
theorem im_ints {H : Hp} : ∀ ns : List Int, ImAll K H (ns.map V.int) (ns.map PyData.int)
  | [] => .nil
  | n :: ns => .cons (.int n) (im_ints ns)
theorem call_minT (hc : X.calm = true) (hu : X.A.units + 64 < cLine) : CallR X (.builtin "min") (rMinT false) := by
  intro pins s σ H vs us Q I r h
  obtain ⟨a, b, ns, ms, rfl, ha, hb, hl, q⟩ := h
  obtain ⟨u1, u2, rfl, r1, r2⟩ := vals2 r
  cases r1
  cases r2
  obtain ⟨as, g1⟩ := Dp.reads I (.tuple (ns.map .int)) _ _ (.tup (SqT.of ha) (im_ints ns).dp) rfl
  obtain ⟨bs, g2⟩ := Dp.reads I (.tuple (ms.map .int)) _ _ (.tup (SqT.of hb) (im_ints ms).dp) rfl
  exact min_two_tups (I.ok.hd hc) (by omega) g1 g2 hl fun h' tk k => ⟨.ref (if lexI ms ns = true then b else a), H, I.kept k, rfl, q⟩
theorem call_maxT (hc : X.calm = true) (hu : X.A.units + 64 < cLine) : CallR X (.builtin "max") (rMinT true) := by
  intro pins s σ H vs us Q I r h
  obtain ⟨a, b, ns, ms, rfl, ha, hb, hl, q⟩ := h
  obtain ⟨u1, u2, rfl, r1, r2⟩ := vals2 r
  cases r1
  cases r2
  obtain ⟨as, g1⟩ := Dp.reads I (.tuple (ns.map .int)) _ _ (.tup (SqT.of ha) (im_ints ns).dp) rfl
  obtain ⟨bs, g2⟩ := Dp.reads I (.tuple (ms.map .int)) _ _ (.tup (SqT.of hb) (im_ints ms).dp) rfl
  exact max_two_tups (I.ok.hd hc) (by omega) g1 g2 hl fun h' tk k => ⟨.ref (if lexI ns ms = true then b else a), H, I.kept k, rfl, q⟩
theorem op_inDT (hu : X.A.units + 65 < cLine) (hK : X.K = K := by rfl) : OpR X (compareOp .In) (rInDT K false) := by
  subst hK
  intro pins s σ H x y v u Q I rx ry h
  obtain ⟨d, ds, hd, he, sd, se, q⟩ := h
  obtain ⟨as, r1⟩ := Dp.reads I d x v hd rx
  obtain ⟨bs, r2⟩ := Dp.reads I (.tuple ds) y u he ry
  exact SeqAt.in_tuple_reads r2 r1 (SeqAt.canLay_of_shaped se) (SeqAt.canLay_of_shaped sd) (room_in_shaped sd hu) ⟨.bl _, H, I, rfl, q⟩
theorem op_inDL (hu : X.A.units + 65 < cLine) (hK : X.K = K := by rfl) : OpR X (compareOp .In) (rInDL K false) := by
  subst hK
  exact op_inD hu
theorem op_niDL (hu : X.A.units + 65 < cLine) (hK : X.K = K := by rfl) : OpR X (compareOp .NotIn) (rInDL K true) := by
  subst hK
  exact op_notInD hu
end
end
end Hb

set_option Elab.async false
set_option maxRecDepth 100000
set_option maxHeartbeats 4000000
/-! Links as keys: pairs of pairs of ints, their dicts, their sorted lists. -/
namespace Hb
open PySem L2
abbrev E2 := Int × Int
abbrev Lk := E2 × E2
def flL (l : Lk) : List Int := [l.1.1, l.1.2, l.2.1, l.2.2]
def itL (l : Lk) : List Itm := [.inr [l.1.1, l.1.2], .inr [l.2.1, l.2.2]]
def lkK (l : Lk) : NestedKey := nkK (itL l)
theorem flK_it (l : Lk) : flK (itL l) = flL l := rfl
theorem flL_inj {x y : Lk} (h : flL x = flL y) : x = y := by
  obtain ⟨⟨a, b⟩, c, d⟩ := x
  obtain ⟨⟨a', b'⟩, c', d'⟩ := y
  have h1 := List.cons.inj h
  have h2 := List.cons.inj h1.2
  have h3 := List.cons.inj h2.2
  have h4 := List.cons.inj h3.2
  simp only at h1 h2 h3 h4
  rw [h1.1, h2.1, h3.1, h4.1]
theorem lkK_inj {x y : Lk} (h : lkK x = lkK y) : x = y := by
  have h1 : (itL x).map nkI = (itL y).map nkI := NestedKey.tup.inj h
  have h2 := List.cons.inj h1
  have h3 := List.cons.inj h2.2
  have e1 := nkI_inj h2.1
  have e2 := nkI_inj h3.1
  refine flL_inj ?_
  have e3 : ([x.1.1, x.1.2] : List Int) = [y.1.1, y.1.2] := Sum.inr.inj e1
  have e4 : ([x.2.1, x.2.2] : List Int) = [y.2.1, y.2.2] := Sum.inr.inj e2
  show [x.1.1, x.1.2] ++ [x.2.1, x.2.2] = [y.1.1, y.1.2] ++ [y.2.1, y.2.2]
  rw [e3, e4]
theorem lkK_depth (l : Lk) : (lkK l).depth ≤ 8 := by
  simp [lkK, nkK, itL, nkI, NestedKey.depth, NestedKey.depthAll]
/-! ### sorted -/
def ltL (x y : Lk) : Bool := lexI (flL x) (flL y)
abbrev SortedL (l : List Lk) : Prop := l.Pairwise fun x y => ltL y x = false
def insL (x : Lk) : List Lk → List Lk
  | [] => [x]
  | y :: ys => if ltL y x then y :: insL x ys else x :: y :: ys
def srt : List Lk → List Lk
  | [] => []
  | x :: xs => insL x (srt xs)
theorem insL_perm (x : Lk) : ∀ ys : List Lk, (insL x ys).Perm (x :: ys)
  | [] => List.Perm.refl _
  | y :: ys => by
    unfold insL
    split
    · exact ((insL_perm x ys).cons y).trans (List.Perm.swap x y ys)
    · exact List.Perm.refl _
theorem srt_perm : ∀ ls : List Lk, (srt ls).Perm ls
  | [] => List.Perm.refl _
  | x :: xs => (insL_perm x (srt xs)).trans ((srt_perm xs).cons x)
theorem insL_sorted (x : Lk) : ∀ ys : List Lk, SortedL ys → SortedL (insL x ys)
  | [], _ => List.pairwise_singleton _ _
  | y :: ys, h => by
    have h1 := List.pairwise_cons.mp h
    unfold insL
    by_cases hc : ltL y x = true
    · rw [if_pos hc]
      refine List.pairwise_cons.mpr ⟨fun z hz => ?_, insL_sorted x ys h1.2⟩
      rcases List.mem_cons.mp ((insL_perm x ys).mem_iff.mp hz) with rfl | hz
      · exact lexI_asym _ _ hc
      · exact h1.1 z hz
    · rw [if_neg hc]
      have hc' : ltL y x = false := by
        cases q : ltL y x with
        | true => exact absurd q hc
        | false => rfl
      refine List.pairwise_cons.mpr ⟨fun z hz => ?_, h⟩
      rcases List.mem_cons.mp hz with rfl | hz
      · exact hc'
      · exact lexI_tr _ _ _ hc' (h1.1 z hz)
theorem srt_sorted : ∀ ls : List Lk, SortedL (srt ls)
  | [] => List.Pairwise.nil
  | x :: xs => insL_sorted x _ (srt_sorted xs)
theorem sorted_uniq : ∀ {l m : List Lk}, l.Perm m → SortedL l → SortedL m → l = m
  | [], m, p, _, _ => (List.Perm.eq_nil p.symm).symm
  | x :: l, [], p, _, _ => absurd p.length_eq (by simp)
  | x :: l, y :: m, p, hl, hm => by
    have h1 := List.pairwise_cons.mp hl
    have h2 := List.pairwise_cons.mp hm
    have e : x = y := by
      rcases List.mem_cons.mp (p.mem_iff.mp List.mem_cons_self) with e | hx
      · exact e
      · rcases List.mem_cons.mp (p.mem_iff.mpr List.mem_cons_self) with e | hy
        · exact e.symm
        · exact flL_inj (lexI_total _ _ (h2.1 x hx) (h1.1 y hy))
    subst e
    rw [sorted_uniq p.cons_inv h1.2 h2.2]
theorem srt_uniq {l ls : List Lk} (p : l.Perm ls) (h : SortedL l) : l = srt ls := sorted_uniq (p.trans (srt_perm ls).symm) h (srt_sorted ls)
theorem srt_filter (p : Lk → Bool) (ls : List Lk) : (srt ls).filter p = srt (ls.filter p) := srt_uniq ((srt_perm ls).filter p) ((srt_sorted ls).filter p)
theorem mem_srt {ls : List Lk} {l : Lk} : l ∈ srt ls ↔ l ∈ ls := (srt_perm ls).mem_iff
/-! ### where they stand -/
theorem nk_link {H : Hp} {l : Lk} {a : Addr} (h : NK H (lkK l) (.ref a)) : ∃ p q, H a = some (.tup [.ref p, .ref q]) ∧ H p = some (.tup [.int l.1.1, .int l.1.2]) ∧ H q = some (.tup [.int l.2.1, .int l.2.2]) := by
  have end_ : ∀ {x y : Int} {v : V}, NK H (nkI (.inr [x, y])) v → ∃ p, v = .ref p ∧ H p = some (.tup [.int x, .int y]) := by
    intro x y v h
    cases h with
    | tup e hs =>
      cases hs with
      | cons h1 h2 =>
        cases h2 with
        | cons h2 h3 =>
          cases h3
          cases h1
          cases h2
          exact ⟨_, rfl, e⟩
  cases h with
  | tup e hs =>
    cases hs with
    | cons h1 h2 =>
      cases h2 with
      | cons h2 h3 =>
        cases h3
        obtain ⟨p, rfl, hp⟩ := end_ h1
        obtain ⟨q, rfl, hq⟩ := end_ h2
        exact ⟨p, q, e, hp, hq⟩
theorem nk_end {H : Hp} {p : Addr} {x y : Int} (h : H p = some (.tup [.int x, .int y])) : NK H (nkI (.inr [x, y])) (.ref p) := .tup h (.cons (.int x) (.cons (.int y) .nil))
theorem nk_mk {H : Hp} {l : Lk} {a p q : Addr} (h : H a = some (.tup [.ref p, .ref q])) (hp : H p = some (.tup [.int l.1.1, .int l.1.2])) (hq : H q = some (.tup [.int l.2.1, .int l.2.2])) : NK H (lkK l) (.ref a) := .tup h (.cons (nk_end hp) (.cons (nk_end hq) .nil))
/-- a list of links -/
abbrev LkL (H : Hp) (vs : List V) (ls : List Lk) : Prop := Paired (fun v l => ∃ a, v = V.ref a ∧ NK H (lkK l) (.ref a)) vs ls
theorem LkL.mono {H H' : Hp} (e : ∀ p xs, H p = some (.tup xs) → H' p = some (.tup xs)) {vs : List V} {ls : List Lk} (h : LkL H vs ls) : LkL H' vs ls := Paired.mapP h fun _ _ ⟨a, e1, e2⟩ => ⟨a, e1, e2.mono e⟩
theorem LkL.same {H H' : Hp} (e : Same H H') {vs : List V} {ls : List Lk} (h : LkL H vs ls) : LkL H' vs ls := h.mono fun _ _ => e _ _
theorem LkL.len {H : Hp} {vs : List V} {ls : List Lk} (h : LkL H vs ls) : vs.length = ls.length := Paired.length h
theorem LkL.get {H : Hp} : ∀ {vs : List V} {ls : List Lk} {i : Nat} {v : V}, LkL H vs ls → vs[i]? = some v → ∃ a l, v = .ref a ∧ ls[i]? = some l ∧ NK H (lkK l) (.ref a)
  | _ :: _, l :: _, 0, _, .cons ⟨a, e1, e2⟩ _, e => by
    cases e
    exact ⟨a, l, e1, rfl, e2⟩
  | _ :: _, _ :: _, i + 1, _, .cons _ t, e => LkL.get (i := i) t (by simpa using e)
theorem LkL.app {H : Hp} : ∀ {vs us : List V} {ls ms : List Lk}, LkL H vs ls → LkL H us ms → LkL H (vs ++ us) (ls ++ ms)
  | _, _, _, _, .nil, h => h
  | _, _, _, _, .cons h t, h2 => .cons h (LkL.app t h2)
theorem LkL.snoc {H : Hp} {vs : List V} {ls : List Lk} {a : Addr} {l : Lk} (h : LkL H vs ls) (hk : NK H (lkK l) (.ref a)) : LkL H (vs ++ [.ref a]) (ls ++ [l]) := h.app (.cons ⟨a, rfl, hk⟩ .nil)
theorem LkL.ima {K : PySem.W.Frag} {H : Hp} : ∀ {vs : List V} {ls : List Lk}, LkL H vs ls → ImAll K H vs (ls.map fun l => (lkK l).data)
  | _, _, .nil => .nil
  | _, _, .cons ⟨a, e1, e2⟩ t => by
    subst e1
    exact .cons e2.im (LkL.ima t)
theorem paired_perm {α β : Type} {R : α → β → Prop} : ∀ {xs ys : List α}, ys.Perm xs → ∀ {ls : List β}, Paired R xs ls → ∃ ms, ms.Perm ls ∧ Paired R ys ms := by
  intro xs ys p
  induction p with
  | nil => exact fun h => ⟨_, List.Perm.refl _, h⟩
  | cons x _ ih =>
    intro ls h
    cases h with
    | cons h1 h2 =>
      obtain ⟨ms, p1, p2⟩ := ih h2
      exact ⟨_, p1.cons _, .cons h1 p2⟩
  | swap x y l =>
    intro ls h
    cases h with
    | cons h1 h2 =>
      cases h2 with
      | cons h2 h3 => exact ⟨_, List.Perm.swap _ _ _, .cons h2 (.cons h1 h3)⟩
  | trans _ _ ih1 ih2 =>
    intro ls h
    obtain ⟨ms, p1, p2⟩ := ih2 h
    obtain ⟨ns, p3, p4⟩ := ih1 p2
    exact ⟨ns, p3.trans p1, p4⟩
/-- the items of what stands there -/
noncomputable def itK (H : Hp) (v : V) : List Itm := Classical.epsilon fun ks => NK H (nkK ks) v
theorem nkK_inj {x y : List Itm} (h : nkK x = nkK y) : x = y := by
  have h1 : x.map nkI = y.map nkI := NestedKey.tup.inj h
  clear h
  induction x generalizing y with
  | nil =>
    cases y with
    | nil => rfl
    | cons _ _ => cases h1
  | cons a x ih =>
    cases y with
    | nil => cases h1
    | cons b y =>
      have h2 := List.cons.inj h1
      rw [nkI_inj h2.1, ih h2.2]
theorem itK_eq {H : Hp} {ks : List Itm} {v : V} (h : NK H (nkK ks) v) : itK H v = ks := by
  have h2 : NK H (nkK (itK H v)) v := Classical.epsilon_spec (p := fun ks => NK H (nkK ks) v) ⟨ks, h⟩
  exact nkK_inj (h2.inj h)
theorem srtd_links {H : Hp} : ∀ {ys : List V} {ls : List Lk}, LkL H ys ls → SrtO.Srtd (ltK (itK H)) ys → SortedL ls
  | _, _, .nil, _ => List.Pairwise.nil
  | _, _, .cons (a := v) (b := l) ⟨a, e1, e2⟩ t, h => by
    have h1 := List.pairwise_cons.mp h
    refine List.pairwise_cons.mpr ⟨fun m hm => ?_, srtd_links t h1.2⟩
    have key : ∀ {vs : List V} {ms : List Lk}, LkL H vs ms → (∀ u ∈ vs, ltK (itK H) u v = false) → ∀ m ∈ ms, ltL m l = false := by
      intro vs ms hL
      induction hL with
      | nil => exact fun _ m hm => nomatch hm
      | cons hx _ ih =>
        obtain ⟨b, g1, g2⟩ := hx
        intro hu m hm
        rcases List.mem_cons.mp hm with rfl | hm
        · have := hu _ List.mem_cons_self
          unfold ltK at this
          rw [g1, e1, itK_eq (ks := itL m) g2, itK_eq (ks := itL l) e2, flK_it, flK_it] at this
          exact this
        · exact ih (fun u hu' => hu u (List.mem_cons_of_mem _ hu')) m hm
    exact key t h1.1 m hm
/-- data of links can be compared -/
theorem lk_data (l : Lk) : (lkK l).data = .tuple [.tuple [.int l.1.1, .int l.1.2], .tuple [.int l.2.1, .int l.2.2]] := by simp [lkK, nkK, itL, nkI, NestedKey.data, NestedKey.datas]
theorem lk_ok {ls : List Lk} : ∀ d ∈ ls.map (fun l => (lkK l).data), d.canLay0 = true ∧ d.depth ≤ 60 := fun d hd => by
  obtain ⟨l, _, rfl⟩ := List.mem_map.mp hd
  rw [lk_data]
  constructor
  · simp [PyData.canLay0, PyData.canLayAll0]
  · simp [PyData.depth, PyData.depthAll]
theorem eqv_end {x y : E2} : PyData.eqv (.tuple [.int x.1, .int x.2]) (.tuple [.int y.1, .int y.2]) = decide (x = y) := by
  have e : PyData.eqv (.tuple [.int x.1, .int x.2]) (.tuple [.int y.1, .int y.2]) = ((x.1 == y.1) && ((x.2 == y.2) && true)) := by simp only [PyData.eqv, PyData.eqvAll]
  rw [e, Bool.and_true]
  by_cases h : x = y
  · rw [decide_eq_true h, h]
    simp
  · rw [decide_eq_false h]
    cases q : (x.1 == y.1) && (x.2 == y.2) with
    | false => rfl
    | true =>
      rw [Bool.and_eq_true] at q
      exact absurd (Prod.ext (by simpa using q.1) (by simpa using q.2)) h
theorem eqv_link {x y : Lk} : PyData.eqv (lkK x).data (lkK y).data = decide (x = y) := by
  rw [lk_data, lk_data]
  have e : PyData.eqv (.tuple [.tuple [.int x.1.1, .int x.1.2], .tuple [.int x.2.1, .int x.2.2]]) (.tuple [.tuple [.int y.1.1, .int y.1.2], .tuple [.int y.2.1, .int y.2.2]]) = (PyData.eqv (.tuple [.int x.1.1, .int x.1.2]) (.tuple [.int y.1.1, .int y.1.2]) && (PyData.eqv (.tuple [.int x.2.1, .int x.2.2]) (.tuple [.int y.2.1, .int y.2.2]) && true)) := by simp only [PyData.eqv, PyData.eqvAll]
  rw [e, eqv_end, eqv_end, Bool.and_true]
  by_cases h : x = y
  · rw [decide_eq_true h, h]
    simp
  · rw [decide_eq_false h]
    cases q : decide (x.1 = y.1) && decide (x.2 = y.2) with
    | false => rfl
    | true =>
      rw [Bool.and_eq_true, decide_eq_true_eq, decide_eq_true_eq] at q
      exact absurd (Prod.ext q.1 q.2) h
/-! ### dicts by links -/
abbrev Mp := List (Lk × Int)
/-- the entries at B's tuples are M's -/
abbrev EntM (B : Hp) (es : List Ent) (M : Mp) : Prop := Paired (fun e x => e.1 = lkK x.1 ∧ e.2.2 = V.int x.2 ∧ NK B (lkK x.1) (.ref e.2.1)) es M
def keysM (M : Mp) : List Lk := M.map (·.1)
def valM (M : Mp) (l : Lk) : Option Int := (M.find? fun x => decide (x.1 = l)).map (·.2)
def dropM (M : Mp) (ls : List Lk) : Mp := M.filter fun x => decide (x.1 ∉ ls)
def putM (M : Mp) (l : Lk) (n : Int) : Mp := if (valM M l).isSome then M.map (fun x => if x.1 = l then (x.1, n) else x) else M ++ [(l, n)]
def has (e : E2) (l : Lk) : Bool := decide (l.1 = e) || decide (l.2 = e)
def atM (M : Mp) (e : E2) : List Lk := (srt (keysM M)).filter (has e)
theorem EntM.mono {B B' : Hp} (e : ∀ p xs, B p = some (.tup xs) → B' p = some (.tup xs)) {es : List Ent} {M : Mp} (h : EntM B es M) : EntM B' es M := Paired.mapP h fun _ _ ⟨h1, h2, h3⟩ => ⟨h1, h2, h3.mono e⟩
theorem EntM.same {B B' : Hp} (e : Same B B') {es : List Ent} {M : Mp} (h : EntM B es M) : EntM B' es M := h.mono fun _ _ => e _ _
theorem EntM.ok {B : Hp} {es : List Ent} {M : Mp} (h : EntM B es M) : EntsOk B es := by
  induction h with
  | nil => exact EntsOk.nil
  | cons h _ ih =>
    intro e he
    rcases List.mem_cons.mp he with rfl | he
    · rw [h.1]
      exact ⟨h.2.2, lkK_depth _⟩
    · exact ih e he
theorem EntM.len {B : Hp} {es : List Ent} {M : Mp} (h : EntM B es M) : es.length = M.length := Paired.length h
theorem EntM.at {B : Hp} {es : List Ent} {M : Mp} (h : EntM B es M) (l : Lk) : atN es (lkK l) = (valM M l).map V.int := by
  induction h with
  | nil => rfl
  | @cons e x es xs h _ ih =>
    unfold atN valM at ih ⊢
    rw [List.find?_cons, List.find?_cons, h.1]
    by_cases hc : x.1 = l
    · rw [decide_eq_true hc, decide_eq_true (by rw [hc])]
      show some e.2.2 = some (V.int x.2)
      rw [h.2.1]
    · rw [decide_eq_false hc, decide_eq_false (fun z => hc (lkK_inj z))]
      exact ih
theorem entM_map {B : Hp} {l : Lk} {n : Int} : ∀ {es : List Ent} {M : Mp}, EntM B es M → EntM B (es.map fun e => if e.1 = lkK l then (e.1, e.2.1, V.int n) else e) (M.map fun x => if x.1 = l then (x.1, n) else x)
  | _, _, .nil => .nil
  | e :: es, x :: xs, .cons h t => by
    refine .cons ?_ (entM_map t)
    by_cases hc : x.1 = l
    · have hc2 : e.1 = lkK l := by rw [h.1, hc]
      simp only [if_pos hc2, if_pos hc]
      exact ⟨h.1, trivial, h.2.2⟩
    · have hc2 : ¬ e.1 = lkK l := fun z => hc (lkK_inj (h.1.symm.trans z))
      simp only [if_neg hc2, if_neg hc]
      exact h
theorem paired_app {α β : Type} {R : α → β → Prop} : ∀ {xs us : List α} {ys ws : List β}, Paired R xs ys → Paired R us ws → Paired R (xs ++ us) (ys ++ ws)
  | _, _, _, _, .nil, h => h
  | _, _, _, _, .cons h t, h2 => .cons h (paired_app t h2)
theorem EntM.put {B : Hp} {es : List Ent} {M : Mp} (h : EntM B es M) {l : Lk} {b : Addr} (n : Int) (hk : NK B (lkK l) (.ref b)) : EntM B (putN es (lkK l) b (.int n)) (putM M l n) := by
  unfold putN putM
  rw [h.at l, Option.isSome_map]
  by_cases hc : (valM M l).isSome = true
  · rw [if_pos hc, if_pos hc]
    exact entM_map h
  · rw [if_neg hc, if_neg hc]
    exact paired_app h (.cons ⟨rfl, rfl, hk⟩ .nil)
theorem EntM.drop {B : Hp} {l : Lk} : ∀ {es : List Ent} {M : Mp}, EntM B es M → EntM B (dropN es (lkK l)) (dropM M [l])
  | _, _, .nil => .nil
  | e :: es, x :: xs, .cons h t => by
    unfold dropN dropM
    rw [List.filter_cons, List.filter_cons]
    by_cases hc : x.1 = l
    · have e1 : decide (e.1 ≠ lkK l) = false := decide_eq_false (fun z => z (by rw [h.1, hc]))
      have e2 : decide (x.1 ∉ [l]) = false := decide_eq_false (fun z => z (by rw [hc]; exact List.mem_cons_self))
      rw [e1, e2]
      exact EntM.drop t
    · have e1 : decide (e.1 ≠ lkK l) = true := decide_eq_true (fun z => hc (lkK_inj (h.1.symm.trans z)))
      have e2 : decide (x.1 ∉ [l]) = true := decide_eq_true (fun z => hc (List.mem_singleton.mp z))
      rw [e1, e2]
      exact .cons h (EntM.drop t)
theorem EntM.lkl {B : Hp} : ∀ {es : List Ent} {M : Mp}, EntM B es M → LkL B (es.map fun e => V.ref e.2.1) (keysM M)
  | _, _, .nil => .nil
  | _, _, .cons h t => .cons ⟨_, rfl, h.2.2⟩ (EntM.lkl t)
/-! ### their steps -/
section
variable {w : World} {σ : St} {H B : Hp} {Q : VK} {D : Ends} {td ty tv : TE} {L L' : List (Addr × HO)} {es : List Ent} {M : Mp} {l : Lk} {d b : Addr} {n : Int}
theorem w_nget (q : td σ H fun x H1 => ty σ H1 fun y H2 => rNGet w x y H2 Q) : tNGet w td ty σ H Q := q
theorem w_nin (q : ty σ H fun y H1 => td σ H1 fun x H2 => rNIn w x y H2 fun b => Q (.bl b) H2) : tNIn w ty td σ H Q := q
theorem w_nnot (q : ty σ H fun y H1 => td σ H1 fun x H2 => rNIn w x y H2 fun b => Q (.bl (!b)) H2) : tNNot w ty td σ H Q := q
theorem w_nput (q : tv σ H fun v H1 => td σ H1 fun x H2 => ty σ H2 fun y H3 => rNPut w x y v H3 fun H4 => D.nx σ H4) : sNPut w td ty tv D σ H := q
theorem w_ndel (q : td σ H fun x H1 => ty σ H1 fun y H2 => rNDel w x y H2 fun _ H3 => D.nx σ H3) : sNDel w td ty D σ H := q
theorem w_npop (q : td σ H fun x H1 => (∃ a es, x = .ref a ∧ H1 a = some (DN w a es)) ∧ ty σ H1 fun y H2 => rNDel w x y H2 Q) : tNPop w td ty σ H Q := q
theorem w_nnew (hs : Hs B L H) (q : ∀ p H', Hs B ((p, DN w p []) :: L) H' → Q (.ref p) H') : tNNew w σ H Q := fun p hp => q p _ (hs.new hp)
theorem atN_of (h : H d = some (DN w d es)) (e : EntM H es M) (hk : NK H (lkK l) (.ref b)) : AtN w H (.ref d) (.ref b) d b es (lkK l) := ⟨rfl, rfl, h, e.ok, hk, lkK_depth l⟩
theorem wn_get (hs : Hs B L H) (h : H d = some (DN w d es)) (e : EntM B es M) (hk : NK B (lkK l) (.ref b)) (hv : valM M l = some n) (q : Q (.int n) H) : rNGet w (.ref d) (.ref b) H Q :=
  ⟨d, b, es, lkK l, .int n, atN_of h (e.same hs.same) (hk.same hs.same), by rw [e.at l, hv]; rfl, q⟩
theorem wn_in {R : Bool → Prop} (hs : Hs B L H) (h : H d = some (DN w d es)) (e : EntM B es M) (hk : NK B (lkK l) (.ref b)) (q : R (valM M l).isSome) : rNIn w (.ref d) (.ref b) H R :=
  ⟨d, b, es, lkK l, atN_of h (e.same hs.same) (hk.same hs.same), by rw [e.at l, Option.isSome_map]; exact q⟩
theorem wn_put {R : Hp → Prop} (hs : Hs B L H) (h : Put L d (DN w d es) (DN w d (putN es (lkK l) b (.int n))) L') (e : EntM B es M) (hk : NK B (lkK l) (.ref b)) (hl : M.length ≤ 1000) (q : ∀ H', Hs B L' H' → EntM B (putN es (lkK l) b (.int n)) (putM M l n) → R H') : rNPut w (.ref d) (.ref b) (.int n) H R :=
  ⟨d, b, es, lkK l, atN_of (hs.gets h) (e.same hs.same) (hk.same hs.same), by rw [e.len, sizeLine_eq]; omega, q _ (hs.puts h) (e.put n hk)⟩
theorem wn_del {R : V → Hp → Prop} (hs : Hs B L H) (h : Put L d (DN w d es) (DN w d (dropN es (lkK l))) L') (e : EntM B es M) (hk : NK B (lkK l) (.ref b)) (hv : valM M l = some n) (q : ∀ H', Hs B L' H' → EntM B (dropN es (lkK l)) (dropM M [l]) → R (.int n) H') : rNDel w (.ref d) (.ref b) H R :=
  ⟨d, b, es, lkK l, .int n, atN_of (hs.gets h) (e.same hs.same) (hk.same hs.same), by rw [e.at l, hv]; rfl, q _ (hs.puts h) e.drop⟩
theorem w_sortD (hs : Hs B L H) (h : H d = some (DN w d es)) (e : EntM B es M) (q : ∀ p ys H', LkL B ys (srt (keysM M)) → Hs B ((p, .lst ys) :: L) H' → Q (.ref p) H') : rSortDN w (some 2) [some 2] [.ref d] H Q := by
  have eH := e.same hs.same
  refine ⟨d, es, itK H, rfl, h, fun z hz => ?_, fun ys p h1 h2 hp => ?_⟩
  · have key : ∀ {es : List Ent} {M : Mp}, EntM H es M → ∀ z ∈ es, ∃ l, NK H (lkK l) (.ref z.2.1) := by
      intro es M e
      induction e with
      | nil => exact fun _ hz => nomatch hz
      | cons h _ ih =>
        intro z hz
        rcases List.mem_cons.mp hz with rfl | hz
        · exact ⟨_, h.2.2⟩
        · exact ih z hz
    obtain ⟨l, hl⟩ := key eH z hz
    rw [itK_eq (ks := itL l) hl]
    exact ⟨hl, rfl⟩
  · obtain ⟨ms, p1, p2⟩ := paired_perm h2.perm e.lkl
    have e1 := srt_uniq p1 (srtd_links (LkL.same hs.same p2) h1)
    subst e1
    exact q p ys _ p2 (hs.new hp)
theorem w_ltT {K : PySem.W.Frag} {p q : Addr} {ns ms : List Int} (h1 : H p = some (.tup (ns.map V.int))) (h2 : H q = some (.tup (ms.map V.int))) (k : Q (.bl (lexI ns ms)) H) : rLtT K (.ref p) (.ref q) H Q := ⟨p, q, ns, ms, rfl, rfl, SqT.of h1, SqT.of h2, k⟩
end
def ntQ : HO → Bool
  | .tup _ => false
  | _ => true
/-- what stands aside of our own objects, none a tuple, is the ground: all tuples stand there -/
theorem Hs.ground {B H : Hp} {L : List (Addr × HO)} (hs : Hs B L H) (nt : L.all (fun e => ntQ e.2) = true) : ∃ B1, Same B B1 ∧ Hs B1 L H ∧ ∀ p xs, H p = some (.tup xs) → B1 p = some (.tup xs) := by
  obtain ⟨h1, h2⟩ := hs.rebase
  refine ⟨_, h1, h2, fun p xs e => ?_⟩
  rw [around_out fun m => ?_]
  · exact e
  · obtain ⟨z, hz, rfl⟩ := List.mem_map.mp m
    have h3 := List.all_eq_true.mp nt z hz
    rw [hs.at_ z hz] at e
    rw [Option.some.inj e] at h3
    cases h3
theorem r64 {k : Nat} {A : Around} (r : Room k A) : A.units + 64 < cLine := by
  have := r.un
  omega
theorem r65 {k : Nat} {A : Around} (r : Room k A) : A.units + 65 < cLine := by
  have := r.un
  omega
theorem r0 {k : Nat} {A : Around} (r : Room k A) : A.units < cLine := by
  have := r.un
  omega
abbrev endO (x : E2) : HO := .tup [.int x.1, .int x.2]
theorem shp_end (x : E2) : SeqAt.shaped (.tuple [.int x.1, .int x.2]) = true := by simp [SeqAt.shaped, PyData.canLay0, PyData.canLayAll0, PyData.depth, PyData.depthAll]
theorem dp_end {K : PySem.W.Frag} {H : Hp} {p : Addr} {x : E2} (h : H p = some (endO x)) : Dp K H (.ref p) (.tuple [.int x.1, .int x.2]) := .tup (SqT.of h) (ImAll.cons (.int _) (.cons (.int _) .nil)).dp
theorem w_eqE {K : PySem.W.Frag} {H : Hp} {Q : VK} {p q : Addr} {x y : E2} (h1 : H p = some (endO x)) (h2 : H q = some (endO y)) (k : Q (.bl (decide (x = y))) H) : rEqD K (.ref p) (.ref q) H Q :=
  w_eqD (dp_end h1) (dp_end h2) (shp_end x) (shp_end y) (by rw [eqv_end]; exact k)
/-! ### what holds of the links -/
structure IM (M : Mp) : Prop where
  nd : (keysM M).Nodup
  ok : ∀ l ∈ keysM M, l.1.1 ≠ l.2.1 ∧ lexI [l.1.1, l.1.2] [l.2.1, l.2.2] = true
  dj : ∀ x ∈ keysM M, ∀ y ∈ keysM M, ∀ e : E2, has e x = true → has e y = true → x = y
theorem keys_drop {M : Mp} {ls : List Lk} : keysM (dropM M ls) = (keysM M).filter fun l => decide (l ∉ ls) := by
  unfold keysM dropM
  rw [List.filter_map]
  rfl
theorem mem_keys_drop {M : Mp} {ls : List Lk} {l : Lk} : l ∈ keysM (dropM M ls) ↔ l ∈ keysM M ∧ l ∉ ls := by
  rw [keys_drop, List.mem_filter, decide_eq_true_eq]
theorem IM.nil : IM [] := ⟨List.nodup_nil, (fun _ h => nomatch h), (fun _ h => nomatch h)⟩
theorem IM.drop {M : Mp} (h : IM M) (ls : List Lk) : IM (dropM M ls) := by
  refine ⟨?_, fun l hl => h.ok l (mem_keys_drop.mp hl).1, fun x hx y hy => h.dj x (mem_keys_drop.mp hx).1 y (mem_keys_drop.mp hy).1⟩
  rw [keys_drop]
  exact h.nd.filter _
theorem val_some {M : Mp} {l : Lk} : (valM M l).isSome = true ↔ l ∈ keysM M := by
  unfold valM
  rw [Option.isSome_map, List.find?_isSome]
  constructor
  · rintro ⟨x, hx, e⟩
    exact List.mem_map.mpr ⟨x, hx, of_decide_eq_true e⟩
  · intro h
    obtain ⟨x, hx, e⟩ := List.mem_map.mp h
    exact ⟨x, hx, decide_eq_true e⟩
theorem val_of {M : Mp} {l : Lk} (h : l ∈ keysM M) : ∃ n, valM M l = some n := Option.isSome_iff_exists.mp (val_some.mpr h)
theorem mem_at {M : Mp} {e : E2} {l : Lk} : l ∈ atM M e ↔ l ∈ keysM M ∧ has e l = true := by
  unfold atM
  rw [List.mem_filter, mem_srt]
theorem at_nodup {M : Mp} (h : IM M) (e : E2) : (atM M e).Nodup := ((srt_perm _).nodup_iff.mpr h.nd).filter _
theorem at_one {M : Mp} (h : IM M) (e : E2) : atM M e = [] ∨ ∃ l, atM M e = [l] := by
  have nd := at_nodup h e
  match hm : atM M e with
  | [] => exact .inl rfl
  | [l] => exact .inr ⟨l, rfl⟩
  | x :: y :: r =>
    have hx : x ∈ atM M e := by rw [hm]; exact List.mem_cons_self
    have hy : y ∈ atM M e := by rw [hm]; exact List.mem_cons_of_mem _ List.mem_cons_self
    obtain ⟨x1, x2⟩ := mem_at.mp hx
    obtain ⟨y1, y2⟩ := mem_at.mp hy
    have := h.dj x x1 y y1 e x2 y2
    subst this
    rw [hm] at nd
    exact absurd List.mem_cons_self (List.nodup_cons.mp nd).1
theorem find_at {M : Mp} (e : E2) : (srt (keysM M)).find? (has e) = (atM M e).head? := by
  unfold atM
  rw [List.head?_filter]
theorem at_drop {M : Mp} {ls : List Lk} {e : E2} : atM (dropM M ls) e = (atM M e).filter fun l => decide (l ∉ ls) := by
  unfold atM
  rw [keys_drop, ← srt_filter, List.filter_filter, List.filter_filter]
  congr 1
  funext l
  exact Bool.and_comm _ _
theorem drop_drop {M : Mp} {a b : List Lk} : dropM (dropM M a) b = dropM M (a ++ b) := by
  unfold dropM
  rw [List.filter_filter]
  congr 1
  funext x
  by_cases h1 : x.1 ∈ a <;> by_cases h2 : x.1 ∈ b <;> simp [h1, h2]
theorem drop_nil {M : Mp} : dropM M [] = M := by
  unfold dropM
  rw [List.filter_eq_self]
  exact fun _ _ => decide_eq_true (fun z => nomatch z)
theorem drop_len {M : Mp} {ls : List Lk} : (dropM M ls).length ≤ M.length := List.length_filter_le _ _
/-- the law's list is the program's -/
theorem at_two {M : Mp} {one other : E2} : (atM M one ++ (atM M other).filter fun l => decide (l ∉ atM M one)) = atM M one ++ atM (dropM M (atM M one)) other := by rw [at_drop]
/-- the link of two ends -/
def mkL (x y : E2) : Lk := if lexI [x.1, x.2] [y.1, y.2] = true then (x, y) else (y, x)
theorem lexI_ne {x y : E2} (h : x.1 ≠ y.1) : lexI [x.1, x.2] [y.1, y.2] = decide (x.1 < y.1) := by rw [lexI_cons, if_neg h]
theorem mkL_ok {x y : E2} (h : x.1 ≠ y.1) : (mkL x y).1.1 ≠ (mkL x y).2.1 ∧ lexI [(mkL x y).1.1, (mkL x y).1.2] [(mkL x y).2.1, (mkL x y).2.2] = true := by
  unfold mkL
  by_cases hc : lexI [x.1, x.2] [y.1, y.2] = true
  · rw [if_pos hc]
    exact ⟨h, hc⟩
  · rw [if_neg hc]
    refine ⟨fun z => h z.symm, ?_⟩
    rw [lexI_ne h] at hc
    show lexI [y.1, y.2] [x.1, x.2] = true
    rw [lexI_ne (fun z => h z.symm)]
    have : ¬ x.1 < y.1 := fun z => hc (decide_eq_true z)
    exact decide_eq_true (by omega)
theorem mkL_comm {x y : E2} (h : x.1 ≠ y.1) : mkL x y = mkL y x := by
  unfold mkL
  rw [lexI_ne h, lexI_ne (fun z => h z.symm)]
  by_cases hc : x.1 < y.1
  · rw [if_pos (decide_eq_true hc), if_neg (by rw [decide_eq_true_eq]; omega)]
  · rw [if_neg (by rw [decide_eq_true_eq]; exact hc), if_pos (decide_eq_true (by omega))]
theorem mkL_of {l : Lk} (h : l.1.1 ≠ l.2.1 ∧ lexI [l.1.1, l.1.2] [l.2.1, l.2.2] = true) : mkL l.1 l.2 = l := by
  unfold mkL
  rw [if_pos h.2]
theorem has_mkL {x y e : E2} : has e (mkL x y) = true ↔ e = x ∨ e = y := by
  unfold has mkL
  split
  · rw [Bool.or_eq_true, decide_eq_true_eq, decide_eq_true_eq]
    exact ⟨fun z => z.elim (fun q => .inl q.symm) (fun q => .inr q.symm), fun z => z.elim (fun q => .inl q.symm) (fun q => .inr q.symm)⟩
  · rw [Bool.or_eq_true, decide_eq_true_eq, decide_eq_true_eq]
    exact ⟨fun z => z.elim (fun q => .inr q.symm) (fun q => .inl q.symm), fun z => z.elim (fun q => .inr q.symm) (fun q => .inl q.symm)⟩
theorem keys_put {M : Mp} {l : Lk} {n : Int} : keysM (putM M l n) = if l ∈ keysM M then keysM M else keysM M ++ [l] := by
  unfold putM
  by_cases hc : l ∈ keysM M
  · rw [if_pos (val_some.mpr hc), if_pos hc]
    unfold keysM
    rw [List.map_map]
    refine List.map_congr_left fun x _ => ?_
    show (if x.1 = l then (x.1, n) else x).1 = x.1
    split <;> rfl
  · rw [if_neg (fun z => hc (val_some.mp z)), if_neg hc]
    unfold keysM
    rw [List.map_append]
    rfl
theorem IM.put_old {M : Mp} (h : IM M) {l : Lk} (n : Int) (hl : l ∈ keysM M) : IM (putM M l n) := by
  have e : keysM (putM M l n) = keysM M := by rw [keys_put, if_pos hl]
  exact ⟨by rw [e]; exact h.nd, by rw [e]; exact h.ok, by rw [e]; exact h.dj⟩
/-- a link that is seen, whose ends' links are lost -/
theorem IM.put_new {M : Mp} (h : IM M) {x y : E2} (n : Int) (hxy : x.1 ≠ y.1) (hx : ∀ l ∈ keysM M, has x l = false) (hy : ∀ l ∈ keysM M, has y l = false) : IM (putM M (mkL x y) n) ∧ mkL x y ∉ keysM M := by
  have hn : mkL x y ∉ keysM M := fun z => by
    have h1 : has x (mkL x y) = true := has_mkL.mpr (.inl rfl)
    rw [hx _ z] at h1
    cases h1
  have e : keysM (putM M (mkL x y) n) = keysM M ++ [mkL x y] := by rw [keys_put, if_neg hn]
  have no : ∀ e : E2, has e (mkL x y) = true → ∀ l ∈ keysM M, has e l = false := fun e he l hl => by
    rcases has_mkL.mp he with rfl | rfl
    · exact hx l hl
    · exact hy l hl
  refine ⟨⟨?_, fun l hl => ?_, fun u hu v hv e2 h1 h2 => ?_⟩, hn⟩
  · rw [e, List.nodup_append]
    refine ⟨h.nd, List.pairwise_singleton _ _, fun a ha b hb z => ?_⟩
    rw [List.mem_singleton.mp hb] at z
    subst z
    exact hn ha
  · rw [e] at hl
    rcases List.mem_append.mp hl with m | m
    · exact h.ok l m
    · rw [List.mem_singleton.mp m]
      exact mkL_ok hxy
  · rw [e] at hu hv
    rcases List.mem_append.mp hu with m | m <;> rcases List.mem_append.mp hv with m' | m'
    · exact h.dj u m v m' e2 h1 h2
    · rw [List.mem_singleton.mp m'] at h2 ⊢
      rw [no e2 h2 u m] at h1
      cases h1
    · rw [List.mem_singleton.mp m] at h1 ⊢
      rw [no e2 h1 v m'] at h2
      cases h2
    · rw [List.mem_singleton.mp m, List.mem_singleton.mp m']
theorem at_none {M : Mp} {ls : List Lk} {e : E2} (h : ∀ l ∈ atM M e, l ∈ ls) : ∀ l ∈ keysM (dropM M ls), has e l = false := fun l hl => by
  obtain ⟨h1, h2⟩ := mem_keys_drop.mp hl
  cases q : has e l with
  | false => rfl
  | true => exact absurd (h l (mem_at.mpr ⟨h1, q⟩)) h2
theorem put_len {M : Mp} {l : Lk} {n : Int} : (putM M l n).length ≤ M.length + 1 := by
  unfold putM
  split
  · rw [List.length_map]
    omega
  · rw [List.length_append]
    exact Nat.le_refl _
theorem srt_len {ls : List Lk} : (srt ls).length = ls.length := (srt_perm ls).length_eq
theorem keys_len {M : Mp} : (keysM M).length = M.length := List.length_map _
theorem at_len {M : Mp} {e : E2} : (atM M e).length ≤ M.length := by
  unfold atM
  refine Nat.le_trans (List.length_filter_le _ _) ?_
  rw [srt_len, keys_len]
  exact Nat.le_refl _
/-! ### lists of links, by a test -/
theorem take_filter {α : Type} {ls : List α} {i : Nat} {l : α} {p : α → Bool} (e : ls[i]? = some l) : (ls.take (i + 1)).filter p = (ls.take i).filter p ++ (if p l = true then [l] else []) := by
  rw [List.take_add_one, e, List.filter_append]
  congr 1
  show [l].filter p = _
  rw [List.filter_cons]
  split <;> rfl
theorem w_lcF {K : PySem.W.Frag} {σ : St} {H B : Hp} {Q : VK} {tl : TE} {a : Addr} {tt : TT} {us : List V} {ls : List Lk} {i : Nat} (p : Lk → Bool) (hx : SqL K H a us) (hL : LkL B us ls) (hz : us.length ≤ 1000) (htl : ∀ Q : VK, Q (.ref a) H → tl σ H Q)
    (hw : ∀ x, wipe ((wipe σ [i]).set i (some x)) [i] = wipe σ [i]) (hv : ∀ x, ((wipe σ [i]).set i (some x))[i]? = some (some x))
    (ht : ∀ t l H1, l ∈ ls → NK B (lkK l) (.ref t) → Same H H1 → ∀ R : Bool → Hp → Prop, (∀ H2, Same H1 H2 → R (p l) H2) → tt ((wipe σ [i]).set i (some (.ref t))) H1 R)
    (hq : ∀ D acc H', Hs H [(D, .lst acc)] H' → LkL B acc (ls.filter p) → Q (.ref D) H') : tLc (iList K tl) (gName i) tt (tVar i) [i] σ H Q := by
  refine w_lc hx (fun D j H' => ∃ acc, Hs H [(D, .lst acc)] H' ∧ LkL B acc ((ls.take j).filter p)) htl (fun D hD => ⟨[], (Hs.start H).new hD, .nil⟩) (fun D j H' _ ⟨_, h, _⟩ => h.same.seq hx) ?_ ?_
  · rintro D j x H' hj ⟨acc, h1, h2⟩
    obtain ⟨t, l, rfl, hl, hk⟩ := LkL.get hL hj
    refine ⟨hw _, ht t l H' (List.mem_of_getElem? hl) hk h1.same _ fun H2 sb => ?_⟩
    have hlen := LkL.len h2
    have hj2 := (List.getElem?_eq_some_iff.mp hl).1
    have hll := LkL.len hL
    have h3 : Hs H [(D, .lst acc)] H2 := ⟨h1.same.trans sb, h1.nd, h1.out, fun e he => sb _ _ (h1.at_ e he)⟩
    have e1 := take_filter (p := p) hl
    by_cases hp : p l = true
    · rw [if_pos hp]
      rw [if_pos hp] at e1
      refine ⟨_, hv _, acc, h3.g0, ?_, acc ++ [.ref t], h3.p0 _, ?_⟩
      · refine szl ?_
        have := List.length_filter_le p (ls.take j)
        rw [List.length_take] at this
        omega
      · rw [e1]
        exact h2.snoc hk
    · rw [if_neg hp]
      rw [if_neg hp, List.append_nil] at e1
      refine ⟨acc, h3, ?_⟩
      rw [e1]
      exact h2
  · rintro D H' ⟨acc, h1, h2⟩
    rw [LkL.len hL, List.take_length] at h2
    exact hq D acc H' h1 h2
/-- what is walked first, then the walk -/
theorem w_lcS {K : PySem.W.Frag} {σ : St} {H : Hp} {Q : VK} {tl : TE} {g : TG} {tt : TT} {te : TE} {vs : List Nat} (q : tl σ H fun v H1 => tLc (iList K (tC v)) g tt te vs σ H1 Q) : tLc (iList K tl) g tt te vs σ H Q := q
theorem w_forS {K : PySem.W.Frag} {σ : St} {H : Hp} {D : Ends} {tl : TE} {g : TG} {tb : TS} (q : tl σ H fun v H1 => tFor (iList K (tC v)) g tb D σ H1) : tFor (iList K tl) g tb D σ H := q
theorem w_isL {K : PySem.W.Frag} {H : Hp} {Q : VK} {p : Addr} {xs : List V} (h : H p = some (.lst xs)) (k : Q (.bl true) H) : rIsi K [.ref p, .ty "list"] H Q :=
  ⟨_, _, _, _, true, rfl, .ty "list", .base (.lst h), kit_ty (by decide +kernel), k⟩
end Hb

set_option Elab.async false
set_option linter.all false
set_option maxRecDepth 100000
set_option maxHeartbeats 4000000
/-! Sets whose elements are tuples of a kind of keys (nested tuples: KE's nestedKind), kept in the model's own table. -/
namespace Hb
open PySem L2 PyProof.Rows

section
variable {P : Program} {w : World} {κ : Type} [DecidableEq κ]
/-- what the model asks of an element besides its hash and its == -/
structure Els (knd : HeapKind P w κ) : Prop where
  ofA : ∀ {A : Around} {E : Value → Shared → Prop} {s : Shared} {k : κ} {b : Addr} {Q : Bool → Shared → Prop}, knd.is s.heap k b → Q false s → wpAny (model P w) A (ofAClassStatement 8 (.ref b)) Q E s
  byV : ∀ {A : Around} {E : Value → Shared → Prop} {s : Shared} {k : κ} {b : Addr} {Q : Bool → Shared → Prop}, knd.is s.heap k b → Q true s → wpAny (model P w) A (hashByValue 8 (.ref b)) Q E s
  stay : ∀ {h h' : Heap} {k : κ} {b d : Addr} {o : Obj} {es : Array (Int × Value)} {ep : Nat} {t : SetTable}, knd.is h k b → h.get? d = some o → o.data = .set es ep t → Heap.SameBut d h h' → knd.is h' k b
  grow : ∀ {h h' : Heap} {k : κ} {b : Addr}, knd.is h k b → (∀ c o, h.get? c = some o → h'.get? c = some o) → knd.is h' k b
end

/-! ### nested tuples are such elements -/
section
variable {P : Program} {w : World}
def NoCls (P : Program) (w : World) (n : Nat) (s : Shared) (v : Value) : Prop := ∀ (A : Around) (E : Value → Shared → Prop) (Q : Bool → Shared → Prop), Q false s → wpAny (model P w) A (ofAClassStatement n v) Q E s
def ByVal (P : Program) (w : World) (n : Nat) (s : Shared) (v : Value) : Prop := ∀ (A : Around) (E : Value → Shared → Prop) (Q : Bool → Shared → Prop), Q true s → wpAny (model P w) A (hashByValue n v) Q E s
theorem NoCls.pure {n : Nat} {s : Shared} {v : Value} (h : ofAClassStatement n v = Pure.pure false) : NoCls P w n s v := fun A E Q q => by
  rw [h]
  exact wpAny_pure q
theorem ByVal.pure {n : Nat} {s : Shared} {v : Value} (h : hashByValue n v = Pure.pure true) : ByVal P w n s v := fun A E Q q => by
  rw [h]
  exact wpAny_pure q
theorem NoCls.tup {n m : Nat} {s : Shared} {a : Addr} {o : Obj} {vs : Array Value} (ho : s.heap.get? a = some o) (hc : o.cls = .type "tuple") (hd : o.data = .seq vs m) (hv : ∀ v ∈ vs.toList, NoCls P w n s v) : NoCls P w (n + 1) s (.ref a) := fun A E Q q => by
  have hT : s.TypeIs (.ref a) "tuple" := ⟨o, ho, hc⟩
  unfold ofAClassStatement
  refine wpAny_bind (wpAny_typeOf hT ?_)
  dsimp only
  have e : (("tuple" : String) == "tuple") = true := by decide
  simp only [e, if_true, Bool.not_true, Bool.false_eq_true, if_false]
  try refine wpAny_bind (wpAny_pure ?_)
  try simp only [Bool.not_true, Bool.false_eq_true, if_false]
  show wpAny _ _ (seqItems? (.ref a) >>= _) _ _ s
  refine wpAny_bind (wpAny_seqItems ho hd ?_)
  dsimp only
  refine wpAny_bind ?_
  show wpAny _ _ (forIn vs _ _) _ _ s
  rw [← Array.forIn_toList]
  refine wpAny_forIn_list _ (fun rest r s' => r.1 = none ∧ s' = s ∧ ∀ v ∈ rest, NoCls P w n s v) _ ?_ ?_ _ _ ⟨rfl, rfl, hv⟩
  · rintro v rest r s' ⟨_, rfl, all⟩
    refine wpAny_bind (all v List.mem_cons_self _ _ _ ?_)
    simp only [Bool.false_eq_true, if_false]
    exact wpAny_pure ⟨rfl, rfl, fun u hu => all u (List.mem_cons_of_mem _ hu)⟩
  · rintro ⟨r1, r2⟩ s' ⟨hr, rfl, _⟩
    simp only at hr
    subst hr
    exact wpAny_pure q
theorem ByVal.tup {n m : Nat} {s : Shared} {a : Addr} {o : Obj} {vs : Array Value} (ho : s.heap.get? a = some o) (hc : o.cls = .type "tuple") (hd : o.data = .seq vs m) (hv : ∀ v ∈ vs.toList, ByVal P w n s v) : ByVal P w (n + 1) s (.ref a) := fun A E Q q => by
  have hT : s.TypeIs (.ref a) "tuple" := ⟨o, ho, hc⟩
  unfold hashByValue
  refine wpAny_bind (wpAny_specialOf hT F.slot_tuple_hash.lookup ?_)
  show wpAny _ _ (seqItems? (.ref a) >>= _) _ _ s
  refine wpAny_bind (wpAny_seqItems ho hd ?_)
  refine wpAny_bind ?_
  show wpAny _ _ (forIn vs _ _) _ _ s
  rw [← Array.forIn_toList]
  refine wpAny_forIn_list _ (fun rest r s' => r.1 = none ∧ s' = s ∧ ∀ v ∈ rest, ByVal P w n s v) _ ?_ ?_ _ _ ⟨rfl, rfl, hv⟩
  · rintro v rest r s' ⟨_, rfl, all⟩
    refine wpAny_bind (all v List.mem_cons_self _ _ _ ?_)
    simp only [Bool.not_true, Bool.false_eq_true, if_false]
    exact wpAny_pure ⟨rfl, rfl, fun u hu => all u (List.mem_cons_of_mem _ hu)⟩
  · rintro ⟨r1, r2⟩ s' ⟨hr, rfl, _⟩
    simp only at hr
    subst hr
    exact wpAny_pure q
theorem scal_ofA {v : Value} (h : v.onHeap = false) (n : Nat) (hv : v = .none ∨ (∃ b, v = .bool b) ∨ (∃ i t, v = .int i t) ∨ ∃ x t, v = .str x t) : ofAClassStatement n v = Pure.pure false := by
  rcases hv with rfl | ⟨b, rfl⟩ | ⟨i, t, rfl⟩ | ⟨x, t, rfl⟩ <;> cases n <;> rfl
theorem scal_byV {v : Value} (n : Nat) (hv : v = .none ∨ (∃ b, v = .bool b) ∨ (∃ i t, v = .int i t)) : hashByValue n v = Pure.pure true := by
  rcases hv with rfl | ⟨b, rfl⟩ | ⟨i, t, rfl⟩ <;> cases n <;> rfl
mutual
/-- no text is in it: its hash hangs on its value alone -/
def noTx : NestedKey → Bool
  | .none => true
  | .num _ => true
  | .text _ => false
  | .tup ks => noTxs ks
def noTxs : List NestedKey → Bool
  | [] => true
  | k :: ks => noTx k && noTxs ks
end
mutual
theorem nested_els : ∀ (k : NestedKey) (v : Value) (n : Nat) (s : Shared), NestedIs s.heap k v → k.depth ≤ n → noTx k = true → NoCls P w n s v ∧ ByVal P w n s v
  | .none, _, n, s, x, _, _ => by
    cases x
    exact ⟨.pure (scal_ofA rfl n (.inl rfl)), .pure (scal_byV n (.inl rfl))⟩
  | .num i, _, n, s, x, _, _ => by
    cases x with
    | bool e => exact ⟨.pure (scal_ofA rfl n (.inr (.inl ⟨_, rfl⟩))), .pure (scal_byV n (.inr (.inl ⟨_, rfl⟩)))⟩
    | int _ t => exact ⟨.pure (scal_ofA rfl n (.inr (.inr (.inl ⟨_, _, rfl⟩)))), .pure (scal_byV n (.inr (.inr ⟨_, _, rfl⟩)))⟩
  | .text y, _, n, s, x, _, h => by
    simp only [noTx, Bool.false_eq_true] at h
  | .tup ks, _, n, s, x, hn, h => by
    cases x with
    | tup hg hc hd hk =>
      simp only [NestedKey.depth] at hn
      simp only [noTx] at h
      cases n with
      | zero => omega
      | succ n =>
        have all := nested_elss ks _ n s hk (by omega) h
        exact ⟨.tup hg hc hd fun v hv => (all v hv).1, .tup hg hc hd fun v hv => (all v hv).2⟩
theorem nested_elss : ∀ (ks : List NestedKey) (vs : List Value) (n : Nat) (s : Shared), NestedAll s.heap ks vs → NestedKey.depthAll ks ≤ n → noTxs ks = true → ∀ v ∈ vs, NoCls P w n s v ∧ ByVal P w n s v
  | [], _, n, s, x, _, _, v, hv => by cases x; cases hv
  | k :: ks, _, n, s, x, hn, h, v, hv => by
    cases x with
    | cons x1 x2 =>
      simp only [NestedKey.depthAll] at hn
      simp only [noTxs, Bool.and_eq_true] at h
      rcases List.mem_cons.mp hv with e | hv
      · rw [e]
        exact nested_els k _ n s x1 (by omega) h.1
      · exact nested_elss ks _ n s x2 (by omega) h.2 v hv
end
/-- the kind of nested tuples without texts -/
def numKind (P : Program) (w : World) : HeapKind P w NestedKey where
  is := fun h k a => (nestedKind P w).is h k a ∧ noTx k = true
  hash := (nestedKind P w).hash
  draws := (nestedKind P w).draws
  room := (nestedKind P w).room
  inj := fun x y => (nestedKind P w).inj x.1 y.1
  keeps := fun x ho hd hs => ⟨(nestedKind P w).keeps x.1 ho hd hs, x.2⟩
  pyHash := fun hr x h => (nestedKind P w).pyHash hr x.1 h
  eqBool := fun hr x y h => (nestedKind P w).eqBool hr x.1 y.1 h
  quiet := fun x h => (nestedKind P w).quiet x.1 h
theorem els_num : Els (numKind P w) where
  ofA := fun {A E s k b Q} h q => (nested_els k _ 8 s h.1.1 h.1.2 h.2).1 A E Q q
  byV := fun {A E s k b Q} h q => (nested_els k _ 8 s h.1.1 h.1.2 h.2).2 A E Q q
  stay := fun {h h' k b d o es ep t} x ho hd hs => ⟨⟨NestedIs.at (fun c oc vs n hc hdc => by
    refine (hs.2 c fun e => ?_).trans hc
    subst e
    rw [ho] at hc
    cases hc
    rw [hd] at hdc
    cases hdc) k _ x.1.1, x.1.2⟩, x.2⟩
  grow := fun x k => ⟨⟨NestedIs.at (fun c o _ _ hc _ => k c o hc) _ _ x.1.1, x.1.2⟩, x.2⟩
end

/-! ### the table -/
section
variable {P : Program} {w : World} {κ : Type} [DecidableEq κ] {knd : HeapKind P w κ} {A : Around} {E : Value → Shared → Prop} {s : Shared}
/-- the elements as the table's rows -/
def rowsK (knd : HeapKind P w κ) (L : List (κ × Addr)) : List (Int × Value) := L.map fun p => (knd.hash p.1, Value.ref p.2)
/-- the set at a, of the elements L (in the table's order) -/
structure SetK (knd : HeapKind P w κ) (h : Heap) (a : Addr) (L : List (κ × Addr)) (es : Array (Int × Value)) (ep : Nat) (t : SetTable) : Prop where
  ob : ∃ o, h.get? a = some o ∧ o.ExactSet ∧ o.data = .set es ep t
  rows : es.toList = rowsK knd L
  tab : TabOk t (L.map fun p => knd.hash p.1)
  nd : (L.map (·.1)).Nodup
  els : ∀ p ∈ L, knd.is h p.1 p.2
  pl : t.plain = true
  led : w.params.followText "set-order" = true ∨ t.led = true
  room : L.length * 5 < t.mask * 3
  few : L.length < 64
variable {a : Addr} {L : List (κ × Addr)} {es : Array (Int × Value)} {ep : Nat} {t : SetTable}
theorem rowsK_size (e : es.toList = rowsK knd L) : es.size = L.length := by
  rw [← Array.length_toList, e]
  exact List.length_map _
theorem rowsK_at (e : es.toList = rowsK knd L) (i : Nat) : es[i]? = (L[i]?).map fun p => (knd.hash p.1, Value.ref p.2) := by
  rw [← Array.getElem?_toList, e]
  exact List.getElem?_map ..
theorem fitsK (T : TabOk t (L.map fun p => knd.hash p.1)) (e : es.toList = rowsK knd L) (hm : L.length ≤ t.mask) : t.fits es.size = true := by
  have h1 : t.place.size = L.length := by
    rw [T.sz]
    exact List.length_map _
  unfold SetTable.fits SetTable.fill
  rw [T.dm, rowsK_size e, Bool.and_eq_true, beq_iff_eq, decide_eq_true_eq]
  exact ⟨h1, by show t.place.size + 0 ≤ t.mask; omega⟩
theorem SetK.fits (R : SetK knd s.heap a L es ep t) : t.fits es.size = true := fitsK R.tab R.rows (by have := R.room; omega)
/-- a search shows nothing of the elements -/
theorem unseenK (el : Els knd) {k : κ} {b : Addr} {Q : Bool → Shared → Prop} (hk : knd.is s.heap k b) {ys : List Value} (hy : ∀ y ∈ ys, ∃ j c, y = Value.ref c ∧ knd.is s.heap j c) (h : Q false s) : wpAny (model P w) A (searchCouldBeSeen (.ref b) ys) Q E s := by
  unfold searchCouldBeSeen
  refine wpAny_bind ?_
  refine wpAny_forIn_list _ (fun rest r s' => r.1 = none ∧ s' = s ∧ ∀ y ∈ rest, y ∈ ys) _ ?_ ?_ _ _ ⟨rfl, rfl, fun _ z => z⟩
  · rintro v rest r s' ⟨_, rfl, sub⟩
    obtain ⟨j, c, rfl, hc⟩ := hy v (sub v List.mem_cons_self)
    have more : ∀ y ∈ rest, y ∈ ys := fun u hu => sub u (List.mem_cons_of_mem _ hu)
    dsimp only
    by_cases hv : (b == c || (carriedByValue (.ref b) && carriedByValue (.ref c))) = true
    · exact wp_if_pos hv (wpAny_pure ⟨rfl, rfl, more⟩)
    · refine wp_if_neg hv (wpAny_bind (knd.quiet hk ?_))
      simp only [Bool.not_true, Bool.false_eq_true, if_false]
      refine wpAny_bind (knd.quiet hc ?_)
      simp only [Bool.not_true, Bool.false_eq_true, if_false]
      refine wpAny_bind (el.ofA hk ?_)
      simp only [Bool.false_eq_true, if_false]
      refine wpAny_bind (el.ofA hc ?_)
      simp only [Bool.false_eq_true, if_false]
      exact wpAny_pure ⟨rfl, rfl, more⟩
  · rintro ⟨r1, r2⟩ s' ⟨hr, rfl, _⟩
    simp only at hr
    subst hr
    exact wpAny_pure h

/-- where a search for the hash h stands behind c steps -/
abbrev stepK (t : SetTable) (h : Int) (c : Nat) : SetTable.Probe := nth t.mask (runAt t.mask (SetTable.bits h % (t.mask + 1)) (SetTable.bits h)) c
theorem stepK_add (t : SetTable) (h : Int) (c q : Nat) : nth t.mask (stepK t h c) q = stepK t h (c + q) := (nth_add t.mask c _ q).symm
theorem stepK_j (t : SetTable) (h : Int) (c q : Nat) : (nth t.mask (stepK t h c) q).j = way t.mask h (c + q) := congrArg SetTable.Probe.j (stepK_add t h c q)
theorem dummy_nth (m : Nat) : ∀ (n : Nat) (p : SetTable.Probe), p.dummy = none → (nth m p n).dummy = none
  | 0, _, h => h
  | n + 1, p, h => dummy_nth m n (adv m p) (by
    unfold adv
    split <;> exact h)
/-- THE SEARCH: with n steps to go to the first free slot -/
theorem seekK (el : Els knd) (R : SetK knd s.heap a L es ep t) {x : Addr} {k : κ} (hx : knd.is s.heap k x) (hr : knd.room A) {N : Nat} (hN : N < 10 * SetTable.turns t.mask) (hfree : way t.mask (knd.hash k) N ∉ t.place.toList)
    (htak : ∀ c, c < N → way t.mask (knd.hash k) c ∈ t.place.toList) {Q : SetFound → Shared → Prop} (qin : k ∈ L.map (·.1) → Q (.there none) s) (qout : k ∉ L.map (·.1) → Q (.free (way t.mask (knd.hash k) N) false) s) (n : Nat) :
    ∀ (c f : Nat) (stand : Option SetTable.Probe), c + n = N → n < f → stand.getD (t.probeStart (knd.hash k)) = stepK t (knd.hash k) c →
      (∀ (i : Nat) (p : κ × Addr), L[i]? = some p → p.1 = k → ∃ q, q < n ∧ t.place.toList[i]? = some (way t.mask (knd.hash k) (c + q))) →
      wpAny (model P w) A (setSearchFrom a (.ref x) (knd.hash k) true f stand) Q E s := by
  induction n using Nat.strongRecOn with
  | ind n ih =>
    intro c f stand hc hf hst hre
    obtain ⟨f, rfl⟩ : ∃ g, f = g + 1 := ⟨f - 1, by omega⟩
    obtain ⟨o, ho, hex, hd⟩ := R.ob
    rw [setSearchFrom_succ]
    refine wpAny_bind (wpAny_setState_of ho hd R.fits ?_)
    dsimp only
    refine wp_if_neg (by unfold SetTable.gaveWay; rw [mask_odd R.tab.mok]; decide) ?_
    try refine wpAny_bind (wpAny_pure ?_)
    have hAt : ∀ (i : Nat) (p : κ × Addr), L[i]? = some p → (fun i => (es[i]?.map (·.1)).getD 0) i = knd.hash p.1 := fun i p hp => by
      show (es[i]?.map (·.1)).getD 0 = _
      rw [rowsK_at R.rows, hp]
      rfl
    have spec := go_spec t R.tab.ris R.tab.dm (fun i => (es[i]?.map (·.1)).getD 0) (knd.hash k) (10 * SetTable.turns t.mask) n (stepK t (knd.hash k) c) (dummy_nth _ _ _ rfl) (by omega)
      (fun q hq => by rw [stepK_j]; exact htak _ (by omega)) (by rw [stepK_j, hc]; exact hfree)
    have pr : t.probe (fun i => (es[i]?.map (·.1)).getD 0) (knd.hash k) (stand.getD (t.probeStart (knd.hash k))) = SetTable.probe.go t (fun i => (es[i]?.map (·.1)).getD 0) (knd.hash k) (10 * SetTable.turns t.mask) (stepK t (knd.hash k) c) := by
      rw [hst]
      rfl
    rw [pr]
    rcases spec with ⟨q, i, hq, hi, _, hno, e⟩ | ⟨hno, e⟩
    · rw [e, stepK_j, stepK_add]
      rw [stepK_j] at hi
      dsimp only
      have hil : i < L.length := by
        have h1 := (List.getElem?_eq_some_iff.mp hi).1
        rw [Array.length_toList, R.tab.sz, List.length_map] at h1
        exact h1
      obtain ⟨p, hp⟩ : ∃ p, L[i]? = some p := ⟨_, List.getElem?_eq_getElem hil⟩
      have hm : p ∈ L := List.mem_of_getElem? hp
      have hei : es[i]? = some (knd.hash p.1, Value.ref p.2) := by
        rw [rowsK_at R.rows, hp]
        rfl
      have hsl : t.slot (way t.mask (knd.hash k) (c + q)) = .live i := slot_live R.tab.ris hi
      have after : wpAny (model P w) A (searchRest a (.ref x) (knd.hash k) true f es t (way t.mask (knd.hash k) (c + q)) i (stepK t (knd.hash k) (c + (q + 1)))) Q E s := by
        unfold searchRest
        rw [hei]
        dsimp only
        refine wpAny_bind (wpAny_holding (knd.eqBool hr (R.els p hm) hx ?_))
        refine wpAny_bind (wpAny_setState_of ho hd R.fits ?_)
        dsimp only
        by_cases hk : p.1 = k
        · exact wp_if_pos (by simp [hk]) (wpAny_pure (qin (List.mem_map.mpr ⟨p, hm, hk⟩)))
        · refine wp_if_neg (by simp [hk]) ?_
          try refine wpAny_bind (wpAny_pure ?_)
          rw [sameMem]
          dsimp only
          simp only [if_true, hsl, hei]
          refine wpAny_bind (wpAny_isSame_ref_self (wpAny_bind (wpAny_pure ?_)))
          simp only [if_true]
          refine wp_if_neg (by simp [hk]) ?_
          refine ih (n - (q + 1)) (by omega) (c + (q + 1)) f _ (by omega) (by omega) rfl fun i0 p0 h0 hk0 => ?_
          obtain ⟨r, hrn, hpl⟩ := hre i0 p0 h0 hk0
          rcases Nat.lt_trichotomy r q with z | z | z
          · exact absurd ((hAt i0 p0 h0).trans (congrArg knd.hash hk0)) (hno r i0 z (by rw [stepK_j]; exact hpl))
          · subst z
            have s0 := slot_live R.tab.ris hpl
            rw [hsl] at s0
            injection s0 with s0
            rw [← s0, hp] at h0
            exact absurd ((congrArg Prod.fst (Option.some.inj h0)).trans hk0) hk
          · exact ⟨r - (q + 1), by omega, by rw [show c + (q + 1) + (r - (q + 1)) = c + r by omega]; exact hpl⟩
      by_cases hl : t.led = true
      · refine wp_if_neg (by simp [hl]) ?_
        try refine wpAny_bind (wpAny_pure ?_)
        exact after
      · refine wp_if_pos (by simp [hl]) ?_
        refine wpAny_bind (unseenK el hx (fun y hy => ?_) (wp_if_neg (by decide) ?_))
        · obtain ⟨z, hz, rfl⟩ := List.mem_map.mp hy
          have hz1 : z ∈ es ∧ z.1 = knd.hash k := by simpa using hz
          have hz2 : z ∈ es.toList := by simpa using hz1.1
          rw [R.rows] at hz2
          obtain ⟨p2, hp2, rfl⟩ := List.mem_map.mp hz2
          exact ⟨p2.1, p2.2, rfl, R.els p2 hp2⟩
        · try refine wpAny_bind (wpAny_pure ?_)
          exact after
    · rw [e, stepK_j, hc]
      dsimp only
      refine wpAny_pure (qout fun hm => ?_)
      obtain ⟨p0, h0, hk0⟩ := List.mem_map.mp hm
      obtain ⟨i0, hi0, e0⟩ := List.getElem_of_mem h0
      have h00 : L[i0]? = some p0 := by rw [List.getElem?_eq_getElem hi0, e0]
      obtain ⟨r, hrn, hpl⟩ := hre i0 p0 h00 hk0
      exact hno r i0 hrn (by rw [stepK_j]; exact hpl) ((hAt i0 p0 h00).trans (congrArg knd.hash hk0))
/-- the search as adding asks for it -/
theorem lookK (el : Els knd) (R : SetK knd s.heap a L es ep t) {x : Addr} {k : κ} (hx : knd.is s.heap k x) (hr : knd.room A) {Q : SetFound → Shared → Prop} (qin : k ∈ L.map (·.1) → Q (.there none) s)
    (qout : ∀ N, k ∉ L.map (·.1) → way t.mask (knd.hash k) N ∉ t.place.toList → (∀ c, c < N → way t.mask (knd.hash k) c ∈ t.place.toList) → Q (.free (way t.mask (knd.hash k) N) false) s) :
    wpAny (model P w) A (setSearch a (.ref x) (knd.hash k) true) Q E s := by
  have room := R.room
  obtain ⟨N, h1, h2, h3⟩ := R.tab.first (by rw [List.length_map]; omega) (knd.hash k)
  have few : N < 100000 := by
    have : 10 * SetTable.turns t.mask ≤ 1420 := by
      unfold SetTable.turns
      rcases R.tab.mok with e | e | e <;> omega
    omega
  unfold setSearch
  refine seekK el R hx hr h1 h2 h3 qin (fun z => qout N z h2 h3) N 0 100000 none (Nat.zero_add N) few rfl fun i p hp hk => ?_
  have hi : (L.map fun p => knd.hash p.1)[i]? = some (knd.hash k) := by
    rw [List.getElem?_map, hp, ← hk]
    rfl
  have hil : i < t.place.toList.length := by
    rw [Array.length_toList, R.tab.sz, List.length_map]
    exact (List.getElem?_eq_some_iff.mp hp).1
  have hj := List.getElem?_eq_getElem hil
  obtain ⟨q, hq, e⟩ := R.tab.before h2 hi hj
  exact ⟨q, hq, by rw [hj, Nat.zero_add, e]⟩

theorem range_pick {α : Type} : ∀ l : List α, (List.range l.length).filterMap (fun i => l[i]?) = l
  | [] => rfl
  | x :: l => by
    rw [List.length_cons, List.range_succ_eq_map, List.filterMap_cons]
    show x :: (List.map Nat.succ (List.range l.length)).filterMap (fun i => (x :: l)[i]?) = x :: l
    rw [List.filterMap_map]
    exact congrArg (x :: ·) (range_pick l)
theorem fm_congr {α β : Type} {f g : α → Option β} : ∀ {l : List α}, (∀ x ∈ l, f x = g x) → l.filterMap f = l.filterMap g
  | [], _ => rfl
  | x :: l, h => by rw [List.filterMap_cons, List.filterMap_cons, h x List.mem_cons_self, fm_congr fun y hy => h y (List.mem_cons_of_mem _ hy)]
/-- the rows in another order -/
theorem orderK (e : es.toList = rowsK knd L) {order : Array Nat} (hp : order.toList.Perm (List.range L.length)) :
    ∃ L2, (order.filterMap (es[·]?)).toList = rowsK knd L2 ∧ L2.Perm L ∧ (L2.map fun p => knd.hash p.1) = order.toList.map fun i => (es.map (·.1)).getD i 0 := by
  refine ⟨order.toList.filterMap fun i => L[i]?, ?_, ?_, ?_⟩
  · rw [Array.toList_filterMap]
    unfold rowsK
    rw [List.map_filterMap]
    exact fm_congr fun i _ => rowsK_at e i
  · exact (hp.filterMap _).trans (List.Perm.of_eq (range_pick L))
  · rw [List.map_filterMap, ← List.filterMap_eq_map]
    refine fm_congr fun i hi => ?_
    have hlt : i < L.length := List.mem_range.mp (hp.mem_iff.mp hi)
    have h1 : (es.map (·.1))[i]? = some (knd.hash (L[i]).1) := by
      rw [Array.getElem?_map, rowsK_at e, List.getElem?_eq_getElem hlt]
      rfl
    rw [List.getElem?_eq_getElem hlt]
    show some (knd.hash (L[i]).1) = some ((es.map (·.1)).getD i 0)
    rw [Array.getD_eq_getD_getElem?, h1]
    rfl
/-- all laid anew in a larger table -/
theorem relayK (el : Els knd) {o : Obj} (ho : s.heap.get? a = some o) (hex : o.ExactSet) (hd : o.data = .set es ep t) (hrows : es.toList = rowsK knd L) (T : TabOk t (L.map fun p => knd.hash p.1)) (hm : L.length ≤ t.mask)
    (nd : (L.map (·.1)).Nodup) (els : ∀ p ∈ L, knd.is s.heap p.1 p.2) (pl : t.plain = true) (led : w.params.followText "set-order" = true ∨ t.led = true) (few : L.length < 64) {wanted M : Nat}
    (hw : SetTable.sizeAbove wanted - 1 = M) (hM : MaskOk M) (hw2 : SetTable.sizeAbove wanted ≤ 128) (hn : L.length * 5 < M * 3) {Q : Unit → Shared → Prop}
    (hQ : ∀ h' L' es' ep' t', Heap.SameBut a s.heap h' → SetK knd h' a L' es' ep' t' → L'.Perm L → Q () { s with heap := h' }) : wpAny (model P w) A (setRelay a wanted) Q E s := by
  have hsz := rowsK_size hrows
  obtain ⟨t', order, e, hp, T', em, el', ep', _⟩ := relaid_ok t (hs := es.map (·.1)) (wanted := wanted) hw hM (by rw [Array.size_map, hsz]; omega)
  rw [Array.size_map, hsz] at hp
  obtain ⟨L2, r1, r2, r3⟩ := orderK hrows hp
  rw [← r3] at T'
  have hs2 : (order.filterMap (es[·]?)).size = es.size := by rw [rowsK_size r1, r2.length_eq, hsz]
  rw [setRelay_eq]
  refine wpAny_bind (wpAny_setState_of ho hd (fitsK T hrows hm) ?_)
  dsimp only
  refine wp_if_neg (by rw [sizeLine_eq]; omega) ?_
  try refine wpAny_bind (wpAny_pure ?_)
  rw [e]
  dsimp only
  refine wpAny_bind ?_
  refine wp_if_neg (by rw [hs2]; simp) ?_
  try refine wpAny_bind (wpAny_pure ?_)
  refine wpAny_pure ?_
  dsimp only
  refine wpAny_storeSet_of ho hd ?_ (by rw [hs2, hsz, sizeLine_eq]; omega)
  have sb : Heap.SameBut a s.heap (s.heap.update a (Obj.putSet (order.filterMap (es[·]?)) t')) := Heap.SameBut.update ..
  exact hQ _ L2 _ (ep + 1) t' sb ⟨⟨_, store_at ho hd, ⟨hex.1, hex.2.1, hex.2.2⟩, rfl⟩, r1, T', (r2.map (·.1)).nodup_iff.mpr nd, fun p hpm => el.stay (els p (r2.mem_iff.mp hpm)) ho hd sb, by rw [ep']; exact pl, by rw [el']; exact led, by rw [r2.length_eq, em]; exact hn, by rw [r2.length_eq]; exact few⟩ r2
/-- ADDING an element whose hash is known -/
theorem addK (el : Els knd) (R : SetK knd s.heap a L es ep t) {x : Addr} {k : κ} (hx : knd.is s.heap k x) (hr : knd.room A) (few : L.length + 1 < 64) {Q : Bool → Shared → Prop}
    (hQ : ∀ b h' L' es' ep' t', Heap.SameBut a s.heap h' → SetK knd h' a L' es' ep' t' → (k ∈ L.map (·.1) → L' = L) → (k ∉ L.map (·.1) → L'.Perm ((k, x) :: L)) → Q b { s with heap := h' }) :
    wpAny (model P w) A (setAddHashed a (.ref x) (knd.hash k)) Q E s := by
  obtain ⟨o, ho, hex, hd⟩ := R.ob
  have room := R.room
  unfold setAddHashed
  refine wpAny_holding ?_
  rw [show (100000 : Nat) = 99999 + 1 from rfl, setAddHashedIn_succ]
  refine wpAny_bind (wpAny_setState_of ho hd R.fits ?_)
  dsimp only
  refine wp_if_neg (by simp [byScan, Value.scannable]) ?_
  try refine wpAny_bind (wpAny_pure ?_)
  refine wpAny_bind (lookK el R hx hr (fun hm => ?_) fun N hm hN hb => ?_)
  · dsimp only
    exact wpAny_pure (hQ false s.heap L es ep t (Heap.SameBut.refl a s.heap) R (fun _ => rfl) fun z => absurd hm z)
  dsimp only
  refine wpAny_bind (wpAny_setState_of ho hd R.fits ?_)
  dsimp only
  obtain ⟨q1, q2, q3, q4, q5, q6, _, _, q9⟩ := R.tab.put hN hb
  rw [← List.map_take, ← List.map_drop, ← List.map_cons (f := fun p : κ × Addr => knd.hash p.1) (a := (k, x)), ← List.map_append] at q3
  rw [List.length_map] at q9
  generalize hpt : t.put (way t.mask (knd.hash k) N) = pt at q1 q3 q4 q5 q6 q9 ⊢
  obtain ⟨t1, p⟩ := pt
  dsimp only at q1 q3 q4 q5 q6 q9 ⊢
  have pl1 : t1.plain = true := q6.trans R.pl
  have ins : (SetTable.insertAt es p (knd.hash k, Value.ref x)).toList = rowsK knd (L.take p ++ (k, x) :: L.drop p) := by
    rw [SetTable.toList_insertAt, R.rows]
    unfold rowsK
    rw [List.map_append, List.map_cons, List.map_take, List.map_drop]
  rw [← q1] at q3
  have pm : (L.take p ++ (k, x) :: L.drop p).Perm ((k, x) :: L) := by
    have h : (L.take p ++ (k, x) :: L.drop p).Perm ((k, x) :: (L.take p ++ L.drop p)) := List.perm_middle
    rwa [List.take_append_drop] at h
  first
    | (refine wpAny_bind ?_; refine wp_if_pos pl1 ?_; refine el.byV hx ?_)
    | refine wp_if_pos pl1 (wpAny_bind (el.byV hx ?_))
  simp only [if_true]
  generalize SetTable.insertAt es p (knd.hash k, Value.ref x) = es1 at ins ⊢
  generalize L.take p ++ (k, x) :: L.drop p = L1 at pm q3 ins
  have len : L1.length = L.length + 1 := pm.length_eq
  have nd1 : (L1.map (·.1)).Nodup := (pm.map (·.1)).nodup_iff.mpr (by rw [List.map_cons]; exact List.nodup_cons.mpr ⟨hm, R.nd⟩)
  have hes : es1.size = L.length + 1 := (rowsK_size ins).trans len
  refine wpAny_bind (wpAny_storeSet_of ho hd ?_ (by rw [hes, sizeLine_eq]; omega))
  have sb : Heap.SameBut a s.heap (s.heap.update a (Obj.putSet es1 t1)) := Heap.SameBut.update ..
  have ho1 := store_at (es' := es1) (t' := t1) ho hd
  generalize s.heap.update a (Obj.putSet es1 t1) = h1 at sb ho1 ⊢
  have els1 : ∀ p ∈ L1, knd.is h1 p.1 p.2 := fun p hp => by
    rcases List.mem_cons.mp (pm.mem_iff.mp hp) with e | hp
    · rw [e]
      exact el.stay hx ho hd sb
    · exact el.stay (R.els p hp) ho hd sb
  have led1 : w.params.followText "set-order" = true ∨ t1.led = true := by rw [q5]; exact R.led
  by_cases hf : t1.tooFull = true
  · have full : (L.length + 1) * 5 ≥ t1.mask * 3 := by
      have h := hf
      unfold SetTable.tooFull at h
      rw [decide_eq_true_eq, q9] at h
      exact h
    have two : (t.mask = 7 ∧ L.length = 4) ∨ (t.mask = 31 ∧ L.length = 18) := by
      rw [q4] at full
      rcases R.tab.mok with e | e | e <;> rw [e] at full room
      · exact .inl ⟨e, by omega⟩
      · exact .inr ⟨e, by omega⟩
      · omega
    have go : ∀ M, SetTable.sizeAbove (SetTable.grown (L.length + 1)) - 1 = M → MaskOk M → SetTable.sizeAbove (SetTable.grown (L.length + 1)) ≤ 128 → (L.length + 1) * 5 < M * 3 →
        wpAny (model P w) A (setRelay a (SetTable.grown (L.length + 1))) (fun _ s' => wpAny (model P w) A (pure true) Q E s') E { s with heap := h1 } := fun M z1 z2 z3 z4 => by
      refine relayK (s := { s with heap := h1 }) el ho1 ⟨hex.1, hex.2.1, hex.2.2⟩ rfl ins q3 (by rw [len, q4]; rcases two with ⟨e, e2⟩ | ⟨e, e2⟩ <;> omega) nd1 els1 pl1 led1 (by rw [len]; exact few) z1 z2 z3 (by rw [len]; exact z4) ?_
      intro h2 L2 es2 ep2 t2 sb2 R2 pm2
      exact wpAny_pure (hQ true h2 L2 es2 ep2 t2 (sb.trans sb2) R2 (fun z => absurd z hm) fun _ => pm2.trans pm)
    rw [rowsK_size R.rows]
    first
      | (refine wpAny_bind ?_; refine wp_if_pos (by simp [hf]) ?_)
      | (refine wp_if_pos (by simp [hf]) ?_; refine wpAny_bind ?_)
    rcases two with ⟨_, e2⟩ | ⟨_, e2⟩
    · exact go 31 (by rw [e2, size_20]) (.inr (.inl rfl)) (by rw [e2, size_20]; decide) (by omega)
    · exact go 127 (by rw [e2, size_76]) (.inr (.inr rfl)) (by rw [e2, size_76]; decide) (by omega)
  · have notFull : ¬ (L.length + 1) * 5 ≥ t1.mask * 3 := fun z => hf (by
      unfold SetTable.tooFull
      rw [decide_eq_true_eq, q9]
      exact z)
    first
      | refine wp_if_neg (by simp [hf]) ?_
      | (refine wpAny_bind ?_; refine wp_if_neg (by simp [hf]) ?_; refine wpAny_pure ?_)
    exact wpAny_pure (hQ true h1 L1 es1 (ep + 1) t1 sb ⟨⟨_, ho1, ⟨hex.1, hex.2.1, hex.2.2⟩, rfl⟩, ins, q3, nd1, els1, pl1, led1, by rw [len]; omega, by rw [len]; exact few⟩ (fun z => absurd z hm) fun _ => pm)
/-- a new set -/
theorem freshK {h : Heap} {a : Addr} (ho : h.get? a = some { cls := .type "set", dict := none, data := .set #[] 0 (.fresh 0 0 (!w.params.followText "set-order")) }) : SetK knd h a [] #[] 0 (.fresh 0 0 (!w.params.followText "set-order")) where
  ob := ⟨_, ho, ⟨rfl, rfl, rfl⟩, rfl⟩
  rows := rfl
  tab := ⟨List.Pairwise.nil, rfl, rfl, .inl rfl, fun x hx => (by cases hx), fun i h j hi => (by simp at hi)⟩
  nd := List.nodup_nil
  els := fun p hp => (by cases hp)
  pl := rfl
  led := by
    show _ ∨ (!w.params.followText "set-order") = true
    cases w.params.followText "set-order"
    · exact .inr rfl
    · exact .inl rfl
  room := by
    show 0 * 5 < 7 * 3
    decide
  few := by
    show 0 < 64
    decide
end
end Hb

set_option Elab.async false
set_option linter.all false
set_option maxRecDepth 100000
set_option maxHeartbeats 4000000
/-! Sets of nested tuples over the abstract heap: add, the comprehension, sorted. -/
namespace Hb
open PySem L2 PyProof.Rows

/-- the set at a: its elements' keys and addresses, in the table's order -/
structure SetK0 (P : Program) (w : World) (h : Heap) (a : Addr) (L : List (NestedKey × Addr)) : Prop where
  ex : ∃ (es : Array (Int × Value)) (ep : Nat) (t : SetTable), (∃ o, h.get? a = some o ∧ o.ExactSet ∧ o.data = .set es ep t) ∧ es.toList = rowsK (numKind P w) L ∧ TabOk t (L.map fun p => (numKind P w).hash p.1) ∧ (L.map (·.1)).Nodup ∧ t.plain = true ∧
    (w.params.followText "set-order" = true ∨ t.led = true) ∧ L.length * 5 < t.mask * 3 ∧ L.length < 64
/-- .. as an object of the abstract heap -/
def SN (P : Program) (w : World) (a : Addr) (L : List (NestedKey × Addr)) : HO := .ext fun h => SetK0 P w h a L
theorem SetK.k0 {P : Program} {w : World} {h : Heap} {a : Addr} {L : List (NestedKey × Addr)} {es : Array (Int × Value)} {ep : Nat} {t : SetTable} (R : SetK (numKind P w) h a L es ep t) : SetK0 P w h a L := ⟨es, ep, t, R.ob, R.rows, R.tab, R.nd, R.pl, R.led, R.room, R.few⟩
theorem SetK0.full {P : Program} {w : World} {h : Heap} {a : Addr} {L : List (NestedKey × Addr)} (R : SetK0 P w h a L) (he : ∀ p ∈ L, (numKind P w).is h p.1 p.2) : ∃ es ep t, SetK (numKind P w) h a L es ep t := by
  obtain ⟨es, ep, t, h1, h2, h3, h4, h5, h6, h7, h8⟩ := R.ex
  exact ⟨es, ep, t, h1, h2, h3, h4, he, h5, h6, h7, h8⟩
theorem sn_new {P : Program} {w : World} {H : Hp} {h : Heap} {a : Addr} {L : List (NestedKey × Addr)} (R : SetK0 P w h a L) : ObjOk P w H h a (SN P w a L) := by
  have ⟨es, ep, t, ⟨o, ho, r⟩, q⟩ := R.ex
  refine ⟨R, ⟨o, ho⟩, fun h1 h2 p k => ?_⟩
  have ⟨es', ep', t', ⟨o', ho', r'⟩, q'⟩ := SetK0.ex p
  exact ⟨es', ep', t', ⟨o', k o' ho', r'⟩, q'⟩
/-- an element as the abstract heap tells it -/
def ElN (H : Hp) (p : NestedKey × Addr) : Prop := NK H p.1 (.ref p.2) ∧ p.1.depth ≤ 8 ∧ noTx p.1 = true
theorem ElN.is {P : Program} {w : World} {H : Hp} {h : Heap} (ok : HOk P w H h) {p : NestedKey × Addr} (e : ElN H p) : (numKind P w).is h p.1 p.2 := ⟨⟨NK.is ok e.1 rfl, e.2.1⟩, e.2.2⟩

section
variable {X : Cx} {pins : List (Addr × Obj)} {σ : L2.St} {H : Hp} {s : Shared} {E : Value → Shared → Prop} {D : Addr} {L : List (NestedKey × Addr)}
theorem sn_get (I : Inv X pins σ H s) (hD : H D = some (SN X.prog X.w D L)) : SetK0 X.prog X.w s.heap D L := (I.hok D _ hD).1
/-- what the set is behind the adding of p -/
def AddN (L : List (NestedKey × Addr)) (p : NestedKey × Addr) (L' : List (NestedKey × Addr)) : Prop := (p.1 ∈ L.map (·.1) → L' = L) ∧ (p.1 ∉ L.map (·.1) → L'.Perm (p :: L))
/-- set.add -/
theorem addN_ok {A : Around} {p : NestedKey × Addr} {Q : Value → Shared → Prop} (hu : A.units + 64 < cLine) (I : Inv X pins σ H s) (hD : H D = some (SN X.prog X.w D L)) (hL : ∀ e ∈ L, ElN H e) (hp : ElN H p) (few : L.length + 1 < 64)
    (h : ∀ L' s', AddN L p L' → Inv X pins σ (upd H D (SN X.prog X.w D L')) s' → Q .none s') : wpAny (model X.prog X.w) A (call (.builtin "set.add") [.ref D, .ref p.2]) Q E s := by
  obtain ⟨es, ep, t, R⟩ := (sn_get I hD).full fun e he => (hL e he).is I.hok
  obtain ⟨o, ho, hex, hd⟩ := R.ob
  have hk := hp.is (P := X.prog) (w := X.w) I.hok
  refine wpAny_call_entry F.slot_set_add ⟨o, ho, hex.1⟩ F.entry_set_add ?_ (F.args_set_add_2 _ _)
  unfold Builtin.«set.add» Builtin.Frozenset.oneOther
  simp only [List.isEmpty_nil, bind_assoc]
  unfold Builtin.Frozenset.addrOf setAdd
  refine wpAny_bind (wpAny_pure ?_)
  try dsimp only
  refine wpAny_bind (wpAny_pure ?_)
  try dsimp only
  refine wpAny_bind ?_
  refine wpAny_holding ?_
  refine wpAny_bind ((numKind X.prog X.w).pyHash (by show A.in1.units + 8 < cLine; rw [Around.in1_units]; omega) hk ?_)
  refine addK (s := { s with toks := s.toks + (numKind X.prog X.w).draws p.1 }) (knd := numKind X.prog X.w) els_num R hk (by show A.in1.units + 8 < cLine; rw [Around.in1_units]; omega) few fun b h' L' es' ep' t' sb R' e1 e2 => ?_
  show wpAny _ _ (ret Value.none) _ _ _
  refine wpAny_pure ⟨_, rfl, h L' _ ⟨e1, e2⟩ ?_⟩
  have ⟨o', ho', _⟩ := R'.ob
  exact I.write (e := D) (by rw [hD]; trivial) (.inl rfl) (fun b u hb hu => (sb.2 b hb).trans hu) ⟨o', ho'⟩ (sn_new R'.k0)
end

/-! ### the comprehension -/
/-- {elt for target in iter if ..}, each elt a nested tuple -/
def tSn (P : Program) (w : World) (wi : TI) (g : TG) (tt : TT) (te : TE) (vs : List Nat) : TE := fun σ H Q => wi σ H fun J H1 => ∀ D, H1 D = none → ∃ W : Nat → Nat → Hp → Prop, (∃ m, W 0 m (upd H1 D (SN P w D []))) ∧ ∀ i m H, W i m H →
  (J.stop i H ∧ Q (.ref D) H) ∨ (J.go i H ∧ ∃ Nx : Hp → Prop, (∀ H', Nx H' → ∃ m', m' < m ∧ W (i + 1) m' H') ∧ ∀ x H', J.yld i H x H' → g x (wipe σ vs) H' fun σ2 H2 => wipe σ2 vs = wipe σ vs ∧ tt σ2 H2 fun b H3 =>
    if b = true then te σ2 H3 fun y H4 => ∃ (L : List (NestedKey × Addr)) (p : NestedKey × Addr), y = .ref p.2 ∧ H4 D = some (SN P w D L) ∧ (∀ e ∈ L, ElN H4 e) ∧ ElN H4 p ∧ L.length + 1 < 64 ∧ ∀ L', AddN L p L' → Nx (upd H4 D (SN P w D L')) else Nx H3)
section
open PpSet
variable {X : Cx}
theorem pe_sn {elt tg iter : Expr} {ifs : List Expr} {scope : Scope} {own : List (Str × Nat)} {pos : Pos} {wi : TI} {g : TG} {tt : TT} {te : TE} (hc : X.calm = true) (hu : X.A.units + 64 < cLine) (hN : X.N.Nodup) (hi : PI X tg iter wi) (ok : BlkOk X.N X.env.scope scope own)
    (hg : ∀ (s : Shared) (H : Hp) (C : Addr) (cl : List (Str × Addr)) (fp : List Addr), PG (X.blk s H scope (compEnvC scope cl C X.env) fp) tg g) (ht : ∀ (s : Shared) (H : Hp) (C : Addr) (cl : List (Str × Addr)) (fp : List Addr), PTs (X.blk s H scope (compEnvC scope cl C X.env) fp) ifs tt)
    (he : ∀ (s : Shared) (H : Hp) (C : Addr) (cl : List (Str × Addr)) (fp : List Addr), PE (X.blk s H scope (compEnvC scope cl C X.env) fp) elt te) (hs : ∀ x, foldedSetIterable iter X.env x = pure x := by intro _; rfl) :
    PE X (.SetComp elt [⟨tg, iter, ifs, 0⟩] scope pos) (tSn X.prog X.w wi g tt te (own.map (·.2))) := by
  refine ⟨fun pins s σ H Q I h => ?_⟩
  rw [eval_SetComp]
  have hfree : ∀ y ∈ scope.names, y.2 = .free → ∃ c, X.env.cells.lookup y.1 = some c := fun y hy e => by
    rcases ok.free y hy e with k | k
    · exact I.ok.has _ (.inl k)
    · exact I.ok.has _ (.inr k)
  refine wpAny_comprehension_free (use := none) rfl hs (closure_ok hfree) ok.kind (fun y hy e => by rw [ok.uniq y hy, e]) (thn (hi.run pins s σ H _ I h) fun xv s1 hx => thn hx fun itv s2 h2 => ?_)
  obtain ⟨it, fp, tn, J, H2, rfl, I2, T, st2, f2, q⟩ := h2
  refine newSet_ok (newEnv_comp ?_)
  obtain ⟨D, hD⟩ : ∃ D, D = s2.heap.objs.size := ⟨_, rfl⟩
  rw [← hD]
  obtain ⟨W, ⟨m0, w0⟩, turn⟩ := q D (I2.hok.fresh (Nat.le_of_eq hD.symm))
  have grown : ∀ b o, s2.heap.get? b = some o → (s2.heap.push { cls := .type "set", dict := none, data := .set #[] 0 (.fresh 0 0 (!X.w.params.followText "set-order")) }).get? b = some o := fun b o e => Heap.get?_push_of_some _ e
  have I3 : Inv X pins σ (upd H2 D (SN X.prog X.w D [])) { s2 with heap := s2.heap.push { cls := .type "set", dict := none, data := .set #[] 0 (.fresh 0 0 (!X.w.params.followText "set-order")) } } :=
    I2.laid (t' := s2.toks) grown (Nat.le_of_eq hD.symm) (sn_new (freshK (knd := numKind X.prog X.w) (by rw [hD]; exact Heap.get?_push_size _ rfl)).k0)
  have f3 : ∀ b ∈ fp, FpOk X pins (upd H2 D (SN X.prog X.w D [])) b ∧ b < (s2.heap.push { cls := .type "set", dict := none, data := .set #[] 0 (.fresh 0 0 (!X.w.params.followText "set-order")) }).objs.size := fun b hb => by
    obtain ⟨o, e, _⟩ := T.obj _ _ st2 b hb
    have hlt := Heap.lt_size e
    refine ⟨⟨?_, (f2 b hb).2⟩, by rw [Heap.size_push]; exact Nat.lt_succ_of_lt hlt⟩
    rw [upd_ne (by rw [hD]; exact Nat.ne_of_lt hlt)]
    exact (f2 b hb).1
  have st3 := T.keep _ _ _ st2 fun b _ o e => grown b o e
  obtain ⟨s3, hs3⟩ : ∃ s3 : Shared, s3 = { s2 with heap := s2.heap.push { cls := .type "set", dict := none, data := .set #[] 0 (.fresh 0 0 (!X.w.params.followText "set-order")) } } := ⟨_, rfl⟩
  obtain ⟨H3, hH3⟩ : ∃ H3 : Hp, H3 = upd H2 D (SN X.prog X.w D []) := ⟨_, rfl⟩
  rw [← hH3] at I3 w0
  rw [← hs3] at I3
  have st3' : tn 0 s3.heap := by rw [hs3]; exact st3
  have f3' : ∀ b ∈ fp, FpOk X pins H3 b ∧ b < s3.heap.objs.size := fun b hb => by rw [hH3, hs3]; exact f3 b hb
  have I4 := block_start I3 ok hN f3'
  show codeAny _ _ (.compStart (.SetComp elt [⟨tg, iter, ifs, 0⟩] scope pos) 0 (.ref it) (.ref D) (compEnvC scope (cellsFrom ((s2.heap.push { cls := .type "set", dict := none, data := .set #[] 0 (.fresh 0 0 (!X.w.params.followText "set-order")) }).objs.size + 1) scope.names (cloFrom X.env.cells scope.names [])) (s2.heap.push { cls := .type "set", dict := none, data := .set #[] 0 (.fresh 0 0 (!X.w.params.followText "set-order")) }).objs.size X.env))
    (compPost (model X.prog X.w) X.A X.xe none (EP X pins σ Q) (.ref D) (s2.heap.push { cls := .type "set", dict := none, data := .set #[] 0 (.fresh 0 0 (!X.w.params.followText "set-order")) }).objs.size)
    { s2 with heap := pushCells ((s2.heap.push { cls := .type "set", dict := none, data := .set #[] 0 (.fresh 0 0 (!X.w.params.followText "set-order")) }).push { cls := .type "dict", data := .dict #[] }) scope.names }
  have hh3 : s2.heap.push { cls := .type "set", dict := none, data := .set #[] 0 (.fresh 0 0 (!X.w.params.followText "set-order")) } = s3.heap := by rw [hs3]
  have hst : ({ s2 with heap := pushCells ((s2.heap.push { cls := .type "set", dict := none, data := .set #[] 0 (.fresh 0 0 (!X.w.params.followText "set-order")) }).push { cls := .type "dict", data := .dict #[] }) scope.names } : Shared) = { s3 with heap := pushCells (s3.heap.push { cls := .type "dict", data := .dict #[] }) scope.names } := by rw [hs3]
  rw [hst, hh3]
  have pg := hg s3 H3 s3.heap.objs.size (cellsFrom (s3.heap.objs.size + 1) scope.names (cloFrom X.env.cells scope.names [])) fp
  have pt := ht s3 H3 s3.heap.objs.size (cellsFrom (s3.heap.objs.size + 1) scope.names (cloFrom X.env.cells scope.names [])) fp
  have pe := he s3 H3 s3.heap.objs.size (cellsFrom (s3.heap.objs.size + 1) scope.names (cloFrom X.env.cells scope.names [])) fp
  generalize hce : compEnvC scope (cellsFrom (s3.heap.objs.size + 1) scope.names (cloFrom X.env.cells scope.names [])) s3.heap.objs.size X.env = ce at I4 pg pt pe ⊢
  have cL : ce.locals = s3.heap.objs.size := by subst hce; rfl
  generalize hs4 : ({ s3 with heap := pushCells (s3.heap.push { cls := .type "dict", data := .dict #[] }) scope.names } : Shared) = s4 at I4 ⊢
  have st4 : tn 0 s4.heap := T.keep _ _ _ st3' fun b _ o e => by rw [← hs4]; exact pushCells_keeps _ _ _ _ (Heap.get?_push_of_some _ e)
  have nfp : ∀ b ∈ fp, H3 b = none := fun b hb => (f3' b hb).1.1
  have stat : ∀ {σ' : L2.St} {H' : Hp} {s' : Shared}, Inv (X.blk s3 H3 scope ce fp) [] σ' H' s' → (∀ b ∈ fp, H' b = none) → ∀ b ∈ fp, FpOk (X.blk s3 H3 scope ce fp) [] H' b := fun {σ' H' s'} I' hn b hb =>
    ⟨hn b hb, (I'.ok.exf b hb).1, I'.ok.exfs b hb, .inl hb, fun x c e => (I'.ok.exf b hb).2 x c e, fun p hp => absurd (show p ∈ ([] : List (Addr × Obj)) ++ [] from hp) (by simp)⟩
  have loop : codeAny (model X.prog X.w) X.A (.compLoop (.SetComp elt [⟨tg, iter, ifs, 0⟩] scope pos) 0 (.ref it) (.ref D) ce) (compPost (model X.prog X.w) X.A X.xe none (EP X pins σ Q) (.ref D) s3.heap.objs.size) s4 := by
    refine compLoopS_any (fun n s' => ∃ i H', Inv (X.blk s3 H3 scope ce fp) [] (wipe σ (own.map (·.2))) H' s' ∧ tn i s'.heap ∧ (∀ b ∈ fp, H' b = none) ∧ W i n H') ?_ m0 ⟨0, H3, I4, st4, nfp, w0⟩
    rintro n s5 ⟨i, H5, I5, st5, n5, w5⟩
    rcases turn i n H5 w5 with ⟨stop, qq⟩ | ⟨go, Nx, hNx, step⟩
    · refine thnF (T.done (X.blk s3 H3 scope ce fp) rfl rfl rfl hc i [] s5 _ H5 (fun _ _ => False) I5 (stat I5 n5) st5 stop) fun r s6 ⟨hr, I6⟩ => ?_
      subst hr
      have I7 : Inv X pins σ H5 s6 := I3.call' (ch := fp) I6.os I6.base I6.hok I6.bare fun b hb => ⟨(f3' b hb).1.2.2.2.1, (f3' b hb).1.2.1, (f3' b hb).1.2.2.2.2.1, (f3' b hb).1.2.2.2.2.2⟩
      have nC : H5 s3.heap.objs.size = none := by
        have z : H5 ce.locals = none := I6.free
        rwa [cL] at z
      obtain ⟨m, hn, _⟩ := I6.loc
      have hn' : s6.heap.Ns ce.locals m := hn
      rw [cL] at hn'
      obtain ⟨z0, z1, _, z3, z4, z5⟩ := I3.fpOk (Nat.le_refl _) nC
      exact ⟨m, hn', fun h'' sb => ⟨.ref D, H5, I7.turned (t' := s6.toks) (fun b o hb e => (sb.2 b hb).trans e) z0 z1 z3 z4 z5, rfl, qq⟩⟩
    · refine thnF (T.item (X.blk s3 H3 scope ce fp) rfl rfl rfl hc i [] s5 _ H5 (fun _ _ => False) I5 (stat I5 n5) st5 go) fun r s6 ⟨u, hr, h6⟩ => ?_
      subst hr
      refine thnF h6 fun _ s7 ⟨x, H7, I7, r7, y7, st7, n7⟩ => ?_
      refine thnF (pg.run _ s7 _ H7 x u _ (I7.pinned (stat I7 n7) (T.obj _ _ st7)) r7 (step x H7 y7)) fun _ s8 ⟨σ8, H8, I8, hw8, q8⟩ => ?_
      refine thnF (pt.run _ s8 σ8 H8 _ I8 q8) fun b s9 ⟨H9, I9, q9⟩ => ?_
      have fin : ∀ {s' : Shared} {H' : Hp}, Inv (X.blk s3 H3 scope ce fp) ([] ++ pinsAt fp s7.heap) σ8 H' s' → Nx H' → ∃ m, m < n ∧ ∃ i H', Inv (X.blk s3 H3 scope ce fp) [] (wipe σ (own.map (·.2))) H' s' ∧ tn i s'.heap ∧ (∀ b ∈ fp, H' b = none) ∧ W i m H' := fun {s' H'} I' nx => by
        obtain ⟨m', hm, w'⟩ := hNx H' nx
        have pin' : ∀ b ∈ fp, ∀ o, s7.heap.get? b = some o → s'.heap.get? b = some o ∧ H' b = none := fun b hb o e =>
          let z := I'.pin (b, o) (List.mem_append_right _ (List.mem_append_right _ (mem_pinsAt hb e)))
          ⟨z.1, z.2.1⟩
        have hl : (wipe σ (own.map (·.2))).length = σ8.length := by rw [← hw8, wipe_length]
        refine ⟨m', hm, i + 1, H', (I'.unpinned (pins := [])).weak hl (fun j v e => ?_), T.keep _ _ _ st7 fun b hb o e => (pin' b hb o e).1, fun b hb => ?_, w'⟩
        · rw [← hw8] at e
          exact (wipe_some e).1
        · obtain ⟨o, e, _⟩ := T.obj _ _ st7 b hb
          exact (pin' b hb o e).2
      cases b with
      | false =>
        simp only [Bool.false_eq_true, if_false] at q9 ⊢
        exact fin I9 q9
      | true =>
        simp only [if_true] at q9 ⊢
        refine thnF (pe.run _ s9 σ8 H9 _ I9 q9) fun z s10 ⟨yv, H10, I10, r10, L, p, ey, hDL, hL, hp, few, nx⟩ => ?_
        subst ey
        obtain rfl : z = Value.ref p.2 := r10
        exact addN_ok (X := X.blk s3 H3 scope ce fp) hu I10 hDL hL hp few fun L' s11 hA I11 => fin I11 (nx L' hA)
  exact codeAny_compStart_set loop (T.self X.A 0 _ _ _ st4 loop)
end

/-! ### sorted of such a set -/
/-- sorted(s): the elements by the order of their ints, all of one shape -/
def rSortSN (P : Program) (w : World) (c : Option Nat) (sh : List (Option Nat)) : List V → Hp → VK → Prop := fun vs H Q => ∃ (a : Addr) (L : List (NestedKey × Addr)) (k : V → List Itm), vs = [V.ref a] ∧ H a = some (SN P w a L) ∧ (∀ e ∈ L, NK H e.1 (.ref e.2) ∧ e.1 = nkK (k (.ref e.2)) ∧ (k (.ref e.2)).map shp = c :: sh) ∧
  ∀ ys p, SrtO.Srtd (ltK k) ys → ys.Perm (L.map fun e => V.ref e.2) → (L.map (·.1)).Nodup → H p = none → Q (.ref p) (upd H p (.lst ys))
section
variable {X : Cx} {c : Option Nat} {sh : List (Option Nat)} {P : Program} {w : World}
theorem cr_sortSN (hc : X.calm = true) (hu : X.A.units + 64 < cLine) (hP : X.prog = P := by rfl) (hw : X.w = w := by rfl) : CallR X (.builtin "sorted") (rSortSN P w c sh) := by
  subst hP hw
  intro pins s σ H vs us Q I r h
  obtain ⟨a, L, k, rfl, ha, hx, q⟩ := h
  obtain ⟨u, rfl, ru⟩ := vals1 r
  obtain rfl : u = Value.ref a := ru
  obtain ⟨es, ep, t, ⟨o, ho, hex, hd⟩, rows, T, nd, _, led, room, few⟩ := (sn_get I ha).ex
  have hu2 : X.A.in1.in1.units + 2 < cLine := by
    have e : X.A.in1.in1.units = X.A.units + 1 + 1 := rfl
    omega
  have hsz := rowsK_size rows
  refine Calls.call_function_entry kind_sorted plain_sorted entry_sorted (args_sorted1 _) ?_
  unfold Builtin.«sorted»
  refine wpAny_bind (m := checkCount "sorted" 1 1 _) (wpAny_pure ?_)
  refine wpAny_bind (collect_set (A := X.A.in1) (I.ok.hd hc) ⟨o, ho, hex.1, hd⟩ (fitsK T rows (by omega)) (by unfold scanBound; omega) T.ris led fun s1 acc hk hz g1 o1 pm => ?_)
  have hes : es.toList.map (·.2) = L.map fun e => Value.ref e.2 := by
    rw [rows]
    unfold rowsK
    rw [List.map_map]
    rfl
  rw [hes] at pm
  have hal : acc.length = L.length := by rw [pm.length_eq, List.length_map]
  have I1 : Inv X pins σ H s1 := I.call' (ch := []) o1 (Un.kept hk) (I.hok.kept hk) (by rw [g1]; exact I.bare) (fun _ z => nomatch z)
  have mem : ∀ v ∈ acc, ∃ e ∈ L, Value.ref e.2 = v := fun v hv => List.mem_map.mp (pm.mem_iff.mp hv)
  have hp : ∀ v ∈ acc, K2Is s1.heap (k (backV v)) v ∧ (k (backV v)).map shp = c :: sh := fun v hv => by
    obtain ⟨e, he, rfl⟩ := mem v hv
    obtain ⟨g1, g2, g3⟩ := hx e he
    rw [g2] at g1
    exact ⟨NK.k2 I1.hok g1, g3⟩
  refine wpAny_bind (wpAny_newList ?_ (by rw [hal, sizeLine_eq]; omega))
  have hoL : (s1.heap.push (seqObj "list" acc.toArray 0)).get? s1.heap.objs.size = some (seqObj "list" acc.toArray 0) := Heap.get?_push_size _ rfl
  refine wpAny_bind (wpAny_holding (wpAny_call_entry slot_list_sort ⟨_, hoL, rfl⟩ entry_list_sort
    (SrtO.list_sort_ord (s := { s1 with heap := s1.heap.push (seqObj "list" acc.toArray 0) }) (ltv := fun v u => lexI (flK (k (backV v))) (flK (k (backV u)))) (swo_lexI fun v => flK (k (backV v))) hoL (by rw [hal, sizeLine_eq]; omega) (fun g0 => ?_) fun out g1' g2 => ⟨_, rfl, ?_⟩) (args_list_sort _)))
  · refine k2_sortable (s := { s1 with heap := s1.heap.push (seqObj "list" acc.toArray 0) }) hu2 (by omega) (fun v hm => ⟨(hp v hm).1.keeps fun b o e _ => Heap.get?_push_of_some _ e, (hp v hm).2⟩) fun o e => ?_
    have e' : some o = some (seqObj "list" acc.toArray 0) := e.symm.trans hoL
    cases e'
    intro cc
    exact absurd (Value.type.inj cc) (by decide)
  · obtain ⟨e', he'⟩ := sortedHeap_at (vs := acc) (out := out.toArray) hoL
    have g3 : ∀ u ∈ out, ∃ a, u = Value.ref a := fun u hu => by
      obtain ⟨e, _, rfl⟩ := mem u (g2.perm.mem_iff.mp hu)
      exact ⟨_, rfl⟩
    have hb : (out.map backV).Perm (L.map fun e => V.ref e.2) := by
      have hm := (g2.perm.trans pm).map backV
      rw [List.map_map] at hm
      exact hm
    refine wpAny_pure ⟨_, rfl, .ref s1.heap.objs.size, upd H s1.heap.objs.size (.lst (out.map backV)), I1.laid (t' := s1.toks) (fun b u e => ?_) (Nat.le_refl _)
      (show ObjOk X.prog X.w _ _ _ (.lst (out.map backV)) from ⟨?_, out, e', vals_back g3, he'⟩), rfl, q _ _ (SrtO.srtd_map g1') hb nd (I1.hok.fresh (Nat.le_refl _))⟩
    · have hlt : b < s1.heap.objs.size := Heap.lt_size e
      rw [sortedHeap_old (Nat.ne_of_lt hlt) (by rw [size_push']; exact Nat.lt_succ_of_lt hlt)]
      exact Heap.get?_push_of_some _ e
    · rw [hb.length_eq, List.length_map, sizeLine_eq]
      omega
end
end Hb

set_option Elab.async false
set_option linter.all false
set_option maxRecDepth 100000
set_option maxHeartbeats 4000000
/-! More steps: zip over tuples, a star in a display, set comprehensions; a comprehension's turns for any body. -/
namespace Hb
open PySem L2 PyProof.Rows
theorem Hs.keep {B H H' : Hp} {L : List (Addr × HO)} (hs : Hs B L H) (e : Same H H') : Hs B L H' := ⟨hs.same.trans e, hs.nd, hs.out, fun x hx => e _ _ (hs.at_ x hx)⟩

/-! ### rules that name K -/
section
variable {X : Cx} {K : PySem.W.Frag}
theorem pi_zipK {e e2 : Expr} {ta : TA} {p pos tpos : Pos} {elts : List Expr} {kk : Nat} (hg : Gl X "zip") (hm : X.mg "zip" = none) (ha : PA X [e, e2] ta) (hK : X.K = K := by rfl)
    (hs : starEach [e, e2] X.env = (false, eval e X.env) :: starEach [e2] X.env := by rfl) (hpl : (backTo pos (starEach [e2] X.env)).any (·.1) = false := by rfl) :
    PI X (.Tuple elts kk tpos) (.Call (.Name "zip" p) [e, e2] [] pos) (RZ.iZipA K ta) := by
  subst hK
  exact RZ.pi_zipA hg hm ha hs hpl
theorem pa_starK {e : Expr} {es : List Expr} {te : TE} {t : TA} {p : Pos} (he : PE X e te) (hr : PA X es t) (hK : X.K = K := by rfl) (hs : starEach (.Starred e p :: es) X.env = (true, eval e X.env) :: starEach es X.env := by rfl) : PA X (.Starred e p :: es) (StX.tStar K te t) := by
  subst hK
  exact StX.pa_star he hr hs
theorem pe_snK {P : Program} {w : World} {elt tg iter : Expr} {ifs : List Expr} {scope : Scope} {own : List (Str × Nat)} {pos : Pos} {wi : TI} {g : TG} {tt : TT} {te : TE} (hc : X.calm = true) (hu : X.A.units + 64 < cLine) (hN : X.N.Nodup) (hi : PI X tg iter wi) (ok : BlkOk X.N X.env.scope scope own)
    (hg : ∀ (s : Shared) (H : Hp) (C : Addr) (cl : List (Str × Addr)) (fp : List Addr), PG (X.blk s H scope (compEnvC scope cl C X.env) fp) tg g) (ht : ∀ (s : Shared) (H : Hp) (C : Addr) (cl : List (Str × Addr)) (fp : List Addr), PTs (X.blk s H scope (compEnvC scope cl C X.env) fp) ifs tt)
    (he : ∀ (s : Shared) (H : Hp) (C : Addr) (cl : List (Str × Addr)) (fp : List Addr), PE (X.blk s H scope (compEnvC scope cl C X.env) fp) elt te) (hP : X.prog = P := by rfl) (hw : X.w = w := by rfl) (hs : ∀ x, foldedSetIterable iter X.env x = pure x := by intro _; rfl) :
    PE X (.SetComp elt [⟨tg, iter, ifs, 0⟩] scope pos) (tSn P w wi g tt te (own.map (·.2))) := by
  subst hP hw
  exact pe_sn hc hu hN hi ok hg ht he hs
theorem cr_sumK (hc : X.calm = true) (hK : X.K = K := by rfl) : CallR X (.builtin "sum") (rSum K) := by
  subst hK
  exact cr_sum hc
theorem cr_sortedIK (hK : X.K = K := by rfl) : CallR X (.builtin "sorted") (rSortedI K) := by
  subst hK
  exact cr_sortedI
end

/-! ### the turns of a comprehension, whatever is done in each -/
section
variable {K : PySem.W.Frag} {a b : Addr} {xs ys : List V} {H0 : Hp} {Qd : Hp → Prop} {Body : (Hp → Prop) → V → Hp → Prop}
/-- what tLc, tSn, tDc ask of an iterator J -/
def Turns (J : It) (Body : (Hp → Prop) → V → Hp → Prop) (H0 : Hp) (Qd : Hp → Prop) : Prop := ∃ W : Nat → Nat → Hp → Prop, (∃ m, W 0 m H0) ∧ ∀ i m H, W i m H →
  (J.stop i H ∧ Qd H) ∨ (J.go i H ∧ ∃ Nx : Hp → Prop, (∀ H', Nx H' → ∃ m', m' < m ∧ W (i + 1) m' H') ∧ ∀ x H', J.yld i H x H' → Body Nx x H')
theorem turns_list (Pv : Nat → Hp → Prop) (h0 : Pv 0 H0) (hl : ∀ i H, i ≤ xs.length → Pv i H → SqL K H a xs) (hs : ∀ i x H, xs[i]? = some x → Pv i H → Body (Pv (i + 1)) x H) (hd : ∀ H, Pv xs.length H → Qd H) : Turns (Itl K a) Body H0 Qd := by
  refine ⟨fun i m H => m = xs.length - i ∧ i ≤ xs.length ∧ Pv i H, ⟨xs.length, by simp, Nat.zero_le _, h0⟩, ?_⟩
  rintro i m H ⟨rfl, hi, p⟩
  have q := hl i H hi p
  by_cases hlt : i < xs.length
  · refine .inr ⟨⟨xs, xs[i], q, by simp [hlt]⟩, Pv (i + 1), fun H' p' => ⟨xs.length - (i + 1), by omega, rfl, hlt, p'⟩, fun x H' y => ?_⟩
    obtain ⟨e, y⟩ := y
    subst e
    exact hs i x _ (y xs q) p
  · have e : i = xs.length := by omega
    subst e
    exact .inl ⟨⟨xs, q, Nat.le_refl _⟩, hd H p⟩
theorem turns_zip (hl : xs.length = ys.length) (Pv : Nat → Hp → Prop) (h0 : Pv 0 H0) (hq : ∀ i H, i ≤ xs.length → Pv i H → H a = some (.tup xs) ∧ H b = some (.tup ys))
    (hs : ∀ i x y T H, xs[i]? = some x → ys[i]? = some y → Pv i H → H T = none → Body (Pv (i + 1)) (.ref T) (upd H T (.tup [x, y]))) (hd : ∀ H, Pv xs.length H → Qd H) : Turns (RZ.ItzT K a b) Body H0 Qd := by
  refine ⟨fun i m H => m = xs.length - i ∧ i ≤ xs.length ∧ Pv i H, ⟨xs.length, by simp, Nat.zero_le _, h0⟩, ?_⟩
  rintro i m H ⟨rfl, hi, p⟩
  obtain ⟨q1, q2⟩ := hq i H hi p
  have qx : SqT K H a xs := SqT.of q1
  have qy : SqT K H b ys := SqT.of q2
  by_cases hlt : i < xs.length
  · have hx : xs[i]? = some xs[i] := List.getElem?_eq_getElem hlt
    have hlt2 : i < ys.length := by omega
    have hy : ys[i]? = some ys[i] := List.getElem?_eq_getElem hlt2
    refine .inr ⟨⟨xs, ys, _, _, qx, qy, hx, hy⟩, Pv (i + 1), fun H' p' => ⟨xs.length - (i + 1), by omega, rfl, hlt, p'⟩, fun v H' y => ?_⟩
    obtain ⟨T, x', y', rfl, hT, rfl, f1, f2⟩ := y
    exact hs i x' y' T H (f1 xs qx) (f2 ys qy) p hT
  · have e : i = xs.length := by omega
    subst e
    exact .inl ⟨⟨xs, ys, qx, qy, Or.inl (Nat.le_refl _)⟩, hd H p⟩
end
section
variable {H0 : Hp} {Qd : Hp → Prop} {Body : (Hp → Prop) → V → Hp → Prop} {d : Addr} {o : Obj} {kvs : List (Key × V)}
theorem turns_vals (Pv : Nat → Hp → Prop) (h0 : Pv 0 H0) (hl : ∀ i H, i ≤ kvs.length → Pv i H → H d = some (.frz o (.dK kvs))) (hs : ∀ i k x H, kvs[i]? = some (k, x) → Pv i H → Body (Pv (i + 1)) x H) (hd : ∀ H, Pv kvs.length H → Qd H) : Turns (Itd d o kvs) Body H0 Qd := by
  refine ⟨fun i m H => m = kvs.length - i ∧ i ≤ kvs.length ∧ Pv i H, ⟨kvs.length, by simp, Nat.zero_le _, h0⟩, ?_⟩
  rintro i m H ⟨rfl, hi, p⟩
  have q := hl i H hi p
  by_cases hlt : i < kvs.length
  · refine .inr ⟨⟨q, hlt⟩, Pv (i + 1), fun H' p' => ⟨kvs.length - (i + 1), by omega, rfl, hlt, p'⟩, fun x H' y => ?_⟩
    obtain ⟨rfl, k, hk⟩ := y
    exact hs i k x _ hk p
  · have e : i = kvs.length := by omega
    subst e
    exact .inl ⟨⟨q, Nat.le_refl _⟩, hd H p⟩
theorem turns_keys (Pv : Nat → Hp → Prop) (h0 : Pv 0 H0) (hl : ∀ i H, i ≤ kvs.length → Pv i H → H d = some (.frz o (.dK kvs))) (hs : ∀ i k x H, kvs[i]? = some (k, x) → Pv i H → Body (Pv (i + 1)) (kV k) H) (hd : ∀ H, Pv kvs.length H → Qd H) : Turns (Itk d o kvs) Body H0 Qd := by
  refine ⟨fun i m H => m = kvs.length - i ∧ i ≤ kvs.length ∧ Pv i H, ⟨kvs.length, by simp, Nat.zero_le _, h0⟩, ?_⟩
  rintro i m H ⟨rfl, hi, p⟩
  have q := hl i H hi p
  by_cases hlt : i < kvs.length
  · refine .inr ⟨⟨q, hlt⟩, Pv (i + 1), fun H' p' => ⟨kvs.length - (i + 1), by omega, rfl, hlt, p'⟩, fun x H' y => ?_⟩
    obtain ⟨rfl, k, v, hk, rfl⟩ := y
    exact hs i k v _ hk p
  · have e : i = kvs.length := by omega
    subst e
    exact .inl ⟨⟨q, Nat.le_refl _⟩, hd H p⟩
end
section
variable {K : PySem.W.Frag} {σ : L2.St} {H : Hp} {Q : VK} {P : Program} {w : World}
/-! ### zip of two tuples -/
def ZipR (K : PySem.W.Frag) (vs : List V) (H1 : Hp) (R : It → Hp → Prop) : Prop := ∃ a b xs ys, vs = [.ref a, .ref b] ∧ ((SqL K H1 a xs ∧ SqL K H1 b ys ∧ R (Itz K a b) H1) ∨ (SqT K H1 a xs ∧ SqT K H1 b ys ∧ R (RZ.ItzT K a b) H1))
def ForR (g : TG) (tb : TS) (D : Ends) (σ : L2.St) (J : It) (H1 : Hp) : Prop := ∃ W : Nat → Nat → L2.St → Hp → Prop, (∃ m, W 0 m σ H1) ∧ ∀ i m σ H, W i m σ H →
  (J.stop i H ∧ D.nx σ H) ∨ (J.go i H ∧ ∃ N : L2.St → Hp → Prop, (∀ σ' H', N σ' H' → ∃ m', m' < m ∧ W (i + 1) m' σ' H') ∧ ∀ x H', J.yld i H x H' → g x σ H' fun σ2 H2 => tb { D with nx := N, ct := N, bk := D.nx } σ2 H2)
theorem w_zipF {ta : TA} {g : TG} {tb : TS} {D : Ends} (q : ta σ H fun vs H1 => ZipR K vs H1 (ForR g tb D σ)) : tFor (RZ.iZipA K ta) g tb D σ H := q
theorem w_zipT {g : TG} {tb : TS} {D : Ends} {a b : Addr} {xs ys : List V} (ha : H a = some (.tup xs)) (hb : H b = some (.tup ys)) (hl : xs.length = ys.length) (Pv : Nat → L2.St → Hp → Prop) (h0 : Pv 0 σ H) (hq : ∀ i σ H, Pv i σ H → H a = some (.tup xs) ∧ H b = some (.tup ys))
    (hs : ∀ (i : Nat) (x y : V) (T : Addr) (σ : L2.St) (H : Hp), xs[i]? = some x → ys[i]? = some y → Pv i σ H → H T = none → g (.ref T) σ (upd H T (.tup [x, y])) fun σ2 H2 => tb { D with nx := Pv (i + 1), ct := Pv (i + 1), bk := D.nx } σ2 H2) (hd : ∀ σ H, Pv xs.length σ H → D.nx σ H) :
    ZipR K [.ref a, .ref b] H (ForR g tb D σ) := ⟨a, b, xs, ys, rfl, .inr ⟨SqT.of ha, SqT.of hb, RZ.for_zipT hl Pv h0 (fun i σ H p => ⟨SqT.of (hq i σ H p).1, SqT.of (hq i σ H p).2⟩) hs hd⟩⟩
/-! ### comprehensions by their turns -/
def LcBody (g : TG) (tt : TT) (te : TE) (vs : List Nat) (σ : L2.St) (D : Addr) (Nx : Hp → Prop) (x : V) (H' : Hp) : Prop := g x (wipe σ vs) H' fun σ2 H2 => wipe σ2 vs = wipe σ vs ∧ tt σ2 H2 fun b H3 =>
    if b = true then te σ2 H3 fun y H4 => ∃ acc, H4 D = some (.lst acc) ∧ acc.length < sizeLine ∧ Nx (upd H4 D (.lst (acc ++ [y]))) else Nx H3
def LcR (g : TG) (tt : TT) (te : TE) (vs : List Nat) (σ : L2.St) (Q : VK) (J : It) (H1 : Hp) : Prop := ∀ D, H1 D = none → Turns J (LcBody g tt te vs σ D) (upd H1 D (.lst [])) fun H => Q (.ref D) H
theorem w_lcZ {ta : TA} {g : TG} {tt : TT} {te : TE} {vs : List Nat} (q : ta σ H fun us H1 => ZipR K us H1 (LcR g tt te vs σ Q)) : tLc (RZ.iZipA K ta) g tt te vs σ H Q := q
theorem w_lcZT {g : TG} {tt : TT} {te : TE} {vs : List Nat} {a b : Addr} {xs ys : List V} (ha : H a = some (.tup xs)) (hb : H b = some (.tup ys)) (hl : xs.length = ys.length) (Pv : Addr → Nat → Hp → Prop) (h0 : ∀ D, H D = none → Pv D 0 (upd H D (.lst [])))
    (hq : ∀ D i H, i ≤ xs.length → Pv D i H → H a = some (.tup xs) ∧ H b = some (.tup ys)) (hs : ∀ D i x y T H, xs[i]? = some x → ys[i]? = some y → Pv D i H → H T = none → LcBody g tt te vs σ D (Pv D (i + 1)) (.ref T) (upd H T (.tup [x, y]))) (hd : ∀ D H, Pv D xs.length H → Q (.ref D) H) :
    ZipR K [.ref a, .ref b] H (LcR g tt te vs σ Q) := ⟨a, b, xs, ys, rfl, .inr ⟨SqT.of ha, SqT.of hb, fun D hD => turns_zip hl (Pv D) (h0 D hD) (hq D) (hs D) (hd D)⟩⟩
def SnBody (P : Program) (w : World) (g : TG) (tt : TT) (te : TE) (vs : List Nat) (σ : L2.St) (D : Addr) (Nx : Hp → Prop) (x : V) (H' : Hp) : Prop := g x (wipe σ vs) H' fun σ2 H2 => wipe σ2 vs = wipe σ vs ∧ tt σ2 H2 fun b H3 =>
    if b = true then te σ2 H3 fun y H4 => ∃ (L : List (NestedKey × Addr)) (p : NestedKey × Addr), y = .ref p.2 ∧ H4 D = some (SN P w D L) ∧ (∀ e ∈ L, ElN H4 e) ∧ ElN H4 p ∧ L.length + 1 < 64 ∧ ∀ L', AddN L p L' → Nx (upd H4 D (SN P w D L')) else Nx H3
def SnR (P : Program) (w : World) (g : TG) (tt : TT) (te : TE) (vs : List Nat) (σ : L2.St) (Q : VK) (J : It) (H1 : Hp) : Prop := ∀ D, H1 D = none → Turns J (SnBody P w g tt te vs σ D) (upd H1 D (SN P w D [])) fun H => Q (.ref D) H
def ListR (K : PySem.W.Frag) (x : V) (H1 : Hp) (R : It → Hp → Prop) : Prop := ∃ a, x = .ref a ∧ (∃ xs, SqL K H1 a xs) ∧ R (Itl K a) H1
theorem w_snL {tl : TE} {g : TG} {tt : TT} {te : TE} {vs : List Nat} (q : tl σ H fun x H1 => ListR K x H1 (SnR P w g tt te vs σ Q)) : tSn P w (iList K tl) g tt te vs σ H Q := q
theorem w_listR {a : Addr} {xs : List V} {R : It → Hp → Prop} (h : SqL K H a xs) (q : R (Itl K a) H) : ListR K (.ref a) H R := ⟨a, rfl, ⟨xs, h⟩, q⟩
theorem w_star {te : TE} {t : TA} {Q : List V → Hp → Prop} (q : te σ H fun x H1 => ∃ p xs, x = V.ref p ∧ (SqT K H1 p xs ∨ SqL K H1 p xs) ∧ t σ H1 fun ys H2 => Q (xs ++ ys) H2) : StX.tStar K te t σ H Q := q
/-! ### dicts: values, keys, locked; get, pop, setdefault with a default -/
def ValR (x : V) (H1 : Hp) (R : It → Hp → Prop) : Prop := ∃ d o kvs, x = .ref d ∧ H1 d = some (.frz o (.dK kvs)) ∧ R (Itd d o kvs) H1
theorem w_lcV {td : TE} {g : TG} {tt : TT} {te : TE} {vs : List Nat} (q : td σ H fun x H1 => ValR x H1 (LcR g tt te vs σ Q)) : tLc (iVals td) g tt te vs σ H Q := q
theorem w_valR {d : Addr} {o : Obj} {kvs : List (Key × V)} {R : It → Hp → Prop} (h : H d = some (.frz o (.dK kvs))) (q : R (Itd d o kvs) H) : ValR (.ref d) H R := ⟨d, o, kvs, rfl, h, q⟩
def KeyR (x : V) (H1 : Hp) (R : It → Hp → Prop) : Prop := ∃ d o, x = .ref d ∧ ((∃ kvs, H1 d = some (.frz o (.dK kvs)) ∧ R (Itk d o kvs) H1) ∨ ∃ kvs, H1 d = some (.frz o (.dT kvs)) ∧ R (Itkt d o kvs) H1)
theorem w_lcK {td : TE} {g : TG} {tt : TT} {te : TE} {vs : List Nat} (q : td σ H fun x H1 => KeyR x H1 (LcR g tt te vs σ Q)) : tLc (iKeys td) g tt te vs σ H Q := q
theorem w_keyR {d : Addr} {o : Obj} {kvs : List (Key × V)} {R : It → Hp → Prop} (h : H d = some (.frz o (.dK kvs))) (q : R (Itk d o kvs) H) : KeyR (.ref d) H R := ⟨d, o, rfl, .inl ⟨kvs, h, q⟩⟩
def DcBody (g : TG) (tt : TT) (tk tv : TE) (vs : List Nat) (σ : L2.St) (D : Addr) (Nx : Hp → Prop) (x : V) (H' : Hp) : Prop := g x (wipe σ vs) H' fun σ2 H2 => wipe σ2 vs = wipe σ vs ∧ tt σ2 H2 fun b H3 =>
    if b = true then tk σ2 H3 fun y H4 => tv σ2 H4 fun z H5 => ∃ kvs k, y = kV k ∧ H5 D = some (.dK kvs) ∧ kvs.length < sizeLine ∧ Nx (upd H5 D (.dK (putK kvs k z))) else Nx H3
def DcR (g : TG) (tt : TT) (tk tv : TE) (vs : List Nat) (σ : L2.St) (Q : VK) (J : It) (H1 : Hp) : Prop := ∀ D, H1 D = none → Turns J (DcBody g tt tk tv vs σ D) (upd H1 D (.dK [])) fun H => Q (.ref D) H
theorem w_dcK {td : TE} {g : TG} {tt : TT} {tk tv : TE} {vs : List Nat} (q : td σ H fun x H1 => KeyR x H1 (DcR g tt tk tv vs σ Q)) : tDc (iKeys td) g tt tk tv vs σ H Q := q
theorem w_lockE {B : Hp} {L : List (Addr × HO)} {L' : Obj → List (Addr × HO)} {d : Addr} {kvs : List (Key × V)} {t : TE} (hs : Hs B L H) (h : ∀ od, Put L d (.dK kvs) (.frz od (.dK kvs)) (L' od)) (q : ∀ od H', Hs B (L' od) H' → t σ H' fun v H2 => H2 d = some (.frz od (.dK kvs)) ∧ Q v (upd H2 d (.dK kvs))) : tLockE t σ H Q :=
  ⟨d, .dK kvs, hs.gets (h default), True.intro, fun od => q od _ (hs.puts (h od))⟩
def RDg2 (a : Addr) (y z : V) (H : Hp) (Q : VK) : Prop := ∃ o, DGet H a y o ∧ Q (o.getD z) H
theorem w_dget2 {td ty tx : TE} (q : td σ H fun x H1 => RPopA x H1 fun a => ty σ H1 fun y H2 => tx σ H2 fun z H3 => RDg2 a y z H3 Q) : tDGet2 td ty tx σ H Q := q
theorem w_dg2 {p : Addr} {kvs : List (Key × V)} {n : Int} {z : V} (h : H p = some (.dK kvs)) (q : Q ((valV kvs (Sum.inl n)).getD z) H) : RDg2 p (.int n) z H Q := ⟨_, DGet.k (k := Sum.inl n) h, q⟩
def RPop2 (a : Addr) (y z : V) (H : Hp) (Q : VK) : Prop := ∃ kvs k, H a = some (.dK kvs) ∧ y = kV k ∧ (∀ v, valV kvs k = some v → Q v (upd H a (.dK (dropK kvs k)))) ∧ (valV kvs k = none → Q z H)
theorem w_dpop2 {td ty tx : TE} (q : td σ H fun x H1 => RPopA x H1 fun a => ty σ H1 fun y H2 => tx σ H2 fun z H3 => RPop2 a y z H3 Q) : tDPop2 td ty tx σ H Q := q
theorem w_pop2 {B : Hp} {L L' : List (Addr × HO)} {p : Addr} {kvs : List (Key × V)} {n : Int} {z : V} (hs : Hs B L H) (h : Put L p (.dK kvs) (.dK (dropK kvs (Sum.inl n))) L') (q1 : ∀ v H', valV kvs (Sum.inl n) = some v → Hs B L' H' → Q v H') (q2 : valV kvs (Sum.inl n) = none → Q z H) : RPop2 p (.int n) z H Q :=
  ⟨kvs, Sum.inl n, hs.gets h, rfl, fun v e => q1 v _ e (hs.puts h), q2⟩
def RSetd (a : Addr) (y z : V) (H : Hp) (Q : VK) : Prop := ∃ (kvs : List (Key × V)) (k : Key), H a = some (.dK kvs) ∧ y = kV k ∧ kvs.length < sizeLine ∧ (∀ v, valV kvs k = some v → Q v H) ∧ (valV kvs k = none → Q z (upd H a (.dK (putK kvs k z))))
theorem w_dsetd {td ty tx : TE} (q : td σ H fun x H1 => RPopA x H1 fun a => ty σ H1 fun y H2 => tx σ H2 fun z H3 => RSetd a y z H3 Q) : tDSetd td ty tx σ H Q := q
/-! ### a range whose end is reckoned -/
def RngR (us : List V) (H1 : Hp) (R : It → Hp → Prop) : Prop := ∃ j : Int, us = [.int j] ∧ -(2 ^ 62) ≤ j ∧ j < 2 ^ 62 ∧ R (Itr 0 j.toNat) H1
theorem w_lcG {ta : TA} {g : TG} {tt : TT} {te : TE} {vs : List Nat} (q : ta σ H fun us H1 => RngR us H1 (LcR g tt te vs σ Q)) : tLc (iRng1 ta) g tt te vs σ H Q := q
theorem turns_range {H0 : Hp} {Qd : Hp → Prop} {Body : (Hp → Prop) → V → Hp → Prop} {n : Nat} (Pv : Nat → Hp → Prop) (h0 : Pv 0 H0) (hs : ∀ i H, i < n → Pv i H → Body (Pv (i + 1)) (.int (i : Int)) H) (hd : ∀ H, Pv n H → Qd H) : Turns (Itr 0 n) Body H0 Qd := by
  refine ⟨fun i m H => m = n - i ∧ i ≤ n ∧ Pv i H, ⟨n, by simp, Nat.zero_le _, h0⟩, ?_⟩
  rintro i m H ⟨rfl, hi, p⟩
  by_cases hlt : i < n
  · refine .inr ⟨hlt, Pv (i + 1), fun H' p' => ⟨n - (i + 1), by omega, rfl, hlt, p'⟩, fun x H' y => ?_⟩
    obtain ⟨rfl, rfl⟩ := y
    rw [show (0 : Int) + (i : Int) = (i : Int) from Int.zero_add _]
    exact hs i _ hlt p
  · have e : i = n := by omega
    subst e
    exact .inl ⟨Nat.le_refl _, hd H p⟩
theorem w_rngR {n : Int} {R : It → Hp → Prop} (h0 : 0 ≤ n) (h1 : n < 1000000) (q : R (Itr 0 n.toNat) H) : RngR [.int n] H R := ⟨n, rfl, by omega, by omega, q⟩
end
end Hb

set_option Elab.async false
set_option linter.all false
set_option maxRecDepth 100000
set_option maxHeartbeats 4000000
/-! repr of data, in a law's own body: there no display is under way, which the promise of a def does not tell; so the law's def is run where it is called. -/
namespace Hb
open PySem PySem.Spec L2 PyProof.Rows
/-- data whose text is short -/
structure Shows (d : PyData) : Prop where
  lay : d.canLay0 = true
  dep : d.depth ≤ 40
  sho : d.showable = true
  blk : d.bulk ≤ 2 ^ 20
  lvs : d.leavesShort 13 = true
def rReprD (K : PySem.W.Frag) : List V → Hp → VK → Prop := fun xs H Q => ∃ (p : Addr) (d : PyData), xs = [.ref p] ∧ Dp K H (.ref p) d ∧ Shows d ∧ Q (.str d.shown) H
theorem call_reprD {X : Cx} (hg : X.A.guards = some []) (hu : X.A.units + 64 < cLine) : CallR X (.builtin "repr") (rReprD X.K) := by
  rintro pins s σ H xs us Q I r ⟨p, d, rfl, hd, hs, q⟩
  rw [Vals.ref1 r]
  obtain ⟨as, rd⟩ := Dp.reads I d (.ref p) (.ref p) hd rfl
  have hdep := hs.dep
  refine repr_of_reads' rd hs.sho (PyData.noDict_hsm (PyData.hasDict_of_canLay d hs.lay)) hg (by omega) (fun _ _ e => e) (fun h' u tk hk => ?_) (PyData.shown_fits_bulk (B := 13) (by decide) (by decide) hs.lvs hs.blk)
  exact ⟨.str d.shown, H, I.kept (t' := tk) hk, ⟨_, rfl⟩, q⟩
theorem call_reprDK {X : Cx} {K : PySem.W.Frag} (hg : X.A.guards = some [] := by rfl) (hu : X.A.units + 64 < cLine := by assumption) (hK : X.K = K := by rfl) : CallR X (.builtin "repr") (rReprD K) := by
  subst hK
  exact call_reprD hg hu
theorem w_reprD {K : PySem.W.Frag} {H : Hp} {Q : VK} {p : Addr} {d : PyData} (h : Dp K H (.ref p) d) (hs : Shows d) (q : Q (.str d.shown) H) : rReprD K [.ref p] H Q := ⟨p, d, rfl, h, hs, q⟩

/-! ### a law's def, run where it is called -/
/-- the promise of the law's def at the call itself -/
def LawRun (P : Program) (w : World) (K : PySem.W.Frag) (mg : Str → Option Value) (base : Heap) (k : Nat)
    (f : Addr) (fd : FuncData) (ps : List Str) (sp : Sp) : Prop :=
  ∀ (s : Shared) (H : Hp) (args : Args) (us : List Value)
    (vs : List V) (Q : VK) (E : XK), Room k callerA →
    Env0 P w K mg base callerA [] s H → BindsTo s fd args (ps.zip us) →
    Vals vs us → sp vs H Q E →
    codeAny (model P w) callerA (.call (.ref f) args)
      (CR CX0 [] P w H s Q E) s
section
variable {P : Program} {w : World} {K : PySem.W.Frag} {mg : Str → Option Value} {base : Heap}
theorem law_run {x qual : Str} {st : Stmt} {f : Addr} {fd : FuncData} {N ps : List Str} {k : Nat} {sp : Sp}
    (F : Fun K x qual st f fd) (S : FnScope N ps (defScope st))
    (len : ∀ vs H Q E, sp vs H Q E → vs.length = ps.length)
    (hbody : ∀ (cdv : Value) (s : Shared) (H : Hp) (vs : List V) (Q : VK) (E : XK),
      Room k (callerA.deeper (envOfC qual (defScope st) s.heap.objs.size f cdv)) → sp vs H Q E →
      ∃ t, PSs (cxOf CX0 P w K mg base N qual (defScope st) f cdv callerA [] s H E).nox (defBody st) t ∧
        t { nx := fun _ H' => Q .non H', rt := Q } (start N vs) H) :
    LawRun P w K mg base (k + 1) f fd ps sp := by
  intro s H args us vs Q E hr en hb rv hsp
  obtain ⟨oc, od, kV, doc, pm, an, cdv, ct, osl, rfl, lk, hcd⟩ := F.ex
  have hlen := len vs H Q E hsp
  have hold : ∀ b o, base.get? b = some o → s.heap.get? b = some o := fun b o e => (en.bs b o e).1
  have kin : K.In s.heap := en.mod.kin.keeps hold
  have nolim : s.heap.NoLimit := en.mod.nolimit.keeps hold
  refine codeAny_call_function hr.depth (kin _ _ lk) rfl S.co S.gen rfl (PySem.W.codeRec_of kin hcd) (hb _ _ _ _ ?_)
  refine wpAny_newFunctionEnv_cells S.kind ?_ ?_
  · rintro ⟨n, v⟩ hy
    cases S.par n (List.of_mem_zip hy).1 with
    | inl q => exact Or.inl q
    | inr q => exact Or.inr ⟨q, PySem.W.cellsFrom_some _ _ _ (Or.inl q)⟩
  · intro env he s1 hx
    subst he
    obtain ⟨t, ht, hq⟩ := hbody cdv s H vs Q E (hr.deeper _) hsp
    have i0 := inv_start (CX := CX0) (E := E) S hr.hd en hlen rv hx
    refine ⟨nolim.keeps hx.toInCall.keep, codeAny_func ?_⟩
    refine wpAny_mono (ht.nox.run [] s1 (start N vs) H _ i0 hq) ?_ (fun _ _ q => q)
    intro fl s' hs
    cases fl with
    | ret u =>
      obtain ⟨v, σ', H', j, r1, q1⟩ := hs
      exact ⟨v, H', j.os, j.bare, j.base, j.hok, r1, q1⟩
    | next =>
      obtain ⟨σ', H', j, q1⟩ := hs
      exact ⟨.non, H', j.os, j.bare, j.base, j.hok, rfl, q1⟩
    | brk => exact (hs.choose_spec.choose_spec.2 : False).elim
    | cont => exact (hs.choose_spec.choose_spec.2 : False).elim
end

section
variable {P : Program} {w : World} {K : PySem.W.Frag} {mg mb : Str → Option Value} {k : Nat} {fa a : Addr} {fd : FuncData} {x : Str} {sp : Sp}
/-- what a law's call must show -/
def LawEnd (s₁ : Shared) (r : Result) (s' : Shared) : Prop :=
  r = .ok (.ret (.bool true)) ∧ OldK s₁.heap s'.heap ∧ s'.os = s₁.os ∧ AllBare s'.gens
/-- an abstract heap that tells at most the script, as the machine has it -/
structure Lone (P : Program) (w : World) (K : PySem.W.Frag) (a : Addr) (H : Hp) (h : Heap) : Prop where
  only : Only H
  ok : HOk P w H h
  at_ : ∀ b, H b ≠ none → b = a
  off : H a ≠ none → K.lookup a = none
theorem Lone.free {H : Hp} {s : Shared} {vs : List Value} (L : Lone P w K a H s.heap)
    (ha : s.heap.get? a = some { cls := .type "list", data := .seq vs.toArray })
    {b : Addr} {o : Obj} {es : Array DictEntry} {n : Nat}
    (e : s.heap.get? b = some o) (d : o.data = .dict es n) : H b = none := by
  apply Classical.byContradiction
  intro z
  have q := L.at_ b z
  rw [q, ha] at e
  rw [← Option.some.inj e] at d
  cases d
theorem lone_call {H : Hp} {s : Shared} {vs : List Value} {ns : List Int}
    (L : Lone P w K a H s.heap) (hin : K.In s.heap) (hm : s.heap.Ns mainGlobals mg)
    (hbn : s.heap.Ns builtinsNs mb) (hbv : ∀ y : Str, y ≠ "__name__" → mb y = bootBuiltins y)
    (hno : s.heap.NoLimit) (hgen : s.gens = #[])
    (ha : s.heap.get? a = some { cls := .type "list", data := .seq vs.toArray })
    (hS : SqL K H a (ns.map V.int)) (hr : Room k callerA)
    (F : ∀ base : Heap, K.In base → base.Ns mainGlobals mg → LawRun P w K mg base k fa fd [x] sp)
    (hbind : ∀ (s : Shared) (u : Value), BindsTo s fd ⟨[u], []⟩ [(x, u)])
    (hsp : sp [.ref a] H (fun v _ => v = .bl true) fun _ _ _ => False) :
    codeAny (model P w) callerA (.call (.ref fa) ⟨[.ref a], []⟩) (LawEnd s) s := by
  have keepNs : ∀ {b : Addr} {m : Str → Option Value}, s.heap.Ns b m → (hidT s.heap H).Ns b m := by
    rintro b m ⟨o, es, n, e, d, rest⟩
    exact ⟨o, es, n, hidT_get e (L.free ha e d), d, rest⟩
  have keepK : K.In (hidT s.heap H) := by
    intro b o e
    refine hidT_get (hin b o e) ?_
    apply Classical.byContradiction
    intro z
    have q := L.at_ b z
    rw [q] at e z
    exact absurd ((L.off z).symm.trans e) (by simp)
  have mod : Mod K mg (hidT s.heap H) := by
    obtain ⟨mc, c1, c2⟩ := hno
    exact ⟨keepK, keepNs hm, ⟨mb, keepNs hbn, hbv⟩, mc, keepNs c1, c2⟩
  have none_in : ∀ b : Addr, b ∉ frs ([] : List Env) := fun b z => by
    have z2 : b ∈ ([] : List Addr) := z
    cases z2
  have en : Env0 P w K mg (hidT s.heap H) callerA [] s H := {
    frames := rfl
    mod := mod
    bs := fun b o e => of_hidT e
    bsz := Nat.le_of_eq (hidT_size _ _)
    funs := trivial
    frf := fun b z => (none_in b z).elim
    hok := L.ok
    bare := .of_eq hgen }
  have run := F _ keepK (keepNs hm) s H ⟨[.ref a], []⟩ [.ref a] [.ref a] _ _ hr en
    (hbind s (.ref a)) (.cons rfl .nil) hsp
  refine codeAny_mono run ?_
  intro r s' done
  match r, done with
  | .ok (.ret u), done =>
    obtain ⟨v, H', os, bare, un, ok', rel, hv⟩ := done
    have hv' : v = .bl true := hv
    rw [hv'] at rel
    have hu : u = Value.bool true := rel
    refine ⟨by rw [hu], OldK.of_keep ?_, os, bare⟩
    intro b o e
    rcases L.only b with z | ⟨ob, xs, z⟩
    · exact un.keep b o e z (none_in b) List.not_mem_nil
    · have e1 := (L.ok b _ z).1
      have e2 := (ok' b _ (un.frzs b ob _ z)).1
      rw [e1] at e
      rw [← e]
      exact e2
  | .error e, done => exact (show False from done).elim
  | .ok .next, done => exact (show False from done).elim
  | .ok .brk, done => exact (show False from done).elim
  | .ok .cont, done => exact (show False from done).elim
theorem law_at_call {s : Shared} {vs : List Value} {ns : List Int}
    (hin : K.In s.heap) (hm : s.heap.Ns mainGlobals mg) (hbn : s.heap.Ns builtinsNs mb)
    (hbv : ∀ y : Str, y ≠ "__name__" → mb y = bootBuiltins y) (hno : s.heap.NoLimit) (hgen : s.gens = #[])
    (ha : s.heap.get? a = some { cls := .type "list", data := .seq vs.toArray })
    (hi : IntsAre vs ns) (hl : ns.length ≤ sizeLine) (hr : Room k callerA)
    (F : ∀ base : Heap, K.In base → base.Ns mainGlobals mg → LawRun P w K mg base k fa fd [x] sp)
    (hbind : ∀ (s : Shared) (u : Value), BindsTo s fd ⟨[u], []⟩ [(x, u)])
    (hsp : ∀ H : Hp, Only H → SqL K H a (ns.map V.int) → sp [.ref a] H (fun v _ => v = .bl true) fun _ _ _ => False) :
    codeAny (model P w) callerA (.call (.ref fa) ⟨[.ref a], []⟩) (LawEnd s) s := by
  have rv := vals_ints hi
  cases hk : K.lookup a with
  | some o =>
    have e := hin a o hk
    rw [ha] at e
    have eo := Option.some.inj e
    subst eo
    have L : Lone P w K a (fun _ => none) s.heap :=
      ⟨fun _ => Or.inl rfl, fun _ u z => absurd (show none = some u from z) (by simp), fun _ z => (z rfl).elim, fun z => (z rfl).elim⟩
    have hS : SqL K (fun _ => none) a (ns.map V.int) :=
      Or.inr ⟨_, vs.toArray, _, hk, rfl, rfl, rfl, by rw [List.size_toArray, hi.length]; exact hl, by simpa using rv⟩
    exact lone_call L hin hm hbn hbv hno hgen ha hS hr F hbind (hsp _ L.only hS)
  | none =>
    let fz : HO := .frz { cls := .type "list", data := .seq vs.toArray } (.lst (ns.map V.int))
    have self : upd (fun _ => none) a fz a = some fz := upd_same
    have others : ∀ b, b ≠ a → upd (fun _ => none) a fz b = none := fun b n => upd_ne n
    have L : Lone P w K a (upd (fun _ => none) a fz) s.heap := by
      refine ⟨fun b => ?_, fun b u z => ?_, fun b z => ?_, fun _ => hk⟩
      · by_cases q : b = a
        · rw [q]
          exact Or.inr ⟨_, _, self⟩
        · exact Or.inl (others b q)
      · by_cases q : b = a
        · rw [q] at z ⊢
          have z2 := Option.some.inj (self.symm.trans z)
          subst z2
          exact ⟨ha, by rw [List.length_map]; exact hl, vs, _, rv, ha⟩
        · exact absurd ((others b q).symm.trans z) (by simp)
      · exact Classical.byContradiction fun q => z (others b q)
    have hS : SqL K (upd (fun _ => none) a fz) a (ns.map V.int) := Or.inl (Or.inr ⟨_, self⟩)
    exact lone_call L hin hm hbn hbv hno hgen ha hS hr F hbind (hsp _ L.only hS)
end
/-- the end of a law row from the law's run -/
theorem walk_run {l : PySem.W.OpenLaw} {n k : Nat} {q : Program} {loose : List Str} {XP : (Str → Option Value) → Heap → Prop}
    {YP : World → Heap → Prop} {d : DefRec} {K : Params → PySem.W.Frag} {sp : World → Sp} {x : Str}
    (hn : l.most = some n) (hn2 : n ≤ sizeLine) (hdf : d.params.defaults = []) (hr : Room k callerA)
    (hY : ∀ (w : World) (h : Heap), YP w h → (K w.params).In h)
    (F : ∀ (w : World) (mg : Str → Option Value) (fa : Addr) (h : Heap),
      (K w.params).In h → h.Ns mainGlobals mg → mg d.name = some (.ref fa) →
      ∃ fd : FuncData, (∀ (s : Shared) (u : Value), BindsTo s fd ⟨[u], []⟩ [(x, u)]) ∧
        ∀ base : Heap, (K w.params).In base → base.Ns mainGlobals mg →
          LawRun l.prog w (K w.params) mg base k fa fd [x] (sp w))
    (hsp : ∀ (w : World) (H : Hp) (a : Addr) (ns : List Int), ns.length ≤ n → Only H →
      SqL (K w.params) H a (ns.map V.int) → sp w [.ref a] H (fun v _ => v = .bl true) fun _ _ _ => False) :
    PySem.W.WalkO q loose XP YP l.row.toRowW d [] (fun f vs => PySem.call f vs) := by
  refine Att.attach_call hn hdf ?_
  intro w s₀ s₁ mg mb fa o pm cd doc a vs ns G Y _ _ _ hmg hobj hints hlen hgen
  have hin := hY w _ Y
  obtain ⟨fd, hb, hF⟩ := F w mg fa _ hin G.T.g hmg
  exact law_at_call hin G.T.g G.T.b G.T.builtins G.T.nolimit hgen hobj hints
    (Nat.le_trans hlen hn2) hr hF hb fun H hO hS => hsp w H a ns hlen hO hS
end Hb

set_option Elab.async false
set_option linter.all false
set_option maxRecDepth 100000
set_option maxHeartbeats 4000000
/-! More of dicts with nested tuple keys: get with and without a default, list(d); tuples joined, whatever they are; truth of lists of bools. -/
namespace Hb
open PySem L2 PyProof.Rows
section
variable {X : Cx} {w : World} {o e f : Expr} {apos cpos : Pos} {td ty tx : TE}
def rNG (w : World) (x y z : V) (H : Hp) (Q : VK) : Prop := ∃ a b es k, AtN w H x y a b es k ∧ Q ((atN es k).getD z) H
def tNGet1 (w : World) (td ty : TE) : TE := fun σ H Q => td σ H fun x H1 => (∃ a es, x = .ref a ∧ H1 a = some (DN w a es)) ∧ ty σ H1 fun y H2 => rNG w x y .non H2 Q
def tNGet2 (w : World) (td ty tx : TE) : TE := fun σ H Q => td σ H fun x H1 => (∃ a es, x = .ref a ∧ H1 a = some (DN w a es)) ∧ ty σ H1 fun y H2 => tx σ H2 fun z H3 => rNG w x y z H3 Q
theorem pe_nget1 (hu : X.A.units + 64 < cLine) (ho : PE X o td) (he : PE X e ty) (m : M1 X o "get" apos e cpos) (hw : X.w = w := by rfl) : PE X (.Call (.Attribute o "get" apos) [e] [] cpos) (tNGet1 w td ty) := by
  refine ⟨fun pins s σ H Q I h => ?_⟩
  refine wpAny_Call_method m.base m.few m.line PySem.F.plainAttrs_dict PySem.F.slot_dict_get PySem.F.type_dict_get (thn (ho.run pins s σ H _ I h) ?_)
  rintro u s1 ⟨x, H1, I1, rx, ⟨a0, es0, rfl, ea⟩, q1⟩
  obtain rfl : u = Value.ref a0 := rx
  subst hw
  obtain ⟨t1, t2⟩ := dn_type I1 ea
  have hd0 : (a0 == sysModules) = false := (show ObjOk X.prog X.w H1 s1.heap a0 (DN X.w a0 es0) from I1.hok _ _ ea).1.2.1
  refine ⟨t1, t2, ?_⟩
  rw [m.trees]
  refine wpAny_dict_get1_heap (knd := nestedKind X.prog X.w) (n_room hu) hd0 (thn (he.run pins s1 σ H1 _ I1 q1) ?_)
  rintro iv s2 ⟨y, H2, I2, ry, a, b, es, k, g, q2⟩
  obtain ⟨z, hd, xs, rr, dd, hk⟩ := g.dn I2 rfl
  cases g.ex
  cases g.ey
  refine ⟨b, k, xs, ry, hk, dd, ?_⟩
  exact ⟨_, H2, I2.tok _, (rr.at k).getD (show RelV .non .none from rfl), q2⟩
theorem pe_nget2 (hu : X.A.units + 64 < cLine) (ho : PE X o td) (he : PE X e ty) (hf : PE X f tx) (m : M2 X o "get" apos e f cpos) (hw : X.w = w := by rfl) : PE X (.Call (.Attribute o "get" apos) [e, f] [] cpos) (tNGet2 w td ty tx) := by
  refine ⟨fun pins s σ H Q I h => ?_⟩
  refine wpAny_Call_method m.base m.few m.line PySem.F.plainAttrs_dict PySem.F.slot_dict_get PySem.F.type_dict_get (thn (ho.run pins s σ H _ I h) ?_)
  rintro u s1 ⟨x, H1, I1, rx, ⟨a0, es0, rfl, ea⟩, q1⟩
  obtain rfl : u = Value.ref a0 := rx
  subst hw
  obtain ⟨t1, t2⟩ := dn_type I1 ea
  have hd0 : (a0 == sysModules) = false := (show ObjOk X.prog X.w H1 s1.heap a0 (DN X.w a0 es0) from I1.hok _ _ ea).1.2.1
  refine ⟨t1, t2, ?_⟩
  rw [m.trees]
  refine wpAny_dict_get2_heap (knd := nestedKind X.prog X.w) (n_room hu) hd0 (thn (he.run pins s1 σ H1 _ I1 q1) ?_)
  rintro iv s2 ⟨y, H2, I2, ry, q2⟩
  refine thn (hf.run pins s2 σ H2 _ I2 q2) ?_
  rintro fv s3 ⟨z0, H3, I3, rz, a, b, es, k, g, q3⟩
  obtain ⟨z, hd, xs, rr, dd, hk⟩ := g.dn I3 rfl
  cases g.ex
  cases g.ey
  refine ⟨b, k, xs, ry, hk, dd, ?_⟩
  exact ⟨_, H3, I3.tok _, (rr.at k).getD rz, q3⟩
/-- list(d) -/
def rListN (w : World) : List V → Hp → VK → Prop := fun xs H Q => ∃ (p : Addr) (es : List Ent), xs = [.ref p] ∧ H p = some (DN w p es) ∧ ∀ q, H q = none → Q (.ref q) (upd H q (.lst (es.map fun e => V.ref e.2.1)))
theorem call_listN (hc : X.calm = true) (hw : X.w = w := by rfl) : CallR X (.type "list") (rListN w) := by
  subst hw
  rintro pins s σ H xs us Q I r ⟨p, es, rfl, hp, q⟩
  rw [Vals.ref1 r]
  obtain ⟨⟨z, lo, vs, rel, ob, ds, ep, h1, h2, h3, h4, h5⟩, _, _⟩ := (show ObjOk X.prog X.w H s.heap p (DN X.w p es) from I.hok _ _ hp)
  have hsz : ds.size = es.length := by
    rw [← Array.length_toList, h4, List.length_map, rel.len]
  refine PySem.W.kdl_call (kdl_raw lo h2 h3) (I.ok.hd hc) h1 (by rw [hsz]; exact z) fun h' tk acc c hk hS hacc => ?_
  have hac : acc.toList = es.map fun e => Value.ref e.2.1 := by
    refine List.ext_getElem? fun j => ?_
    rw [List.getElem?_map]
    cases e1 : acc.toList[j]? with
    | none =>
      have g1 := List.getElem?_eq_none_iff.mp e1
      rw [Array.length_toList, hacc.1, hsz] at g1
      rw [List.getElem?_eq_none g1]
      rfl
    | some v =>
      obtain ⟨en, g1, g2⟩ := hacc.2 j v (by rw [← Array.getElem?_toList]; exact e1)
      rw [← Array.getElem?_toList, h4, List.getElem?_map] at g1
      obtain ⟨x, g3, g4⟩ := Option.map_eq_some_iff.mp g1
      have g5 := congrArg (fun l => l[j]?) rel.addrs
      simp only [List.getElem?_map, g3] at g5
      rw [g2, ← g4]
      cases e2 : es[j]? with
      | none =>
        rw [e2] at g5
        simp at g5
      | some y =>
        rw [e2] at g5
        simp only [Option.map_some, Option.some.injEq, Value.ref.injEq] at g5
        simp only [Option.map_some, entN, g5]
  have vals : ∀ l : List Ent, Vals (l.map fun e => V.ref e.2.1) (l.map fun e => Value.ref e.2.1) := fun l => by
    induction l with
    | nil => exact .nil
    | cons e l ih => exact .cons rfl ih
  refine ⟨.ref s.heap.objs.size, upd H s.heap.objs.size (.lst (es.map fun e => V.ref e.2.1)), I.laid hk (Nat.le_refl _) (show ObjOk X.prog X.w _ _ _ (.lst (es.map fun e => V.ref e.2.1)) from ⟨by rw [List.length_map]; exact z, acc.toList, c, ?_, hS⟩), rfl, q _ (I.hok.fresh (Nat.le_refl _))⟩
  rw [hac]
  exact vals es
theorem op_catAK {K : PySem.W.Frag} (hK : X.K = K := by rfl) : OpR X (binaryOp .Add) (rCatA K) := by
  subst hK
  exact op_catA
theorem sl_tupAK {K : PySem.W.Frag} (hK : X.K = K := by rfl) : SlR X (rSlA K) := by
  subst hK
  exact sl_tupA
theorem ix_kdictK {K : PySem.W.Frag} (hK : X.K = K := by rfl) (hw : X.w = w := by rfl) : IxR X (rIxD K w) := by
  subst hK hw
  exact ix_kdict
theorem cr_allK {K : PySem.W.Frag} (hc : X.calm = true) (hK : X.K = K := by rfl) : CallR X (.builtin "all") (rAll K) := by
  subst hK
  exact cr_all hc
theorem cr_anyK {K : PySem.W.Frag} (hc : X.calm = true) (hK : X.K = K := by rfl) : CallR X (.builtin "any") (rAny K) := by
  subst hK
  exact cr_any hc
theorem cr_minK {K : PySem.W.Frag} (hc : X.calm = true) (hK : X.K = K := by rfl) : CallR X (.builtin "min") (rMin K) := by
  subst hK
  exact cr_min hc
theorem cr_maxK {K : PySem.W.Frag} (hc : X.calm = true) (hK : X.K = K := by rfl) : CallR X (.builtin "max") (rMax K) := by
  subst hK
  exact cr_max hc
end
end Hb

set_option Elab.async false
set_option linter.all false
set_option maxRecDepth 100000
set_option maxHeartbeats 4000000
/-! Dicts whose keys are tuples of ints and of flat tuples of ints, with any values: a plain list of pairs. -/
namespace Hb
open PySem L2 PyProof.Rows
abbrev IK := List Itm
abbrev GM := List (IK × V)
theorem nkI_depth (x : Itm) : (nkI x).depth ≤ 3 := by
  cases x with
  | inl i => simp [nkI, NestedKey.depth]
  | inr ns =>
    have h : ∀ l : List Int, NestedKey.depthAll (l.map NestedKey.num) ≤ 1 := fun l => by
      induction l with
      | nil => simp [NestedKey.depthAll]
      | cons n l ih =>
        rw [List.map_cons]
        simp only [NestedKey.depthAll, NestedKey.depth]
        omega
    have := h ns
    simp only [nkI, NestedKey.depth]
    omega
theorem nkK_depth (ks : IK) : (nkK ks).depth ≤ 8 := by
  have h : ∀ l : List Itm, NestedKey.depthAll (l.map nkI) ≤ 3 := fun l => by
    induction l with
    | nil => simp [NestedKey.depthAll]
    | cons x l ih =>
      have := nkI_depth x
      rw [List.map_cons]
      simp only [NestedKey.depthAll]
      omega
  have := h ks
  simp only [nkK, NestedKey.depth]
  omega
/-- an item of a key, as it stands -/
def ItAt (H : Hp) (v : V) : Itm → Prop
  | .inl i => v = .int i
  | .inr ns => ∃ p : Addr, v = .ref p ∧ H p = some (.tup (ns.map V.int))
theorem nks_ints {H : Hp} : ∀ ns : List Int, NKs H (ns.map NestedKey.num) (ns.map V.int)
  | [] => .nil
  | n :: ns => .cons (.int n) (nks_ints ns)
theorem nks_ints_inv {H : Hp} : ∀ {ns : List Int} {vs : List V}, NKs H (ns.map NestedKey.num) vs → vs = ns.map V.int
  | [], _, h => by cases h; rfl
  | n :: ns, _, h => by
    cases h with
    | cons h1 h2 =>
      cases h1
      rw [nks_ints_inv h2]
      rfl
theorem ItAt.nk {H : Hp} {v : V} : ∀ {x : Itm}, ItAt H v x → NK H (nkI x) v
  | .inl i, h => by
    cases h
    exact .int i
  | .inr ns, ⟨p, h1, h2⟩ => by
    cases h1
    exact .tup h2 (nks_ints ns)
theorem ItAt.of {H : Hp} {v : V} : ∀ {x : Itm}, NK H (nkI x) v → ItAt H v x
  | .inl i, h => by
    cases h
    rfl
  | .inr ns, h => by
    cases h with
    | tup h1 h2 => exact ⟨_, rfl, by rw [h1, nks_ints_inv h2]⟩
/-- the key at an address: its items -/
def KAt (H : Hp) (p : Addr) (ks : IK) : Prop := ∃ vs, H p = some (.tup vs) ∧ Paired (fun v x => ItAt H v x) vs ks
theorem KAt.nk {H : Hp} {p : Addr} {ks : IK} (h : KAt H p ks) : NK H (nkK ks) (.ref p) := by
  obtain ⟨vs, h1, h2⟩ := h
  refine .tup h1 ?_
  clear h1
  induction h2 with
  | nil => exact .nil
  | cons h _ ih => exact .cons h.nk ih
theorem KAt.of {H : Hp} {p : Addr} {ks : IK} (h : NK H (nkK ks) (.ref p)) : KAt H p ks := by
  cases h with
  | @tup _ vs _ h1 h2 =>
    refine ⟨vs, h1, ?_⟩
    clear h1
    induction ks generalizing vs with
    | nil => cases h2; exact .nil
    | cons x ks ih =>
      cases h2 with
      | cons k1 k2 => exact .cons (ItAt.of k1) (ih k2)
theorem ItAt.mono {H H' : Hp} (e : ∀ p xs, H p = some (.tup xs) → H' p = some (.tup xs)) {v : V} : ∀ {x : Itm}, ItAt H v x → ItAt H' v x
  | .inl _, h => h
  | .inr _, ⟨p, h1, h2⟩ => ⟨p, h1, e _ _ h2⟩
theorem KAt.mono {H H' : Hp} (e : ∀ p xs, H p = some (.tup xs) → H' p = some (.tup xs)) {p : Addr} {ks : IK} (h : KAt H p ks) : KAt H' p ks := by
  obtain ⟨vs, h1, h2⟩ := h
  exact ⟨vs, e _ _ h1, Paired.mapP h2 fun _ _ => ItAt.mono e⟩
theorem KAt.same {H H' : Hp} (e : Same H H') {p : Addr} {ks : IK} (h : KAt H p ks) : KAt H' p ks := h.mono fun _ _ => e _ _
/-- a flat tuple of ints as a key -/
theorem kat_ints {H : Hp} {p : Addr} {ns : List Int} (h : H p = some (.tup (ns.map V.int))) : KAt H p (ns.map Sum.inl) := by
  refine ⟨_, h, ?_⟩
  clear h
  induction ns with
  | nil => exact .nil
  | cons n ns ih => exact .cons (show ItAt H (.int n) (.inl n) from rfl) ih
theorem kat_ints_inv {H : Hp} {p : Addr} {ns : List Int} (h : KAt H p (ns.map Sum.inl)) : H p = some (.tup (ns.map V.int)) := by
  obtain ⟨vs, h1, h2⟩ := h
  rw [h1]
  congr 2
  clear h1
  induction ns generalizing vs with
  | nil => cases h2; rfl
  | cons n ns ih =>
    cases h2 with
    | cons k1 k2 =>
      rw [ih _ k2, show _ = V.int n from k1]
      rfl
/-! ### the pairs -/
def valG (M : GM) (k : IK) : Option V := (M.find? fun x => decide (x.1 = k)).map (·.2)
def putG (M : GM) (k : IK) (v : V) : GM := if (valG M k).isSome then M.map (fun x => if x.1 = k then (x.1, v) else x) else M ++ [(k, v)]
def dropG (M : GM) (k : IK) : GM := M.filter fun x => decide (x.1 ≠ k)
abbrev EntG (H : Hp) : List Ent → GM → Prop := Paired fun e x => e.1 = nkK x.1 ∧ e.2.2 = x.2 ∧ KAt H e.2.1 x.1
theorem EntG.mono {H H' : Hp} (e : ∀ p xs, H p = some (.tup xs) → H' p = some (.tup xs)) {es : List Ent} {M : GM} (h : EntG H es M) : EntG H' es M := Paired.mapP h fun _ _ ⟨h1, h2, h3⟩ => ⟨h1, h2, h3.mono e⟩
theorem EntG.same {H H' : Hp} (e : Same H H') {es : List Ent} {M : GM} (h : EntG H es M) : EntG H' es M := h.mono fun _ _ => e _ _
theorem EntG.nil {H : Hp} : EntG H [] [] := Paired.nil
theorem EntG.ok {H : Hp} {es : List Ent} {M : GM} (h : EntG H es M) : EntsOk H es := by
  induction h with
  | nil => exact EntsOk.nil
  | cons h _ ih =>
    intro e he
    rcases List.mem_cons.mp he with rfl | he
    · rw [h.1]
      exact ⟨h.2.2.nk, nkK_depth _⟩
    · exact ih e he
theorem EntG.len {H : Hp} {es : List Ent} {M : GM} (h : EntG H es M) : es.length = M.length := Paired.length h
theorem EntG.at {H : Hp} {es : List Ent} {M : GM} (h : EntG H es M) (k : IK) : atN es (nkK k) = valG M k := by
  induction h with
  | nil => rfl
  | @cons e x es xs h _ ih =>
    unfold atN valG at ih ⊢
    rw [List.find?_cons, List.find?_cons, h.1]
    by_cases hc : x.1 = k
    · rw [decide_eq_true hc, decide_eq_true (by rw [hc])]
      show some e.2.2 = some x.2
      rw [h.2.1]
    · rw [decide_eq_false hc, decide_eq_false (fun z => hc (nkK_inj z))]
      exact ih
theorem entG_map {H : Hp} {k : IK} {v : V} : ∀ {es : List Ent} {M : GM}, EntG H es M → EntG H (es.map fun e => if e.1 = nkK k then (e.1, e.2.1, v) else e) (M.map fun x => if x.1 = k then (x.1, v) else x)
  | _, _, Paired.nil => Paired.nil
  | e :: es, x :: xs, Paired.cons h t => by
    refine Paired.cons ?_ (entG_map t)
    by_cases hc : x.1 = k
    · have hc2 : e.1 = nkK k := by rw [h.1, hc]
      simp only [if_pos hc2, if_pos hc]
      exact ⟨h.1, trivial, h.2.2⟩
    · have hc2 : ¬ e.1 = nkK k := fun z => hc (nkK_inj (h.1.symm.trans z))
      simp only [if_neg hc2, if_neg hc]
      exact h
theorem EntG.put {H : Hp} {es : List Ent} {M : GM} (h : EntG H es M) {k : IK} {b : Addr} (v : V) (hk : KAt H b k) : EntG H (putN es (nkK k) b v) (putG M k v) := by
  unfold putN putG
  rw [h.at k]
  by_cases hc : (valG M k).isSome = true
  · rw [if_pos hc, if_pos hc]
    exact entG_map h
  · rw [if_neg hc, if_neg hc]
    exact paired_app h (Paired.cons ⟨rfl, rfl, hk⟩ Paired.nil)
theorem putG_len {M : GM} {k : IK} {v : V} : (putG M k v).length ≤ M.length + 1 := by
  unfold putG
  by_cases h : (valG M k).isSome = true
  · rw [if_pos h, List.length_map]
    omega
  · rw [if_neg h, List.length_append]
    exact Nat.le_refl _
theorem valG_some {M : GM} {k : IK} : (valG M k).isSome = true ↔ k ∈ M.map (·.1) := by
  unfold valG
  rw [Option.isSome_map, List.find?_isSome, List.mem_map]
  exact ⟨fun ⟨x, h1, h2⟩ => ⟨x, h1, of_decide_eq_true h2⟩, fun ⟨x, h1, h2⟩ => ⟨x, h1, decide_eq_true h2⟩⟩
theorem putG_keys (M : GM) (k : IK) (v : V) : (putG M k v).map (·.1) = if (valG M k).isSome = true then M.map (·.1) else M.map (·.1) ++ [k] := by
  unfold putG
  by_cases h : (valG M k).isSome = true
  · rw [if_pos h, if_pos h, List.map_map]
    refine List.map_congr_left fun x _ => ?_
    by_cases hc : x.1 = k
    · simp [hc]
    · simp [hc]
  · rw [if_neg h, if_neg h, List.map_append]
    rfl
theorem valG_cons (x : IK × V) (M : GM) (k : IK) : valG (x :: M) k = if x.1 = k then some x.2 else valG M k := by
  unfold valG
  rw [List.find?_cons]
  by_cases h : x.1 = k
  · rw [decide_eq_true h, if_pos h]
    rfl
  · rw [decide_eq_false h, if_neg h]
theorem valG_nil (k : IK) : valG [] k = none := rfl
theorem valG_put (M : GM) (k : IK) (v : V) (j : IK) : valG (putG M k v) j = if j = k then some v else valG M j := by
  unfold putG
  by_cases h : (valG M k).isSome = true
  · rw [if_pos h]
    by_cases hj : j = k
    · subst hj
      rw [if_pos rfl]
      induction M with
      | nil => cases h
      | cons x M ih =>
        rw [List.map_cons, valG_cons]
        rw [valG_cons] at h
        by_cases hx : x.1 = j
        · rw [if_pos hx, if_pos hx]
        · rw [if_neg hx] at h
          rw [if_neg hx, if_neg hx]
          exact ih h
    · rw [if_neg hj]
      clear h
      induction M with
      | nil => rfl
      | cons x M ih =>
        rw [List.map_cons, valG_cons, valG_cons, ih]
        by_cases hx : x.1 = k
        · rw [if_pos hx]
          by_cases hxj : x.1 = j
          · exact absurd (hxj.symm.trans hx) hj
          · rw [if_neg hxj, if_neg hxj]
        · rw [if_neg hx]
  · rw [if_neg h]
    have hn : valG M k = none := by
      cases e : valG M k with
      | none => rfl
      | some _ => exact absurd (by rw [e]; rfl) h
    clear h
    induction M with
    | nil =>
      rw [List.nil_append, valG_cons]
      by_cases hj : k = j
      · rw [if_pos hj, if_pos hj.symm]
      · rw [if_neg hj, if_neg (fun z => hj z.symm)]
    | cons x M ih =>
      rw [valG_cons] at hn
      by_cases hx : x.1 = k
      · rw [if_pos hx] at hn
        cases hn
      · rw [if_neg hx] at hn
        rw [List.cons_append, valG_cons, ih hn, valG_cons]
        by_cases hxj : x.1 = j
        · rw [if_pos hxj]
          by_cases hj : j = k
          · exact absurd (hxj.trans hj) hx
          · rw [if_neg hj, if_pos hxj]
        · rw [if_neg hxj, if_neg hxj]
/-! ### the steps -/
section
variable {w : World} {σ : L2.St} {H B : Hp} {Q : VK} {D : Ends} {td ty tv tx : TE} {L L' : List (Addr × HO)} {es : List Ent} {M : GM} {k : IK} {d b : Addr} {v : V}
theorem atG_of (h : H d = some (DN w d es)) (e : EntG H es M) (hk : KAt H b k) : AtN w H (.ref d) (.ref b) d b es (nkK k) := ⟨rfl, rfl, h, e.ok, hk.nk, nkK_depth k⟩
theorem wg_get (hs : Hs B L H) (h : H d = some (DN w d es)) (e : EntG B es M) (hk : KAt H b k) (hv : valG M k = some v) (q : Q v H) : rNGet w (.ref d) (.ref b) H Q :=
  ⟨d, b, es, nkK k, v, atG_of h (e.same hs.same) hk, by rw [e.at k, hv], q⟩
theorem wg_in {R : Bool → Prop} (hs : Hs B L H) (h : H d = some (DN w d es)) (e : EntG B es M) (hk : KAt H b k) (q : R (valG M k).isSome) : rNIn w (.ref d) (.ref b) H R :=
  ⟨d, b, es, nkK k, atG_of h (e.same hs.same) hk, by rw [e.at k]; exact q⟩
theorem wg_put {R : Hp → Prop} (hs : Hs B L H) (h : Put L d (DN w d es) (DN w d (putN es (nkK k) b v)) L') (e : EntG B es M) (hk : KAt B b k) (hl : M.length ≤ 1000000) (q : ∀ H', Hs B L' H' → EntG B (putN es (nkK k) b v) (putG M k v) → R H') : rNPut w (.ref d) (.ref b) v H R :=
  ⟨d, b, es, nkK k, atG_of (hs.gets h) (e.same hs.same) (hk.same hs.same), by rw [e.len, sizeLine_eq]; omega, q _ (hs.puts h) (e.put v hk)⟩
theorem wg_def {z : V} (hs : Hs B L H) (h : H d = some (DN w d es)) (e : EntG B es M) (hk : KAt H b k) (q : Q ((valG M k).getD z) H) : rNG w (.ref d) (.ref b) z H Q :=
  ⟨d, b, es, nkK k, atG_of h (e.same hs.same) hk, by rw [e.at k]; exact q⟩
theorem w_ng1 (q : td σ H fun x H1 => (∃ a es, x = .ref a ∧ H1 a = some (DN w a es)) ∧ ty σ H1 fun y H2 => rNG w x y .non H2 Q) : tNGet1 w td ty σ H Q := q
theorem w_ng2 (q : td σ H fun x H1 => (∃ a es, x = .ref a ∧ H1 a = some (DN w a es)) ∧ ty σ H1 fun y H2 => tx σ H2 fun z H3 => rNG w x y z H3 Q) : tNGet2 w td ty tx σ H Q := q
theorem EntG.row {es : List Ent} {M : GM} (h : EntG H es M) : Paired (fun (v : V) (x : IK) => ∃ p : Addr, v = .ref p ∧ KAt H p x) (es.map fun e => V.ref e.2.1) (M.map (·.1)) := by
  induction h with
  | nil => exact .nil
  | cons h _ ih => exact .cons ⟨_, rfl, h.2.2⟩ ih
theorem wg_list (hs : Hs B L H) (h : H d = some (DN w d es)) (q : ∀ p H', Hs B ((p, .lst (es.map fun e => V.ref e.2.1)) :: L) H' → Q (.ref p) H') : rListN w [.ref d] H Q :=
  ⟨d, es, rfl, h, fun p hp => q p _ (hs.new hp)⟩
end
end Hb

set_option Elab.async false
set_option linter.all false
set_option maxRecDepth 100000
set_option maxHeartbeats 4000000
/-! Rows of items side by side with what they tell; sorted of keys; promises joined; objects that stand. -/
namespace Hb
open PySem L2 PyProof.Rows
/-! ## data side by side -/
def Row {α : Type} (R : V → α → Prop) (us : List V) (xs : List α) : Prop := us.length = xs.length ∧ ∀ (i : Nat) (u : V) (x : α), us[i]? = some u → xs[i]? = some x → R u x
theorem Row.mono {α : Type} {R R' : V → α → Prop} (h : ∀ u x, R u x → R' u x) {us : List V} {xs : List α} (r : Row R us xs) : Row R' us xs := ⟨r.1, fun i u x h1 h2 => h _ _ (r.2 i u x h1 h2)⟩
theorem Row.get {α : Type} {R : V → α → Prop} {us : List V} {xs : List α} (r : Row R us xs) {i : Nat} {u : V} (h : us[i]? = some u) : ∃ x, xs[i]? = some x ∧ R u x := by
  have hi := (List.getElem?_eq_some_iff.mp h).1
  have h2 : xs[i]? = some (xs[i]'(by have := r.1; omega)) := List.getElem?_eq_getElem _
  exact ⟨_, h2, r.2 i _ _ h h2⟩
theorem Row.nil {α : Type} {R : V → α → Prop} : Row R [] [] := ⟨rfl, fun _ _ _ z => nomatch z⟩
theorem Row.cons {α : Type} {R : V → α → Prop} {us : List V} {xs : List α} {u : V} {x : α} (h : R u x) (r : Row R us xs) : Row R (u :: us) (x :: xs) := by
  refine ⟨by rw [List.length_cons, List.length_cons, r.1], fun i y z h1 h2 => ?_⟩
  cases i with
  | zero =>
    cases h1
    cases h2
    exact h
  | succ i => exact r.2 i y z (by simpa using h1) (by simpa using h2)
theorem Row.snoc {α : Type} {R : V → α → Prop} {us : List V} {xs : List α} {u : V} {x : α} (r : Row R us xs) (h : R u x) : Row R (us ++ [u]) (xs ++ [x]) := by
  refine ⟨by rw [List.length_append, List.length_append, r.1]; rfl, fun i y z h1 h2 => ?_⟩
  by_cases hi : i < us.length
  · rw [List.getElem?_append_left hi] at h1
    rw [List.getElem?_append_left (by rw [← r.1]; exact hi)] at h2
    exact r.2 i y z h1 h2
  · rw [List.getElem?_append_right (by omega)] at h1
    rw [List.getElem?_append_right (by rw [← r.1]; omega)] at h2
    rw [r.1] at h1
    cases hj : i - xs.length with
    | zero =>
      rw [hj] at h1 h2
      cases h1
      cases h2
      exact h
    | succ n =>
      rw [hj] at h1
      simp at h1
theorem Row.take {α : Type} {R : V → α → Prop} {us : List V} {xs : List α} (r : Row R us xs) (n : Nat) : Row R (us.take n) (xs.take n) := by
  refine ⟨by rw [List.length_take, List.length_take, r.1], fun i u x h1 h2 => ?_⟩
  rw [List.getElem?_take] at h1 h2
  by_cases h : i < n
  · rw [if_pos h] at h1 h2
    exact r.2 i u x h1 h2
  · rw [if_neg h] at h1
    cases h1
theorem Row.drop {α : Type} {R : V → α → Prop} {us : List V} {xs : List α} (r : Row R us xs) (n : Nat) : Row R (us.drop n) (xs.drop n) := by
  refine ⟨by rw [List.length_drop, List.length_drop, r.1], fun i u x h1 h2 => ?_⟩
  rw [List.getElem?_drop] at h1 h2
  exact r.2 _ u x h1 h2
theorem Row.app {α : Type} {R : V → α → Prop} {us vs : List V} {xs ys : List α} (r : Row R us xs) (q : Row R vs ys) : Row R (us ++ vs) (xs ++ ys) := by
  refine ⟨by rw [List.length_append, List.length_append, r.1, q.1], fun i u x h1 h2 => ?_⟩
  by_cases hi : i < us.length
  · rw [List.getElem?_append_left hi] at h1
    rw [List.getElem?_append_left (by rw [← r.1]; exact hi)] at h2
    exact r.2 i u x h1 h2
  · rw [List.getElem?_append_right (by omega)] at h1
    rw [List.getElem?_append_right (by rw [← r.1]; omega), ← r.1] at h2
    exact q.2 _ u x h1 h2
theorem Row.dpAll {α : Type} {K : PySem.W.Frag} {H : Hp} {R : V → α → Prop} {d : α → PyData} (hd : ∀ u x, R u x → Dp K H u (d x)) : ∀ {us : List V} {xs : List α}, Row R us xs → DpAll K H us (xs.map d)
  | [], [], _ => .nil
  | [], _ :: _, h => by cases h.1
  | _ :: _, [], h => by cases h.1
  | u :: us, x :: xs, h => .cons (hd _ _ (h.2 0 u x rfl rfl)) (Row.dpAll hd ⟨Nat.succ.inj h.1, fun i y z h1 h2 => h.2 (i + 1) y z (by simpa using h1) (by simpa using h2)⟩)
/-- what is new and stands: from a callee that only makes -/
theorem Hs_own {B H H' : Hp} {L : List (Addr × HO)} {p : Addr} {o : HO} (hs : Hs B L H) (e : Same H H') (hn : H p = none) (h : H' p = some o) : Hs B ((p, o) :: L) H' := by
  refine ⟨hs.same.trans e, ?_, fun x hx => ?_, fun x hx => ?_⟩
  · rw [List.map_cons, List.nodup_cons]
    exact ⟨hs.fresh hn, hs.nd⟩
  · rcases List.mem_cons.mp hx with rfl | hx
    · exact hs.same.free hn
    · exact hs.out x hx
  · rcases List.mem_cons.mp hx with rfl | hx
    · exact h
    · exact e _ _ (hs.at_ x hx)
theorem w_lcLR {K : PySem.W.Frag} {σ : L2.St} {H : Hp} {Q : VK} {tl : TE} {g : TG} {tt : TT} {te : TE} {vs : List Nat} (q : tl σ H fun x H1 => ListR K x H1 (LcR g tt te vs σ Q)) : tLc (iList K tl) g tt te vs σ H Q := q
/-- [e for x in us], row by row: what is told of the new items hangs on tuples alone -/
theorem w_lcRow {α : Type} {K : PySem.W.Frag} {σ : L2.St} {H : Hp} {Q : VK} {tl : TE} {te : TE} {j : Nat} {vs : List Nat} {a : Addr} {us : List V} (R : Hp → V → α → Prop) (hm : ∀ H1 H2 v y, (∀ p xs, H1 p = some (.tup xs) → H2 p = some (.tup xs)) → R H1 v y → R H2 v y) (hx : SqL K H a us) (hz : us.length ≤ 1000000) (ys : List α) (hlen : us.length = ys.length)
    (htl : ∀ Q : VK, Q (.ref a) H → tl σ H Q) (hw : ∀ v, wipe ((wipe σ vs).set j (some v)) vs = wipe σ vs)
    (he : ∀ (i : Nat) (u : V) (y : α) (H' : Hp) (Q' : VK), us[i]? = some u → ys[i]? = some y → Same H H' → (∀ v H3, Same H' H3 → R H3 v y → Q' v H3) → te ((wipe σ vs).set j (some u)) H' Q')
    (hq : ∀ D acc H', Hs H [(D, .lst acc)] H' → Row (R H') acc ys → Q (.ref D) H') : tLc (iList K tl) (gName j) tYes te vs σ H Q := by
  refine w_lcLR (htl _ (w_listR hx fun D hD => ?_))
  refine turns_list (Body := LcBody (gName j) tYes te vs σ D) (fun i H' => ∃ acc, Hs H [(D, .lst acc)] H' ∧ Row (R H') acc (ys.take i)) ⟨[], (Hs.start H).new hD, Row.nil⟩ (fun i H' _ ⟨_, h, _⟩ => h.same.seq hx) ?_ ?_
  · rintro i u H' hu ⟨acc, h1, h2⟩
    have hi := (List.getElem?_eq_some_iff.mp hu).1
    have hy : ys[i]? = some (ys[i]'(by omega)) := List.getElem?_eq_getElem _
    refine w_name ⟨hw _, w_yes (iteT (he i u _ H' _ hu hy h1.same fun v H3 s3 r => ?_))⟩
    have hD3 : H3 D = some (.lst acc) := s3 _ _ h1.g0
    have hlt : acc.length ≤ i := by
      have := h2.1
      rw [List.length_take] at this
      omega
    refine ⟨acc, hD3, szl (by omega), acc ++ [v], (h1.keep s3).p0 _, ?_⟩
    rw [List.take_add_one, hy]
    refine Row.mono (fun u x => hm H3 _ u x fun a xs => tup_but hD3 (fun _ z => by cases z) a xs) ((h2.mono fun u x => hm _ _ u x fun a xs e => s3 _ _ e).snoc r)
  · rintro H' ⟨acc, h1, h2⟩
    rw [hlen, List.take_length] at h2
    exact hq D acc H' h1 h2
def spF : Sp := fun _ _ _ _ => False
theorem fn_F {P : Program} {w : World} {K : PySem.W.Frag} {mg : Str → Option Value} {base : Heap} {k : Nat} {f : Addr} {fd : FuncData} {ps : List Str} : FnOk P w K mg base CX0 k f fd ps spF := ⟨fun _ _ _ _ h => h.elim, fun _ _ _ _ _ _ _ _ _ _ _ _ _ h => h.elim⟩
theorem fn_or {P : Program} {w : World} {K : PySem.W.Frag} {mg : Str → Option Value} {base : Heap} {k : Nat} {f : Addr} {fd : FuncData} {ps : List Str} {sp1 sp2 : Sp} (F1 : FnOk P w K mg base CX0 k f fd ps sp1) (F2 : FnOk P w K mg base CX0 k f fd ps sp2) : FnOk P w K mg base CX0 k f fd ps (fun vs H Q E => sp1 vs H Q E ∨ sp2 vs H Q E) :=
  ⟨fun vs H Q E h => h.elim (F1.len vs H Q E) (F2.len vs H Q E), fun A outer s H args us vs Q E hr he hb hv h => h.elim (F1.run A outer s H args us vs Q E hr he hb hv) (F2.run A outer s H args us vs Q E hr he hb hv)⟩
theorem w_slA {K : PySem.W.Frag} {B H : Hp} {L : List (Addr × HO)} {Q : VK} {p : Addr} {xs : List V} {lo hi : Option Int} (hs : Hs B L H) (h : SqT K H p xs) (hw : ¬ (HT.sIx xs.length 0 lo = 0 ∧ HT.sIx xs.length xs.length hi = xs.length)) (q : ∀ l H', Hs B ((l, .tup (cutV xs lo hi)) :: L) H' → Q (.ref l) H') : rSlA K (.ref p) lo hi H Q :=
  ⟨p, xs, rfl, h, fun z => absurd z hw, fun _ => w_new hs q⟩

/-! ## sorted: keys of one shape -/
def ltQ (x y : IK) : Bool := lexI (flK x) (flK y)
def SortedK (l : List IK) : Prop := l.Pairwise fun x y => ltQ y x = false
def insK (x : IK) : List IK → List IK
  | [] => [x]
  | y :: ys => if ltQ y x then y :: insK x ys else x :: y :: ys
def srtK : List IK → List IK
  | [] => []
  | x :: xs => insK x (srtK xs)
theorem insK_perm (x : IK) : ∀ ys : List IK, (insK x ys).Perm (x :: ys)
  | [] => List.Perm.refl _
  | y :: ys => by
    unfold insK
    split
    · exact ((insK_perm x ys).cons y).trans (List.Perm.swap x y ys)
    · exact List.Perm.refl _
theorem srtK_perm : ∀ ls : List IK, (srtK ls).Perm ls
  | [] => List.Perm.refl _
  | x :: xs => (insK_perm x (srtK xs)).trans ((srtK_perm xs).cons x)
theorem insK_sorted (x : IK) : ∀ ys : List IK, SortedK ys → SortedK (insK x ys)
  | [], _ => List.pairwise_singleton _ _
  | y :: ys, h => by
    have h1 := List.pairwise_cons.mp h
    unfold insK
    by_cases hc : ltQ y x = true
    · rw [if_pos hc]
      refine List.pairwise_cons.mpr ⟨fun z hz => ?_, insK_sorted x ys h1.2⟩
      rcases List.mem_cons.mp ((insK_perm x ys).mem_iff.mp hz) with rfl | hz
      · exact lexI_asym _ _ hc
      · exact h1.1 z hz
    · rw [if_neg hc]
      have hc' : ltQ y x = false := by
        cases q : ltQ y x with
        | true => exact absurd q hc
        | false => rfl
      refine List.pairwise_cons.mpr ⟨fun z hz => ?_, h⟩
      rcases List.mem_cons.mp hz with rfl | hz
      · exact hc'
      · exact lexI_tr _ _ _ hc' (h1.1 z hz)
theorem srtK_sorted : ∀ ls : List IK, SortedK (srtK ls)
  | [] => List.Pairwise.nil
  | x :: xs => insK_sorted x _ (srtK_sorted xs)
/-- of one shape, the ints tell the key -/
theorem fl_shape : ∀ {x y : IK}, x.map shp = y.map shp → flK x = flK y → x = y
  | [], [], _, _ => rfl
  | [], _ :: _, h, _ => by cases h
  | _ :: _, [], h, _ => by cases h
  | a :: x, b :: y, h, e => by
    rw [List.map_cons, List.map_cons] at h
    injection h with h1 h2
    have hl := shp_len h1
    unfold flK at e
    rw [List.flatMap_cons, List.flatMap_cons] at e
    obtain ⟨e1, e2⟩ := List.append_inj e hl
    have hx := fl_shape h2 (show flK x = flK y from e2)
    have ha : a = b := by
      cases a with
      | inl i =>
        cases b with
        | inl j =>
          injection e1 with e1
          rw [e1]
        | inr ms => cases h1
      | inr ns =>
        cases b with
        | inl j => cases h1
        | inr ms => exact congrArg Sum.inr e1
    rw [hx, ha]
theorem sortedK_uniq {sh : List (Option Nat)} : ∀ {l m : List IK}, l.Perm m → (∀ x ∈ l, x.map shp = sh) → SortedK l → SortedK m → l = m
  | [], m, p, _, _, _ => (List.Perm.eq_nil p.symm).symm
  | x :: l, [], p, _, _, _ => absurd p.length_eq (by simp)
  | x :: l, y :: m, p, hs, hl, hm => by
    have h1 := List.pairwise_cons.mp hl
    have h2 := List.pairwise_cons.mp hm
    have e : x = y := by
      rcases List.mem_cons.mp (p.mem_iff.mp List.mem_cons_self) with e | hx
      · exact e
      · have hy2 := p.mem_iff.mpr (List.mem_cons_self (a := y) (l := m))
        rcases List.mem_cons.mp hy2 with e | hy
        · exact e.symm
        · exact fl_shape ((hs x List.mem_cons_self).trans (hs y hy2).symm) (lexI_total _ _ (h2.1 x hx) (h1.1 y hy))
    subst e
    rw [sortedK_uniq p.cons_inv (fun z hz => hs z (List.mem_cons_of_mem _ hz)) h1.2 h2.2]
theorem srtK_uniq {sh : List (Option Nat)} {l ls : List IK} (p : l.Perm ls) (hs : ∀ x ∈ ls, x.map shp = sh) (h : SortedK l) : l = srtK ls :=
  sortedK_uniq (p.trans (srtK_perm ls).symm) (fun x hx => hs x (p.mem_iff.mp hx)) h (srtK_sorted ls)
/-- an item of a list that is a key -/
def KeyAt (H : Hp) (v : V) (k : IK) : Prop := ∃ p : Addr, v = .ref p ∧ KAt H p k
theorem KeyAt.mono {H H' : Hp} (e : ∀ p xs, H p = some (.tup xs) → H' p = some (.tup xs)) {v : V} {k : IK} (h : KeyAt H v k) : KeyAt H' v k := by
  obtain ⟨p, h1, h2⟩ := h
  exact ⟨p, h1, h2.mono e⟩
theorem KeyAt.inj {H : Hp} {v : V} {k k' : IK} (h : KeyAt H v k) (h' : KeyAt H v k') : k = k' := by
  obtain ⟨p, rfl, h1⟩ := h
  obtain ⟨q, e, h2⟩ := h'
  cases e
  exact nkK_inj (NK.inj h1.nk h2.nk)
theorem KeyAt.it {H : Hp} {v : V} {k : IK} (h : KeyAt H v k) : itK H v = k := by
  obtain ⟨p, rfl, h1⟩ := h
  exact itK_eq h1.nk
theorem row_perm {α : Type} {R : V → α → Prop} {us ys : List V} (p : ys.Perm us) {xs : List α} (r : Row R us xs) : ∃ zs, zs.Perm xs ∧ Row R ys zs := by
  have toP : ∀ {us : List V} {xs : List α}, Row R us xs → Paired R us xs := by
    intro us
    induction us with
    | nil =>
      intro xs r
      cases xs with
      | nil => exact .nil
      | cons _ _ => cases r.1
    | cons u us ih =>
      intro xs r
      cases xs with
      | nil => cases r.1
      | cons x xs => exact .cons (r.2 0 u x rfl rfl) (ih ⟨Nat.succ.inj r.1, fun i y z h1 h2 => r.2 (i + 1) y z (by simpa using h1) (by simpa using h2)⟩)
  have ofP : ∀ {us : List V} {xs : List α}, Paired R us xs → Row R us xs := by
    intro us xs h
    induction h with
    | nil => exact Row.nil
    | cons h _ ih => exact Row.cons h ih
  obtain ⟨zs, h1, h2⟩ := paired_perm p (toP r)
  exact ⟨zs, h1, ofP h2⟩
theorem w_sortK2 {K : PySem.W.Frag} {B H : Hp} {L : List (Addr × HO)} {Q : VK} {a : Addr} {us : List V} {ks : List IK} {c : Option Nat} {sh : List (Option Nat)} (hs : Hs B L H) (h : SqL K H a us) (r : Row (KeyAt H) us ks) (hsh : ∀ k ∈ ks, k.map shp = c :: sh)
    (q : ∀ p ys H', ys.Perm us → Hs B ((p, .lst ys) :: L) H' → Row (KeyAt H') ys (srtK ks) → Q (.ref p) H') : rSortN K c sh [.ref a] H Q := by
  refine ⟨a, us, itK H, rfl, h, fun x hx => ?_, fun ys p h1 h2 hp => ?_⟩
  · obtain ⟨i, hi, rfl⟩ := List.getElem_of_mem hx
    obtain ⟨k, hk, hat⟩ := r.get (List.getElem?_eq_getElem hi)
    rw [hat.it]
    obtain ⟨b, e, hb⟩ := hat
    exact ⟨⟨b, e⟩, by rw [e]; exact hb.nk, hsh k (List.mem_of_getElem? hk)⟩
  · obtain ⟨zs, p1, p2⟩ := row_perm h2.perm r
    have srt : SortedK zs := by
      refine List.pairwise_iff_getElem.mpr fun i j hi hj hij => ?_
      have hi' : i < ys.length := by rw [p2.1]; exact hi
      have hj' : j < ys.length := by rw [p2.1]; exact hj
      have a1 := p2.2 i ys[i] zs[i] (List.getElem?_eq_getElem hi') (List.getElem?_eq_getElem hi)
      have a2 := p2.2 j ys[j] zs[j] (List.getElem?_eq_getElem hj') (List.getElem?_eq_getElem hj)
      have := List.pairwise_iff_getElem.mp h1 i j hi' hj' hij
      unfold ltK at this
      rw [a1.it, a2.it] at this
      exact this
    have e := srtK_uniq p1 hsh srt
    subst e
    have hs2 := hs.new (o := .lst ys) hp
    exact q p ys _ h2.perm hs2 (p2.mono fun u k => KeyAt.mono fun b xs e => by rw [upd_ne (ne_of_none e hp)]; exact e)
theorem frz_hs {B H : Hp} {p : Addr} {o : HO} {L : List (Addr × HO)} (hs : Hs B ((p, o) :: L) H) : ∃ B2, Same B B2 ∧ B2 p = some o ∧ Hs B2 L H := ⟨_, hs.freeze.1, upd_same, hs.freeze.2⟩
theorem shp_can {d : PyData} (h : SeqAt.shaped d = true) : d.canLay0 = true := by
  unfold SeqAt.shaped at h
  exact (Bool.and_eq_true_iff.mp h).1
theorem w_neRefl {K : PySem.W.Frag} {H : Hp} {Q : VK} {p q : V} {d : PyData} (h1 : Dp K H p d) (h2 : Dp K H q d) (hs : SeqAt.shaped d = true) (k : Q (.bl false) H) : rNeD K p q H Q :=
  ⟨d, d, h1, h2, hs, hs, by
    rw [SeqAt.eqv_refl _ (shp_can hs)]
    exact k⟩

/-! ## for i, x in enumerate(xs) -/
theorem w_enumF {K : PySem.W.Frag} {σ : L2.St} {H : Hp} {ta : TA} {g : TG} {tb : TS} {D : Ends} {a : Addr} {xs : List V} (hx : SqL K H a xs) (Pv : Nat → L2.St → Hp → Prop) (hta : ∀ Q : List V → Hp → Prop, Q [.ref a] H → ta σ H Q) (h0 : Pv 0 σ H) (hl : ∀ i σ H, i ≤ xs.length → Pv i σ H → SqL K H a xs)
    (hs : ∀ i x T σ H, xs[i]? = some x → Pv i σ H → H T = none → g (.ref T) σ (upd H T (.tup [.int (i : Int), x])) fun σ2 H2 => tb { D with nx := Pv (i + 1), ct := Pv (i + 1), bk := D.nx } σ2 H2) (hd : ∀ σ H, Pv xs.length σ H → D.nx σ H) : tFor (iEnum K ta) g tb D σ H := by
  refine hta _ ⟨a, xs, rfl, hx, fun i m σ H => m = xs.length - i ∧ i ≤ xs.length ∧ Pv i σ H, ⟨xs.length, by simp, Nat.zero_le _, h0⟩, ?_⟩
  rintro i m σ' H' ⟨rfl, hi, p⟩
  have q := hl i σ' H' hi p
  by_cases hlt : i < xs.length
  · refine .inr ⟨⟨xs, xs[i], q, List.getElem?_eq_getElem hlt⟩, Pv (i + 1), fun σ2 H2 p2 => ⟨xs.length - (i + 1), by omega, rfl, hlt, p2⟩, fun v H2 y => ?_⟩
    obtain ⟨T, x, rfl, hT, rfl, hx2⟩ := y
    exact hs i x T _ _ (hx2 xs q) p hT
  · have e : i = xs.length := by omega
    subst e
    exact .inl ⟨⟨xs, q, Nat.le_refl _⟩, hd σ' H' p⟩
theorem w_sortK {K : PySem.W.Frag} {B H : Hp} {L : List (Addr × HO)} {Q : VK} {a : Addr} {us : List V} {ks : List IK} {c : Option Nat} {sh : List (Option Nat)} (hs : Hs B L H) (h : SqL K H a us) (r : Row (KeyAt H) us ks) (hsh : ∀ k ∈ ks, k.map shp = c :: sh)
    (q : ∀ p ys H', Hs B ((p, .lst ys) :: L) H' → Row (KeyAt H') ys (srtK ks) → Q (.ref p) H') : rSortN K c sh [.ref a] H Q := w_sortK2 hs h r hsh fun p ys H' _ => q p ys H'
/-! ## ranges with a lower end -/
theorem w_forR2 {σ : L2.St} {H : Hp} {D : Ends} {ta : TA} {g : TG} {tb : TS} {lo hi : Int} (b1 : -(2 ^ 62) ≤ lo ∧ lo < 2 ^ 62 ∧ -(2 ^ 62) ≤ hi ∧ hi < 2 ^ 62) (Pv : Nat → L2.St → Hp → Prop) (hta : ∀ Q : List V → Hp → Prop, Q [.int lo, .int hi] H → ta σ H Q) (h0 : Pv 0 σ H)
    (hs : ∀ (i : Nat) σ H, lo + (i : Int) < hi → Pv i σ H → g (.int (lo + (i : Int))) σ H fun σ2 H2 => tb { D with nx := Pv (i + 1), ct := Pv (i + 1), bk := D.nx } σ2 H2) (hd : ∀ σ H, Pv (hi - lo).toNat σ H → D.nx σ H) : tFor (iRng2 ta) g tb D σ H :=
  hta _ ⟨lo, hi, rfl, b1, for_range (lo := lo) (n := (hi - lo).toNat) Pv h0 (fun i σ' H' hi' p => hs i σ' H' (by omega) p) hd⟩
def RngR2 (us : List V) (H1 : Hp) (R : It → Hp → Prop) : Prop := ∃ lo hi : Int, us = [.int lo, .int hi] ∧ (-(2 ^ 62) ≤ lo ∧ lo < 2 ^ 62 ∧ -(2 ^ 62) ≤ hi ∧ hi < 2 ^ 62) ∧ R (Itr lo (hi - lo).toNat) H1
theorem w_lcG2 {σ : L2.St} {H : Hp} {Q : VK} {ta : TA} {g : TG} {tt : TT} {te : TE} {vs : List Nat} (q : ta σ H fun us H1 => RngR2 us H1 (LcR g tt te vs σ Q)) : tLc (iRng2 ta) g tt te vs σ H Q := q
theorem turns_rangeL {H0 : Hp} {Qd : Hp → Prop} {Body : (Hp → Prop) → V → Hp → Prop} {lo : Int} {n : Nat} (Pv : Nat → Hp → Prop) (h0 : Pv 0 H0) (hs : ∀ i H, i < n → Pv i H → Body (Pv (i + 1)) (.int (lo + (i : Int))) H) (hd : ∀ H, Pv n H → Qd H) : Turns (Itr lo n) Body H0 Qd := by
  refine ⟨fun i m H => m = n - i ∧ i ≤ n ∧ Pv i H, ⟨n, by simp, Nat.zero_le _, h0⟩, ?_⟩
  rintro i m H ⟨rfl, hi, p⟩
  by_cases hlt : i < n
  · refine .inr ⟨hlt, Pv (i + 1), fun H' p' => ⟨n - (i + 1), by omega, rfl, hlt, p'⟩, fun x H' y => ?_⟩
    obtain ⟨rfl, rfl⟩ := y
    exact hs i _ hlt p
  · have e : i = n := by omega
    subst e
    exact .inl ⟨Nat.le_refl _, hd H p⟩

/-! ## [e for x in us if t], index by index -/
theorem w_lcIx {K : PySem.W.Frag} {σ : L2.St} {H : Hp} {Q : VK} {tl : TE} {te : TE} {tt : TT} {j : Nat} {vs : List Nat} {a : Addr} {us : List V} (f : Nat → Option V) (hx : SqL K H a us) (hz : us.length ≤ 1000000)
    (htl : ∀ Q : VK, Q (.ref a) H → tl σ H Q) (hw : ∀ v, wipe ((wipe σ vs).set j (some v)) vs = wipe σ vs)
    (he : ∀ (i : Nat) (u : V) (H' : Hp) (Nx : Hp → Prop) (Ap : VK), us[i]? = some u → Same H H' → (f i = none → ∀ H2, Same H' H2 → Nx H2) → (∀ y, f i = some y → ∀ H2, Same H' H2 → Ap y H2) → tt ((wipe σ vs).set j (some u)) H' fun b H2 => if b = true then te ((wipe σ vs).set j (some u)) H2 Ap else Nx H2)
    (hq : ∀ D acc H', Hs H [(D, .lst acc)] H' → acc = (List.range us.length).filterMap f → Q (.ref D) H') : tLc (iList K tl) (gName j) tt te vs σ H Q := by
  refine w_lcLR (htl _ (w_listR hx fun D hD => ?_))
  refine turns_list (Body := LcBody (gName j) tt te vs σ D) (fun i H' => ∃ acc, Hs H [(D, .lst acc)] H' ∧ acc = (List.range i).filterMap f) ⟨[], (Hs.start H).new hD, rfl⟩ (fun i H' _ ⟨_, h, _⟩ => h.same.seq hx) ?_ ?_
  · rintro i u H' hu ⟨acc, h1, rfl⟩
    have hi := (List.getElem?_eq_some_iff.mp hu).1
    have hst : (List.range (i + 1)).filterMap f = (List.range i).filterMap f ++ (f i).toList := by
      have e1 : List.filterMap f [i] = (f i).toList := by
        rw [List.filterMap_cons]
        cases f i with
        | none => rfl
        | some y => rfl
      rw [List.range_succ, List.filterMap_append, e1]
    refine w_name ⟨hw _, he i u H' _ _ hu h1.same (fun hn H2 s2 => ?_) fun y hy H2 s2 => ?_⟩
    · refine ⟨_, h1.keep s2, ?_⟩
      rw [hst, hn]
      exact (List.append_nil _).symm
    · have hl : ((List.range i).filterMap f).length ≤ i := by
        refine Nat.le_trans (List.length_filterMap_le _ _) ?_
        rw [List.length_range]
        exact Nat.le_refl _
      refine ⟨_, s2 _ _ h1.g0, szl (by omega), _, (h1.keep s2).p0 _, ?_⟩
      rw [hst, hy]
      rfl
  · rintro H' ⟨acc, h1, h2⟩
    exact hq D acc H' h1 h2
/-- a part of the rows -/
theorem row_filter {α : Type} {R : V → α → Prop} {us : List V} {xs : List α} (r : Row R us xs) (q : α → Bool) (f : Nat → Option V) (hf : ∀ i x u, us[i]? = some u → xs[i]? = some x → f i = if q x = true then some u else none) : Row R ((List.range us.length).filterMap f) (xs.filter q) := by
  have key : ∀ n, n ≤ us.length → Row R ((List.range n).filterMap f) ((xs.take n).filter q) := fun n => by
    induction n with
    | zero => exact fun _ => Row.nil
    | succ n ih =>
      intro hn
      have hu : us[n]? = some (us[n]'(by omega)) := List.getElem?_eq_getElem _
      have hx : xs[n]? = some (xs[n]'(by have := r.1; omega)) := List.getElem?_eq_getElem _
      generalize us[n]'(by omega) = u at hu
      generalize xs[n]'(by have := r.1; omega) = x at hx
      rw [List.range_succ, List.filterMap_append, List.take_add_one, hx, List.filter_append]
      have e1 : List.filterMap f [n] = (f n).toList := by
        rw [List.filterMap_cons]
        cases f n with
        | none => rfl
        | some y => rfl
      have e2 : List.filter q (some x).toList = if q x = true then [x] else [] := by
        show List.filter q [x] = _
        rw [List.filter_cons]
        rfl
      rw [e1, e2, hf n x u hu hx]
      by_cases h : q x = true
      · rw [if_pos h, if_pos h]
        exact (ih (by omega)).snoc (r.2 n u x hu hx)
      · rw [if_neg h, if_neg h]
        show Row R (_ ++ []) (_ ++ [])
        rw [List.append_nil, List.append_nil]
        exact ih (by omega)
  have := key us.length (Nat.le_refl _)
  rw [r.1, List.take_length, ← r.1] at this
  exact this
end Hb

set_option Elab.async false
set_option linter.all false
set_option maxRecDepth 100000
set_option maxHeartbeats 4000000
/-! len(set(xs)) of tuples of ints, comprehensions with two fors -/
namespace Hb
open PySem PySem.Spec L2 PyProof.Rows
def tLenSetT (K : PySem.W.Frag) (ta : TE) : TE := fun σ H Q => ta σ H fun x H1 => ∃ (l : Addr) (ks : List (Addr × List Int)), x = V.ref l ∧ SqL K H1 l (ks.map fun p => V.ref p.1) ∧ (∀ p ∈ ks, SqT K H1 p.1 (p.2.map V.int)) ∧ ks.length < 64 ∧
  ∀ L : List (List Int), L.Nodup → (∀ x, x ∈ L ↔ x ∈ ks.map (·.2)) → Q (.int L.length) H1
section
variable {X : Cx}
theorem pe_lenSetT {a : Expr} {ta : TE} {p p2 q pos : Pos} {K : PySem.W.Frag} (hc : X.calm = true) (hu : X.A.units + 64 < cLine) (hg : Gl X "len") (hm : X.mg "len" = none) (hg2 : Gl X "set") (hm2 : X.mg "set" = none) (ha : PE X a ta)
    (na : starEach [a] X.env = (false, eval a X.env) :: starEach [] X.env := by rfl) (hK : X.K = K := by rfl) : PE X (.Call (.Name "len" p) [.Call (.Name "set" p2) [a] [] q] [] pos) (tLenSetT K ta) := by
  subst hK
  refine ⟨fun pins s σ H Q I h => ?_⟩
  refine Call_ (ld_blt I hg hm PySem.boot_len ?_)
  refine PyProof.Rows.callWith_builtin1 (PyProof.Rows.args_cons ?_ rfl) rfl rfl
  refine Call_ (ld_blt I hg2 hm2 PyProof.Rows.boot_set ?_)
  refine PyProof.Rows.callWith_type1 (PyProof.Rows.args_cons (thn (ha.run pins s σ H _ I h) fun v s1 ⟨x, H1, I1, r1, q1⟩ => PyProof.Rows.args_nil ?_) na) na rfl
  obtain ⟨l, ks, rfl, hq, hk, h1, q1⟩ := q1
  cases r1
  obtain ⟨its, rv, pl, hz⟩ := I1.list hq
  refine call_set_tups (P := X.prog) (w := X.w) ks (I1.ok.hd hc) pl.isList (by simpa using refs_of_vals rv) (fun p hp => I1.isT (hk p hp)) h1 (by omega) fun h' tk L es ep t R g hkk => ?_
  refine PyProof.Rows.args_nil ?_
  have I2 : Inv X pins σ H1 { s1 with heap := h', toks := tk } := I1.kept fun b o e => hkk b o e
  obtain ⟨o, ho, hex, hd⟩ := R.ob
  have hz2 : es.size = L.length := SetTR.size (s := { s1 with heap := h', toks := tk }) R
  refine call_len_set ho hex hd (SetTR.fits (s := { s1 with heap := h', toks := tk }) R) (by have := R.few; omega) ⟨.int (L.map (·.2)).length, H1, I2.tok _, ⟨_, by rw [hz2, List.length_map]⟩, q1 _ R.nd fun x => ⟨fun hx => ?_, fun hx => ?_⟩⟩
  · obtain ⟨p, hp, rfl⟩ := List.mem_map.mp hx
    exact List.mem_map.mpr ⟨p, List.mem_of_mem_take (g.sub p hp), rfl⟩
  · obtain ⟨p, hp, rfl⟩ := List.mem_map.mp hx
    exact g.all p (by rw [List.take_length]; exact hp)
end
/-! ### [v for t in ts for v in t if ..] -/
theorem turns_tup {K : PySem.W.Frag} {a : Addr} {xs : List V} {H0 : Hp} {Qd : Hp → Prop} {Body : (Hp → Prop) → V → Hp → Prop} (Pv : Nat → Hp → Prop) (h0 : Pv 0 H0) (hl : ∀ i H, i ≤ xs.length → Pv i H → SqT K H a xs) (hs : ∀ i x H, xs[i]? = some x → Pv i H → Body (Pv (i + 1)) x H) (hd : ∀ H, Pv xs.length H → Qd H) : Turns (Itt K a) Body H0 Qd := by
  refine ⟨fun i m H => m = xs.length - i ∧ i ≤ xs.length ∧ Pv i H, ⟨xs.length, by simp, Nat.zero_le _, h0⟩, ?_⟩
  rintro i m H ⟨rfl, hi, p⟩
  have q := hl i H hi p
  by_cases hlt : i < xs.length
  · refine .inr ⟨⟨xs, xs[i], q, by simp [hlt]⟩, Pv (i + 1), fun H' p' => ⟨xs.length - (i + 1), by omega, rfl, hlt, p'⟩, fun x H' y => ?_⟩
    obtain ⟨e, y⟩ := y
    subst e
    exact hs i x _ (y xs q) p
  · have e : i = xs.length := by omega
    subst e
    exact .inl ⟨⟨xs, q, Nat.le_refl _⟩, hd H p⟩
def Lc2In (g1 : TG) (tt1 : TT) (te : TE) (vs1 : List Nat) (σ2 : L2.St) (D : Addr) (Nx1 : Hp → Prop) (x : V) (H : Hp) : Prop := g1 x (wipe σ2 vs1) H fun σ3 H5 => wipe σ3 vs1 = wipe σ2 vs1 ∧ tt1 σ3 H5 fun b H6 =>
  if b = true then te σ3 H6 fun y H7 => ∃ acc, H7 D = some (.lst acc) ∧ acc.length < sizeLine ∧ Nx1 (upd H7 D (.lst (acc ++ [y]))) else Nx1 H6
def Lc2Out (g : TG) (tt : TT) (wi1 : TI) (g1 : TG) (tt1 : TT) (te : TE) (vs vs1 : List Nat) (σ : L2.St) (D : Addr) (Nx : Hp → Prop) (x : V) (H : Hp) : Prop := g x (wipe σ vs) H fun σ2 H2 => wipe σ2 vs = wipe σ vs ∧ tt σ2 H2 fun b H3 =>
  if b = true then wi1 σ2 H3 fun J1 H4 => Turns J1 (Lc2In g1 tt1 te vs1 σ2 D) H4 Nx else Nx H3
theorem w_lc2R {K : PySem.W.Frag} {σ : L2.St} {H : Hp} {Q : VK} {tl : TE} {g : TG} {tt : TT} {wi1 : TI} {g1 : TG} {tt1 : TT} {te : TE} {vs vs1 : List Nat} (q : tl σ H fun x H1 => ListR K x H1 fun J H1 => ∀ D, H1 D = none → Turns J (Lc2Out g tt wi1 g1 tt1 te vs vs1 σ D) (upd H1 D (.lst [])) fun H => Q (.ref D) H) : tLc2 (iList K tl) g tt wi1 g1 tt1 te vs vs1 σ H Q := q
/-- the rows are tuples; what is kept of them, in order -/
theorem w_lc2T {K : PySem.W.Frag} {σ : L2.St} {H : Hp} {Q : VK} {tl tm : TE} {tt1 : TT} {te : TE} {j j1 : Nat} {vs vs1 : List Nat} {a : Addr} {us : List V} (it : Nat → List V) (keep : Nat → Nat → Bool) (hx : SqL K H a us) (hz : us.length ≤ 100000) (h2 : ∀ i, (it i).length ≤ 10)
    (hu : ∀ (i : Nat) (u : V), us[i]? = some u → ∃ p, u = .ref p ∧ H p = some (.tup (it i)))
    (htl : ∀ Q : VK, Q (.ref a) H → tl σ H Q) (hw : ∀ v, wipe ((wipe σ vs).set j (some v)) vs = wipe σ vs)
    (htm : ∀ (v : V) (H' : Hp) (Q' : VK), Q' v H' → tm ((wipe σ vs).set j (some v)) H' Q')
    (hw1 : ∀ u v, wipe ((wipe ((wipe σ vs).set j (some u)) vs1).set j1 (some v)) vs1 = wipe ((wipe σ vs).set j (some u)) vs1)
    (he : ∀ (i k : Nat) (p : Addr) (v : V) (H' : Hp) (Nx : Hp → Prop) (Ap : VK), us[i]? = some (.ref p) → (it i)[k]? = some v → Same H H' → (keep i k = false → ∀ H2, Same H' H2 → Nx H2) → (keep i k = true → ∀ H2, Same H' H2 → Ap v H2) →
      tt1 ((wipe ((wipe σ vs).set j (some (.ref p))) vs1).set j1 (some v)) H' fun b H2 => if b = true then te ((wipe ((wipe σ vs).set j (some (.ref p))) vs1).set j1 (some v)) H2 Ap else Nx H2)
    (hq : ∀ D acc H', Hs H [(D, .lst acc)] H' → acc = (List.range us.length).flatMap (fun i => (List.range (it i).length).filterMap fun k => if keep i k = true then (it i)[k]? else none) → Q (.ref D) H') :
    tLc2 (iList K tl) (gName j) tYes (iTup K tm) (gName j1) tt1 te vs vs1 σ H Q := by
  refine w_lc2R (htl _ (w_listR hx fun D hD => ?_))
  let row : Nat → Nat → List V := fun i n => (List.range n).filterMap fun k => if keep i k = true then (it i)[k]? else none
  let done : Nat → List V := fun n => (List.range n).flatMap fun i => row i (it i).length
  have rowz : ∀ i n, (row i n).length ≤ n := fun i n => by
    refine Nat.le_trans (List.length_filterMap_le _ _) ?_
    rw [List.length_range]
    exact Nat.le_refl _
  have donez : ∀ n, (done n).length ≤ n * 10 := fun n => by
    induction n with
    | zero => exact Nat.le_refl _
    | succ n ih =>
      show ((List.range (n + 1)).flatMap fun i => row i (it i).length).length ≤ _
      rw [List.range_succ, List.flatMap_append, List.length_append]
      have h1 := rowz n (it n).length
      have h3 := h2 n
      have h4 : ([n].flatMap fun i => row i (it i).length).length = (row n (it n).length).length := by simp
      rw [h4]
      have : (List.flatMap (fun i => row i (it i).length) (List.range n)).length ≤ n * 10 := ih
      omega
  refine turns_list (Body := Lc2Out (gName j) tYes (iTup K tm) (gName j1) tt1 te vs vs1 σ D) (fun i H' => Hs H [(D, .lst (done i))] H') ((Hs.start H).new hD) (fun i H' _ h => h.same.seq hx) ?_ ?_
  · intro i u H' hui hs
    obtain ⟨p, rfl, hp⟩ := hu i u hui
    have hi := (List.getElem?_eq_some_iff.mp hui).1
    refine w_name ⟨hw _, w_yes (iteT (htm _ _ _ ⟨p, rfl, ⟨_, SqT.of (hs.same _ _ hp)⟩, ?_⟩))⟩
    refine turns_tup (xs := it i) (Body := Lc2In (gName j1) tt1 te vs1 _ D) (fun k H2 => Hs H [(D, .lst (done i ++ row i k))] H2) ?_ (fun k H2 _ h => SqT.of (h.same _ _ hp)) ?_ ?_
    · show Hs H [(D, .lst (done i ++ []))] H'
      rw [List.append_nil]
      exact hs
    · intro k v H2 hv hs2
      have hst : row i (k + 1) = row i k ++ (if keep i k = true then [v] else []) := by
        show (List.range (k + 1)).filterMap _ = _
        rw [List.range_succ, List.filterMap_append]
        congr 1
        rw [List.filterMap_cons, hv]
        cases keep i k with
        | true => rfl
        | false => rfl
      refine w_name ⟨hw1 _ _, he i k p v H2 _ _ hui hv hs2.same (fun hn H3 s3 => ?_) fun hy H3 s3 => ?_⟩
      · rw [hst, hn]
        simp only [Bool.false_eq_true, if_false, List.append_nil]
        exact hs2.keep s3
      · have z1 := donez i
        have z2 := rowz i k
        have z3 := h2 i
        have z4 := (List.getElem?_eq_some_iff.mp hv).1
        refine ⟨_, s3 _ _ hs2.g0, szl (by rw [List.length_append]; omega), ?_⟩
        rw [hst, hy]
        simp only [if_true]
        rw [← List.append_assoc]
        exact (hs2.keep s3).p0 _
    · intro H2 hs2
      have : done (i + 1) = done i ++ row i (it i).length := by
        show (List.range (i + 1)).flatMap _ = _
        rw [List.range_succ, List.flatMap_append]
        simp [done]
      show Hs H [(D, .lst (done (i + 1)))] H2
      rw [this]
      exact hs2
  · intro H' hs
    exact hq D _ H' hs rfl
end Hb

set_option Elab.async false
set_option linter.all false
set_option maxRecDepth 100000
set_option maxHeartbeats 4000000
/-! for over a tuple; a number in a list of numbers -/
namespace Hb
open PySem PySem.Spec L2 PyProof.Rows
section
variable {K : PySem.W.Frag} {σ : L2.St} {H : Hp} {Q : VK} {D : Ends} {g : TG} {tb : TS}
def TupR (K : PySem.W.Frag) (x : V) (H1 : Hp) (R : It → Hp → Prop) : Prop := ∃ a, x = V.ref a ∧ (∃ xs, SqT K H1 a xs) ∧ R (Itt K a) H1
theorem w_forTF {tl : TE} (q : tl σ H fun x H1 => TupR K x H1 (ForR g tb D σ)) : tFor (iTup K tl) g tb D σ H := q
theorem w_tupR {a : Addr} {xs : List V} {R : It → Hp → Prop} (h : SqT K H a xs) (q : R (Itt K a) H) : TupR K (.ref a) H R := ⟨a, rfl, ⟨xs, h⟩, q⟩
theorem for_tupR {a : Addr} {xs : List V} (Pv : Nat → L2.St → Hp → Prop) (h0 : Pv 0 σ H) (hl : ∀ i σ H, i ≤ xs.length → Pv i σ H → SqT K H a xs)
    (hs : ∀ i x σ H, xs[i]? = some x → Pv i σ H → g x σ H fun σ2 H2 => tb { D with nx := Pv (i + 1), ct := Pv (i + 1), bk := D.nx } σ2 H2) (hd : ∀ σ H, Pv xs.length σ H → D.nx σ H) : ForR g tb D σ (Itt K a) H := by
  refine ⟨fun i m σ H => m = xs.length - i ∧ i ≤ xs.length ∧ Pv i σ H, ⟨xs.length, by simp, Nat.zero_le _, h0⟩, ?_⟩
  rintro i m σ' H' ⟨rfl, hi, p⟩
  have q := hl i σ' H' hi p
  by_cases hlt : i < xs.length
  · refine .inr ⟨⟨xs, xs[i], q, List.getElem?_eq_getElem hlt⟩, Pv (i + 1), fun σ2 H2 p2 => ⟨xs.length - (i + 1), by omega, rfl, hlt, p2⟩, fun v H2 y => ?_⟩
    obtain ⟨rfl, y⟩ := y
    exact hs i v _ _ (y xs q) p
  · have e : i = xs.length := by omega
    subst e
    exact .inl ⟨⟨xs, q, Nat.le_refl _⟩, hd σ' H' p⟩
theorem inV_ints {n : Int} : ∀ ns : List Int, inV (.int n) (ns.map V.int) = decide (n ∈ ns)
  | [] => rfl
  | m :: ns => by
    have ih := inV_ints (n := n) ns
    unfold inV at ih ⊢
    rw [List.map_cons, List.any_cons, ih]
    have e : eqV (.int m) (.int n) = decide (n = m) := by
      by_cases h : m = n
      · subst h
        simp [eqV]
      · rw [decide_eq_false (Ne.symm h)]
        simp [eqV, h]
    rw [e]
    simp
theorem flat_ints : ∀ ns : List Int, (ns.map V.int).all flatV = true
  | [] => rfl
  | _ :: ns => by
    rw [List.map_cons, List.all_cons, flat_ints ns]
    rfl
theorem w_inIs {neg : Bool} {n : Int} {ns : List Int} {p : Addr} (h : SqL K H p (ns.map V.int)) (q : Q (.bl (if neg then !decide (n ∈ ns) else decide (n ∈ ns))) H) : rIn K neg (.int n) (.ref p) H Q := by
  refine ⟨p, _, rfl, .inl h, rfl, flat_ints ns, ?_⟩
  rw [inV_ints]
  exact q
theorem Hs.down {B B1 H : Hp} {L : List (Addr × HO)} (e : Same B B1) (hs : Hs B1 L H) : Hs B L H := ⟨e.trans hs.same, hs.nd, fun x hx => e.free (hs.out x hx), hs.at_⟩
theorem Hs.tups {B H : Hp} {L : List (Addr × HO)} (hs : Hs B L H) : ∀ p xs, B p = some (.tup xs) → H p = some (.tup xs) := fun _ _ => hs.same _ _
/-- what stands, owned for a while -/
theorem Hs.own {H : Hp} {d : Addr} {o : HO} (h : H d = some o) : ∃ B, Hs B [(d, o)] H ∧ (∀ p o', p ≠ d → H p = some o' → B p = some o') ∧ ∀ L H', Hs B (L ++ [(d, o)]) H' → Hs H L H' := by
  refine ⟨fun a => if a = d then none else H a, ⟨fun b o' hb => ?_, by simp, fun x hx => ?_, fun x hx => ?_⟩, fun p o' hp e => ?_, fun L H' hs => ⟨fun b o' hb => ?_, ?_, fun x hx => ?_, fun x hx => hs.at_ x (List.mem_append_left _ hx)⟩⟩
  · by_cases hd : b = d
    · rw [if_pos hd] at hb
      cases hb
    · rwa [if_neg hd] at hb
  · rw [List.mem_singleton.mp hx]
    exact if_pos rfl
  · rw [List.mem_singleton.mp hx]
    exact h
  · exact (if_neg hp).trans e
  · by_cases hd : b = d
    · subst hd
      rw [h] at hb
      cases hb
      exact hs.at_ (b, o) (List.mem_append_right _ (List.mem_singleton.mpr rfl))
    · exact hs.same b o' (by rw [if_neg hd]; exact hb)
  · have := hs.nd
    rw [List.map_append] at this
    exact (List.nodup_append.mp this).1
  · have h1 := hs.out x (List.mem_append_left _ hx)
    have h2 := hs.nd
    rw [List.map_append, List.nodup_append] at h2
    have h3 : x.1 ≠ d := fun e => h2.2.2 x.1 (List.mem_map_of_mem hx) d (by simp) e
    rwa [if_neg h3] at h1
/-! a dict read while it is walked -/
theorem w_dgetF {p : Addr} {kvs : List (Key × V)} {n : Int} {v : V} {od : Obj} (h : H p = some (.frz od (.dK kvs))) (hv : valV kvs (Sum.inl n) = some v) (q : Q v H) : RDget (.ref p) (.int n) H Q := ⟨p, v, rfl, .inl ⟨kvs, Sum.inl n, .inr ⟨od, h⟩, rfl, hv.symm⟩, q⟩
theorem w_ext2 {B : Hp} {L : List (Addr × HO)} {l b : Addr} {xs zs : List V} (hs : Hs B ((b, .lst zs) :: (l, .lst xs) :: L) H) (hl : xs.length + zs.length ≤ 1000000) (q : ∀ H', Hs B ((l, .lst (xs ++ zs)) :: L) H' → Q .non H') : rExtend (.ref l) [.ref b] H Q :=
  ⟨l, b, xs, zs, rfl, rfl, hs.g1, hs.g0, Nat.le_of_lt (szl (by omega)), q _ (hs.p1 _).tl⟩
theorem w_listDK {B : Hp} {L : List (Addr × HO)} {d : Addr} {kvs : List (Key × V)} (hs : Hs B L H) (h : H d = some (.dK kvs)) (q : ∀ p H', Hs B ((p, .lst (kvs.map fun kv => kV kv.1)) :: L) H' → Q (.ref p) H') : rListD [.ref d] H Q := ⟨d, kvs, rfl, h, w_new hs q⟩
theorem Hs.allin {B H : Hp} {L : List (Addr × HO)} (hs : Hs B L H) : ∃ B2, Same B B2 ∧ Hs B2 L H ∧ (∀ p o, H p = some o → p ∉ L.map (·.1) → B2 p = some o) := by
  have h := (show Hs B (L ++ []) H by rw [List.append_nil]; exact hs).frame L
  exact ⟨around L H, h.1, h.2.1, fun p o e n => by rw [around_out n]; exact e⟩
/-- a part stays one's own, the others go into the ground -/
theorem Hs.rest {B H : Hp} {R : List (Addr × HO)} (L : List (Addr × HO)) (hs : Hs B (L ++ R) H) : ∃ B2, Same B B2 ∧ Hs B2 L H ∧ ∀ e ∈ R, B2 e.1 = some e.2 := by
  have h := hs.frame L
  refine ⟨around L H, h.1, h.2.1, fun e he => ?_⟩
  have nd := hs.nd
  rw [List.map_append, List.nodup_append] at nd
  rw [around_out fun z => nd.2.2 e.1 z e.1 (List.mem_map_of_mem he) rfl]
  exact hs.at_ e (List.mem_append_right _ he)
/-! what repr shows -/
def IB (n : Int) : Prop := 0 ≤ n ∧ n ≤ 100
structure Sh (D b : Nat) (d : PyData) : Prop where
  lay : d.canLay0 = true
  dep : d.depth ≤ D
  sho : d.showable = true
  blk : d.bulk ≤ b
  lvs : d.leavesShort 13 = true
theorem Sh.mono {D D' b b' : Nat} (h1 : D ≤ D') (h2 : b ≤ b') {d : PyData} (h : Sh D b d) : Sh D' b' d := ⟨h.lay, Nat.le_trans h.dep h1, h.sho, Nat.le_trans h.blk h2, h.lvs⟩
structure ShA (D b : Nat) (xs : List PyData) : Prop where
  lay : PyData.canLayAll0 xs = true
  dep : PyData.depthAll xs ≤ D
  sho : PyData.showableAll xs = true
  blk : PyData.bulkAll xs ≤ b
  lvs : PyData.leavesShortAll 13 xs = true
theorem ShA.nil {D b : Nat} : ShA D b [] := ⟨rfl, Nat.zero_le _, rfl, Nat.zero_le _, rfl⟩
theorem ShA.cons {D b c : Nat} {x : PyData} {xs : List PyData} (h : Sh D b x) (t : ShA D c xs) : ShA D (b + 1 + c) (x :: xs) := by
  have h1 := h.dep
  have h2 := t.dep
  have h3 := h.blk
  have h4 := t.blk
  refine ⟨?_, ?_, ?_, ?_, ?_⟩
  · simp only [PyData.canLayAll0, h.lay, t.lay, Bool.and_self]
  · simp only [PyData.depthAll]
    omega
  · simp only [PyData.showableAll, h.sho, t.sho, Bool.and_self]
  · simp only [PyData.bulkAll]
    omega
  · simp only [PyData.leavesShortAll, h.lvs, t.lvs, Bool.and_self]
theorem ShA.all {D b : Nat} : ∀ {xs : List PyData}, (∀ x ∈ xs, Sh D b x) → ShA D (xs.length * (b + 1)) xs
  | [], _ => ShA.nil
  | x :: xs, h => by
    have := (h x (List.mem_cons_self ..)).dep
    have t := ShA.cons (h x (List.mem_cons_self ..)) (ShA.all fun y hy => h y (List.mem_cons_of_mem _ hy))
    rw [List.length_cons, Nat.add_mul, Nat.one_mul, Nat.add_comm]
    exact t
theorem Sh.tup {D b : Nat} {xs : List PyData} (h : ShA D b xs) : Sh (D + 1) b (.tuple xs) := by
  have := h.dep
  exact ⟨by simp only [PyData.canLay0, h.lay], by simp only [PyData.depth]; omega, by simp only [PyData.showable, h.sho], by simp only [PyData.bulk]; exact h.blk, by simp only [PyData.leavesShort, h.lvs]⟩
theorem Sh.lst {D b : Nat} {xs : List PyData} (h : ShA D b xs) : Sh (D + 1) b (.list xs) := by
  have := h.dep
  exact ⟨by simp only [PyData.canLay0, h.lay], by simp only [PyData.depth]; omega, by simp only [PyData.showable, h.sho], by simp only [PyData.bulk]; exact h.blk, by simp only [PyData.leavesShort, h.lvs]⟩
theorem small_ints : ∀ n : Fin 101, (PyData.int ((n.val : Nat) : Int)).showable = true ∧ (PyData.int ((n.val : Nat) : Int)).leavesShort 13 = true := by decide +kernel
theorem Sh.int {n : Int} (h : IB n) : Sh 0 0 (.int n) := by
  have := small_ints ⟨n.toNat, by have := h.2; omega⟩
  have e : ((n.toNat : Nat) : Int) = n := by have := h.1; omega
  rw [e] at this
  exact ⟨rfl, Nat.le_refl _, this.1, Nat.le_refl _, this.2⟩
theorem Sh.ints {ns : List Int} (h : ∀ x ∈ ns, IB x) : Sh 1 (ns.length * 1) (.tuple (ns.map .int)) := by
  have := Sh.tup (ShA.all (D := 0) (b := 0) (xs := ns.map .int) fun d hd => by
    obtain ⟨x, hx, rfl⟩ := List.mem_map.mp hd
    exact Sh.int (h x hx))
  rw [List.length_map] at this
  exact this
/-! != of two dicts that map alike: the values are data -/
theorem kv_at {ls : List (Key × V)} {vs : List (Key × Value)} (r : KV ls vs) {k : Key} {u : V} (h : valV ls k = some u) : ∃ y, valueAt vs k = some y ∧ RelV u y := by
  induction r with
  | nil => cases h
  | @cons p q ps qs h1 _ ih =>
    unfold valV at h
    rw [List.find?_cons] at h
    unfold valueAt
    rw [List.find?_cons]
    by_cases hk : q.1 = k
    · have e1 : decide (p.1 = k) = true := decide_eq_true (h1.1.trans hk)
      rw [e1] at h
      cases h
      rw [decide_eq_true hk]
      exact ⟨q.2, rfl, h1.2⟩
    · have e1 : decide (p.1 = k) = false := decide_eq_false fun z => hk (h1.1.symm.trans z)
      rw [e1] at h
      rw [decide_eq_false hk]
      exact ih h
def rNeDD (K : PySem.W.Frag) : R2 := fun x y H Q => ∃ (a b : Addr) (ks ls : List (Key × V)), x = .ref a ∧ y = .ref b ∧ H a = some (.dK ks) ∧ H b = some (.dK ls) ∧ ks.length = ls.length ∧ (∀ p ∈ ks, ∃ u d, valV ls p.1 = some u ∧ Dp K H p.2 d ∧ Dp K H u d ∧ SeqAt.shaped d = true) ∧ Q (.bl false) H
theorem op_neDD {X : Cx} (hu : X.A.units + 65 < cLine) (hK : X.K = K := by rfl) : OpR X (compareOp .NotEq) (rNeDD K) := by
  subst hK
  intro pins s σ H x y v u Q I rx ry h
  obtain ⟨a, b, ks, ls, rfl, rfl, ha, hb, hl, hall, q⟩ := h
  cases rx
  cases ry
  obtain ⟨_, na, va, ra, da⟩ := dk_of I.hok ha
  obtain ⟨_, nb, vb, rb, db⟩ := dk_of I.hok hb
  have hits : ∀ {ks : List (Key × V)} {va : List (Key × Value)}, KV ks va → (∀ p ∈ ks, ∃ u d, valV ls p.1 = some u ∧ Dp X.K H p.2 d ∧ Dp X.K H u d ∧ SeqAt.shaped d = true) → PySem.W.KeqHits X.A.in1 s vb va true := fun {ks va} r => by
    induction r with
    | nil => exact fun _ => .nil
    | @cons p z ps zs h1 _ ih =>
      intro hall
      obtain ⟨u, d, h2, h3, h4, h5⟩ := hall p List.mem_cons_self
      obtain ⟨y, hy, ry⟩ := kv_at rb h2
      obtain ⟨as, g1⟩ := Dp.reads I d _ _ h3 h1.2
      obtain ⟨bs, g2⟩ := Dp.reads I d _ _ h4 ry
      have e := PySem.W.keq_at (A := X.A) g1 g2 h5 h5 (by show X.A.units + 1 + 64 < cLine; omega)
      rw [SeqAt.eqv_refl _ (shp_can h5)] at e
      have hz : z = (z.1, z.2) := rfl
      have := PySem.W.KeqHits.hit (k := z.1) (v := z.2) (by rw [← h1.1]; exact hy) e (ih fun p hp => hall p (List.mem_cons_of_mem _ hp))
      exact this
  have len : va.length = vb.length := by
    have h1 := Paired.length ra
    have h2 := Paired.length rb
    omega
  refine PySem.W.keq_ne na nb da db (by omega) (fun _ => hits ra hall) ?_
  have e : (!(va.length == vb.length && true)) = false := by rw [len]; simp
  rw [e]
  exact ⟨.bl false, H, I, rfl, q⟩
/-! two ways to one place -/
theorem w_orD {b1 b2 : Bool} {tb : TE} (h : b1 = false → ∀ R : VK, R (.bl b2) H → tb σ H R) (q : Q (.bl (b1 || b2)) H) : ∃ k, V.bl b1 = .bl k ∧ if k = true then Q (.bl true) H else tb σ H Q := by
  refine ⟨b1, rfl, ?_⟩
  cases b1 with
  | true => exact q
  | false => exact h rfl _ q
theorem join {A G : Prop} (f : A → G) (a : A) : G := f a
/-! [x for x in us if ..], what is told of a row -/
theorem w_lcFR {α : Type} {RR : V → α → Prop} {σ : L2.St} {tl : TE} {a : Addr} {tt : TT} {us : List V} {xs : List α} {i : Nat} (p : α → Bool) (hx : SqL K H a us) (hL : Row RR us xs) (hz : us.length ≤ 1000) (htl : ∀ Q : VK, Q (.ref a) H → tl σ H Q)
    (hw : ∀ x, wipe ((wipe σ [i]).set i (some x)) [i] = wipe σ [i]) (hv : ∀ x, ((wipe σ [i]).set i (some x))[i]? = some (some x))
    (ht : ∀ u x H1, x ∈ xs → RR u x → Same H H1 → ∀ R : Bool → Hp → Prop, (∀ H2, Same H1 H2 → R (p x) H2) → tt ((wipe σ [i]).set i (some u)) H1 R)
    (hq : ∀ D acc H', Hs H [(D, .lst acc)] H' → Row RR acc (xs.filter p) → Q (.ref D) H') : tLc (iList K tl) (gName i) tt (tVar i) [i] σ H Q := by
  refine w_lc hx (fun D j H' => ∃ acc, Hs H [(D, .lst acc)] H' ∧ Row RR acc ((xs.take j).filter p)) htl (fun D hD => ⟨[], (Hs.start H).new hD, Row.nil⟩) (fun D j H' _ ⟨_, h, _⟩ => h.same.seq hx) ?_ ?_
  · rintro D j u H' hj ⟨acc, h1, h2⟩
    obtain ⟨x, hxj, hk⟩ := hL.get hj
    refine ⟨hw _, ht u x H' (List.mem_of_getElem? hxj) hk h1.same _ fun H2 sb => ?_⟩
    have hlen := h2.1
    have hj2 := (List.getElem?_eq_some_iff.mp hj).1
    have h3 : Hs H [(D, .lst acc)] H2 := h1.keep sb
    have e1 := take_filter (p := p) hxj
    by_cases hp : p x = true
    · rw [if_pos hp]
      rw [if_pos hp] at e1
      refine ⟨_, hv _, acc, h3.g0, ?_, acc ++ [u], h3.p0 _, ?_⟩
      · refine szl ?_
        have := List.length_filter_le p (xs.take j)
        rw [List.length_take] at this
        omega
      · rw [e1]
        exact h2.snoc hk
    · rw [if_neg hp]
      rw [if_neg hp, List.append_nil] at e1
      refine ⟨acc, h3, ?_⟩
      rw [e1]
      exact h2
  · rintro D H' ⟨acc, h1, h2⟩
    rw [hL.1, List.take_length] at h2
    exact hq D acc H' h1 h2
theorem op_niDT {X : Cx} (hu : X.A.units + 65 < cLine) (hK : X.K = K := by rfl) : OpR X (compareOp .NotIn) (rInDT K true) := by
  subst hK
  intro pins s σ H x y v u Q I rx ry h
  obtain ⟨d, ds, hd, he, sd, se, q⟩ := h
  obtain ⟨as, r1⟩ := Dp.reads I d x v hd rx
  obtain ⟨bs, r2⟩ := Dp.reads I (.tuple ds) y u he ry
  exact SeqAt.notIn_tuple_reads r2 r1 (SeqAt.canLay_of_shaped se) (SeqAt.canLay_of_shaped sd) (room_in_shaped sd hu) ⟨.bl _, H, I, rfl, q⟩
theorem w_isTu {p : Addr} {xs : List V} (h : H p = some (.tup xs)) (k : Q (.bl true) H) : rIsi K [.ref p, .ty "tuple"] H Q :=
  ⟨_, _, _, _, true, rfl, .ty "tuple", .base (.tup h), kit_ty (by decide +kernel), k⟩
theorem w_notBl {a b : Bool} (q : Q (.bl (!decide (a = b))) H) : rNotB (.bl a) (.bl b) H Q := ⟨a, b, rfl, rfl, q⟩
/-! one tuple of ints > another one -/
def rGtT : R2 := fun x y H Q => ∃ (a b : Addr) (ns ms : List Int), x = .ref a ∧ y = .ref b ∧ H a = some (.tup (ns.map V.int)) ∧ H b = some (.tup (ms.map V.int)) ∧ ns.length = ms.length ∧ Q (.bl (lexI ms ns)) H
theorem op_gtT {X : Cx} (hu : X.A.units + 64 < cLine) : OpR X (compareOp .Gt) rGtT := by
  intro pins s σ H x y v u Q I rx ry h
  obtain ⟨a, b, ns, ms, rfl, rfl, ha, hb, hl, q⟩ := h
  obtain ⟨as, r1⟩ := Dp.reads I (.tuple (ns.map .int)) _ _ (.tup (SqT.of ha) (im_ints ns).dp) rx
  obtain ⟨bs, r2⟩ := Dp.reads I (.tuple (ms.map .int)) _ _ (.tup (SqT.of hb) (im_ints ms).dp) ry
  refine PySem.W.gt_data r1 r2 (alike_ints hl) (by intro z; cases z) ?_ ⟨.bl (lexI ms ns), H, I, ?_, q⟩
  · have h1 := depth_ints ns
    have h2 := depth_ints ms
    simp only [PyData.depth]
    omega
  · rw [dataLt_ints]
    rfl
theorem w_gtT {a b : Addr} {ns ms : List Int} (ha : H a = some (.tup (ns.map V.int))) (hb : H b = some (.tup (ms.map V.int))) (hl : ns.length = ms.length) (q : Q (.bl (lexI ms ns)) H) : rGtT (.ref a) (.ref b) H Q := ⟨a, b, ns, ms, rfl, rfl, ha, hb, hl, q⟩
/-! a comprehension within another one's block -/
theorem look_rel {env : Env} {n : Str} : ∀ {l : List (Str × NameKind)} {k : NameKind}, l.lookup n = some k → k = .cell ∨ k = .free →
    (l.map fun x => match x with
      | (n, k) => if (k == NameKind.free && env.scope.kind == ScopeKind.function && env.kindOf n == some NameKind.cell) = true then (n, NameKind.cell) else (n, k)).lookup n = some .cell ∨
    (l.map fun x => match x with
      | (n, k) => if (k == NameKind.free && env.scope.kind == ScopeKind.function && env.kindOf n == some NameKind.cell) = true then (n, NameKind.cell) else (n, k)).lookup n = some .free
  | [], _, h, _ => nomatch h
  | (m, j) :: l, k, h, hk => by
    rw [List.lookup_cons] at h
    rw [List.map_cons]
    by_cases hm : n = m
    · subst hm
      have e : (n == n) = true := by simp
      rw [e] at h
      cases h
      by_cases hc : (j == NameKind.free && env.scope.kind == ScopeKind.function && env.kindOf n == some NameKind.cell) = true
      · left
        show List.lookup n ((if _ then _ else _) :: _) = _
        rw [if_pos hc, List.lookup_cons, e]
      · rcases hk with rfl | rfl
        · left
          show List.lookup n ((if _ then _ else _) :: _) = _
          rw [if_neg hc, List.lookup_cons, e]
        · right
          show List.lookup n ((if _ then _ else _) :: _) = _
          rw [if_neg hc, List.lookup_cons, e]
    · have e : (n == m) = false := by simpa using hm
      rw [e] at h
      have ih := look_rel (env := env) (l := l) h hk
      by_cases hc : (j == NameKind.free && env.scope.kind == ScopeKind.function && env.kindOf m == some NameKind.cell) = true
      · show List.lookup n ((if _ then _ else _) :: _) = _ ∨ List.lookup n ((if _ then _ else _) :: _) = _
        rw [if_pos hc, List.lookup_cons, e]
        exact ih
      · show List.lookup n ((if _ then _ else _) :: _) = _ ∨ List.lookup n ((if _ then _ else _) :: _) = _
        rw [if_neg hc, List.lookup_cons, e]
        exact ih
theorem blkOk_in {N : List Str} {scO scope : Scope} {own : List (Str × Nat)} {env : Env} {cl : List (Str × Addr)} {C : Addr} (h : blkC N scO scope own = true) : BlkOk N (Env.scope (compEnvC scO cl C env)) scope own := by
  have b : BlkOk N scO scope own := blkOk_by h
  exact ⟨b.kind, b.uniq, b.ix, fun y hy hk => (b.free y hy hk).elim (fun z => look_rel z (.inl rfl)) (fun z => look_rel z (.inr rfl)), b.own⟩
/-! xs[::-1] -/
theorem pe_revLK {X : Cx} {e : Expr} {te : TE} {k p1 p2 p3 pos} (he : PE X e te) (hK : X.K = K := by rfl) : PE X (.Subscript e (.Slice none none (some (.UnaryOp .USub (.Constant (.int 1) k p1) p2)) p3) pos) (tRevL K te) := by
  subst hK
  exact pe_revL he
def RevR (K : PySem.W.Frag) (x : V) (H1 : Hp) (Q : VK) : Prop := ∃ a xs, x = .ref a ∧ SqL K H1 a xs ∧ ∀ p, H1 p = none → Q (.ref p) (upd H1 p (.lst xs.reverse))
theorem w_revL {te : TE} (q : te σ H fun x H1 => RevR K x H1 Q) : tRevL K te σ H Q := q
theorem w_revR {B : Hp} {L : List (Addr × HO)} {a : Addr} {xs : List V} (hs : Hs B L H) (h : SqL K H a xs) (q : ∀ l H', Hs B ((l, .lst xs.reverse) :: L) H' → Q (.ref l) H') : RevR K (.ref a) H Q := ⟨a, xs, rfl, h, w_new hs q⟩
end
end Hb

set_option Elab.async false
set_option linter.all false
set_option maxRecDepth 100000
set_option maxHeartbeats 4000000
/-! Walks over dicts with tuple keys. -/
namespace Hb
open PySem L2 PyProof.Rows
/-- the keys' tuples of the locked dict at d, in its order -/
def Itn (w : World) (d : Addr) (o : Obj) (es : List Ent) : It :=
  ⟨fun i H => H d = some (.frz o (DN w d es)) ∧ i < es.length, fun i H x H' => H' = H ∧ ∃ e : Ent, es[i]? = some e ∧ x = .ref e.2.1, fun i H => H d = some (.frz o (DN w d es)) ∧ es.length ≤ i⟩
theorem dn_raw {X : Cx} {pins : List (Addr × Obj)} {σ : L2.St} {H : Hp} {s : Shared} {w : World} {d : Addr} {o : Obj} {es : List Ent} (I : Inv X pins σ H s) (h : H d = some (.frz o (DN w d es))) :
    (d == sysModules) = false ∧ s.heap.get? d = some o ∧ o.ExactDict ∧ ∃ (ds : Array DictEntry) (ep : Nat), o.data = .dict ds ep ∧ ds.size = es.length ∧ ∀ (i : Nat) (e : Ent), es[i]? = some e → ∃ en : DictEntry, ds[i]? = some en ∧ en.key = .ref e.2.1 := by
  obtain ⟨hd, ⟨_, hs, xs, r, o', ds, ep, ho, hx, hdt, he, _⟩, _⟩ := (show ObjOk X.prog X.w H s.heap d (.frz o (DN w d es)) from I.hok _ _ h)
  rw [hd] at ho
  cases ho
  have l1 : ds.size = xs.length := by rw [← Array.length_toList, he, List.length_map]
  refine ⟨hs, hd, hx, ds, ep, hdt, by rw [l1, r.len], fun i e hi => ?_⟩
  obtain ⟨b, hb, _, e2, _⟩ := paired_get r hi
  refine ⟨entN w b, ?_, congrArg Value.ref e2.symm⟩
  rw [← Array.getElem?_toList, he, List.getElem?_map, hb]
  rfl
section
variable {P : Program} {w : World} {K : PySem.W.Frag} {tg : Expr} {d : Addr} {o : Obj} {ds : Array DictEntry} {ep : Nat}
theorem turn_keysN {w0 : World} {es : List Ent} (it : Addr) (hod : o.data = .dict ds ep) : Turn P w K tg (Itn w0 d o es) [it] it (fun i h => h.IsKeyIter it d i es.length ep) where
  mem := List.mem_singleton.mpr rfl
  obj := fun i h st b hb => by
    obtain rfl := List.mem_singleton.mp hb
    obtain ⟨oi, e, c, dd⟩ := st
    exact ⟨oi, e, fun v z => by rw [dd] at z; cases z⟩
  keep := fun i h h' st k => st.at fun oi e => k it (List.mem_singleton.mpr rfl) oi e
  item := by
    intro X hP hw hK hc i pins s σ H E I hf st hg
    subst hP hw hK
    obtain ⟨hd, hi⟩ := hg
    obtain ⟨f0, f1, f2, f3, f4, f5⟩ := hf it (List.mem_singleton.mpr rfl)
    obtain ⟨hs, hgd, hx, ds', ep', hdt, hsz, ent⟩ := dn_raw I hd
    obtain ⟨rfl, rfl⟩ := dict_ep hod hdt
    obtain ⟨en, hen, hkey⟩ := ent i es[i] (List.getElem?_eq_getElem hi)
    refine next_key_item st hgd hdt hsz hen fun h' st' sb => ?_
    have I1 : Inv X pins σ H { s with heap := h' } := I.turned (t' := s.toks) (fun b ob hb e => (sb.2 b hb).trans e) f0 f1 f3 f4 f5
    obtain ⟨oi, e, c, dd⟩ := id st'
    exact ⟨en.key, rfl, go_of (s := { s with heap := h' }) e c dd (by decide) ⟨.ref es[i].2.1, H, I1, hkey, ⟨rfl, es[i], List.getElem?_eq_getElem hi, rfl⟩, st', fun b hb => (hf b hb).1⟩⟩
  done := by
    intro X hP hw hK hc i pins s σ H E I hf st hg
    subst hP hw hK
    obtain ⟨hd, hi⟩ := hg
    obtain ⟨f0, f1, f2, f3, f4, f5⟩ := hf it (List.mem_singleton.mpr rfl)
    obtain ⟨hs, hgd, hx, ds', ep', hdt, hsz, ent⟩ := dn_raw I hd
    obtain ⟨rfl, rfl⟩ := dict_ep hod hdt
    exact next_key_end (I.ok.hd hc) st hgd hdt hsz hi fun h' eb => ⟨rfl, I.turned (t' := s.toks) (fun b ob hb e => eb b ob hb e) f0 f1 f3 f4 f5⟩
  self := fun A i s Q E st h => wpAny_pyIter_keyiter st h
end
/-- the dict is locked where the walk begins, and stays so -/
def iKeysN (w : World) (td : TE) : TI := fun σ H R => td σ H fun x H1 => ∃ d es, x = .ref d ∧ H1 d = some (DN w d es) ∧ ∀ o, R (Itn w d o es) (upd H1 d (.frz o (DN w d es)))
theorem pi_keysN {X : Cx} {tg e : Expr} {td : TE} {w : World} (he : PE X e td) : PI X tg e (iKeysN w td) := by
  refine ⟨fun pins s σ H R I h => ?_⟩
  refine thn (he.run pins s σ H _ I h) fun u s1 ⟨x, H1, I1, rx, d, es, ex, hd1, q⟩ => ?_
  subst ex
  obtain rfl : u = Value.ref d := rx
  obtain ⟨o, I2⟩ := I1.lock hd1 True.intro
  obtain ⟨hs, hgd, hx, ds, ep, hdt, hsz, ent⟩ := dn_raw I2 upd_same
  refine iter_keys hs hgd hx hdt (pi_one (tk := s1.toks) I2 _ (turn_keysN _ hdt) ⟨_, Heap.get?_push_size _ rfl, rfl, ?_⟩ (q o))
  rw [hsz] <;> rfl
/-! {k: v for target in iter if ..}, the keys nested tuples -/
def tDcN (w : World) (wi : TI) (g : TG) (tt : TT) (tk tv : TE) (vs : List Nat) : TE := fun σ H Q => wi σ H fun J H1 => ∀ D, H1 D = none → ∃ W : Nat → Nat → Hp → Prop, (∃ m, W 0 m (upd H1 D (DN w D []))) ∧ ∀ i m H, W i m H →
  (J.stop i H ∧ Q (.ref D) H) ∨ (J.go i H ∧ ∃ Nx : Hp → Prop, (∀ H', Nx H' → ∃ m', m' < m ∧ W (i + 1) m' H') ∧ ∀ x H', J.yld i H x H' → g x (wipe σ vs) H' fun σ2 H2 => wipe σ2 vs = wipe σ vs ∧ tt σ2 H2 fun b H3 =>
    if b = true then tk σ2 H3 fun y H4 => tv σ2 H4 fun z H5 => ∃ (b : Addr) (es : List Ent) (k : NestedKey), y = .ref b ∧ H5 D = some (DN w D es) ∧ EntsOk H5 es ∧ NK H5 k (.ref b) ∧ k.depth ≤ 8 ∧ es.length < sizeLine ∧ Nx (upd H5 D (DN w D (putN es k b z))) else Nx H3)
theorem dn_dictSet {X : Cx} {pins : List (Addr × Obj)} {σ : L2.St} {H : Hp} {s : Shared} {E : Value → Shared → Prop} {D b : Addr} {es : List Ent} {k : NestedKey} {v : V} {r : Value} {Q : Unit → Shared → Prop} (hu : X.A.units + 64 < cLine) (I : Inv X pins σ H s) (hD : H D = some (DN X.w D es)) (hes : EntsOk H es) (hk : NK H k (.ref b)) (hd : k.depth ≤ 8) (hz : es.length < sizeLine)
    (rv : RelV v r) (h : ∀ s', Inv X pins σ (upd H D (DN X.w D (putN es k b v))) s' → Q () s') : wpAny (model X.prog X.w) X.A (dictSet D (.ref b) r) Q E s := by
  obtain ⟨z, y, xs, rel, dd⟩ := dn_of I.hok hD hes
  have hzv : xs.length ≤ sizeLine := by rw [← rel.len]; exact z
  have hl : (putN es k b v).length ≤ sizeLine := Nat.le_trans putN_len hz
  have hr : (nestedKind X.prog X.w).room X.A := by
    show X.A.units + 8 < cLine
    omega
  refine wpAny_dictSet_heap (hsz := hzv) hr (show (nestedKind X.prog X.w).is s.heap k b from ⟨hk.is I.hok rfl, hd⟩) dd fun h' dd' hs => h _ ?_
  have he : ∃ q, h'.get? D = some q := let ⟨q, _, _, hq, _⟩ := dd'; ⟨q, hq⟩
  exact d_write I (by rw [hD]; exact True.intro) hs he (dn_obj hl y (rel.put k b rv) dd')
section
variable {X : Cx}
theorem pe_dcN {kx vx tg iter : Expr} {ifs : List Expr} {scope : Scope} {own : List (Str × Nat)} {pos : Pos} {wi : TI} {g : TG} {tt : TT} {tk tv : TE} (hc : X.calm = true) (hu : X.A.units + 64 < cLine) (hN : X.N.Nodup) (hi : PI X tg iter wi) (ok : BlkOk X.N X.env.scope scope own)
    (hg : ∀ (s : Shared) (H : Hp) (C : Addr) (cl : List (Str × Addr)) (fp : List Addr), PG (X.blk s H scope (compEnvC scope cl C X.env) fp) tg g) (ht : ∀ (s : Shared) (H : Hp) (C : Addr) (cl : List (Str × Addr)) (fp : List Addr), PTs (X.blk s H scope (compEnvC scope cl C X.env) fp) ifs tt)
    (hk : ∀ (s : Shared) (H : Hp) (C : Addr) (cl : List (Str × Addr)) (fp : List Addr), PE (X.blk s H scope (compEnvC scope cl C X.env) fp) kx tk)
    (he : ∀ (s : Shared) (H : Hp) (C : Addr) (cl : List (Str × Addr)) (fp : List Addr), PE (X.blk s H scope (compEnvC scope cl C X.env) fp) vx tv) (hs : ∀ x, foldedSetIterable iter X.env x = pure x := by intro _; rfl) :
    PE X (.DictComp kx vx [⟨tg, iter, ifs, 0⟩] scope pos) (tDcN X.w wi g tt tk tv (own.map (·.2))) := by
  refine ⟨fun pins s σ H Q I h => ?_⟩
  rw [arm_eval_DictComp]
  have hfree : ∀ y ∈ scope.names, y.2 = .free → ∃ c, X.env.cells.lookup y.1 = some c := fun y hy e => by
    rcases ok.free y hy e with k | k
    · exact I.ok.has _ (.inl k)
    · exact I.ok.has _ (.inr k)
  refine wpAny_comprehension_free (use := none) rfl hs (closure_ok hfree) ok.kind (fun y hy e => by rw [ok.uniq y hy, e]) (thn (hi.run pins s σ H _ I h) fun xv s1 hx => thn hx fun itv s2 h2 => ?_)
  obtain ⟨it, fp, tn, J, H2, rfl, I2, T, st2, f2, q⟩ := h2
  refine wpAny_newObj_type (newEnv_comp ?_)
  obtain ⟨D, hD⟩ : ∃ D, D = s2.heap.objs.size := ⟨_, rfl⟩
  rw [← hD]
  obtain ⟨W, ⟨m0, w0⟩, turn⟩ := q D (I2.hok.fresh (Nat.le_of_eq hD.symm))
  have grown : ∀ b o, s2.heap.get? b = some o → (s2.heap.push { cls := .type "dict", data := .dict #[] }).get? b = some o := fun b o e => Heap.get?_push_of_some _ e
  have I3 : Inv X pins σ (upd H2 D (DN X.w D [])) { s2 with heap := s2.heap.push { cls := .type "dict", data := .dict #[] } } :=
    I2.laid (t' := s2.toks) grown (Nat.le_of_eq hD.symm) (hD ▸ dn_empty s2.heap I2.big)
  have f3 : ∀ b ∈ fp, FpOk X pins (upd H2 D (DN X.w D [])) b ∧ b < (s2.heap.push { cls := .type "dict", data := .dict #[] }).objs.size := fun b hb => by
    obtain ⟨o, e, _⟩ := T.obj _ _ st2 b hb
    have hlt := Heap.lt_size e
    refine ⟨⟨?_, (f2 b hb).2⟩, by rw [Heap.size_push]; exact Nat.lt_succ_of_lt hlt⟩
    rw [upd_ne (by rw [hD]; exact Nat.ne_of_lt hlt)]
    exact (f2 b hb).1
  have st3 := T.keep _ _ _ st2 fun b _ o e => grown b o e
  obtain ⟨s3, hs3⟩ : ∃ s3 : Shared, s3 = { s2 with heap := s2.heap.push { cls := .type "dict", data := .dict #[] } } := ⟨_, rfl⟩
  obtain ⟨H3, hH3⟩ : ∃ H3 : Hp, H3 = upd H2 D (DN X.w D []) := ⟨_, rfl⟩
  rw [← hH3] at I3 w0
  rw [← hs3] at I3
  have st3' : tn 0 s3.heap := by rw [hs3]; exact st3
  have f3' : ∀ b ∈ fp, FpOk X pins H3 b ∧ b < s3.heap.objs.size := fun b hb => by rw [hH3, hs3]; exact f3 b hb
  have I4 := block_start I3 ok hN f3'
  show codeAny _ _ (.compStart (.DictComp kx vx [⟨tg, iter, ifs, 0⟩] scope pos) 0 (.ref it) (.ref D) (compEnvC scope (cellsFrom ((s2.heap.push { cls := .type "dict", data := .dict #[] }).objs.size + 1) scope.names (cloFrom X.env.cells scope.names [])) (s2.heap.push { cls := .type "dict", data := .dict #[] }).objs.size X.env))
    (compPost (model X.prog X.w) X.A X.xe none (EP X pins σ Q) (.ref D) (s2.heap.push { cls := .type "dict", data := .dict #[] }).objs.size)
    { s2 with heap := pushCells ((s2.heap.push { cls := .type "dict", data := .dict #[] }).push { cls := .type "dict", data := .dict #[] }) scope.names }
  have hh3 : s2.heap.push { cls := .type "dict", data := .dict #[] } = s3.heap := by rw [hs3]
  have hst : ({ s2 with heap := pushCells ((s2.heap.push { cls := .type "dict", data := .dict #[] }).push { cls := .type "dict", data := .dict #[] }) scope.names } : Shared) = { s3 with heap := pushCells (s3.heap.push { cls := .type "dict", data := .dict #[] }) scope.names } := by rw [hs3]
  rw [hst, hh3]
  have pg := hg s3 H3 s3.heap.objs.size (cellsFrom (s3.heap.objs.size + 1) scope.names (cloFrom X.env.cells scope.names [])) fp
  have pt := ht s3 H3 s3.heap.objs.size (cellsFrom (s3.heap.objs.size + 1) scope.names (cloFrom X.env.cells scope.names [])) fp
  have pk := hk s3 H3 s3.heap.objs.size (cellsFrom (s3.heap.objs.size + 1) scope.names (cloFrom X.env.cells scope.names [])) fp
  have pe := he s3 H3 s3.heap.objs.size (cellsFrom (s3.heap.objs.size + 1) scope.names (cloFrom X.env.cells scope.names [])) fp
  generalize hce : compEnvC scope (cellsFrom (s3.heap.objs.size + 1) scope.names (cloFrom X.env.cells scope.names [])) s3.heap.objs.size X.env = ce at I4 pg pt pk pe ⊢
  have cL : ce.locals = s3.heap.objs.size := by subst hce; rfl
  generalize hs4 : ({ s3 with heap := pushCells (s3.heap.push { cls := .type "dict", data := .dict #[] }) scope.names } : Shared) = s4 at I4 ⊢
  have st4 : tn 0 s4.heap := T.keep _ _ _ st3' fun b _ o e => by rw [← hs4]; exact pushCells_keeps _ _ _ _ (Heap.get?_push_of_some _ e)
  have nfp : ∀ b ∈ fp, H3 b = none := fun b hb => (f3' b hb).1.1
  have stat : ∀ {σ' : L2.St} {H' : Hp} {s' : Shared}, Inv (X.blk s3 H3 scope ce fp) [] σ' H' s' → (∀ b ∈ fp, H' b = none) → ∀ b ∈ fp, FpOk (X.blk s3 H3 scope ce fp) [] H' b := fun {σ' H' s'} I' hn b hb =>
    ⟨hn b hb, (I'.ok.exf b hb).1, I'.ok.exfs b hb, .inl hb, fun x c e => (I'.ok.exf b hb).2 x c e, fun p hp => absurd (show p ∈ ([] : List (Addr × Obj)) ++ [] from hp) (by simp)⟩
  have loop : codeAny (model X.prog X.w) X.A (.compLoop (.DictComp kx vx [⟨tg, iter, ifs, 0⟩] scope pos) 0 (.ref it) (.ref D) ce) (compPost (model X.prog X.w) X.A X.xe none (EP X pins σ Q) (.ref D) s3.heap.objs.size) s4 := by
    refine compLoop_anyD (fun n s' => ∃ i H', Inv (X.blk s3 H3 scope ce fp) [] (wipe σ (own.map (·.2))) H' s' ∧ tn i s'.heap ∧ (∀ b ∈ fp, H' b = none) ∧ W i n H') ?_ m0 ⟨0, H3, I4, st4, nfp, w0⟩
    rintro n s5 ⟨i, H5, I5, st5, n5, w5⟩
    rcases turn i n H5 w5 with ⟨stop, qq⟩ | ⟨go, Nx, hNx, step⟩
    · refine thnF (T.done (X.blk s3 H3 scope ce fp) rfl rfl rfl hc i [] s5 _ H5 (fun _ _ => False) I5 (stat I5 n5) st5 stop) fun r s6 ⟨hr, I6⟩ => ?_
      subst hr
      have I7 : Inv X pins σ H5 s6 := I3.call' (ch := fp) I6.os I6.base I6.hok I6.bare fun b hb => ⟨(f3' b hb).1.2.2.2.1, (f3' b hb).1.2.1, (f3' b hb).1.2.2.2.2.1, (f3' b hb).1.2.2.2.2.2⟩
      have nC : H5 s3.heap.objs.size = none := by
        have z : H5 ce.locals = none := I6.free
        rwa [cL] at z
      obtain ⟨m, hn, _⟩ := I6.loc
      have hn' : s6.heap.Ns ce.locals m := hn
      rw [cL] at hn'
      obtain ⟨z0, z1, _, z3, z4, z5⟩ := I3.fpOk (Nat.le_refl _) nC
      exact ⟨m, hn', fun h'' sb => ⟨.ref D, H5, I7.turned (t' := s6.toks) (fun b o hb e => (sb.2 b hb).trans e) z0 z1 z3 z4 z5, rfl, qq⟩⟩
    · refine thnF (T.item (X.blk s3 H3 scope ce fp) rfl rfl rfl hc i [] s5 _ H5 (fun _ _ => False) I5 (stat I5 n5) st5 go) fun r s6 ⟨u, hr, h6⟩ => ?_
      subst hr
      refine thnF h6 fun _ s7 ⟨x, H7, I7, r7, y7, st7, n7⟩ => ?_
      refine thnF (pg.run _ s7 _ H7 x u _ (I7.pinned (stat I7 n7) (T.obj _ _ st7)) r7 (step x H7 y7)) fun _ s8 ⟨σ8, H8, I8, hw8, q8⟩ => ?_
      refine thnF (pt.run _ s8 σ8 H8 _ I8 q8) fun b s9 ⟨H9, I9, q9⟩ => ?_
      have fin : ∀ {s' : Shared} {H' : Hp}, Inv (X.blk s3 H3 scope ce fp) ([] ++ pinsAt fp s7.heap) σ8 H' s' → Nx H' → ∃ m, m < n ∧ ∃ i H', Inv (X.blk s3 H3 scope ce fp) [] (wipe σ (own.map (·.2))) H' s' ∧ tn i s'.heap ∧ (∀ b ∈ fp, H' b = none) ∧ W i m H' := fun {s' H'} I' nx => by
        obtain ⟨m', hm, w'⟩ := hNx H' nx
        have pin' : ∀ b ∈ fp, ∀ o, s7.heap.get? b = some o → s'.heap.get? b = some o ∧ H' b = none := fun b hb o e =>
          let z := I'.pin (b, o) (List.mem_append_right _ (List.mem_append_right _ (mem_pinsAt hb e)))
          ⟨z.1, z.2.1⟩
        have hl : (wipe σ (own.map (·.2))).length = σ8.length := by rw [← hw8, wipe_length]
        refine ⟨m', hm, i + 1, H', (I'.unpinned (pins := [])).weak hl (fun j v e => ?_), T.keep _ _ _ st7 fun b hb o e => (pin' b hb o e).1, fun b hb => ?_, w'⟩
        · rw [← hw8] at e
          exact (wipe_some e).1
        · obtain ⟨o, e, _⟩ := T.obj _ _ st7 b hb
          exact (pin' b hb o e).2
      cases b with
      | false =>
        simp only [Bool.false_eq_true, if_false] at q9 ⊢
        exact fin I9 q9
      | true =>
        simp only [if_true] at q9 ⊢
        refine thnF (pk.run _ s9 σ8 H9 _ I9 q9) fun z s10 ⟨yk, H10, I10, r10, q10⟩ => ?_
        refine thnF (pe.run _ s10 σ8 H10 _ I10 q10) fun z2 s11 ⟨yv, H11, I11, r11, b, es, k, ek, hD11, hes, hkk, hdep, hz11, nx⟩ => ?_
        subst ek
        obtain rfl : z = Value.ref b := r10
        exact dn_dictSet (X := X.blk s3 H3 scope ce fp) hu I11 hD11 hes hkk hdep hz11 r11 fun s12 I12 => fin I12 nx
  exact codeAny_compStart_dict loop (T.self X.A 0 _ _ _ st4 loop)
end
section
variable {X : Cx}
theorem pe_dcNK {w : World} {kx vx tg iter : Expr} {ifs : List Expr} {scope : Scope} {own : List (Str × Nat)} {pos : Pos} {wi : TI} {g : TG} {tt : TT} {tk tv : TE} (hc : X.calm = true) (hu : X.A.units + 64 < cLine) (hN : X.N.Nodup) (hi : PI X tg iter wi) (ok : BlkOk X.N X.env.scope scope own)
    (hg : ∀ (s : Shared) (H : Hp) (C : Addr) (cl : List (Str × Addr)) (fp : List Addr), PG (X.blk s H scope (compEnvC scope cl C X.env) fp) tg g) (ht : ∀ (s : Shared) (H : Hp) (C : Addr) (cl : List (Str × Addr)) (fp : List Addr), PTs (X.blk s H scope (compEnvC scope cl C X.env) fp) ifs tt)
    (hk : ∀ (s : Shared) (H : Hp) (C : Addr) (cl : List (Str × Addr)) (fp : List Addr), PE (X.blk s H scope (compEnvC scope cl C X.env) fp) kx tk)
    (he : ∀ (s : Shared) (H : Hp) (C : Addr) (cl : List (Str × Addr)) (fp : List Addr), PE (X.blk s H scope (compEnvC scope cl C X.env) fp) vx tv) (hw : X.w = w := by rfl) (hs : ∀ x, foldedSetIterable iter X.env x = pure x := by intro _; rfl) :
    PE X (.DictComp kx vx [⟨tg, iter, ifs, 0⟩] scope pos) (tDcN w wi g tt tk tv (own.map (·.2))) := by
  subst hw
  exact pe_dcN hc hu hN hi ok hg ht hk he hs
end
/-! ### their readings -/
section
variable {K : PySem.W.Frag} {w : World} {σ : L2.St} {H : Hp} {Q : VK}
def KeyNR (w : World) (x : V) (H1 : Hp) (R : It → Hp → Prop) : Prop := ∃ d es, x = .ref d ∧ H1 d = some (DN w d es) ∧ ∀ o, R (Itn w d o es) (upd H1 d (.frz o (DN w d es)))
theorem w_keyNR {d : Addr} {es : List Ent} {R : It → Hp → Prop} (h : H d = some (DN w d es)) (q : ∀ o, R (Itn w d o es) (upd H d (.frz o (DN w d es)))) : KeyNR w (.ref d) H R := ⟨d, es, rfl, h, q⟩
theorem turns_keysN {H0 : Hp} {Qd : Hp → Prop} {Body : (Hp → Prop) → V → Hp → Prop} {d : Addr} {o : Obj} {es : List Ent} (Pv : Nat → Hp → Prop) (h0 : Pv 0 H0) (hl : ∀ i H, i ≤ es.length → Pv i H → H d = some (.frz o (DN w d es)))
    (hs : ∀ i (e : Ent) H, es[i]? = some e → Pv i H → Body (Pv (i + 1)) (.ref e.2.1) H) (hd : ∀ H, Pv es.length H → Qd H) : Turns (Itn w d o es) Body H0 Qd := by
  refine ⟨fun i m H => m = es.length - i ∧ i ≤ es.length ∧ Pv i H, ⟨es.length, by simp, Nat.zero_le _, h0⟩, ?_⟩
  rintro i m H ⟨rfl, hi, p⟩
  by_cases hlt : i < es.length
  · refine .inr ⟨⟨hl i H hi p, hlt⟩, Pv (i + 1), fun H' p' => ⟨es.length - (i + 1), by omega, rfl, hlt, p'⟩, fun x H' y => ?_⟩
    obtain ⟨rfl, e, he, rfl⟩ := y
    exact hs i e _ he p
  · have e : i = es.length := by omega
    subst e
    exact .inl ⟨⟨hl _ H hi p, Nat.le_refl _⟩, hd H p⟩
def DcNBody (w : World) (g : TG) (tt : TT) (tk tv : TE) (vs : List Nat) (σ : L2.St) (D : Addr) (Nx : Hp → Prop) (x : V) (H' : Hp) : Prop := g x (wipe σ vs) H' fun σ2 H2 => wipe σ2 vs = wipe σ vs ∧ tt σ2 H2 fun b H3 =>
  if b = true then tk σ2 H3 fun y H4 => tv σ2 H4 fun z H5 => ∃ (b : Addr) (es : List Ent) (k : NestedKey), y = .ref b ∧ H5 D = some (DN w D es) ∧ EntsOk H5 es ∧ NK H5 k (.ref b) ∧ k.depth ≤ 8 ∧ es.length < sizeLine ∧ Nx (upd H5 D (DN w D (putN es k b z))) else Nx H3
def DcNR (w : World) (g : TG) (tt : TT) (tk tv : TE) (vs : List Nat) (σ : L2.St) (Q : VK) (J : It) (H1 : Hp) : Prop := ∀ D, H1 D = none → Turns J (DcNBody w g tt tk tv vs σ D) (upd H1 D (DN w D [])) fun H => Q (.ref D) H
theorem w_dcNN {td : TE} {g : TG} {tt : TT} {tk tv : TE} {vs : List Nat} (q : td σ H fun x H1 => KeyNR w x H1 (DcNR w g tt tk tv vs σ Q)) : tDcN w (iKeysN w td) g tt tk tv vs σ H Q := q
theorem w_dcNL {tl : TE} {g : TG} {tt : TT} {tk tv : TE} {vs : List Nat} (q : tl σ H fun x H1 => ListR K x H1 (DcNR w g tt tk tv vs σ Q)) : tDcN w (iList K tl) g tt tk tv vs σ H Q := q
theorem w_lcNN {td : TE} {g : TG} {tt : TT} {te : TE} {vs : List Nat} (q : td σ H fun x H1 => KeyNR w x H1 (LcR g tt te vs σ Q)) : tLc (iKeysN w td) g tt te vs σ H Q := q
theorem w_forKN {D : Ends} {td : TE} {g : TG} {tb : TS} (q : td σ H fun x H1 => KeyNR w x H1 (ForR g tb D σ)) : tFor (iKeysN w td) g tb D σ H := q
/-- the entry is put: the keys told as IK -/
theorem dcn_put {B : Hp} {L L' : List (Addr × HO)} {D b : Addr} {es : List Ent} {M : GM} {k : IK} {z : V} {Nx : Hp → Prop} (hs : Hs B L H) (h : Put L D (DN w D es) (DN w D (putN es (nkK k) b z)) L') (e : EntG B es M) (hk : KAt B b k) (hl : M.length ≤ 1000000) (q : ∀ H', Hs B L' H' → EntG B (putN es (nkK k) b z) (putG M k z) → Nx H') :
    ∃ (b' : Addr) (es' : List Ent) (k' : NestedKey), V.ref b = .ref b' ∧ H D = some (DN w D es') ∧ EntsOk H es' ∧ NK H k' (.ref b') ∧ k'.depth ≤ 8 ∧ es'.length < sizeLine ∧ Nx (upd H D (DN w D (putN es' k' b' z))) :=
  ⟨b, es, nkK k, rfl, hs.gets h, (e.same hs.same).ok, (hk.same hs.same).nk, nkK_depth k, by rw [e.len]; exact Nat.lt_of_le_of_lt hl (by decide), q _ (hs.puts h) (e.put z hk)⟩
end
end Hb

set_option Elab.async false
set_option linter.all false
set_option maxRecDepth 100000
set_option maxHeartbeats 4000000
/-! Dicts with tuple keys: `in` while locked, setdefault; list.index of a text; min of keys with a default; set(list of keys). -/
namespace Hb
open PySem L2 PyProof.Rows
/-! ### in, while it is walked -/
structure AtNF (w : World) (H : Hp) (x y : V) (a b : Addr) (o : Obj) (es : List Ent) (k : NestedKey) : Prop where
  ex : x = .ref a
  ey : y = .ref b
  ha : H a = some (.frz o (DN w a es))
  he : EntsOk H es
  hk : NK H k (.ref b)
  hd : k.depth ≤ 8
def rNInF (w : World) (x y : V) (H : Hp) (Q : Bool → Prop) : Prop := ∃ a b o es k, AtNF w H x y a b o es k ∧ Q (atN es k).isSome
def tNInF (w : World) (ty td : TE) : TE := fun σ H Q => ty σ H fun y H1 => td σ H1 fun x H2 => rNInF w x y H2 fun b => Q (.bl b) H2
section
variable {P : Program} {w : World} {H : Hp} {h : Heap} {a : Addr} {es : List Ent}
theorem dnx_dict (ok : HOk P w H h) (d : DNx w a es h) (hk : EntsOk H es) : es.length ≤ sizeLine ∧ (a == sysModules) = false ∧ ∃ xs, RelEs es xs ∧ h.DictOfH (nestedKind P w) a xs := by
  obtain ⟨z, y, xs, r, o, ds, ep, h1, h2, h3, h4, h5⟩ := d
  refine ⟨z, y, xs, r, o, ds, ep, h1, h2, h3, h4, ?_, h5⟩
  have all : ∀ {l : List Ent} {m : List (NestedKey × Addr × Value)}, RelEs l m → EntsOk H l → ∀ x ∈ m, (nestedKind P w).is h x.1 x.2.1 := by
    intro l m r
    induction r with
    | nil => exact fun _ _ hx => nomatch hx
    | @cons p q ps qs hpq _ ih =>
      intro hl x hx
      rcases List.mem_cons.mp hx with rfl | hx
      · obtain ⟨k1, k2⟩ := hl p List.mem_cons_self
        rw [← hpq.1, ← hpq.2.1]
        exact ⟨k1.is ok rfl, k2⟩
      · exact ih (fun e he => hl e (List.mem_cons_of_mem _ he)) x hx
  exact all r hk
end
section
variable {X : Cx} {w : World} {o i : Expr} {pos apos cpos : Pos} {td ty tx : TE}
theorem pc_ninF (hu : X.A.units + 64 < cLine) (hi : PE X i ty) (ho : PE X o td) (hw : X.w = w := by rfl) : PC X .In i o (tNInF w ty td) := by
  subst hw
  refine ⟨fun pins s σ H Q I h => ?_⟩
  refine thn (hi.run pins s σ H _ I h) fun iv s1 h1 => ?_
  obtain ⟨y, H1, I1, ry, q1⟩ := h1
  refine thn (ho.run pins s1 σ H1 _ I1 q1) fun u s2 h2 => ?_
  obtain ⟨x, H2, I2, rx, a, b, ob, es, k, g, q2⟩ := h2
  have dx : DNx X.w a es s2.heap := (show ObjOk X.prog X.w H2 s2.heap a (.frz ob (DN X.w a es)) from I2.hok _ _ g.ha).2.1
  obtain ⟨z, hd, xs, r, dd⟩ := dnx_dict I2.hok dx g.he
  cases g.ex
  cases g.ey
  obtain rfl : u = Value.ref a := rx
  obtain rfl : iv = Value.ref b := ry
  refine wpAny_in_heap (n_room hu) ⟨g.hk.is I2.hok rfl, g.hd⟩ hd dd ?_
  rw [← r.some k]
  exact ⟨.bl _, H2, I2.tok _, rfl, q2⟩
/-! ### setdefault -/
def rNSetd (w : World) (x y v : V) (H : Hp) (Q : VK) : Prop := ∃ a b es k, AtN w H x y a b es k ∧ es.length < sizeLine ∧ (∀ u, atN es k = some u → Q u H) ∧ (atN es k = none → Q v (upd H a (DN w a (putN es k b v))))
def tNSetd (w : World) (td ty tx : TE) : TE := fun σ H Q => td σ H fun x H1 => (∃ a es, x = .ref a ∧ H1 a = some (DN w a es)) ∧ ty σ H1 fun y H2 => tx σ H2 fun z H3 => rNSetd w x y z H3 Q
theorem pe_nsetd {e f : Expr} (hu : X.A.units + 64 < cLine) (ho : PE X o td) (he : PE X e ty) (hf : PE X f tx) (m : M2 X o "setdefault" apos e f cpos) (hw : X.w = w := by rfl) : PE X (.Call (.Attribute o "setdefault" apos) [e, f] [] cpos) (tNSetd w td ty tx) := by
  subst hw
  refine ⟨fun pins s σ H Q I h => ?_⟩
  refine wpAny_Call_method m.base m.few m.line PySem.F.plainAttrs_dict PySem.F.slot_dict_setdefault PySem.F.type_dict_setdefault (thn (ho.run pins s σ H _ I h) ?_)
  rintro u s1 ⟨x, H1, I1, rx, ⟨a0, es0, rfl, ea⟩, q1⟩
  obtain rfl : u = Value.ref a0 := rx
  obtain ⟨t1, t2⟩ := dn_type I1 ea
  refine ⟨t1, t2, ?_⟩
  rw [m.trees]
  refine Calls.callWith_builtin rfl (Calls.evalArgs_plain (Calls.spliced_cons (thn (he.run pins s1 σ H1 _ I1 q1) ?_)))
  rintro iv s2 ⟨y, H2, I2, ry, q2⟩
  refine Calls.spliced_cons (thn (hf.run pins s2 σ H2 _ I2 q2) ?_)
  rintro fv s3 ⟨v, H3, I3, rv, a, b, es, k, g, hl, q3, q4⟩
  refine Calls.spliced_nil ?_
  obtain ⟨z, hd, xs, rr, dd, hk⟩ := g.dn I3 rfl
  cases g.ex
  cases g.ey
  obtain rfl : iv = Value.ref b := ry
  have hz : xs.length ≤ sizeLine := by rw [← rr.len]; exact z
  have hl2 : (putN es k b v).length ≤ sizeLine := Nat.le_trans putN_len hl
  refine call_setdefault_heap (hsz := hz) (n_room hu) hk hd dd (fun p hp => ?_) fun hn h' dd' hs => ?_
  · obtain ⟨u', hu', ru'⟩ : ∃ u', atN es k = some u' ∧ RelV u' p.2 := by
      have h1 := rr.at k
      rw [hp] at h1
      cases e : atN es k with
      | none =>
        rw [e] at h1
        cases h1
      | some u' =>
        rw [e] at h1
        obtain ⟨x2, hx2, rx2⟩ := RelO.some_of h1
        cases hx2
        exact ⟨u', rfl, rx2⟩
    exact ⟨u', H3, I3.tok _, ru', q3 u' hu'⟩
  · have hne : atN es k = none := by
      have h1 := rr.some k
      rw [hn] at h1
      cases e : atN es k with
      | none => rfl
      | some _ =>
        rw [e] at h1
        cases h1
    have he : ∃ q, h'.get? a0 = some q := let ⟨q, _, _, hq, _⟩ := dd'; ⟨q, hq⟩
    exact ⟨v, _, d_write I3 (by rw [g.ha]; exact True.intro) hs he (dn_obj hl2 hd (rr.put k b rv) dd'), rv, q4 hne⟩
end
section
variable {w : World} {σ : L2.St} {H B : Hp} {Q : VK} {td ty tx : TE} {L L' : List (Addr × HO)} {es : List Ent} {M : GM} {k : IK} {d b : Addr} {v : V}
theorem w_nsetd (q : td σ H fun x H1 => (∃ a es, x = .ref a ∧ H1 a = some (DN w a es)) ∧ ty σ H1 fun y H2 => tx σ H2 fun z H3 => rNSetd w x y z H3 Q) : tNSetd w td ty tx σ H Q := q
theorem wg_inF {R : Bool → Prop} {o : Obj} (hs : Hs B L H) (h : H d = some (.frz o (DN w d es))) (e : EntG B es M) (hk : KAt H b k) (q : R (valG M k).isSome) : rNInF w (.ref d) (.ref b) H R :=
  ⟨d, b, o, es, nkK k, ⟨rfl, rfl, h, (e.same hs.same).ok, hk.nk, nkK_depth k⟩, by rw [e.at k]; exact q⟩
theorem wg_setd (hs : Hs B L H) (h : Put L d (DN w d es) (DN w d (putN es (nkK k) b v)) L') (e : EntG B es M) (hk : KAt B b k) (hl : M.length ≤ 1000000) (q1 : ∀ u, valG M k = some u → Q u H) (q2 : valG M k = none → ∀ H', Hs B L' H' → EntG B (putN es (nkK k) b v) (putG M k v) → Q v H') : rNSetd w (.ref d) (.ref b) v H Q :=
  ⟨d, b, es, nkK k, atG_of (hs.gets h) (e.same hs.same) (hk.same hs.same), by rw [e.len, sizeLine_eq]; omega, fun u hu => q1 u (by rw [← e.at k]; exact hu), fun hn => q2 (by rw [← e.at k]; exact hn) _ (hs.puts h) (e.put v hk)⟩
end
/-! ### list.index of a text -/
def rIdxS (K : PySem.W.Frag) : V → List V → Hp → VK → Prop := fun x vs H Q => ∃ (l : Addr) (xs : List PySem.Str) (t : PySem.Str), x = .ref l ∧ vs = [.str t] ∧ SqL K H l (xs.map V.str) ∧ t ∈ xs ∧ Q (.int (xs.idxOf t : Nat)) H

theorem strs_of : ∀ {xs : List PySem.Str} {us : List Value}, Vals (xs.map V.str) us → StrsAre us xs
  | [], _, h => by
    cases h
    exact .nil
  | x :: xs, _, h => by
    cases h with
    | cons h1 h2 =>
      obtain ⟨t, rfl⟩ := h1
      exact .cons x t (strs_of h2)
section
variable {X : Cx} {K : PySem.W.Frag} {P : Program} {w : World}
theorem mt_indexS (hK : X.K = K := by rfl) : MtR X "list.index" (rIdxS K) := by
  subst hK
  intro pins s σ H x vs v us Q I rx rv h
  obtain ⟨l, xs, t, rfl, rfl, hs, hm, q⟩ := h
  cases rx
  obtain ⟨u, rfl, ru⟩ := rv.one
  obtain ⟨tk, rfl⟩ := ru
  obtain ⟨its, r, hl, hz⟩ := I.list hs
  exact PySem.SeqAt.list_index_strs (vs := its) hl.isList (strs_of r) (by simpa using hz) hm ⟨.int _, H, I.tok _, ⟨_, rfl⟩, q⟩
/-! ### min(keys, default=d) -/
open PySem.SeqAt
open PySem.W (keyToksAll dataLt alike alikeAll dataLt_cons dataLt_int AlikeAll reads_keeps)
def dI : Itm → PyData
  | .inl n => .int n
  | .inr ns => .tuple (ns.map .int)
def dK (k : IK) : PyData := .tuple (k.map dI)
theorem eqvA_ints : ∀ ns ms : List Int, PyData.eqvAll (ns.map .int) (ms.map .int) = decide (ns = ms)
  | [], [] => by simp [PyData.eqvAll]
  | [], m :: ms => by simp [PyData.eqvAll]
  | n :: ns, [] => by simp [PyData.eqvAll]
  | n :: ns, m :: ms => by
    have e : PyData.eqvAll ((n :: ns).map PyData.int) ((m :: ms).map .int) = ((n == m) && PyData.eqvAll (ns.map .int) (ms.map .int)) := by simp only [List.map_cons, PyData.eqvAll, PyData.eqv]
    rw [e, eqvA_ints ns ms]
    by_cases h1 : n = m <;> by_cases h2 : ns = ms <;> simp [h1, h2]
theorem eqv_ints (ns ms : List Int) : PyData.eqv (.tuple (ns.map .int)) (.tuple (ms.map .int)) = decide (ns = ms) := by
  rw [← eqvA_ints]
  simp only [PyData.eqv]
theorem eqv_it (x y : Itm) : PyData.eqv (dI x) (dI y) = decide (x = y) := by
  cases x with
  | inl n =>
    cases y with
    | inl m =>
      have e : PyData.eqv (.int n) (.int m) = (n == m) := by simp only [PyData.eqv]
      show PyData.eqv (.int n) (.int m) = _
      rw [e]
      by_cases h : n = m <;> simp [h]
    | inr ms =>
      have e : PyData.eqv (.int n) (.tuple (ms.map .int)) = false := by simp only [PyData.eqv]
      show PyData.eqv (.int n) (.tuple (ms.map .int)) = _
      rw [e]
      simp
  | inr ns =>
    cases y with
    | inl m =>
      have e : PyData.eqv (.tuple (ns.map .int)) (.int m) = false := by simp only [PyData.eqv]
      show PyData.eqv (.tuple (ns.map .int)) (.int m) = _
      rw [e]
      simp
    | inr ms =>
      show PyData.eqv (.tuple (ns.map .int)) (.tuple (ms.map .int)) = _
      rw [eqv_ints]
      by_cases h : ns = ms <;> simp [h]
theorem eqvA_its : ∀ x y : IK, PyData.eqvAll (x.map dI) (y.map dI) = decide (x = y)
  | [], [] => by simp [PyData.eqvAll]
  | [], m :: ms => by simp [PyData.eqvAll]
  | n :: ns, [] => by simp [PyData.eqvAll]
  | n :: ns, m :: ms => by
    have e : PyData.eqvAll ((n :: ns).map dI) ((m :: ms).map dI) = (PyData.eqv (dI n) (dI m) && PyData.eqvAll (ns.map dI) (ms.map dI)) := by simp only [List.map_cons, PyData.eqvAll]
    rw [e, eqvA_its ns ms, eqv_it]
    by_cases h1 : n = m <;> by_cases h2 : ns = ms <;> simp [h1, h2]
theorem eqv_K (x y : IK) : PyData.eqv (dK x) (dK y) = decide (x = y) := by
  rw [← eqvA_its]
  show PyData.eqv (.tuple _) (.tuple _) = _
  simp only [PyData.eqv]
theorem dI_inj {x y : Itm} (h : dI x = dI y) : x = y := by
  have e := eqv_it x y
  rw [h, eqv_it] at e
  exact of_decide_eq_true (e.symm.trans (decide_eq_true rfl))
theorem dK_inj {x y : IK} (h : dK x = dK y) : x = y := by
  have e := eqv_K x y
  rw [h, eqv_K] at e
  exact of_decide_eq_true (e.symm.trans (decide_eq_true rfl))
theorem ItAt.im {H : Hp} {v : V} {x : Itm} (h : ItAt H v x) : Im K H v (dI x) := by
  cases x with
  | inl n =>
    cases h
    exact .int n
  | inr ns =>
    obtain ⟨t, rfl, ht⟩ := h
    exact .tup ht (im_ints ns)
theorem im_its {H : Hp} {vs : List V} {k : IK} (h : Paired (fun v x => ItAt H v x) vs k) : ImAll K H vs (k.map dI) := by
  induction h with
  | nil => exact .nil
  | cons h _ ih => exact .cons h.im ih
theorem KeyAt.dp {H : Hp} {v : V} {k : IK} (h : KeyAt H v k) : Dp K H v (dK k) := by
  obtain ⟨p, rfl, vs, hp, hv⟩ := h
  exact (Im.tup hp (im_its hv)).dp
theorem alike_it {x y : Itm} (h : shp x = shp y) : alike (dI x) (dI y) = true := by
  cases x with
  | inl n =>
    cases y with
    | inl m => simp only [dI, alike]
    | inr ms => cases h
  | inr ns =>
    cases y with
    | inl m => cases h
    | inr ms =>
      simp only [dI, alike]
      exact alike_ints (Option.some.inj h)
theorem toks_K : ∀ {x y : IK}, x.map shp = y.map shp → PyProof.Rows.lexLt itemOrd (keyToksAll (x.map dI)) (keyToksAll (y.map dI)) = lexI (flK x) (flK y)
  | [], [], _ => lex_irrefl _
  | [], y :: ys, h => by cases h
  | x :: xs, [], h => by cases h
  | x :: xs, y :: ys, h => by
    rw [List.map_cons, List.map_cons] at h
    injection h with h1 h2
    rw [List.map_cons, List.map_cons, dataLt_cons (alike_it h1), toks_K h2]
    show _ = lexI (flI x ++ flK xs) (flI y ++ flK ys)
    rw [lexI_app (shp_len h1)]
    cases x with
    | inl n =>
      cases y with
      | inr ms => cases h1
      | inl m =>
        show (if PyData.eqv (.int n) (.int m) = true then _ else dataLt (.int n) (.int m)) = if [n] = [m] then _ else lexI [n] [m]
        have e : PyData.eqv (.int n) (.int m) = (n == m) := by simp only [PyData.eqv]
        rw [e, dataLt_int]
        by_cases hh : n = m
        · rw [if_pos (by rw [hh]; exact beq_self_eq_true m), if_pos (by rw [hh])]
        · rw [if_neg (fun z => hh (by simpa using z)), if_neg (fun z => hh (by simpa using z)), lexI_cons, if_neg hh]
    | inr ns =>
      cases y with
      | inl m => cases h1
      | inr ms =>
        show (if PyData.eqv (.tuple (ns.map .int)) (.tuple (ms.map .int)) = true then _ else dataLt (.tuple (ns.map .int)) (.tuple (ms.map .int))) = if ns = ms then _ else lexI ns ms
        rw [dataLt_ints]
        have e : PyData.eqv (.tuple (ns.map .int)) (.tuple (ms.map .int)) = decide (ns = ms) := eqv_ints ns ms
        rw [e]
        by_cases hh : ns = ms
        · rw [if_pos (decide_eq_true hh), if_pos hh]
        · rw [if_neg (fun z => hh (of_decide_eq_true z)), if_neg hh]
theorem dataLt_K {x y : IK} (h : x.map shp = y.map shp) : dataLt (dK x) (dK y) = ltQ x y := toks_K h
theorem depth_it (x : Itm) : (dI x).depth ≤ 2 := by
  cases x with
  | inl n => simp [dI, PyData.depth]
  | inr ns =>
    have := depth_ints ns
    simp only [dI, PyData.depth]
    omega
theorem depth_its : ∀ k : IK, PyData.depthAll (k.map dI) ≤ 3
  | [] => by simp [PyData.depthAll]
  | x :: xs => by
    have := depth_its xs
    have := depth_it x
    simp only [List.map_cons, PyData.depthAll]
    omega
theorem depth_Ks : ∀ ks : List IK, PyData.depthAll (ks.map dK) ≤ 5
  | [] => by simp [PyData.depthAll]
  | x :: xs => by
    have := depth_Ks xs
    have := depth_its x
    simp only [List.map_cons, PyData.depthAll, dK, PyData.depth]
    omega
theorem alikeAll_its : ∀ {x y : IK}, x.map shp = y.map shp → alikeAll (x.map dI) (y.map dI) = true
  | [], [], _ => by simp [alikeAll]
  | [], y :: ys, h => by cases h
  | x :: xs, [], h => by cases h
  | x :: xs, y :: ys, h => by
    rw [List.map_cons, List.map_cons] at h
    injection h with h1 h2
    simp only [List.map_cons, alikeAll, alike_it h1, alikeAll_its h2, Bool.and_self]
theorem alike_Ks {ks : List IK} {sh : List (Option Nat)} (h : ∀ k ∈ ks, k.map shp = sh) : AlikeAll (ks.map dK) := by
  refine ⟨fun x hx y hy => ?_, fun x hx => ?_⟩
  · obtain ⟨a, ha, rfl⟩ := List.mem_map.mp hx
    obtain ⟨b, hb, rfl⟩ := List.mem_map.mp hy
    show alike (.tuple _) (.tuple _) = true
    simp only [alike]
    exact alikeAll_its ((h a ha).trans (h b hb).symm)
  · obtain ⟨a, ha, rfl⟩ := List.mem_map.mp hx
    exact fun z => nomatch z
def rMinDN (K : PySem.W.Frag) : List V → List V → Hp → VK → Prop := fun xs zs H Q => ∃ (a : Addr) (us : List V) (ks : List IK) (d : V) (sh : List (Option Nat)), xs = [.ref a] ∧ zs = [d] ∧ SqL K H a us ∧ Row (KeyAt H) us ks ∧ (∀ k ∈ ks, k.map shp = sh) ∧ (ks = [] → Q d H) ∧
  ∀ (k : IK) (u : V), k ∈ ks → KeyAt H u k → (∀ k' ∈ ks, ltQ k' k = false) → Q u H
theorem minK_of {sh : List (Option Nat)} : ∀ (ks : List IK) (k : IK), (∀ z ∈ k :: ks, z.map shp = sh) → ∃ m ∈ k :: ks, PySem.W.minD (dK k) (ks.map dK) = dK m ∧ ∀ z ∈ k :: ks, ltQ z m = false
  | [], k, _ => ⟨k, List.mem_cons_self, rfl, fun z hz => by
    rw [List.mem_singleton.mp hz]
    exact lexI_self _⟩
  | y :: ys, k, h => by
    have hk := h k List.mem_cons_self
    have hy := h y (List.mem_cons_of_mem _ List.mem_cons_self)
    have e : PySem.W.minD (dK k) ((y :: ys).map dK) = PySem.W.minD (if ltQ y k = true then dK y else dK k) (ys.map dK) := by
      rw [← dataLt_K (hy.trans hk.symm)]
      rfl
    rw [e]
    by_cases hc : ltQ y k = true
    · rw [if_pos hc]
      obtain ⟨m, hm, e1, e2⟩ := minK_of ys y fun z hz => h z (List.mem_cons_of_mem _ hz)
      refine ⟨m, List.mem_cons_of_mem _ hm, e1, fun z hz => ?_⟩
      rcases List.mem_cons.mp hz with rfl | hz
      · exact lexI_tr _ _ _ (e2 y List.mem_cons_self) (lexI_asym _ _ hc)
      · exact e2 z hz
    · rw [if_neg hc]
      obtain ⟨m, hm, e1, e2⟩ := minK_of ys k fun z hz => by
        rcases List.mem_cons.mp hz with rfl | hz
        · exact hk
        · exact h z (List.mem_cons_of_mem _ (List.mem_cons_of_mem _ hz))
      refine ⟨m, ?_, e1, fun z hz => ?_⟩
      · rcases List.mem_cons.mp hm with rfl | hm
        · exact List.mem_cons_self
        · exact List.mem_cons_of_mem _ (List.mem_cons_of_mem _ hm)
      · rcases List.mem_cons.mp hz with rfl | hz
        · exact e2 _ List.mem_cons_self
        · rcases List.mem_cons.mp hz with rfl | hz
          · exact lexI_tr _ _ _ (e2 k List.mem_cons_self) (Bool.not_eq_true _ ▸ hc)
          · exact e2 z (List.mem_cons_of_mem _ hz)
theorem cr_minDN (hc : X.calm = true) (hu : X.A.units + 64 < cLine) (hK : X.K = K := by rfl) : CallRK X (.builtin "min") [PySem.Str.ofString "default"] (rMinDN K) := by
  subst hK
  intro pins s σ H xs zs us ws Q I rx rz h
  obtain ⟨a, vs, ks, d, sh, rfl, rfl, hs, hr, hsh, q0, q⟩ := h
  obtain ⟨u, rfl, ru⟩ := vals1 rx
  obtain ⟨dv, rfl, rd⟩ := vals1 rz
  obtain rfl : u = Value.ref a := ru
  obtain ⟨its, rv, hl, hz⟩ := I.list hs
  have hrd : ∃ as, ReadsAll s.heap its ((ks.map dK)) as := by
    have go : ∀ {vs : List V} {its : List Value} {ks : List IK}, Vals vs its → Row (KeyAt H) vs ks → ∃ as, ReadsAll s.heap its (ks.map dK) as := by
      intro vs its ks rv
      induction rv generalizing ks with
      | nil =>
        intro hr
        have : ks = [] := List.eq_nil_of_length_eq_zero hr.1.symm
        subst this
        exact ⟨[], .nil⟩
      | @cons v u vs its h1 h2 ih =>
        intro hr
        cases ks with
        | nil => exact absurd hr.1 (by simp)
        | cons k ks =>
          obtain ⟨as, g⟩ := ih ⟨Nat.succ.inj hr.1, fun i u x e1 e2 => hr.2 (i + 1) u x e1 e2⟩
          obtain ⟨bs, g1⟩ := Dp.reads I (dK k) _ _ (hr.2 0 v k rfl rfl).dp h1
          exact ⟨_, .cons g1 g⟩
    exact go rv hr
  obtain ⟨as, g⟩ := hrd
  refine PySem.W.min_list_default (I.ok.hd hc) hl.isList (by simpa using g) (alike_Ks hsh) (by have := depth_Ks ks; omega) (fun e h' tk k => ?_) fun y ys i v h' tk bs e hi r k => ?_
  · exact ⟨d, H, I.kept k, rd, q0 (List.map_eq_nil_iff.mp e)⟩
  · cases ks with
    | nil => cases e
    | cons k0 ks =>
      rw [List.map_cons] at e
      injection e with e1 e2
      subst e1
      subst e2
      obtain ⟨m, hm, e1, e2⟩ := minK_of ks k0 hsh
      rw [e1] at r
      have hi' : its[i]? = some v := by simpa using hi
      obtain ⟨v0, hv0⟩ : ∃ v0, vs[i]? = some v0 := ⟨_, List.getElem?_eq_getElem (by rw [rv.length]; exact (List.getElem?_eq_some_iff.mp hi').1)⟩
      obtain ⟨v1, hv1, rv0⟩ := rv.get hv0
      rw [hi'] at hv1
      cases hv1
      obtain ⟨k1, hk1, hkv⟩ := hr.get hv0
      have : k1 = m := by
        obtain ⟨bs2, r2⟩ := Dp.reads I (dK k1) _ _ hkv.dp rv0
        exact dK_inj (reads_det (fun b o e _ => k b o e) r2 r).1.symm
      subst this
      exact ⟨v0, H, I.kept k, rv0, q k1 v0 hm hkv e2⟩
end

section
variable {K : PySem.W.Frag} {w : World} {σ : L2.St} {H B : Hp} {Q : VK} {L : List (Addr × HO)}
theorem w_idxS {l : Addr} {xs : List PySem.Str} {us : List V} {t : PySem.Str} (h : SqL K H l us) (e : us = xs.map V.str) (m : t ∈ xs) (q : Q (.int (xs.idxOf t : Nat)) H) : rIdxS K (.ref l) [.str t] H Q := ⟨l, xs, t, rfl, rfl, e ▸ h, m, q⟩
theorem w_minDN {l : Addr} {us : List V} {ks : List IK} {d : V} {sh : List (Option Nat)} (h : SqL K H l us) (r : Row (KeyAt H) us ks) (hs : ∀ k ∈ ks, k.map shp = sh) (q0 : ks = [] → Q d H) (q : ∀ (k : IK) (u : V), k ∈ ks → KeyAt H u k → (∀ k' ∈ ks, ltQ k' k = false) → Q u H) : rMinDN K [.ref l] [d] H Q := ⟨l, us, ks, d, sh, rfl, rfl, h, r, hs, q0, q⟩
end
/-! ### set(keys) -/
section
open PpSet
variable {P : Program} {w : World} {A : Around} {E : Value → Shared → Prop} {s : Shared}
/-- what the set holds behind i of the items -/
structure GotK (ks : List (NestedKey × Addr)) (i : Nat) (L : List (NestedKey × Addr)) : Prop where
  sub : ∀ p ∈ L, p ∈ ks.take i
  all : ∀ p ∈ ks.take i, p.1 ∈ L.map (·.1)
theorem GotK.zero (ks : List (NestedKey × Addr)) : GotK ks 0 [] := ⟨(fun p h => nomatch h), (fun p h => nomatch h)⟩
theorem GotK.next {ks : List (NestedKey × Addr)} {i : Nat} {L L' : List (NestedKey × Addr)} {p : NestedKey × Addr} (g : GotK ks i L) (hp : ks[i]? = some p) (a : AddN L p L') : GotK ks (i + 1) L' := by
  have tk : ks.take (i + 1) = ks.take i ++ [p] := by rw [List.take_add_one, hp]; rfl
  have z : (∀ q ∈ L', q ∈ ks.take i ++ [p]) ∧ ∀ q ∈ ks.take i ++ [p], q.1 ∈ L'.map (·.1) := by
    by_cases c : p.1 ∈ L.map (·.1)
    · rw [a.1 c]
      refine ⟨fun q hq => List.mem_append_left _ (g.sub q hq), fun q hq => ?_⟩
      rcases List.mem_append.mp hq with hq | hq
      · exact g.all q hq
      · rw [List.mem_singleton.mp hq]
        exact c
    · have pm := a.2 c
      refine ⟨fun q hq => ?_, fun q hq => ?_⟩
      · rcases List.mem_cons.mp (pm.mem_iff.mp hq) with rfl | hq
        · exact List.mem_append_right _ List.mem_cons_self
        · exact List.mem_append_left _ (g.sub q hq)
      · rw [(pm.map (·.1)).mem_iff, List.map_cons, List.mem_cons]
        rcases List.mem_append.mp hq with hq | hq
        · exact .inr (g.all q hq)
        · exact .inl (by rw [List.mem_singleton.mp hq])
  rw [← tk] at z
  exact ⟨z.1, z.2⟩
theorem SetK.moved {h h' : Heap} {a : Addr} {L : List (NestedKey × Addr)} {es : Array (Int × Value)} {ep : Nat} {t : SetTable} (R : SetK (numKind P w) h a L es ep t) (ha : ∀ o, h.get? a = some o → h'.get? a = some o) (hl : ∀ p ∈ L, (numKind P w).is h' p.1 p.2) : SetK (numKind P w) h' a L es ep t := by
  obtain ⟨o, ho, r⟩ := R.ob
  exact ⟨⟨o, ha o ho, r⟩, R.rows, R.tab, R.nd, hl, R.pl, R.led, R.room, R.few⟩
/-- the walk of set.update -/
theorem upd_loopK {I : Addr} {fp wr : List Addr} {G : Array GenState → Array GenState → Prop} {n : Nat} {Pv : Nat → Value → Prop} {St : Nat → Shared → Prop} {R : Result → Shared → Prop} (W : WalksS P w A.in1 I fp wr G n Pv St) (S : Addr) (hSf : S ∉ fp)
    (ks : List (NestedKey × Addr)) (hn : n = ks.length) (few : ∀ l : List NestedKey, l.Nodup → (∀ x ∈ l, x ∈ ks.map (·.1)) → l.length < 63) (hv : ∀ i v, Pv i v → ∃ p, ks[i]? = some p ∧ v = .ref p.2)
    (g0 : Heap) (hk : ∀ p ∈ ks, (numKind P w).is g0 p.1 p.2) (hS0 : g0.get? S = none) (hw0 : ∀ b ∈ wr, g0.get? b = none) (hu : A.units + 40 < cLine) :
    ∀ (m i : Nat) (s : Shared), n - i = m → i ≤ n → St i s → (∀ b o, g0.get? b = some o → s.heap.get? b = some o) → (∃ L es ep t, SetK (numKind P w) s.heap S L es ep t ∧ GotK ks i L) →
      (∀ s' L es ep t, Moved (S :: wr) G s s' → SetK (numKind P w) s'.heap S L es ep t → GotK ks n L → (∀ b o, g0.get? b = some o → s'.heap.get? b = some o) → R (.ok (.ret .none)) s') →
      codeAny (model P w) A (.builtin "set.update.loop" ⟨[.ref S, .ref I], []⟩) R s := by
  have hSw : S ∉ wr := fun z => hSf (W.sub _ z)
  have more : ∀ b ∈ wr, b ∈ S :: wr := fun b hb => List.mem_cons_of_mem _ hb
  have carry : ∀ {s s' : Shared}, Moved wr G s s' → (∀ b o, g0.get? b = some o → s.heap.get? b = some o) → ∀ b o, g0.get? b = some o → s'.heap.get? b = some o := fun hm q b o e =>
    hm.heap b o (fun hb => by rw [hw0 b hb] at e; cases e) (q b o e)
  have is_at : ∀ {h : Heap} {p : NestedKey × Addr}, (∀ b o, g0.get? b = some o → h.get? b = some o) → p ∈ ks → (numKind P w).is h p.1 p.2 := fun q hp => els_num.grow (hk _ hp) q
  intro m
  induction m with
  | zero =>
    intro i s hm hi hst hq ⟨L, es, ep, t, hS, g⟩ hR
    obtain rfl : i = n := by omega
    refine codeAny_builtin F.entry_set_update_loop ?_
    rw [Around.under_plainId F.plain_set_update_loop _]
    show wpAny _ A.in1 (pyNext (.ref I) >>= _) _ _ s
    refine wpAny_bind (W.done s _ _ hst fun s' mv => ?_)
    show wpAny _ A.in1 (ret Value.none) _ _ s'
    have q' := carry mv hq
    exact wpAny_pure (hR s' L es ep t (mv.mono more) (hS.moved (fun o e => mv.heap S o hSw e) fun p hp => is_at q' (List.mem_of_mem_take (g.sub p hp))) g q')
  | succ m ih =>
    intro i s hm hi hst hq ⟨L, es, ep, t, hS, g⟩ hR
    have hlt : i < n := by omega
    refine codeAny_builtin F.entry_set_update_loop ?_
    rw [Around.under_plainId F.plain_set_update_loop _]
    show wpAny _ A.in1 (pyNext (.ref I) >>= _) _ _ s
    refine wpAny_bind (W.item i s _ _ hlt hst fun v s' hP hst' mv => ?_)
    obtain ⟨p, hp, rfl⟩ := hv i v hP
    have q' := carry mv hq
    have hS' := hS.moved (h' := s'.heap) (fun o e => mv.heap S o hSw e) fun x hx => is_at q' (List.mem_of_mem_take (g.sub x hx))
    have hx : (numKind P w).is s'.heap p.1 p.2 := is_at q' (List.mem_of_getElem? hp)
    have room : (numKind P w).room A.in1 := by
      show A.in1.units + 8 < cLine
      have e : A.in1.units = A.units + 1 := rfl
      omega
    have hl : L.length + 1 < 64 := by
      have := few (L.map (·.1)) hS.nd fun x hx => by
        obtain ⟨y, hy, rfl⟩ := List.mem_map.mp hx
        exact List.mem_map_of_mem (List.mem_of_mem_take (g.sub y hy))
      rw [List.length_map] at this
      omega
    show wpAny _ A.in1 (holding [Value.ref p.2] (setAdd S (.ref p.2)) >>= _) _ _ s'
    refine wpAny_bind (wpAny_holding ?_)
    unfold setAdd
    refine wpAny_holding ?_
    refine wpAny_bind ((numKind P w).pyHash room hx ?_)
    refine addK (s := { s' with toks := s'.toks + (numKind P w).draws p.1 }) (knd := numKind P w) els_num hS' hx room hl fun b h' L' es' ep' t' sb hS2 c1 c2 => ?_
    have q2 : ∀ b o, g0.get? b = some o → h'.get? b = some o := fun b o e => (sb.2 b (fun z => by rw [z, hS0] at e; cases e)).trans (q' b o e)
    refine wpAny_pure ⟨plainId_quiet F.plain_set_update_loop _, ih (i + 1) _ (by omega) hlt (W.frame _ s' _ _ hst' (Nat.le_add_right _ _) fun b hb o e => ?_) q2 ⟨L', es', ep', t', hS2, g.next hp ⟨c1, c2⟩⟩ fun s'' L2 es2 ep2 t2 mv2 hS3 g3 q3 => ?_⟩
    · rw [sb.2 b (fun z : b = S => hSf (z ▸ hb))]
      exact e
    · refine hR s'' L2 es2 ep2 t2 (Moved.trans W.gtrans ((mv.mono more).then_heap (Nat.le_add_right _ _) fun b o hb e => ?_) mv2) hS3 g3 q3
      rw [sb.2 b (fun z : b = S => hb (z ▸ List.mem_cons_self))]
      exact e

theorem call_setK {l : Addr} {items : Array Value} (ks : List (NestedKey × Addr)) {Q : Value → Shared → Prop} (hh : A.handled = none) (hl : s.heap.IsList l items) (hit : items.toList = ks.map fun p => Value.ref p.2) (hk : ∀ p ∈ ks, (numKind P w).is s.heap p.1 p.2)
    (few : ∀ l : List NestedKey, l.Nodup → (∀ x ∈ l, x ∈ ks.map (·.1)) → l.length < 63) (hu : A.units + 50 < cLine)
    (h : ∀ (h' : Heap) (tk : Nat) L es ep t, SetK (numKind P w) h' s.heap.objs.size L es ep t → GotK ks ks.length L → (∀ b o, s.heap.get? b = some o → h'.get? b = some o) → Q (.ref s.heap.objs.size) { s with heap := h', toks := tk }) : wpAny (model P w) A (call (.type "set") [.ref l]) Q E s := by
  have hsz : items.size = ks.length := by
    rw [← Array.length_toList, hit, List.length_map]
  obtain ⟨c, tl, hmro⟩ := F.called_set.mro
  have m1 := F.called_set.made
  have m2 := F.called_set.sub
  refine wpAny_call (codeAny_of_tree ?_)
  show wpAny _ _ (callAny (.type "set") _) _ _ _
  refine wpAny_pure ⟨Code.quiet_builtin _ (by decide +kernel), codeAny_builtin F.entry_type_call ?_⟩
  rw [Around.under_plain (weight_type_call_type "set" [.ref l] []) rfl]
  have k1 := F.called_set.notType
  have k2 := F.called_set.canCreate
  have k3 := F.typeCall_set_1 (.ref l)
  repeat (any_goals (first | assumption | wp_step))
  generalize hN : s.heap.push { cls := .type "set", dict := none, data := .set #[] 0 (.fresh 0 0 (!w.params.followText "set-order")) } = hp
  have hS : hp.get? s.heap.objs.size = some { cls := .type "set", dict := none, data := .set #[] 0 (.fresh 0 0 (!w.params.followText "set-order")) } := hN ▸ Heap.get?_push_size _ rfl
  have hsP : hp.objs.size = s.heap.objs.size + 1 := by rw [← hN, Heap.size_push]
  have grow : ∀ b o, s.heap.get? b = some o → hp.get? b = some o := fun b o e => hN ▸ Heap.get?_push_of_some _ e
  refine codeAny_mono (code_set_led1 (.ref l) (E := E) (Q₁ := fun obj s₁ => obj = .ref s.heap.objs.size ∧ s₁ = { s with heap := hp }) ⟨rfl, by rw [← hN]⟩) fun r s₁ hr => ?_
  cases r with
  | error e => exact hr
  | ok fl =>
    cases fl with
    | ret obj =>
      obtain ⟨rfl, rfl⟩ := hr
      have hT : Shared.TypeIs { s with heap := hp } (.ref s.heap.objs.size) "set" := ⟨_, hS, rfl⟩
      have hli := F.called_set.init.lookup
      have hbi := F.called_set.init.bind (.ref s.heap.objs.size)
      repeat (any_goals (first | assumption | wp_step))
      refine codeAny_mono (codeAny_call_builtin (R := wants (fun r s₂ => r = .none ∧ ∃ h' tk L es ep t, s₂ = { s with heap := h', toks := tk } ∧ SetK (numKind P w) h' s.heap.objs.size L es ep t ∧ GotK ks ks.length L ∧
          (∀ b o, s.heap.get? b = some o → h'.get? b = some o)) E) F.called_set.init.plain F.entry_set_init (check_set_init_1 hT ?_)) fun r₂ s₂ hr₂ => ?_
      · obtain ⟨ol, hol, hcl, nl, hdl⟩ := hl
        obtain ⟨ocls, odict, odata, oslots⟩ := ol
        simp only at hcl hdl
        subst hcl; subst hdl
        have hl1 : hp.IsList l items := ⟨_, grow _ _ hol, rfl, nl, rfl⟩
        have hol' := grow _ _ hol
        have z1 := F.sub_list_set
        have z2 := F.sub_list_frozenset
        have z3 : (Value.type "list" == Value.type "dict") = false := by decide
        unfold Builtin.«set.__init__» noKeywords Builtin.Frozenset.updateFrom
        generalize hPI : pyIter = PI
        wp_walk
        subst hPI
        refine wpAny_pyIter_list hl1 ?_
        refine wpAny_bind (wpAny_runValue ?_)
        have hlS : l < s.heap.objs.size := Heap.lt_size hol
        have hI : l ≠ hp.objs.size := by
          rw [hsP]
          exact Nat.ne_of_lt (Nat.lt_succ_of_lt hlS)
        have hh3 : A.in1.in1.in1.handled = none := by simp [hh]
        have hSf : s.heap.objs.size ∉ [hp.objs.size, l] := by
          simp only [List.mem_cons, List.not_mem_nil, or_false, not_or]
          exact ⟨by rw [hsP]; exact Nat.ne_of_lt (Nat.lt_succ_self _), Nat.ne_of_gt hlS⟩
        have hval : ∀ (i : Nat) (v : Value), items[i]? = some v → ∃ p, ks[i]? = some p ∧ v = .ref p.2 := fun i v hv => by
          rw [← Array.getElem?_toList, hit, List.getElem?_map] at hv
          obtain ⟨p, hp1, hp2⟩ := Option.map_eq_some_iff.mp hv
          exact ⟨p, hp1, hp2.symm⟩
        have fresh : ∀ b, s.heap.objs.size ≤ b → s.heap.get? b = none := fun b hb => by
          cases q : s.heap.get? b with
          | none => rfl
          | some o => exact absurd (Nat.lt_of_lt_of_le (Heap.lt_size q) hb) (Nat.lt_irrefl _)
        have hl2 := hl1.push (o := { cls := .type "list_iterator", data := .fields #[.ref l, .int 0 0] })
        refine upd_loopK ((Walks.list hh3 _ l hI items).toS) s.heap.objs.size hSf ks hsz few hval s.heap hk (fresh _ (Nat.le_refl _)) (fun b hb => fresh b (by rw [List.mem_singleton.mp hb, hsP]; exact Nat.le_succ _)) (by
          show A.in1.in1.units + 40 < cLine
          have e : A.in1.in1.units = A.units + 1 + 1 := rfl
          omega) (items.size - 0) 0 _ (by omega) (Nat.zero_le _) ⟨⟨_, Heap.get?_push_size _ rfl, rfl, rfl⟩, hl2⟩ (fun b o e => Heap.get?_push_of_some _ (grow b o e)) ?_ ?_
        · exact ⟨[], #[], 0, _, freshK (Heap.get?_push_of_some _ hS), GotK.zero ks⟩
        · intro s' L es ep t hm hS' g' hq
          obtain ⟨h', g2, d', tk', os'⟩ := s'
          have eg : g2 = s.gens := hm.gens
          have ed : d' = s.drawn := hm.drawn
          have eo : os' = s.os := hm.os
          subst eg; subst ed; subst eo
          show wpAny _ _ _ _ _ _
          refine wpAny_pure ?_
          show wpAny _ _ (ret Value.none) _ _ _
          exact wpAny_pure ⟨rfl, h', tk', L, es, ep, t, rfl, hS', hsz ▸ g', hq⟩
      · cases r₂ with
        | error e => exact hr₂
        | ok fl₂ =>
          cases fl₂ with
          | ret r =>
            obtain ⟨rfl, h', tk, L, es, ep, t, rfl, hS', g', hk'⟩ := hr₂
            repeat (any_goals (first | assumption | wp_step))
            exact h h' tk L es ep t hS' g' hk'
          | _ => exact hr₂.elim
    | _ => exact hr.elim
end
end Hb

set_option Elab.async false
set_option linter.all false
set_option maxRecDepth 100000
set_option maxHeartbeats 4000000
/-! Sets of keys, told as IK; set(xs). -/
namespace Hb
open PySem L2 PyProof.Rows
/-! ## sets of keys -/
theorem noTxI (x : Itm) : noTx (nkI x) = true := by
  cases x with
  | inl n => rfl
  | inr ns =>
    show noTxs (ns.map NestedKey.num) = true
    induction ns with
    | nil => rfl
    | cons n ns ih =>
      rw [List.map_cons]
      simp only [noTxs, noTx, Bool.true_and]
      exact ih
theorem noTxK (k : IK) : noTx (nkK k) = true := by
  show noTxs (k.map nkI) = true
  induction k with
  | nil => rfl
  | cons n ns ih =>
    rw [List.map_cons]
    simp only [noTxs, noTxI, Bool.true_and]
    exact ih
theorem KAt.el {H : Hp} {p : Addr} {k : IK} (h : KAt H p k) : ElN H (nkK k, p) := ⟨h.nk, nkK_depth k, noTxK k⟩
/-- each once -/
def ndp : List IK → List IK
  | [] => []
  | x :: xs => if xs.any (fun y => decide (y = x)) then ndp xs else x :: ndp xs
theorem ndp_cons (x : IK) (xs : List IK) : ndp (x :: xs) = if xs.any (fun y => decide (y = x)) then ndp xs else x :: ndp xs := by rw [ndp]
theorem any_in {x : IK} {xs : List IK} : xs.any (fun y => decide (y = x)) = true ↔ x ∈ xs := by
  rw [List.any_eq_true]
  exact ⟨fun ⟨y, h1, h2⟩ => of_decide_eq_true h2 ▸ h1, fun h => ⟨x, h, decide_eq_true rfl⟩⟩
theorem ndp_mem : ∀ (xs : List IK) (x : IK), x ∈ ndp xs ↔ x ∈ xs
  | [], x => Iff.rfl
  | y :: xs, x => by
    have ih := ndp_mem xs
    rw [ndp_cons]
    split
    · rename_i h
      have h := any_in.mp h
      rw [ih, List.mem_cons]
      exact ⟨.inr, fun z => z.elim (fun e => e ▸ h) id⟩
    · rw [List.mem_cons, List.mem_cons, ih]
theorem ndp_nodup : ∀ xs : List IK, (ndp xs).Nodup
  | [] => List.Pairwise.nil
  | y :: xs => by
    have ih := ndp_nodup xs
    rw [ndp_cons]
    split
    · exact ih
    · rename_i h
      exact List.nodup_cons.mpr ⟨fun z => h (any_in.mpr ((ndp_mem xs y).mp z)), ih⟩
structure SK (H : Hp) (L : List (NestedKey × Addr)) (ks : List IK) : Prop where
  el : ∀ e ∈ L, ∃ x, e.1 = nkK x ∧ KAt H e.2 x
  mem : ∀ x, nkK x ∈ L.map (·.1) ↔ x ∈ ks
  len : L.length ≤ ks.length
theorem SK.nil {H : Hp} : SK H [] [] := ⟨(fun _ z => nomatch z), (fun _ => ⟨(fun z => nomatch z), (fun z => nomatch z)⟩), Nat.le_refl 0⟩
theorem SK.mono {H H' : Hp} (e : ∀ p xs, H p = some (.tup xs) → H' p = some (.tup xs)) {L : List (NestedKey × Addr)} {ks : List IK} (h : SK H L ks) : SK H' L ks :=
  ⟨fun x hx => (h.el x hx).elim fun k ⟨h1, h2⟩ => ⟨k, h1, h2.mono e⟩, h.mem, h.len⟩
theorem SK.add {H : Hp} {L L' : List (NestedKey × Addr)} {ks : List IK} {x : IK} {p : Addr} (h : SK H L ks) (hp : KAt H p x) (hA : AddN L (nkK x, p) L') : SK H L' (ks ++ [x]) := by
  by_cases hk : nkK x ∈ L.map (·.1)
  · rw [hA.1 hk]
    refine ⟨h.el, fun y => ?_, by rw [List.length_append]; exact Nat.le_add_right_of_le h.len⟩
    rw [List.mem_append, List.mem_singleton, ← h.mem]
    exact ⟨.inl, fun z => z.elim id fun e => e ▸ hk⟩
  · have pm := hA.2 hk
    refine ⟨fun e he => ?_, fun y => ?_, ?_⟩
    · rcases List.mem_cons.mp (pm.mem_iff.mp he) with rfl | he
      · exact ⟨x, rfl, hp⟩
      · exact h.el e he
    · rw [(pm.map (·.1)).mem_iff, List.map_cons, List.mem_cons, List.mem_append, List.mem_singleton, ← h.mem]
      exact ⟨fun z => z.elim (fun e => .inr (nkK_inj e)) .inl, fun z => z.elim .inr fun e => .inl (by rw [e])⟩
    · rw [pm.length_eq, List.length_cons, List.length_append]
      exact Nat.succ_le_succ h.len
theorem w_sortSK {P : Program} {w : World} {B H : Hp} {M : List (Addr × HO)} {Q : VK} {a : Addr} {L : List (NestedKey × Addr)} {ks : List IK} {c : Option Nat} {sh : List (Option Nat)} (hs : Hs B M H) (ha : H a = some (SN P w a L)) (h : SK H L ks) (hks : ∀ x ∈ ks, x.map shp = c :: sh)
    (q : ∀ p ys H', Hs B ((p, .lst ys) :: M) H' → Row (KeyAt H') ys (srtK (ndp ks)) → Q (.ref p) H') : rSortSN P w c sh [.ref a] H Q := by
  have hin : ∀ e ∈ L, ∃ x ∈ ks, e.1 = nkK x ∧ KeyAt H (.ref e.2) x := fun e he => by
    obtain ⟨x, h1, h2⟩ := h.el e he
    exact ⟨x, (h.mem x).mp (h1 ▸ List.mem_map_of_mem he), h1, _, rfl, h2⟩
  refine ⟨a, L, itK H, rfl, ha, fun e he => ?_, fun ys p hsrt hpm hnd hp => ?_⟩
  · obtain ⟨x, hx, h1, h2⟩ := hin e he
    rw [h2.it]
    obtain ⟨_, e', h3⟩ := h2
    cases e'
    exact ⟨h1 ▸ h3.nk, h1, hks x hx⟩
  · have hat : ∀ v ∈ ys, ∃ e ∈ L, v = .ref e.2 ∧ itK H v ∈ ks ∧ e.1 = nkK (itK H v) ∧ KeyAt H v (itK H v) := fun v hv => by
      obtain ⟨e, he, rfl⟩ := List.mem_map.mp (hpm.mem_iff.mp hv)
      obtain ⟨x, hx, h1, h2⟩ := hin e he
      rw [h2.it]
      exact ⟨e, he, rfl, hx, h1, h2⟩
    have hr : Row (KeyAt H) ys (ys.map (itK H)) := ⟨(List.length_map _).symm, fun i u x h1 h2 => by
      rw [List.getElem?_map, h1] at h2
      cases h2
      exact (hat u (List.mem_of_getElem? h1)).elim fun _ z => z.2.2.2.2⟩
    have hkL : ((ys.map (itK H)).map nkK).Perm (L.map (·.1)) := by
      rw [List.map_map]
      refine (hpm.map _).trans (List.Perm.of_eq ?_)
      rw [List.map_map]
      refine List.map_congr_left fun e he => ?_
      obtain ⟨x, hx, h1, h2⟩ := hin e he
      show nkK (itK H (.ref e.2)) = e.1
      rw [h2.it, h1]
    have nd : (ys.map (itK H)).Nodup := nodup_of_map (f := nkK) (hkL.nodup_iff.mpr hnd)
    have pm : (ys.map (itK H)).Perm (ndp ks) := (List.perm_ext_iff_of_nodup nd (ndp_nodup ks)).mpr fun x => by
      rw [ndp_mem, ← h.mem x, ← hkL.mem_iff]
      exact ⟨fun z => List.mem_map_of_mem z, fun z => by
        obtain ⟨y, hy, e⟩ := List.mem_map.mp z
        rw [← nkK_inj e]
        exact hy⟩
    have srt : SortedK (ys.map (itK H)) := List.pairwise_map.mpr (hsrt.imp fun z => z)
    have e := srtK_uniq (sh := c :: sh) pm (fun x hx => hks x ((ndp_mem _ _).mp hx)) srt
    rw [e] at hr
    have hs2 := hs.new (o := .lst ys) hp
    exact q p ys _ hs2 (hr.mono fun u k => KeyAt.mono fun b xs e => by rw [upd_ne (ne_of_none e hp)]; exact e)
theorem ndp_len : ∀ xs : List IK, (ndp xs).length ≤ xs.length
  | [] => Nat.le_refl _
  | x :: xs => by
    rw [ndp_cons]
    have := ndp_len xs
    split
    · exact Nat.le_succ_of_le this
    · exact Nat.succ_le_succ this

/-! ### set(xs), xs a list of keys -/
def rSetL (P : Program) (w : World) (K : PySem.W.Frag) : List V → Hp → VK → Prop := fun xs H Q => ∃ (l : Addr) (ks : List (NestedKey × Addr)), xs = [.ref l] ∧ SqL K H l (ks.map fun p => V.ref p.2) ∧ (∀ p ∈ ks, ElN H p) ∧ (∀ l : List NestedKey, l.Nodup → (∀ x ∈ l, x ∈ ks.map (·.1)) → l.length < 63) ∧
  ∀ D L, H D = none → (L.map (·.1)).Nodup → (∀ e ∈ L, e ∈ ks) → (∀ p ∈ ks, p.1 ∈ L.map (·.1)) → Q (.ref D) (upd H D (SN P w D L))
theorem call_setN {X : Cx} {P : Program} {w : World} {K : PySem.W.Frag} (hc : X.calm = true) (hu : X.A.units + 64 < cLine) (hP : X.prog = P := by rfl) (hw : X.w = w := by rfl) (hK : X.K = K := by rfl) : CallR X (.type "set") (rSetL P w K) := by
  subst hP
  subst hw
  subst hK
  intro pins s σ H xs us Q I r h
  obtain ⟨l, ks, rfl, hs, he, few, q⟩ := h
  obtain ⟨u, rfl, ru⟩ := vals1 r
  obtain rfl : u = Value.ref l := ru
  obtain ⟨its, rv, hl, hz⟩ := I.list hs
  have hit : its = ks.map fun p => Value.ref p.2 := by
    have go : ∀ {ks : List (NestedKey × Addr)} {us : List Value}, Vals (ks.map fun p => V.ref p.2) us → us = ks.map fun p => Value.ref p.2 := by
      intro ks
      induction ks with
      | nil =>
        intro us h
        cases h
        rfl
      | cons k ks ih =>
        intro us h
        cases h with
        | @cons _ u _ _ h1 h2 =>
          obtain rfl : u = Value.ref k.2 := h1
          rw [ih h2, List.map_cons]
    exact go rv
  refine call_setK ks (I.ok.hd hc) hl.isList (by simpa using hit) (fun p hp => (he p hp).is I.hok) few (by omega) fun h' tk L es ep t R g keep => ?_
  have g' : GotK ks ks.length L := g
  refine ⟨.ref s.heap.objs.size, _, I.laid (a := s.heap.objs.size) (t' := tk) keep (Nat.le_refl _) (sn_new R.k0), rfl, q _ L (I.hok.fresh (Nat.le_refl _)) R.nd (fun e m => List.mem_of_mem_take (g'.sub e m)) fun p m => g'.all p (by rw [List.take_length]; exact m)⟩
theorem w_setK {P : Program} {w : World} {K : PySem.W.Frag} {B H : Hp} {M : List (Addr × HO)} {Q : VK} {l : Addr} {us : List V} {ks : List IK} (hs : Hs B M H) (h : SqL K H l us) (r : Row (KeyAt H) us ks) (few : (ndp ks).length ≤ 60)
    (q : ∀ D L H', Hs B ((D, SN P w D L) :: M) H' → SK H' L ks → Q (.ref D) H') : rSetL P w K [.ref l] H Q := by
  obtain ⟨es, e1, e2, e3⟩ : ∃ es : List (NestedKey × Addr), us = es.map (fun p => V.ref p.2) ∧ ks.map nkK = es.map (·.1) ∧ ∀ p ∈ es, ∃ x ∈ ks, p.1 = nkK x ∧ KAt H p.2 x := by
    have go : ∀ {us : List V} {ks : List IK}, Row (KeyAt H) us ks → ∃ es : List (NestedKey × Addr), us = es.map (fun p => V.ref p.2) ∧ ks.map nkK = es.map (·.1) ∧ ∀ p ∈ es, ∃ x ∈ ks, p.1 = nkK x ∧ KAt H p.2 x := by
      intro us
      induction us with
      | nil =>
        intro ks r
        have : ks = [] := List.eq_nil_of_length_eq_zero r.1.symm
        subst this
        exact ⟨[], rfl, rfl, (fun _ z => nomatch z)⟩
      | cons u us ih =>
        intro ks r
        cases ks with
        | nil => exact absurd r.1 (by simp)
        | cons k ks =>
          obtain ⟨es, e1, e2, e3⟩ := ih (ks := ks) ⟨Nat.succ.inj r.1, fun i u x h1 h2 => r.2 (i + 1) u x h1 h2⟩
          obtain ⟨p, rfl, hp⟩ := r.2 0 u k rfl rfl
          refine ⟨(nkK k, p) :: es, by rw [List.map_cons, ← e1], by rw [List.map_cons, List.map_cons, e2], fun z hz => ?_⟩
          rcases List.mem_cons.mp hz with rfl | hz
          · exact ⟨k, List.mem_cons_self, rfl, hp⟩
          · obtain ⟨x, h1, h2⟩ := e3 z hz
            exact ⟨x, List.mem_cons_of_mem _ h1, h2⟩
    exact go r
  subst e1
  refine ⟨l, es, rfl, h, fun p hp => ?_, fun l hl hm => ?_, fun D L hD nd sub all => ?_⟩
  · obtain ⟨x, _, h1, h2⟩ := e3 p hp
    have := h2.el
    rw [← h1] at this
    exact this
  · have : ∃ ls : List IK, l = ls.map nkK ∧ ls.Nodup ∧ ∀ x ∈ ls, x ∈ ks := by
      have hm2 : ∀ x ∈ l, ∃ y ∈ ks, x = nkK y := fun x hx => by
        have := hm x hx
        rw [← e2] at this
        obtain ⟨y, hy, rfl⟩ := List.mem_map.mp this
        exact ⟨y, hy, rfl⟩
      clear hm
      induction l with
      | nil => exact ⟨[], rfl, .nil, (fun _ z => nomatch z)⟩
      | cons x l ih =>
        obtain ⟨ls, e, nd, m⟩ := ih (List.nodup_cons.mp hl).2 fun y hy => hm2 y (List.mem_cons_of_mem _ hy)
        obtain ⟨y, hy, rfl⟩ := hm2 x List.mem_cons_self
        refine ⟨y :: ls, by rw [List.map_cons, ← e], List.nodup_cons.mpr ⟨fun z => (List.nodup_cons.mp hl).1 (e ▸ List.mem_map_of_mem z), nd⟩, fun z hz => ?_⟩
        rcases List.mem_cons.mp hz with rfl | hz
        · exact hy
        · exact m z hz
    obtain ⟨ls, rfl, nd, m⟩ := this
    rw [List.length_map]
    have := nd.length_le_of_subset fun x hx => (ndp_mem ks x).mpr (m x hx)
    omega
  · refine q D L _ (hs.new hD) ⟨fun e he => ?_, fun x => ⟨fun hx => ?_, fun hx => ?_⟩, ?_⟩
    · obtain ⟨x, _, h1, h2⟩ := e3 e (sub e he)
      refine ⟨x, h1, h2.mono fun b xs e => ?_⟩
      rw [upd_ne (ne_of_none e hD)]
      exact e
    · obtain ⟨e, he, e4⟩ := List.mem_map.mp hx
      obtain ⟨y, hy, h1, _⟩ := e3 e (sub e he)
      rw [nkK_inj (e4.symm.trans h1)]
      exact hy
    · have : nkK x ∈ es.map (·.1) := e2 ▸ List.mem_map_of_mem hx
      obtain ⟨e, he, e4⟩ := List.mem_map.mp this
      rw [← e4]
      exact all e he
    · have h1 := nd.length_le_of_subset (l₂ := ks.map nkK) fun x hx => by
        obtain ⟨e, he, rfl⟩ := List.mem_map.mp hx
        rw [e2]
        exact List.mem_map_of_mem (sub e he)
      rw [List.length_map, List.length_map] at h1
      exact h1

/-! ### a walk over a dict that is locked around it -/
def iKeysNL (w : World) (td : TE) : TI := fun σ H R => td σ H fun x H1 => ∃ d o es, x = .ref d ∧ H1 d = some (.frz o (DN w d es)) ∧ R (Itn w d o es) H1
theorem pi_keysNL {X : Cx} {tg e : Expr} {td : TE} {w : World} (he : PE X e td) : PI X tg e (iKeysNL w td) := by
  refine ⟨fun pins s σ H R I h => ?_⟩
  refine thn (he.run pins s σ H _ I h) fun u s1 h1 => ?_
  obtain ⟨x, H1, I1, rx, d, o, es, ex, hd1, q⟩ := h1
  subst ex
  obtain rfl : u = Value.ref d := rx
  obtain ⟨hs, hgd, hx, ds, ep, hdt, hsz, ent⟩ := dn_raw I1 hd1
  refine iter_keys hs hgd hx hdt (pi_one (tk := s1.toks) I1 _ (turn_keysN _ hdt) ⟨_, Heap.get?_push_size _ rfl, rfl, ?_⟩ q)
  rw [hsz] <;> rfl
section
variable {K : PySem.W.Frag} {w : World} {σ : L2.St} {H B : Hp} {Q : VK} {L : List (Addr × HO)}
def KeyNLR (w : World) (x : V) (H1 : Hp) (R : It → Hp → Prop) : Prop := ∃ d o es, x = .ref d ∧ H1 d = some (.frz o (DN w d es)) ∧ R (Itn w d o es) H1
theorem w_keyNLR {d : Addr} {o : Obj} {es : List Ent} {R : It → Hp → Prop} (h : H d = some (.frz o (DN w d es))) (q : R (Itn w d o es) H) : KeyNLR w (.ref d) H R := ⟨d, o, es, rfl, h, q⟩
theorem w_lcNL {td : TE} {g : TG} {tt : TT} {te : TE} {vs : List Nat} (q : td σ H fun x H1 => KeyNLR w x H1 (LcR g tt te vs σ Q)) : tLc (iKeysNL w td) g tt te vs σ H Q := q
theorem w_forKNL {D : Ends} {td : TE} {g : TG} {tb : TS} (q : td σ H fun x H1 => KeyNLR w x H1 (ForR g tb D σ)) : tFor (iKeysNL w td) g tb D σ H := q
theorem w_lockN {L' : Obj → List (Addr × HO)} {d : Addr} {es : List Ent} {t : TE} (hs : Hs B L H) (h : ∀ od, Put L d (DN w d es) (.frz od (DN w d es)) (L' od)) (q : ∀ od H', Hs B (L' od) H' → t σ H' fun v H2 => H2 d = some (.frz od (DN w d es)) ∧ Q v (upd H2 d (DN w d es))) : tLockE t σ H Q :=
  ⟨d, _, hs.gets (h default), True.intro, fun od => q od _ (hs.puts (h od))⟩
theorem w_lockSN {D : Ends} {L' : Obj → List (Addr × HO)} {d : Addr} {es : List Ent} {t : TS} (hs : Hs B L H) (h : ∀ od, Put L d (DN w d es) (.frz od (DN w d es)) (L' od))
    (q : ∀ od H', Hs B (L' od) H' → t ⟨fun σ' H' => H' d = some (.frz od (DN w d es)) ∧ D.nx σ' (upd H' d (DN w d es)), fun v H' => H' d = some (.frz od (DN w d es)) ∧ D.rt v (upd H' d (DN w d es)), fun σ' H' => H' d = some (.frz od (DN w d es)) ∧ D.bk σ' (upd H' d (DN w d es)), fun σ' H' => H' d = some (.frz od (DN w d es)) ∧ D.ct σ' (upd H' d (DN w d es))⟩ σ H') : tLock t D σ H :=
  ⟨d, _, hs.gets (h default), True.intro, fun od => q od _ (hs.puts (h od))⟩
end

section
variable {K : PySem.W.Frag} {w : World} {σ : L2.St} {H : Hp} {Q : VK}
theorem w_ninF {ty td : TE} (q : ty σ H fun y H1 => td σ H1 fun x H2 => rNInF w x y H2 fun b => Q (.bl b) H2) : tNInF w ty td σ H Q := q
theorem w_ckw {r : List V → List V → Hp → VK → Prop} {t tk : TA} (q : t σ H fun vs H1 => tk σ H1 fun zs H2 => r vs zs H2 Q) : tCKw r t tk σ H Q := q
theorem w_lc2NN {td : TE} {g : TG} {tt : TT} {wi1 : TI} {g1 : TG} {tt1 : TT} {te : TE} {vs vs1 : List Nat} (q : td σ H fun x H1 => KeyNR w x H1 fun J H1 => ∀ D, H1 D = none → Turns J (Lc2Out g tt wi1 g1 tt1 te vs vs1 σ D) (upd H1 D (.lst [])) fun H => Q (.ref D) H) : tLc2 (iKeysN w td) g tt wi1 g1 tt1 te vs vs1 σ H Q := q
theorem w_allB {a : Addr} {bs : List Bool} {us : List V} (h : SqL K H a us) (e : us = bs.map V.bl) (q : Q (.bl (bs.all id)) H) : rAll K [.ref a] H Q := ⟨a, bs, rfl, e ▸ h, q⟩
/-- the walked row within a comprehension with two fors -/
theorem w_inL {D : Addr} {tl : TE} {g : TG} {tt : TT} {te : TE} {vs : List Nat} {Nx : Hp → Prop} (q : tl σ H fun x H1 => ListR K x H1 fun J1 H4 => Turns J1 (Lc2In g tt te vs σ D) H4 Nx) : iList K tl σ H fun J1 H4 => Turns J1 (Lc2In g tt te vs σ D) H4 Nx := q
end

theorem EntG.rowK {H : Hp} {es : List Ent} {M : GM} (h : EntG H es M) : Row (KeyAt H) (es.map fun e => V.ref e.2.1) (M.map (·.1)) := by
  induction h with
  | nil => exact Row.nil
  | cons h _ ih => exact ih.cons ⟨_, rfl, h.2.2⟩
theorem w_sortDK {w : World} {B H : Hp} {L : List (Addr × HO)} {Q : VK} {d : Addr} {es : List Ent} {M : GM} {c : Option Nat} {sh : List (Option Nat)} (hs : Hs B L H) (h : H d = some (DN w d es)) (e : EntG H es M) (hsh : ∀ x ∈ M, x.1.map shp = c :: sh)
    (q : ∀ p ys H', Hs B ((p, .lst ys) :: L) H' → Row (KeyAt H') ys (srtK (M.map (·.1))) → Q (.ref p) H') : rSortDN w c sh [.ref d] H Q := by
  have hr := e.rowK
  refine ⟨d, es, itK H, rfl, h, fun z hz => ?_, fun ys p h1 h2 hp => ?_⟩
  · obtain ⟨i, hi⟩ := List.mem_iff_getElem?.mp hz
    obtain ⟨x, hx, e1, e2, e3⟩ := paired_get e hi
    have : itK H (.ref z.2.1) = x.1 := KeyAt.it ⟨_, rfl, e3⟩
    rw [this]
    exact ⟨e3.nk, hsh x (List.mem_of_getElem? hx)⟩
  · obtain ⟨zs, pz, rz⟩ := row_perm h2.perm hr
    have hzs : zs = ys.map (itK H) := by
      refine List.ext_getElem? fun i => ?_
      rw [List.getElem?_map]
      cases hy : ys[i]? with
      | none =>
        have := List.getElem?_eq_none_iff.mp hy
        rw [rz.1] at this
        rw [List.getElem?_eq_none this]
        rfl
      | some y =>
        obtain ⟨x, hx, hk⟩ := rz.get hy
        rw [hx]
        exact congrArg some hk.it.symm
    have srt : SortedK zs := by
      rw [hzs]
      exact List.pairwise_map.mpr (h1.imp fun z => z)
    have e1 := srtK_uniq (sh := c :: sh) pz (fun x hx => by
      obtain ⟨y, hy, rfl⟩ := List.mem_map.mp hx
      exact hsh y hy) srt
    rw [e1] at rz
    exact q p ys _ (hs.new hp) (rz.mono fun u k => KeyAt.mono fun b xs e => by rw [upd_ne (ne_of_none e hp)]; exact e)
theorem w_slTF {K : PySem.W.Frag} {B H : Hp} {L : List (Addr × HO)} {Q : VK} {p : Addr} {xs : List V} {lo hi : Option Int} (hs : Hs B L H) (h : B p = some (.tup xs)) (hw : ¬ (HT.sIx xs.length 0 lo = 0 ∧ HT.sIx xs.length xs.length hi = xs.length)) (q : ∀ l B2 H', Same B B2 → Hs B2 L H' → B2 l = some (.tup (cutV xs lo hi)) → Q (.ref l) H') : rSlA K (.ref p) lo hi H Q :=
  w_slA hs (SqT.of (hs.same _ _ h)) hw fun l H' h1 => by
    obtain ⟨B2, sm, h2, h3⟩ := frz_hs h1
    exact q l B2 H' sm h3 h2
theorem w_catTF {K : PySem.W.Frag} {B H : Hp} {L : List (Addr × HO)} {Q : VK} {a b : Addr} {xs ys : List V} (hs : Hs B L H) (ha : B a = some (.tup xs)) (hb : B b = some (.tup ys)) (hz : xs.length + ys.length ≤ 100) (q : ∀ p B2 H', Same B B2 → Hs B2 L H' → B2 p = some (.tup (xs ++ ys)) → Q (.ref p) H') : rCatA K (.ref a) (.ref b) H Q := by
  refine ⟨a, b, xs, ys, rfl, rfl, SqT.of (hs.same _ _ ha), SqT.of (hs.same _ _ hb), Nat.le_trans hz (by decide), fun z => ?_, fun _ z => ?_, fun _ _ p hp => ?_⟩
  · subst z
    exact q b B H (Same.refl _) hs hb
  · subst z
    exact q a B H (Same.refl _) hs (by rw [List.append_nil]; exact ha)
  · obtain ⟨B2, sm, h1, h2⟩ := frz_hs (hs.new (o := .tup (xs ++ ys)) hp)
    exact q p B2 _ sm h2 h1

theorem for_keysN {w : World} {σ : L2.St} {H : Hp} {D : Ends} {g : TG} {tb : TS} {d : Addr} {o : Obj} {es : List Ent} (Pv : Nat → L2.St → Hp → Prop) (h0 : Pv 0 σ H) (hl : ∀ i σ H, i ≤ es.length → Pv i σ H → H d = some (.frz o (DN w d es)))
    (hs : ∀ i (e : Ent) σ H, es[i]? = some e → Pv i σ H → g (.ref e.2.1) σ H fun σ2 H2 => tb { D with nx := Pv (i + 1), ct := Pv (i + 1), bk := D.nx } σ2 H2) (hd : ∀ σ H, Pv es.length σ H → D.nx σ H) : ForR g tb D σ (Itn w d o es) H := by
  refine ⟨fun i m σ H => m = es.length - i ∧ i ≤ es.length ∧ Pv i σ H, ⟨es.length, by simp, Nat.zero_le _, h0⟩, ?_⟩
  rintro i m σ H ⟨rfl, hi, p⟩
  by_cases hlt : i < es.length
  · refine .inr ⟨⟨hl i σ H hi p, hlt⟩, Pv (i + 1), fun σ' H' p' => ⟨es.length - (i + 1), by omega, rfl, hlt, p'⟩, fun x H' y => ?_⟩
    obtain ⟨rfl, e, he, rfl⟩ := y
    exact hs i e σ _ he p
  · have e : i = es.length := by omega
    subst e
    exact .inl ⟨⟨hl _ σ H hi p, Nat.le_refl _⟩, hd σ H p⟩
end Hb

set_option Elab.async false
set_option linter.all false
set_option maxRecDepth 100000
set_option maxHeartbeats 4000000
/-! Dicts with tuple keys: read while locked, changed by an operator, len, copies; list.index of a key. -/
namespace Hb
open PySem L2 PyProof.Rows
def rNGetF (w : World) (x y : V) (H : Hp) (Q : VK) : Prop := ∃ a b o es k v, AtNF w H x y a b o es k ∧ atN es k = some v ∧ Q v H
def tNGetF (w : World) (td ty : TE) : TE := fun σ H Q => td σ H fun x H1 => ty σ H1 fun y H2 => rNGetF w x y H2 Q
def tNNotF (w : World) (ty td : TE) : TE := fun σ H Q => ty σ H fun y H1 => td σ H1 fun x H2 => rNInF w x y H2 fun b => Q (.bl (!b)) H2
section
variable {X : Cx} {w : World} {o i value : Expr} {pos pos' apos cpos : Pos} {td ty tv : TE}
theorem pe_ndgetF (hu : X.A.units + 64 < cLine) (ho : PE X o td) (hi : PE X i ty) (hs : NoSl i) (hw : X.w = w := by rfl) : PE X (.Subscript o i pos) (tNGetF w td ty) := by
  subst hw
  refine ⟨fun pins s σ H Q I h => ?_⟩
  refine subD_of PySem.F.slot_dict_getitem.lookup hs (thn (ho.run pins s σ H _ I h) fun u s1 h1 => ?_)
  obtain ⟨x, H1, I1, rx, q1⟩ := h1
  refine thn (hi.run pins s1 σ H1 _ I1 q1) fun iv s2 h2 => ?_
  obtain ⟨y, H2, I2, ry, a, b, ob, es, k, v, g, hv, q2⟩ := h2
  have dx : DNx X.w a es s2.heap := (show ObjOk X.prog X.w H2 s2.heap a (.frz ob (DN X.w a es)) from I2.hok _ _ g.ha).2.1
  obtain ⟨z, hd, xs, r, dd⟩ := dnx_dict I2.hok dx g.he
  cases g.ex
  cases g.ey
  obtain rfl : u = Value.ref a := rx
  obtain rfl : iv = Value.ref b := ry
  obtain ⟨w', hw', rw'⟩ := RelO.some_of (v := v) (o := (atKey xs k).map (·.2)) (by rw [← hv]; exact r.at k)
  obtain ⟨p, hp, hp2⟩ := Option.map_eq_some_iff.mp hw'
  refine ⟨dd.typeIs, wpAny_getItem_heap (n_room hu) ⟨g.hk.is I2.hok rfl, g.hd⟩ dd hp ?_⟩
  rw [hp2]
  exact ⟨v, H2, I2.tok _, rw', q2⟩
theorem pc_nnotF (hu : X.A.units + 64 < cLine) (hi : PE X i ty) (ho : PE X o td) (hw : X.w = w := by rfl) : PC X .NotIn i o (tNNotF w ty td) := by
  subst hw
  refine ⟨fun pins s σ H Q I h => ?_⟩
  refine thn (hi.run pins s σ H _ I h) fun iv s1 h1 => ?_
  obtain ⟨y, H1, I1, ry, q1⟩ := h1
  refine thn (ho.run pins s1 σ H1 _ I1 q1) fun u s2 h2 => ?_
  obtain ⟨x, H2, I2, rx, a, b, ob, es, k, g, q2⟩ := h2
  have dx : DNx X.w a es s2.heap := (show ObjOk X.prog X.w H2 s2.heap a (.frz ob (DN X.w a es)) from I2.hok _ _ g.ha).2.1
  obtain ⟨z, hd, xs, r, dd⟩ := dnx_dict I2.hok dx g.he
  cases g.ex
  cases g.ey
  obtain rfl : u = Value.ref a := rx
  obtain rfl : iv = Value.ref b := ry
  refine PyProof.Rows.wpAny_notIn_heap (n_room hu) ⟨g.hk.is I2.hok rfl, g.hd⟩ hd dd ?_
  rw [← r.some k]
  exact ⟨.bl _, H2, I2.tok _, rfl, q2⟩
/-! ### d[k] op= v -/
def sNAug (w : World) (td ty tv : TE) (rd : V → V → Hp → VK → Prop) : TS := fun D σ H => td σ H fun x H1 => ty σ H1 fun y H2 => rNGet w x y H2 fun u H3 => tv σ H3 fun z H4 => rd u z H4 fun v H5 => rNPut w x y v H5 fun H6 => D.nx σ H6
theorem ps_naug {op : Operator} {rd : V → V → Hp → VK → Prop} (hu : X.A.units + 64 < cLine) (ho : PE X o td) (hi : PE X i ty) (hv : PE X value tv) (hop : InOp X op rd) (hs : NoSl i)
    (ha : ∀ ov iv new, augStore i ov iv new = (do holding [new, ov, iv] (setItem ov iv new); release [new, ov, iv] []; pure .next) := by intros; rfl) (hw : X.w = w := by rfl) : PS X (.AugAssign (.Subscript o i pos') op value pos) (sNAug w td ty tv rd) := by
  subst hw
  refine ⟨fun pins s σ H D I h => ?_⟩
  refine wpAny_AugAssign_SubscriptAny (thn (ho.run pins s σ H _ I h) fun u s1 h1 => ?_) ha
  obtain ⟨x, H1, I1, rx, q1⟩ := h1
  refine thn (hi.run pins s1 σ H1 _ I1 q1) fun iv s2 h2 => ?_
  obtain ⟨y, H2, I2, ry, a, b, es, k, v, g, hv1, q2⟩ := h2
  obtain ⟨z, hd, xs, r, dd, hk⟩ := g.dn I2 rfl
  cases g.ex
  cases g.ey
  obtain rfl : u = Value.ref a := rx
  obtain rfl : iv = Value.ref b := ry
  obtain ⟨w', hw', rw'⟩ := RelO.some_of (v := v) (o := (atKey xs k).map (·.2)) (by rw [← hv1]; exact r.at k)
  obtain ⟨p, hp, hp2⟩ := Option.map_eq_some_iff.mp hw'
  refine wpAny_getItem_heap (n_room hu) hk dd hp ?_
  rw [hp2]
  refine thn (hv.run pins _ σ H2 _ (I2.tok _) q2) fun nv s3 h3 => ?_
  obtain ⟨zv, H4, I4, rz, q3⟩ := h3
  refine thn (hop pins s3 σ H4 v zv w' nv _ I4 rw' rz q3) fun new s4 h4 => ?_
  obtain ⟨nvv, H5, I5, rn, a2, b2, es2, k2, g2, hl, q4⟩ := h4
  obtain ⟨z2, hd2, xs2, r2, dd2, hk2⟩ := g2.dn I5 rfl
  cases g2.ex
  cases g2.ey
  have hz : xs2.length ≤ sizeLine := by rw [← r2.len]; exact z2
  have hl2 : (putN es2 k2 b nvv).length ≤ sizeLine := Nat.le_trans putN_len hl
  refine wpAny_setItem_heap (hsz := hz) (n_room hu) hk2 dd2 fun h' dd' hs' => ⟨σ, _, ?_, q4⟩
  have he : ∃ q, h'.get? a = some q := let ⟨q, _, _, hq, _⟩ := dd'; ⟨q, hq⟩
  exact d_write I5 (by rw [g2.ha]; exact True.intro) hs' he (dn_obj hl2 hd2 (r2.put k2 b rn) dd')
/-! ### len(d) -/
def rLenN (w : World) : List V → Hp → VK → Prop := fun xs H Q => ∃ (p : Addr) (es : List Ent), xs = [.ref p] ∧ H p = some (DN w p es) ∧ EntsOk H es ∧ Q (.int ((es.length : Nat) : Int)) H
theorem call_lenN (hw : X.w = w := by rfl) : CallR X (.builtin "len") (rLenN w) := by
  subst hw
  intro pins s σ H xs us Q I r h
  obtain ⟨p, es, rfl, hp, he, q⟩ := h
  obtain ⟨u, rfl, rx⟩ := vals1 r
  obtain rfl : u = .ref p := rx
  obtain ⟨z, hd, ys, rel, dd⟩ := dn_of I.hok hp he
  have hl : es.length = ys.length := rel.len
  refine call_len_dictH hd dd (by rw [← hl]; rw [sizeLine_eq] at z; omega) ?_
  rw [← hl]
  exact ⟨.int ((es.length : Nat) : Int), H, I.tok _, ⟨_, rfl⟩, q⟩
end

/-! ### dict(d) -/
section
open Sem (wp)
variable {P : Program} {w : World} {A : Around} {E : Value → Shared → Prop} {s : Shared} {κ : Type} [DecidableEq κ] {knd : HeapKind P w κ}
theorem call_dict_ofH {o : Addr} {xs : List (κ × Addr × Value)} {Q : Value → Shared → Prop} (hu : knd.room A.in1.in1) (hoS : (o == sysModules) = false) (ho : s.heap.DictOfH knd o xs) (hty : ∀ x ∈ xs, s.TypeIs (.ref x.2.1) "tuple") (hap : (xs.map fun x => knd.hash x.1).Nodup) (hsz : xs.length ≤ sizeLine)
    (stay : ∀ h', (∀ b o, s.heap.get? b = some o → h'.get? b = some o) → ∀ x ∈ xs, knd.is h' x.1 x.2.1)
    (h : ∀ h', h'.DictOfH knd s.heap.objs.size xs → (∀ b o, s.heap.get? b = some o → h'.get? b = some o) → Q (.ref s.heap.objs.size) { s with heap := h' }) : wpAny (model P w) A (call (.type "dict") [.ref o]) Q E s := by
  refine callType_codes (Q₁ := fun v t => v = .ref s.heap.objs.size ∧ t = { s with heap := s.heap.push { cls := .type "dict", data := .dict #[] } }) F.kt_called_dict (F.kt_typeCall_dict_1 _) F.entry_dict_init (kt_code_dict_new _ ⟨rfl, rfl⟩) ?_
  rintro v t ⟨rfl, rfl⟩
  have grow : ∀ b ob, s.heap.get? b = some ob → (s.heap.push { cls := .type "dict", data := .dict #[] }).get? b = some ob := fun b ob e => Heap.get?_push_of_some _ e
  have hT : Shared.TypeIs { s with heap := s.heap.push { cls := .type "dict", data := .dict #[] } } (.ref s.heap.objs.size) "dict" := ⟨_, Heap.get?_push_size _ rfl, rfl⟩
  refine ⟨hT, F.args_dict_init_2 _ _, ?_⟩
  unfold Builtin.«dict.__init__» Builtin.Dict.selfAndRest
  refine wpAny_bind (wpAny_bind (wpAny_notOrdered_dict hT ?_))
  show wpAny _ _ (pure (s.heap.objs.size, [Value.ref o])) _ _ _
  refine wpAny_pure ?_
  have hlt : o < s.heap.objs.size := by
    obtain ⟨ob, _, _, e, _⟩ := ho
    exact Heap.lt_size e
  have ho2 : (s.heap.push { cls := .type "dict", data := .dict #[] }).DictOfH knd o xs := by
    obtain ⟨ob, ds, ep, e1, e2, e3, e4, e5, e6⟩ := ho
    exact ⟨ob, ds, ep, grow _ _ e1, e2, e3, e4, stay _ grow, e6⟩
  refine updateFrom_dictH (knd := knd) (kvs := []) .none hu (Nat.ne_of_gt hlt) hoS (Heap.DictOfH.new s.heap) ho2 (.inr ⟨fun x hx => ?_, hap⟩) (by simpa using hsz) fun h' hd' _ hs' => ?_
  · obtain ⟨ob, e1, e2⟩ := hty x hx
    exact ⟨ob, grow _ _ e1, e2⟩
  · have nd : (xs.map (·.1)).Nodup := ho.nodup
    rw [storedAllH_nil_of_nodup xs nd] at hd'
    refine ⟨rfl, h h' hd' fun b ob e => ?_⟩
    rw [hs'.2 b (Nat.ne_of_lt (Heap.lt_size e))]
    exact grow b ob e
end

def rDictN (w : World) : List V → Hp → VK → Prop := fun xs H Q => ∃ (p : Addr) (es : List Ent), xs = [.ref p] ∧ H p = some (DN w p es) ∧ EntsOk H es ∧ (es.map fun e => e.1.hash w).Nodup ∧ ∀ q, H q = none → Q (.ref q) (upd H q (DN w q es))
theorem call_dictN {X : Cx} {w : World} (hu : X.A.units + 64 < cLine) (hw : X.w = w := by rfl) : CallR X (.type "dict") (rDictN w) := by
  subst hw
  intro pins s σ H xs us Q I r h
  obtain ⟨p, es, rfl, hp, he, hh, q⟩ := h
  obtain ⟨u, rfl, rx⟩ := vals1 r
  obtain rfl : u = .ref p := rx
  obtain ⟨z, hd, ys, rel, dd⟩ := dn_of I.hok hp he
  have hl : es.length = ys.length := rel.len
  have hk : ∀ x ∈ ys, NK H x.1 (.ref x.2.1) ∧ x.1.depth ≤ 8 := by
    have go : ∀ {l : List Ent} {m : List (NestedKey × Addr × Value)}, RelEs l m → EntsOk H l → ∀ x ∈ m, NK H x.1 (.ref x.2.1) ∧ x.1.depth ≤ 8 := by
      intro l m r
      induction r with
      | nil => exact fun _ x hx => nomatch hx
      | @cons a b as bs hab _ ih =>
        intro hl x hx
        rcases List.mem_cons.mp hx with rfl | hx
        · have := hl a List.mem_cons_self
          rw [hab.1, hab.2.1] at this
          exact this
        · exact ih (fun e he => hl e (List.mem_cons_of_mem _ he)) x hx
    exact go rel he
  have hhs : (ys.map fun x => (nestedKind X.prog X.w).hash x.1).Nodup := by
    have e : (ys.map fun x => (nestedKind X.prog X.w).hash x.1) = es.map fun e => e.1.hash X.w := by
      have := congrArg (List.map fun k : NestedKey => k.hash X.w) rel.keys
      rw [List.map_map, List.map_map] at this
      exact this
    rw [e]
    exact hh
  have tys : ∀ x ∈ ys, s.TypeIs (.ref x.2.1) "tuple" := fun x hx => by
    obtain ⟨h1, _⟩ := hk x hx
    generalize x.1 = k1 at h1
    cases h1 with
    | tup e _ =>
      obtain ⟨its, _, ht, _⟩ := I.tuple (SqT.of e)
      obtain ⟨o, ho, hc, _⟩ := ht
      exact ⟨o, ho, hc⟩
  refine call_dict_ofH (knd := nestedKind X.prog X.w) (by show X.A.in1.in1.units + 8 < cLine; have e : X.A.in1.in1.units = X.A.units + 1 + 1 := rfl; omega) hd dd tys hhs (by rw [← hl]; exact z) (fun h' keep x hx => ?_) fun h' dd' keep => ?_
  · obtain ⟨h1, h2⟩ := hk x hx
    exact ⟨NestedIs.at (fun c o _ _ hc _ => keep c o hc) _ _ (h1.is I.hok rfl), h2⟩
  · exact ⟨.ref s.heap.objs.size, _, I.laid (a := s.heap.objs.size) (t' := s.toks) keep (Nat.le_refl _) (dn_obj z (beq_eq_false_iff_ne.mpr (Ne.symm (Nat.ne_of_lt I.big))) rel dd'), rfl, q _ (I.hok.fresh (Nat.le_refl _))⟩
/-! ### list.index of a key -/
def rIdxN (K : PySem.W.Frag) : V → List V → Hp → VK → Prop := fun x vs H Q => ∃ (l : Addr) (us : List V) (ks : List IK) (v : V) (k : IK) (i : Nat), x = .ref l ∧ vs = [v] ∧ SqL K H l us ∧ Row (KeyAt H) us ks ∧ KeyAt H v k ∧ ks.Nodup ∧ ks[i]? = some k ∧ Q (.int (i : Nat)) H
theorem mt_indexN {X : Cx} {K : PySem.W.Frag} (hu : X.A.units + 64 < cLine) (hK : X.K = K := by rfl) : MtR X "list.index" (rIdxN K) := by
  subst hK
  intro pins s σ H x vs v us Q I rx rv h
  obtain ⟨l, xs, ks, y, k, i, rfl, rfl, hs, hr, hy, nd, hi, q⟩ := h
  cases rx
  obtain ⟨u, rfl, ru⟩ := rv.one
  obtain ⟨its, r, hl, hz⟩ := I.list hs
  obtain ⟨p, rfl, hp⟩ := hy
  obtain rfl : u = .ref p := ru
  have hall : NestedAll s.heap (ks.map nkK) its := by
    have go : ∀ {xs : List V} {its : List Value} {ks : List IK}, Vals xs its → Row (KeyAt H) xs ks → NestedAll s.heap (ks.map nkK) its := by
      intro xs its ks rv
      induction rv generalizing ks with
      | nil =>
        intro hr
        have : ks = [] := List.eq_nil_of_length_eq_zero hr.1.symm
        subst this
        exact .nil
      | @cons v u vs its h1 h2 ih =>
        intro hr
        cases ks with
        | nil => exact absurd hr.1 (by simp)
        | cons k ks =>
          obtain ⟨b, rfl, hb⟩ := hr.2 0 v k rfl rfl
          obtain rfl : u = .ref b := h1
          exact .cons (hb.nk.is I.hok rfl) (ih ⟨Nat.succ.inj hr.1, fun i u x e1 e2 => hr.2 (i + 1) u x e1 e2⟩)
    exact go r hr
  have hx : NestedIs s.heap (nkK k) (.ref p) := hp.nk.is I.hok rfl
  have hm : nkK k ∈ ks.map nkK := List.mem_map_of_mem (List.mem_of_getElem? hi)
  refine PySem.SeqAt.call_list_index (vs := its) (ks := ks.map nkK) hl.isList (PySem.SeqAt.ItemsEq.nested hall hx (by have := nkK_depth k; show X.A.in1.units + _ < _; have e : X.A.in1.units = X.A.units + 1 := rfl; omega)) (by rw [List.length_map, ← hr.1]; exact hz) hm ?_
  have hix : (ks.map nkK).idxOf (nkK k) = i := by
    have nd2 : (ks.map nkK).Nodup := List.pairwise_map.mpr (nd.imp fun z e => z (nkK_inj e))
    have hi2 : (ks.map nkK)[i]? = some (nkK k) := by rw [List.getElem?_map, hi]; rfl
    have h1 := List.idxOf_lt_length_iff.mpr hm
    have h2 : (ks.map nkK)[(ks.map nkK).idxOf (nkK k)]? = some (nkK k) := by
      rw [List.getElem?_eq_getElem h1, List.getElem_idxOf h1]
    have h3 := (List.getElem?_eq_some_iff.mp hi2).1
    have e1 : (ks.map nkK)[(ks.map nkK).idxOf (nkK k)]'h1 = (ks.map nkK)[i]'h3 := (List.getElem_idxOf h1).trans (List.getElem?_eq_some_iff.mp hi2).2.symm
    rcases Nat.lt_trichotomy ((ks.map nkK).idxOf (nkK k)) i with g | g | g
    · exact absurd e1 (List.pairwise_iff_getElem.mp nd2 _ _ h1 h3 g)
    · exact g
    · exact absurd e1.symm (List.pairwise_iff_getElem.mp nd2 _ _ h3 h1 g)
  rw [hix]
  exact ⟨.int _, H, I.tok _, ⟨_, rfl⟩, q⟩

section
variable {K : PySem.W.Frag} {w : World} {σ : L2.St} {H B : Hp} {Q : VK} {D : Ends} {td ty tv : TE} {L L' : List (Addr × HO)} {es : List Ent} {M : GM} {k : IK} {d b : Addr} {v : V}
theorem w_ngetF (q : td σ H fun x H1 => ty σ H1 fun y H2 => rNGetF w x y H2 Q) : tNGetF w td ty σ H Q := q
theorem w_nnotF (q : ty σ H fun y H1 => td σ H1 fun x H2 => rNInF w x y H2 fun b => Q (.bl (!b)) H2) : tNNotF w ty td σ H Q := q
theorem w_naug {rd : V → V → Hp → VK → Prop} (q : td σ H fun x H1 => ty σ H1 fun y H2 => rNGet w x y H2 fun u H3 => tv σ H3 fun z H4 => rd u z H4 fun v H5 => rNPut w x y v H5 fun H6 => D.nx σ H6) : sNAug w td ty tv rd D σ H := q
theorem wg_getF {o : Obj} (hs : Hs B L H) (h : H d = some (.frz o (DN w d es))) (e : EntG B es M) (hk : KAt H b k) (hv : valG M k = some v) (q : Q v H) : rNGetF w (.ref d) (.ref b) H Q :=
  ⟨d, b, o, es, nkK k, v, ⟨rfl, rfl, h, (e.same hs.same).ok, hk.nk, nkK_depth k⟩, by rw [e.at k, hv], q⟩
theorem w_lenN (h : H d = some (DN w d es)) (e : EntG H es M) (q : Q (.int (M.length : Nat)) H) : rLenN w [.ref d] H Q := ⟨d, es, rfl, h, e.ok, by rw [e.len]; exact q⟩
theorem w_dictN (hs : Hs B L H) (h : H d = some (DN w d es)) (e : EntG H es M) (hh : (M.map fun x => (nkK x.1).hash w).Nodup) (q : ∀ p H', Hs B ((p, DN w p es) :: L) H' → Q (.ref p) H') : rDictN w [.ref d] H Q := by
  refine ⟨d, es, rfl, h, e.ok, ?_, fun p hp => q p _ (hs.new hp)⟩
  have key : ∀ {es : List Ent} {M : GM}, EntG H es M → (es.map fun e => e.1.hash w) = M.map fun x => (nkK x.1).hash w := by
    intro es M e
    induction e with
    | nil => rfl
    | cons h _ ih => rw [List.map_cons, List.map_cons, ih, h.1]
  rw [key e]
  exact hh
theorem w_idxN {l : Addr} {us : List V} {ks : List IK} {x : V} {i : Nat} (h : SqL K H l us) (r : Row (KeyAt H) us ks) (hx : KeyAt H x k) (nd : ks.Nodup) (hi : ks[i]? = some k) (q : Q (.int (i : Nat)) H) : rIdxN K (.ref l) [x] H Q := ⟨l, us, ks, x, k, i, rfl, rfl, h, r, hx, nd, hi, q⟩
end

/-! ### name = {k: v for ..}, the keys nested tuples -/
section
variable {X : Cx}
theorem dcn_core {pins : List (Addr × Obj)} {s : Shared} {σ : L2.St} {H : Hp} {Q : VK} {use : Option (Value → Sem Unit)} {Qf : Value → Shared → Prop} {kx vx tg iter : Expr} {ifs : List Expr} {scope : Scope} {own : List (Str × Nat)} {pos pos' : Pos} {wi : TI} {g : TG} {tt : TT} {tk tv : TE} (I : Inv X pins σ H s) (hc : X.calm = true) (hu : X.A.units + 64 < cLine) (hN : X.N.Nodup) (hi : PI X tg iter wi) (ok : BlkOk X.N X.env.scope scope own)
    (hg : ∀ (s : Shared) (H : Hp) (C : Addr) (cl : List (Str × Addr)) (fp : List Addr), PG (X.blk s H scope (compEnvC scope cl C X.env) fp) tg g) (ht : ∀ (s : Shared) (H : Hp) (C : Addr) (cl : List (Str × Addr)) (fp : List Addr), PTs (X.blk s H scope (compEnvC scope cl C X.env) fp) ifs tt)
    (hk : ∀ (s : Shared) (H : Hp) (C : Addr) (cl : List (Str × Addr)) (fp : List Addr), PE (X.blk s H scope (compEnvC scope cl C X.env) fp) kx tk)
    (he : ∀ (s : Shared) (H : Hp) (C : Addr) (cl : List (Str × Addr)) (fp : List Addr), PE (X.blk s H scope (compEnvC scope cl C X.env) fp) vx tv) (hs : ∀ x, foldedSetIterable iter X.env x = pure x) (h : tDcN X.w wi g tt tk tv (own.map (·.2)) σ H Q)
    (hRR : ∀ D C s' m H', Inv X pins σ H' s' → Q (.ref D) H' → s'.heap.Ns C m → FpOk X pins H' C → compPost (model X.prog X.w) X.A X.xe use Qf (.ref D) C (.ok .next) s') :
    wpAny (model X.prog X.w) X.A (comprehension (.DictComp kx vx [⟨tg, iter, ifs, 0⟩] scope pos) scope X.env pos' (newObj (.type "dict") (.dict #[])) false (eval iter X.env) use) Qf X.xe s := by
  have hfree : ∀ y ∈ scope.names, y.2 = .free → ∃ c, X.env.cells.lookup y.1 = some c := fun y hy e => by
    rcases ok.free y hy e with k | k
    · exact I.ok.has _ (.inl k)
    · exact I.ok.has _ (.inr k)
  refine wpAny_comprehension_free (use := use) rfl hs (closure_ok hfree) ok.kind (fun y hy e => by rw [ok.uniq y hy, e]) (thn (hi.run pins s σ H _ I h) fun xv s1 hx => thn hx fun itv s2 h2 => ?_)
  obtain ⟨it, fp, tn, J, H2, rfl, I2, T, st2, f2, q⟩ := h2
  refine wpAny_newObj_type (newEnv_comp ?_)
  obtain ⟨D, hD⟩ : ∃ D, D = s2.heap.objs.size := ⟨_, rfl⟩
  rw [← hD]
  obtain ⟨W, ⟨m0, w0⟩, turn⟩ := q D (I2.hok.fresh (Nat.le_of_eq hD.symm))
  have grown : ∀ b o, s2.heap.get? b = some o → (s2.heap.push { cls := .type "dict", data := .dict #[] }).get? b = some o := fun b o e => Heap.get?_push_of_some _ e
  have I3 : Inv X pins σ (upd H2 D (DN X.w D [])) { s2 with heap := s2.heap.push { cls := .type "dict", data := .dict #[] } } :=
    I2.laid (t' := s2.toks) grown (Nat.le_of_eq hD.symm) (hD ▸ dn_empty s2.heap I2.big)
  have f3 : ∀ b ∈ fp, FpOk X pins (upd H2 D (DN X.w D [])) b ∧ b < (s2.heap.push { cls := .type "dict", data := .dict #[] }).objs.size := fun b hb => by
    obtain ⟨o, e, _⟩ := T.obj _ _ st2 b hb
    have hlt := Heap.lt_size e
    refine ⟨⟨?_, (f2 b hb).2⟩, by rw [Heap.size_push]; exact Nat.lt_succ_of_lt hlt⟩
    rw [upd_ne (by rw [hD]; exact Nat.ne_of_lt hlt)]
    exact (f2 b hb).1
  have st3 := T.keep _ _ _ st2 fun b _ o e => grown b o e
  obtain ⟨s3, hs3⟩ : ∃ s3 : Shared, s3 = { s2 with heap := s2.heap.push { cls := .type "dict", data := .dict #[] } } := ⟨_, rfl⟩
  obtain ⟨H3, hH3⟩ : ∃ H3 : Hp, H3 = upd H2 D (DN X.w D []) := ⟨_, rfl⟩
  rw [← hH3] at I3 w0
  rw [← hs3] at I3
  have st3' : tn 0 s3.heap := by rw [hs3]; exact st3
  have f3' : ∀ b ∈ fp, FpOk X pins H3 b ∧ b < s3.heap.objs.size := fun b hb => by rw [hH3, hs3]; exact f3 b hb
  have I4 := block_start I3 ok hN f3'
  show codeAny _ _ (.compStart (.DictComp kx vx [⟨tg, iter, ifs, 0⟩] scope pos) 0 (.ref it) (.ref D) (compEnvC scope (cellsFrom ((s2.heap.push { cls := .type "dict", data := .dict #[] }).objs.size + 1) scope.names (cloFrom X.env.cells scope.names [])) (s2.heap.push { cls := .type "dict", data := .dict #[] }).objs.size X.env))
    (compPost (model X.prog X.w) X.A X.xe use Qf (.ref D) (s2.heap.push { cls := .type "dict", data := .dict #[] }).objs.size)
    { s2 with heap := pushCells ((s2.heap.push { cls := .type "dict", data := .dict #[] }).push { cls := .type "dict", data := .dict #[] }) scope.names }
  have hh3 : s2.heap.push { cls := .type "dict", data := .dict #[] } = s3.heap := by rw [hs3]
  have hst : ({ s2 with heap := pushCells ((s2.heap.push { cls := .type "dict", data := .dict #[] }).push { cls := .type "dict", data := .dict #[] }) scope.names } : Shared) = { s3 with heap := pushCells (s3.heap.push { cls := .type "dict", data := .dict #[] }) scope.names } := by rw [hs3]
  rw [hst, hh3]
  have pg := hg s3 H3 s3.heap.objs.size (cellsFrom (s3.heap.objs.size + 1) scope.names (cloFrom X.env.cells scope.names [])) fp
  have pt := ht s3 H3 s3.heap.objs.size (cellsFrom (s3.heap.objs.size + 1) scope.names (cloFrom X.env.cells scope.names [])) fp
  have pk := hk s3 H3 s3.heap.objs.size (cellsFrom (s3.heap.objs.size + 1) scope.names (cloFrom X.env.cells scope.names [])) fp
  have pe := he s3 H3 s3.heap.objs.size (cellsFrom (s3.heap.objs.size + 1) scope.names (cloFrom X.env.cells scope.names [])) fp
  generalize hce : compEnvC scope (cellsFrom (s3.heap.objs.size + 1) scope.names (cloFrom X.env.cells scope.names [])) s3.heap.objs.size X.env = ce at I4 pg pt pk pe ⊢
  have cL : ce.locals = s3.heap.objs.size := by subst hce; rfl
  generalize hs4 : ({ s3 with heap := pushCells (s3.heap.push { cls := .type "dict", data := .dict #[] }) scope.names } : Shared) = s4 at I4 ⊢
  have st4 : tn 0 s4.heap := T.keep _ _ _ st3' fun b _ o e => by rw [← hs4]; exact pushCells_keeps _ _ _ _ (Heap.get?_push_of_some _ e)
  have nfp : ∀ b ∈ fp, H3 b = none := fun b hb => (f3' b hb).1.1
  have stat : ∀ {σ' : L2.St} {H' : Hp} {s' : Shared}, Inv (X.blk s3 H3 scope ce fp) [] σ' H' s' → (∀ b ∈ fp, H' b = none) → ∀ b ∈ fp, FpOk (X.blk s3 H3 scope ce fp) [] H' b := fun {σ' H' s'} I' hn b hb =>
    ⟨hn b hb, (I'.ok.exf b hb).1, I'.ok.exfs b hb, .inl hb, fun x c e => (I'.ok.exf b hb).2 x c e, fun p hp => absurd (show p ∈ ([] : List (Addr × Obj)) ++ [] from hp) (by simp)⟩
  have loop : codeAny (model X.prog X.w) X.A (.compLoop (.DictComp kx vx [⟨tg, iter, ifs, 0⟩] scope pos) 0 (.ref it) (.ref D) ce) (compPost (model X.prog X.w) X.A X.xe use Qf (.ref D) s3.heap.objs.size) s4 := by
    refine compLoop_anyD (fun n s' => ∃ i H', Inv (X.blk s3 H3 scope ce fp) [] (wipe σ (own.map (·.2))) H' s' ∧ tn i s'.heap ∧ (∀ b ∈ fp, H' b = none) ∧ W i n H') ?_ m0 ⟨0, H3, I4, st4, nfp, w0⟩
    rintro n s5 ⟨i, H5, I5, st5, n5, w5⟩
    rcases turn i n H5 w5 with ⟨stop, qq⟩ | ⟨go, Nx, hNx, step⟩
    · refine thnF (T.done (X.blk s3 H3 scope ce fp) rfl rfl rfl hc i [] s5 _ H5 (fun _ _ => False) I5 (stat I5 n5) st5 stop) fun r s6 ⟨hr, I6⟩ => ?_
      subst hr
      have I7 : Inv X pins σ H5 s6 := I3.call' (ch := fp) I6.os I6.base I6.hok I6.bare fun b hb => ⟨(f3' b hb).1.2.2.2.1, (f3' b hb).1.2.1, (f3' b hb).1.2.2.2.2.1, (f3' b hb).1.2.2.2.2.2⟩
      have nC : H5 s3.heap.objs.size = none := by
        have z : H5 ce.locals = none := I6.free
        rwa [cL] at z
      obtain ⟨m, hn, _⟩ := I6.loc
      have hn' : s6.heap.Ns ce.locals m := hn
      rw [cL] at hn'
      exact hRR D _ s6 m H5 I7 qq hn' (I3.fpOk (Nat.le_refl _) nC)
    · refine thnF (T.item (X.blk s3 H3 scope ce fp) rfl rfl rfl hc i [] s5 _ H5 (fun _ _ => False) I5 (stat I5 n5) st5 go) fun r s6 ⟨u, hr, h6⟩ => ?_
      subst hr
      refine thnF h6 fun _ s7 ⟨x, H7, I7, r7, y7, st7, n7⟩ => ?_
      refine thnF (pg.run _ s7 _ H7 x u _ (I7.pinned (stat I7 n7) (T.obj _ _ st7)) r7 (step x H7 y7)) fun _ s8 ⟨σ8, H8, I8, hw8, q8⟩ => ?_
      refine thnF (pt.run _ s8 σ8 H8 _ I8 q8) fun b s9 ⟨H9, I9, q9⟩ => ?_
      have fin : ∀ {s' : Shared} {H' : Hp}, Inv (X.blk s3 H3 scope ce fp) ([] ++ pinsAt fp s7.heap) σ8 H' s' → Nx H' → ∃ m, m < n ∧ ∃ i H', Inv (X.blk s3 H3 scope ce fp) [] (wipe σ (own.map (·.2))) H' s' ∧ tn i s'.heap ∧ (∀ b ∈ fp, H' b = none) ∧ W i m H' := fun {s' H'} I' nx => by
        obtain ⟨m', hm, w'⟩ := hNx H' nx
        have pin' : ∀ b ∈ fp, ∀ o, s7.heap.get? b = some o → s'.heap.get? b = some o ∧ H' b = none := fun b hb o e =>
          let z := I'.pin (b, o) (List.mem_append_right _ (List.mem_append_right _ (mem_pinsAt hb e)))
          ⟨z.1, z.2.1⟩
        have hl : (wipe σ (own.map (·.2))).length = σ8.length := by rw [← hw8, wipe_length]
        refine ⟨m', hm, i + 1, H', (I'.unpinned (pins := [])).weak hl (fun j v e => ?_), T.keep _ _ _ st7 fun b hb o e => (pin' b hb o e).1, fun b hb => ?_, w'⟩
        · rw [← hw8] at e
          exact (wipe_some e).1
        · obtain ⟨o, e, _⟩ := T.obj _ _ st7 b hb
          exact (pin' b hb o e).2
      cases b with
      | false =>
        simp only [Bool.false_eq_true, if_false] at q9 ⊢
        exact fin I9 q9
      | true =>
        simp only [if_true] at q9 ⊢
        refine thnF (pk.run _ s9 σ8 H9 _ I9 q9) fun z s10 ⟨yk, H10, I10, r10, q10⟩ => ?_
        refine thnF (pe.run _ s10 σ8 H10 _ I10 q10) fun z2 s11 ⟨yv, H11, I11, r11, b, es, k, ek, hD11, hes, hkk, hdep, hz11, nx⟩ => ?_
        subst ek
        obtain rfl : z = Value.ref b := r10
        exact dn_dictSet (X := X.blk s3 H3 scope ce fp) hu I11 hD11 hes hkk hdep hz11 r11 fun s12 I12 => fin I12 nx
  exact codeAny_compStart_dict loop (T.self X.A 0 _ _ _ st4 loop)
theorem sw_trueD {kx vx : Expr} {gs : List Comprehension} {scope : Scope} {pos py : Pos} {y : Str} {l : Nat} {env : Env} (hk : env.scope.kind = .function) (hy : env.scope.names.lookup y = some .local) (hl : (py.line == pos.line) = true)
    (ha : (scope.names.any fun (n, k) => n == y && (k == .local || k == .cell)) = false) : swapsWith (.DictComp kx vx gs scope pos) (some (.Name y py)) l env = pure true := by
  have ky : env.kindOf y = some .local := hy
  have hb : env.blockKind = .function := by unfold Env.blockKind; rw [hk]; rfl
  unfold swapsWith
  simp only [hb, ky, ha, Expr.pos, hl]
  rfl
theorem ps_setDcN {w : World} {i : Nat} {y : Str} {py spos : Pos} {kx vx tg iter : Expr} {ifs : List Expr} {scope : Scope} {own : List (Str × Nat)} {pos : Pos} {wi : TI} {g : TG} {tt : TT} {tk tv : TE} (hc : X.calm = true) (hu : X.A.units + 64 < cLine) (hN : X.N.Nodup) (hy : X.N[i]? = some y) (hyl : X.env.scope.names.lookup y = some .local)
    (hsw : swapsWith (.DictComp kx vx [⟨tg, iter, ifs, 0⟩] scope pos) (some (.Name y py)) spos.line X.env = pure true) (hi : PI X tg iter wi) (ok : BlkOk X.N X.env.scope scope own)
    (hg : ∀ (s : Shared) (H : Hp) (C : Addr) (cl : List (Str × Addr)) (fp : List Addr), PG (X.blk s H scope (compEnvC scope cl C X.env) fp) tg g) (ht : ∀ (s : Shared) (H : Hp) (C : Addr) (cl : List (Str × Addr)) (fp : List Addr), PTs (X.blk s H scope (compEnvC scope cl C X.env) fp) ifs tt)
    (hk : ∀ (s : Shared) (H : Hp) (C : Addr) (cl : List (Str × Addr)) (fp : List Addr), PE (X.blk s H scope (compEnvC scope cl C X.env) fp) kx tk)
    (he : ∀ (s : Shared) (H : Hp) (C : Addr) (cl : List (Str × Addr)) (fp : List Addr), PE (X.blk s H scope (compEnvC scope cl C X.env) fp) vx tv) (hw : X.w = w := by rfl) (hs : ∀ x, foldedSetIterable iter X.env x = pure x := by intro _; rfl) :
    PS X (.Assign [.Name y py] (.DictComp kx vx [⟨tg, iter, ifs, 0⟩] scope pos) spos) (tAsg (tDcN w wi g tt tk tv (own.map (·.2))) (gName i)) := by
  subst hw
  refine ⟨fun pins s σ H D I h => ?_⟩
  rw [exec_Assign_Name_used _ _ _ _ hsw]
  refine wpAny_bind (wpAny_standAt (wpAny_bind ?_))
  have h : tDcN X.w wi g tt tk tv (own.map (·.2)) σ H (fun x H1 => gName i x σ H1 D.nx) := h
  refine wpAny_bind (thn (dcn_core (Qf := fun _ s' => SP X pins D .next s') (use := some (assign (.Name y py) X.env)) I hc hu hN hi ok hg ht hk he hs h fun L C s' m H' I' q hn f => ?_) fun _ s' hq => wpAny_pure (wpAny_pure hq))
  refine (show wpAny _ _ (assign (.Name y py) X.env (.ref L)) _ _ _ from ?_)
  refine wpAny_assign_Name (store_ok2 (v := V.ref L) I' hN hy (.inl hyl) rfl (fun s2 I2 ⟨a, sb, ha⟩ => ?_) (.inr hyl))
  obtain ⟨z0, z1, z2, z3, z4, z5⟩ := f
  have haC : C ≠ a := by
    rcases ha with z | z
    · exact z ▸ z1
    · exact fun e => z4 y a z e.symm
  refine ⟨m, hn.sameBut sb haC, fun h3 sb3 => ?_⟩
  exact ⟨_, H', I2.turned (t' := s2.toks) (fun b o hb e => (sb3.2 b hb).trans e) z0 z1 z3 z4 z5, q⟩
end
end Hb

set_option Elab.async false
set_option linter.all false
set_option maxRecDepth 100000
set_option maxHeartbeats 4000000
/-! Dicts with tuple keys: isinstance; the keys' hashes, no world in them. -/
namespace Hb
open PySem L2 PyProof.Rows
/-! ### isinstance(x, c) of such a dict -/
section
variable {X : Cx}
def rIsiN (K : PySem.W.Frag) (w : World) : List V → Hp → VK → Prop := fun xs H Q => ∃ (a : Addr) (es : List Ent) (c : V) (u : Value) (b : Bool), xs = [.ref a, c] ∧ ClsV c u ∧ H a = some (DN w a es) ∧ PySem.W.kitOne K (.type "dict") u = some b ∧ Q (.bl b) H
theorem call_isiN {K : PySem.W.Frag} {w : World} (hK : X.K = K := by rfl) (hw : X.w = w := by rfl) : CallR X (.builtin "isinstance") (rIsiN K w) := by
  subst hK
  subst hw
  intro pins s σ H xs us Q I r h
  obtain ⟨a, es, c, u, b, rfl, k, hD, e, q⟩ := h
  obtain ⟨u1, u2, rfl, r1, r2⟩ := vals2 r
  have e2 := k.eq r2
  subst e2
  cases (show u1 = Value.ref a from r1)
  obtain ⟨⟨z, y, xs, r, o, ds, ep, h1, h2, h3, h4, h5⟩, _, _⟩ := (show ObjOk X.prog X.w H s.heap a (DN X.w a es) from I.hok _ _ hD)
  exact PySem.W.kia_one PySem.W.kitx_dict I.kIn ⟨o, h1, h2.1⟩ e (fun z => nomatch z) fun tk => ⟨.bl b, H, I.tok tk, rfl, q⟩
end
section
variable {K : PySem.W.Frag} {w : World} {H : Hp} {Q : VK}
theorem w_isiN {a : Addr} {es : List Ent} (h : H a = some (DN w a es)) (q : Q (.bl true) H) : rIsiN K w [.ref a, .ty "dict"] H Q := ⟨a, es, _, _, true, rfl, .ty "dict", h, kit_ty (by decide +kernel), q⟩
end

def hI : Itm → Int
  | .inl n => hashInt n
  | .inr ns => reduceHash (Builtin.Tuple.tupleHashOf (ns.map hashInt))
def hK (k : IK) : Int := reduceHash (Builtin.Tuple.tupleHashOf (k.map hI))
theorem hashes_num (w : World) : ∀ ns : List Int, NestedKey.hashes w (ns.map .num) = ns.map hashInt
  | [] => by rw [List.map_nil, List.map_nil, NestedKey.hashes]
  | n :: ns => by rw [List.map_cons, List.map_cons, NestedKey.hashes, NestedKey.hash, hashes_num w ns]
theorem hash_nkI (w : World) : ∀ x : Itm, (nkI x).hash w = hI x
  | .inl n => by rw [nkI, NestedKey.hash, hI]
  | .inr ns => by rw [nkI, NestedKey.hash, hashes_num, hI]
theorem hashes_nkI (w : World) : ∀ k : IK, NestedKey.hashes w (k.map nkI) = k.map hI
  | [] => by rw [List.map_nil, List.map_nil, NestedKey.hashes]
  | x :: k => by rw [List.map_cons, List.map_cons, NestedKey.hashes, hash_nkI, hashes_nkI w k]
theorem hash_nkK (w : World) (k : IK) : (nkK k).hash w = hK k := by
  unfold nkK hK
  rw [NestedKey.hash, hashes_nkI]
/-- keys among those of a list whose hashes differ -/
theorem hash_nodup {w : World} {A : List IK} (hA : (A.map hK).Nodup) {ks : List IK} (nd : ks.Nodup) (h : ∀ k ∈ ks, k ∈ A) : (ks.map fun k => (nkK k).hash w).Nodup := by
  have inj : ∀ a b, a ∈ A → b ∈ A → hK a = hK b → a = b := by
    clear h nd
    induction A with
    | nil => exact fun _ _ z => nomatch z
    | cons x A ih =>
      rw [List.map_cons, List.nodup_cons] at hA
      intro a b ha hb e
      rcases List.mem_cons.mp ha with ha | ha <;> rcases List.mem_cons.mp hb with hb | hb
      · rw [ha, hb]
      · exact absurd (List.mem_map.mpr ⟨b, hb, by rw [← e, ha]⟩) hA.1
      · exact absurd (List.mem_map.mpr ⟨a, ha, by rw [e, hb]⟩) hA.1
      · exact ih hA.2 a b ha hb e
  refine List.pairwise_map.mpr ?_
  refine List.Pairwise.imp_of_mem (fun {a b} ha hb hne e => ?_) nd
  rw [hash_nkK, hash_nkK] at e
  exact hne (inj a b (h a ha) (h b hb) e)
end Hb

set_option Elab.async false
set_option linter.all false
set_option maxRecDepth 100000
set_option maxHeartbeats 4000000
/-! {x} in an f-string: a text, an int, or a tuple of a text and an int. -/
namespace Hb
open PySem PySem.Spec L2 PyProof.Rows
section
variable {X : Cx}
def RFmt2 (K : PySem.W.Frag) (x : V) (H : Hp) (Q : VK) : Prop := RFmt x H Q ∨ ∃ (a : Addr) (y : Str) (n : Int), x = .ref a ∧ SqT K H a [.str y, .int n] ∧ (∀ c ∈ y.cps.toList, c < 16 ^ 8) ∧ y.length ≤ 100 ∧ 0 ≤ n ∧ n < 10 ^ 10 ∧ ∀ m : Str, m.length ≤ 2000 → Q (.str m) H
def tFmt2 (K : PySem.W.Frag) (te : TE) : TE := fun σ H Q => te σ H fun x H1 => RFmt2 K x H1 Q
theorem pe_fmt2 {K : PySem.W.Frag} {e : Expr} {te : TE} {pos : Pos} {k : Nat} (hr : Room k X.A) (he : PE X e te) (hK : X.K = K := by rfl) : PE X (.FormattedValue e (-1) none pos) (tFmt2 K te) := by
  subst hK
  refine ⟨fun pins s σ H Q I h => ?_⟩
  refine wpAny_FormattedValue_plain (thn (he.run pins s σ H _ I h) fun v s1 hv => ?_)
  obtain ⟨x, H1, I1, r1, q⟩ := hv
  rcases q with (⟨y, rfl, hz, q⟩ | ⟨i, rfl, hz, q⟩) | ⟨a, y, n, rfl, ht, hc, hy, n0, n1, q⟩
  · obtain ⟨t, rfl⟩ := r1
    exact wpAny_formatField_str ⟨.str y, H1, I1, ⟨t, rfl⟩, q⟩ ⟨.str y, H1, I1.tok _, ⟨_, rfl⟩, q⟩ hz
  · obtain ⟨t, rfl⟩ := r1
    exact wpAny_formatField_int hz ⟨.str (toString i), H1, I1.tok _, ⟨_, rfl⟩, q⟩
  · cases r1
    obtain ⟨its, rv, ⟨o, ho, hcl, m, hd⟩, _⟩ := I1.tuple ht
    obtain ⟨u1, u2, rfl, ⟨t1, r1⟩, ⟨t2, r2⟩⟩ := rv.two
    subst r1
    subst r2
    have h1 : (reprText y).length ≤ 1002 := Nat.le_trans (StrLaws.reprText_len y hc) (by omega)
    have h2 : (Str.ofString (toString n)).length ≤ 10 := toString_length_le n0 (by decide) n1
    have hp : piled [reprText y, Str.ofString (toString n)] ≤ 1016 := by
      rw [piled_cons, piled_cons, piled_nil]
      omega
    have htx := fmt_text [reprText y, Str.ofString (toString n)]
    have hu := hr.units
    refine fmt_tuple (ts := [reprText y, Str.ofString (toString n)]) (by omega) ho hcl hd (.cons (ReprIs.str y t1 (Nat.le_trans h1 (by decide))) (.cons (ReprIs.int t2 (Nat.lt_of_lt_of_le (PySem.Flt.log2_lt_of (k := 64) (by decide) (show n.natAbs < 2 ^ 64 by omega)) (by decide))) .nil)) (Nat.le_trans htx (Nat.le_trans (Nat.add_le_add_right hp 2) (by decide))) fun m u tk hm => ⟨.str m, H1, I1.tok _, ⟨u, rfl⟩, q m (by omega)⟩
theorem w_fmt2 {K : PySem.W.Frag} {te : TE} {σ : L2.St} {H : Hp} {Q : VK} (q : te σ H fun x H1 => RFmt2 K x H1 Q) : tFmt2 K te σ H Q := q
end
/-! ## an own exception whose promise hangs on the heap -/
section
variable {K : PySem.W.Frag} {H B : Hp} {L : List (Addr × HO)} {C : Addr} {f : Str} {v : V}
def spXinitG (C : Addr) (f : Str) (ok : Hp → V → Prop) : Sp := fun vs H Q _ => ∃ (B : Hp) (e : Addr) (v : V), vs = [.ref e, v] ∧ Hs B [(e, exo e C none)] H ∧ ok B v ∧ ∀ dx H', Hs B [(dx, exd dx [(f, v)]), (e, exo e C (some dx))] H' → Q .non H'
theorem w_mkXG {ok : Hp → V → Prop} {Q : XK} (hs : Hs B L H) (hm : ∀ B', Same B B' → ok B v → ok B' v) (hv : ok B v) (q : ∀ d H', Hs B ((d, .xd [(f, v)]) :: L) H' → Q (.ref C) (some d) H') : MkO C (spXinitG C f ok) [v] [] H Q := by
  refine ⟨by simp, fun a ha => ?_⟩
  have h1 := hs.new (o := exo a C none) ha
  obtain ⟨sB, h2, back⟩ := h1.frame [(a, exo a C none)]
  refine ⟨_, a, v, rfl, h2, hm _ sB hv, fun dx H2 h3 => ⟨rfl, dx, [(f, v)], h3.g1, h3.g0, ?_, ?_⟩⟩
  · have n : dx ≠ a := fun e => by
      have := h3.nd
      rw [e] at this
      simp at this
    have z := h3.out _ List.mem_cons_self
    have nm : dx ∉ [(a, exo a C none)].map (·.1) := by
      simp only [List.map_cons, List.map_nil, List.mem_singleton]
      exact n
    have z2 : upd H a (exo a C none) dx = none := (around_out nm).symm.trans z
    rwa [upd_ne n] at z2
  · have h4 := back _ _ h3
    have nd := h4.nd
    have hda : dx ≠ a := fun e => by
      rw [e] at nd
      simp at nd
    have nL : ∀ e ∈ L, e.1 ≠ dx ∧ e.1 ≠ a := fun e he => by
      simp only [List.cons_append, List.nil_append, List.map_cons, List.nodup_cons, List.mem_cons, not_or] at nd
      refine ⟨fun z => nd.1.2 ?_, fun z => nd.2.1 ?_⟩
      · rw [← z]
        exact List.mem_map.mpr ⟨e, he, rfl⟩
      · rw [← z]
        exact List.mem_map.mpr ⟨e, he, rfl⟩
    have ba : B a = none := hs.same.free ha
    have bd : B dx = none := h4.out _ List.mem_cons_self
    refine q dx _ ⟨fun b o e => ?_, ?_, fun e he => ?_, fun e he => ?_⟩
    · have n1 : b ≠ dx := fun z => by
        rw [z, bd] at e
        cases e
      have n2 : b ≠ a := fun z => by
        rw [z, ba] at e
        cases e
      rw [upd_ne n1, del_ne n2]
      exact h4.same b o e
    · simp only [List.cons_append, List.nil_append, List.map_cons, List.nodup_cons, List.mem_cons, not_or] at nd ⊢
      exact ⟨nd.1.2, nd.2.2⟩
    · rcases List.mem_cons.mp he with rfl | he
      · exact bd
      · exact hs.out e he
    · rcases List.mem_cons.mp he with rfl | he
      · exact upd_same
      · obtain ⟨n1, n2⟩ := nL e he
        rw [upd_ne n1, del_ne n2]
        exact h4.at_ e (List.mem_cons_of_mem _ (List.mem_cons_of_mem _ he))
end
/-! ## a callee that owns A and adds to the ground -/
def noTup : HO → Bool
  | .tup _ => false
  | _ => true
theorem Hs.frameG {B H : Hp} {R : List (Addr × HO)} (A : List (Addr × HO)) (hs : Hs B (A ++ R) H) (hR : R.all (fun e => noTup e.2) = true) : ∃ B', Same B B' ∧ Hs B' A H ∧ ∀ A' B2 H', Same B' B2 → Hs B2 A' H' → ∃ B3, Same B B3 ∧ Hs B3 (A' ++ R) H' ∧ ∀ p xs, B2 p = some (.tup xs) → B3 p = some (.tup xs) := by
  have fr := hs.frame A
  have nd := hs.nd
  rw [List.map_append, List.nodup_append] at nd
  obtain ⟨n1, n2, n3⟩ := nd
  refine ⟨around A H, fr.1, fr.2.1, fun A' B2 H' sm h => ?_⟩
  have rin : ∀ e ∈ R, B2 e.1 = some e.2 := fun e he => sm _ _ (by
    rw [around_out fun m => n3 _ m _ (List.mem_map.mpr ⟨e, he, rfl⟩) rfl]
    exact hs.at_ e (List.mem_append_right _ he))
  refine ⟨around R B2, fun b u e => ?_, ⟨fun b u e => ?_, ?_, fun e he => ?_, fun e he => ?_⟩, fun p xs e => ?_⟩
  · rw [around_out fun m => ?_]
    · exact sm _ _ (fr.1 _ _ e)
    · obtain ⟨z, hz, rfl⟩ := List.mem_map.mp m
      rw [hs.out z (List.mem_append_right _ hz)] at e
      cases e
  · unfold around at e
    split at e
    · cases e
    · exact h.same _ _ e
  · rw [List.map_append, List.nodup_append]
    refine ⟨h.nd, n2, fun a ha b hb q => ?_⟩
    subst q
    obtain ⟨x, hx, rfl⟩ := List.mem_map.mp ha
    obtain ⟨y, hy, q⟩ := List.mem_map.mp hb
    have h1 := h.out x hx
    rw [← q, rin y hy] at h1
    cases h1
  · rcases List.mem_append.mp he with he | he
    · unfold around
      split
      · rfl
      · exact h.out e he
    · exact if_pos (List.mem_map.mpr ⟨e, he, rfl⟩)
  · rcases List.mem_append.mp he with he | he
    · exact h.at_ e he
    · exact h.same _ _ (rin e he)
  · rw [around_out fun m => ?_]
    · exact e
    · obtain ⟨z, hz, rfl⟩ := List.mem_map.mp m
      have h1 := rin z hz
      rw [e] at h1
      have h2 := List.all_eq_true.mp hR z hz
      rw [← Option.some.inj h1] at h2
      cases h2
/-- all else into the ground; the tuples with it -/
theorem Hs.allinT {B H : Hp} {L : List (Addr × HO)} (hs : Hs B L H) (hL : L.all (fun e => noTup e.2) = true) : ∃ B2, Same B B2 ∧ Hs B2 L H ∧ ∀ p xs, H p = some (.tup xs) → B2 p = some (.tup xs) := by
  obtain ⟨B2, sm, h, hin⟩ := hs.allin
  refine ⟨B2, sm, h, fun p xs e => hin _ _ e fun m => ?_⟩
  obtain ⟨z, hz, rfl⟩ := List.mem_map.mp m
  have h1 := h.at_ z hz
  rw [e] at h1
  have h2 := List.all_eq_true.mp hL z hz
  rw [← Option.some.inj h1] at h2
  cases h2
theorem put_ix {R : List (Addr × HO)} {i : Nat} {p : Addr} {o : HO} (o' : HO) : R[i]? = some (p, o) → Put R p o o' (R.set i (p, o')) := by
  induction R generalizing i with
  | nil => intro h; simp at h
  | cons x R ih =>
    cases i with
    | zero =>
      intro h
      have e : x = (p, o) := by simpa using h
      subst e
      exact .here
    | succ i =>
      intro h
      exact .there (ih (by simpa using h))
/-! ## a test that is a if t else b -/
section
variable {X : Cx} {c a b : Expr} {pos : Pos}
def tIfT (t tA tB : TT) : TT := fun σ H Q => t σ H fun c H1 => if c = true then tA σ H1 Q else tB σ H1 Q
theorem pt_ifE {t tA tB : TT} (hc : PT X c t) (ha : PT X a tA) (hb : PT X b tB) : PT X (.IfExp c a b pos) (tIfT t tA tB) := by
  refine ⟨fun pins s σ H Q I h => ?_⟩
  refine isTrue_IfExp (thn (hc.run pins s σ H _ I h) fun d s1 ⟨H1, I1, q1⟩ => ?_)
  cases d with
  | true => exact ha.run pins s1 σ H1 Q I1 q1
  | false => exact hb.run pins s1 σ H1 Q I1 q1
theorem w_ifT {t tA tB : TT} {σ : L2.St} {H : Hp} {Q : Bool → Hp → Prop} (q : t σ H fun c H1 => if c = true then tA σ H1 Q else tB σ H1 Q) : tIfT t tA tB σ H Q := q
end
end Hb

set_option Elab.async false
set_option linter.all false
set_option maxRecDepth 100000
set_option maxHeartbeats 4000000
/-! Texts, and what else the laws of the first stage want: (a, .., *b) = a list; zip of a list and a tuple. -/
namespace Hb
open PySem PySem.Spec L2 PyProof.Rows TL
/-! ## (a, .., *b) = a list -/
section
variable {P : Program} {w : World} {A : Around} {E : Value → Shared → Prop} {s : Shared}
theorem unpack_star {l : Addr} {vs : Array Value} {i : Nat} {Q : List Value → Shared → Prop} (hL : s.heap.IsList l vs) (hh : A.handled = none) (hi : i ≤ vs.size) (hz : vs.size ≤ 16384)
    (q : ∀ (h' : Heap) (tk : Nat), (∀ b o, s.heap.get? b = some o → h'.get? b = some o) → Q (vs.toList.take i ++ [.ref h'.objs.size]) { s with heap := h'.push { cls := .type "list", data := .seq (vs.toList.drop i).toArray }, toks := tk }) : wpAny (model P w) A (unpackItems (.ref l) (i + 1) (some i)) Q E s := by
  have ne : l ≠ s.heap.objs.size := by
    obtain ⟨o, ho, _⟩ := hL
    exact Nat.ne_of_lt (Heap.lt_size ho)
  unfold unpackItems notIterableAtAll
  refine wpAny_bind (wpAny_bind (wpAny_specialOf hL.typeIs slot_list_iter.lookup (wpAny_pure ?_)))
  simp only [if_false, Bool.false_eq_true]
  refine wpAny_bind (wpAny_holding (wpAny_pyIter_list hL ?_))
  refine wpAny_bind (wpAny_holding (PySem.W.kun_draw ne i 0 _ _ ⟨_, Heap.get?_push_size _ rfl, rfl, rfl⟩ (hL.push _) (by omega) fun h1 it1 sb1 => ?_))
  have hL1 : h1.IsList l vs := (hL.push _).extBut sb1.extBut ne
  rw [Nat.zero_add] at it1
  obtain ⟨oi, hoi, _⟩ := id it1
  obtain ⟨ol, hol, _⟩ := id hL1
  rw [List.drop_zero]
  have e1 : (vs.toList.take i).length = i := by rw [List.length_take, Array.length_toList]; omega
  rw [if_neg (by omega : ¬ (vs.toList.take i).length < i)]
  refine wpAny_bind (wpAny_holding (PySem.W.kun_collect (s := { s with heap := h1 }) (T := "list_iterator") (k := i) (.inr (.inr (.inl rfl))) (Walks.list (A := A.in1) hh s.heap.objs.size l ne vs) (fun _ _ st => st.1.typeIs) hi ⟨it1, hL1⟩ (Heap.lt_size hoi) (Heap.lt_size hol) (fun h2 tk kp => ?_) (by rw [sizeLine_eq]; omega)))
  have e2 : (vs.toList.drop i).length = vs.size - i := by rw [List.length_drop, Array.length_toList]
  have ee : i + 1 - 1 - i = 0 := by omega
  have kp0 : ∀ b o, s.heap.get? b = some o → h2.get? b = some o := fun b o e => kp b o (Nat.ne_of_lt (Heap.lt_size e)) (sb1.extBut b o (Nat.ne_of_lt (Heap.lt_size e)) (Heap.get?_push_of_some _ e))
  show wpAny _ _ (if (vs.toList.drop i).length < i + 1 - 1 - i then _ else newList ((vs.toList.drop i).take ((vs.toList.drop i).length - (i + 1 - 1 - i))) >>= fun d => pure (vs.toList.take i ++ [d] ++ (vs.toList.drop i).drop ((vs.toList.drop i).length - (i + 1 - 1 - i)))) _ _ _
  rw [ee, if_neg (Nat.not_lt_zero _), Nat.sub_zero, List.take_length, List.drop_length]
  refine wpAny_bind (wpAny_newList (wpAny_pure ?_) (by
    show (vs.toList.drop i).length ≤ sizeLine
    rw [e2, sizeLine_eq]
    omega))
  rw [List.append_nil]
  exact q h2 tk kp0
end
section
variable {X : Cx} {K : PySem.W.Frag} {pos : Pos}
def gStar (K : PySem.W.Frag) (i : Nat) (t : TGs) : TG := fun v σ H Q => ∃ (a : Addr) (xs : List V), v = .ref a ∧ SqL K H a xs ∧ i ≤ xs.length ∧ xs.length ≤ 16384 ∧ ∀ D, H D = none → t (xs.take i ++ [.ref D]) σ (upd H D (.lst (xs.drop i))) Q
theorem vals_take {xs : List V} {us : List Value} (r : Vals xs us) (i : Nat) : Vals (xs.take i) (us.take i) := by
  induction r generalizing i with
  | nil => rw [List.take_nil, List.take_nil]; exact .nil
  | cons h _ ih =>
    cases i with
    | zero => exact .nil
    | succ i => exact .cons h (ih i)
theorem vals_drop {xs : List V} {us : List Value} (r : Vals xs us) (i : Nat) : Vals (xs.drop i) (us.drop i) := by
  induction r generalizing i with
  | nil => rw [List.drop_nil, List.drop_nil]; exact .nil
  | cons h t ih =>
    cases i with
    | zero => exact .cons h t
    | succ i => exact ih i
theorem vals_app {xs ys : List V} {us vs : List Value} (r : Vals xs us) (q : Vals ys vs) : Vals (xs ++ ys) (us ++ vs) := by
  induction r with
  | nil => exact q
  | cons h _ ih => exact .cons h ih
theorem pg_star {es : List Expr} {k i : Nat} {t : TGs} (hc : X.calm = true) (h : PGs X es t) (hn : (assignEach es X.env).length = i + 1 := by rfl) (hst : (assignEach es X.env).findIdx? (·.1) = some i := by rfl) (hK : X.K = K := by rfl) : PG X (.Tuple es k pos) (gStar K i t) := by
  subst hK
  refine ⟨fun pins s σ H v u Q I r hw => ?_⟩
  obtain ⟨a, xs, e1, hq, hi, hz, hw⟩ := hw
  subst e1
  cases r
  obtain ⟨its, rv, pl, _⟩ := I.list hq
  have len := rv.length
  rw [PyProof.Rows.assign_Tuple]
  refine wpAny_bind (wpAny_standAt ?_)
  unfold unpack
  rw [hn, hst]
  refine wpAny_bind (wpAny_holding (unpack_star pl.isList (I.ok.hd hc) (by simp; omega) (by simp; omega) fun h' tk kp => ?_))
  have I1 : Inv X pins σ H { s with heap := h', toks := tk } := I.kept (t' := tk) kp
  have zd : (xs.drop i).length ≤ sizeLine := by
    rw [List.length_drop, sizeLine_eq]
    omega
  have I2 := I1.laid (a := h'.objs.size) (o := .lst (xs.drop i)) (h' := h'.push { cls := .type "list", data := .seq (its.drop i).toArray }) (t' := tk) (fun b u e => Heap.get?_push_of_some _ e) (Nat.le_refl _) ⟨zd, its.drop i, 0, vals_drop rv i, Heap.get?_push_size _ rfl⟩
  have r2 : Vals (xs.take i ++ [.ref h'.objs.size]) (its.take i ++ [.ref h'.objs.size]) := vals_app (vals_take rv i) (.cons (show RelV (.ref h'.objs.size) (.ref h'.objs.size) from rfl) .nil)
  exact h.run pins _ σ _ _ _ Q I2 r2 (hw _ (I1.hok.fresh (Nat.le_refl _)))
theorem pgs_star {e : Expr} {es : List Expr} {t : TG} {u : TGs} {p : Pos} (h1 : PG X e t) (h2 : PGs X es u)
    (hs : (assignEach (.Starred e p :: es) X.env).map (·.2) = assign e X.env :: (assignEach es X.env).map (·.2) := by rfl) : PGs X (.Starred e p :: es) (gCons t u) := by
  refine ⟨fun pins s σ H vs us Q I r h => ?_⟩
  obtain ⟨v, vr, e1, h⟩ := h
  subst e1
  cases r with
  | cons r rr =>
    rw [hs]
    exact assignInOrder_cons (thn (h1.run pins s σ H _ _ _ I r h) fun _ s1 ⟨σ1, H1, I1, q1⟩ => h2.run pins s1 σ1 H1 _ _ Q I1 rr q1)
theorem w_star1 {σ : L2.St} {H : Hp} {Q : L2.St → Hp → Prop} {t : TGs} {i : Nat} {a : Addr} {xs : List V} {B : Hp} {L : List (Addr × HO)} (hs : Hs B L H) (h : SqL K H a xs) (hi : i ≤ xs.length) (hz : xs.length ≤ 16384) (q : ∀ D H', Hs B ((D, .lst (xs.drop i)) :: L) H' → t (xs.take i ++ [.ref D]) σ H' Q) : gStar K i t (.ref a) σ H Q :=
  ⟨a, xs, rfl, h, hi, hz, fun D hD => q D _ (hs.new hD)⟩
end
/-! ## zip of a list and a tuple -/
def ItzM (K : PySem.W.Frag) (a b : Addr) : It :=
  ⟨fun i H => ∃ (xs ys : List V) (x y : V), SqL K H a xs ∧ SqT K H b ys ∧ xs[i]? = some x ∧ ys[i]? = some y,
    fun i H v H' => ∃ N x y, v = .ref N ∧ H N = none ∧ H' = upd H N (.tup [x, y]) ∧ (∀ xs, SqL K H a xs → xs[i]? = some x) ∧ ∀ ys, SqT K H b ys → ys[i]? = some y,
    fun i H => ∃ xs ys : List V, SqL K H a xs ∧ SqT K H b ys ∧ xs.length = ys.length ∧ xs.length = i⟩
theorem five_or {c a1 a2 a3 a4 a5 : Addr} (h : c ∈ [a1, a2, a3, a4, a5]) : c = a1 ∨ c = a2 ∨ c = a3 ∨ c = a4 ∨ c = a5 := by simpa using h
theorem turn_zipM {P : Program} {w : World} {K : PySem.W.Frag} {elts : List Expr} {kk : Nat} {tpos : Pos} {a b z T0 T1 j1 j2 : Addr} (D : ZipApart z T0 T1 j1 j2 a b) :
    Turn P w K (.Tuple elts kk tpos) (ItzM K a b) [z, T0, T1, j1, j2] z (fun i h => IsZip h z T0 T1 .none ∧ PySem.IsTupOf2 h T0 (.ref j1) (.ref j2) ∧ (∃ x y, PySem.IsTupOf2 h T1 x y) ∧ h.IsListIter j1 a i ∧ h.IsTupleIter j2 b i) where
  mem := List.mem_cons_self
  obj := fun i h st c hc => by
    obtain ⟨s1, s2, ⟨x, y, s3⟩, ⟨o1, e1, _, d1⟩, o2, e2, _, d2⟩ := st
    rcases five_or hc with rfl | rfl | rfl | rfl | rfl
    · exact ⟨_, s1, fun v q => nomatch q⟩
    · exact ⟨_, s2, fun v q => nomatch q⟩
    · exact ⟨_, s3, fun v q => nomatch q⟩
    · exact ⟨o1, e1, fun v q => nomatch (d1.symm.trans q)⟩
    · exact ⟨o2, e2, fun v q => nomatch (d2.symm.trans q)⟩
  keep := fun i h h' st k => by
    obtain ⟨s1, s2, ⟨x, y, s3⟩, s4, s5⟩ := st
    exact ⟨k z (by simp) _ s1, k T0 (by simp) _ s2, ⟨x, y, k T1 (by simp) _ s3⟩, s4.at fun o q => k j1 (by simp) o q, s5.at fun o q => k j2 (by simp) o q⟩
  item := by
    rintro X rfl rfl rfl hc i pins s σ H E I hf ⟨s1, s2, ⟨x0, y0, s3⟩, s4, s5⟩ ⟨xs, ys, x, y, q1, q2, g1, g2⟩
    obtain ⟨us, ru, pu, _⟩ := I.list q1
    obtain ⟨vs, rv, pv, _⟩ := I.tuple q2
    obtain ⟨u, hu, r1⟩ := ru.get g1
    obtain ⟨v, hv, r2⟩ := rv.get g2
    have zl : z < s.heap.objs.size := Heap.lt_size s1
    have l1 : a ≠ j1 := D.l1i1
    have l2 : b ≠ j2 := D.l2i2
    have S : PySem.ZipSep2 z T0 T1 j1 j2 [j1, a] [j2, b] := ⟨D.TIz, D.TOz, D.TITO, D.TIi1, List.mem_cons_self, by simp [Ne.symm D.i1z, Ne.symm D.l1z], by simp [D.TOi1, Ne.symm D.l1TO], D.TIi2, List.mem_cons_self, by simp [Ne.symm D.i2z, Ne.symm D.l2z], by simp [D.TOi2, Ne.symm D.l2TO], by simp [D.i12, Ne.symm D.l2i1], by simp [Ne.symm D.i12, Ne.symm D.l1i2]⟩
    have nh : X.A.in1.handled = none := I.ok.hd hc
    refine PySem.wpAny_pyNext_zipD2_item S (Draws.list nh j1 a l1 us.toArray) (Draws.tuple nh j2 b l2 vs.toArray) s1 s2 s3 ⟨s4, pu.isList⟩ ⟨s5, pv⟩ (by have := (List.getElem?_eq_some_iff.mp hu).1; simpa using this) (by have := (List.getElem?_eq_some_iff.mp hv).1; simpa using this) fun x1 x2 h' tk p1 p2 z' t1 d1 d2 hT sz kp => ?_
    obtain rfl : u = x1 := Option.some.inj (by rw [← hu]; simpa using p1)
    obtain rfl : v = x2 := Option.some.inj (by rw [← hv]; simpa using p2)
    refine ⟨_, rfl, wpAny_letOwnedTupleGo_zip (s := { s with heap := h', toks := tk }) z' fun h2 z2 sb => ?_⟩
    have nz : s.heap.objs.size ≠ z := Nat.ne_of_gt zl
    have hT2 : h2.get? s.heap.objs.size = some { cls := .type "tuple", data := .seq #[u, v] } := (sb.2 _ nz).trans hT
    have kp2 : ∀ c o, c ∉ [z, T0, T1, j1, j2] → s.heap.get? c = some o → h2.get? c = some o := fun c o hb q => by
      simp only [List.mem_cons, List.not_mem_nil, or_false, not_or] at hb
      exact (sb.2 c hb.1).trans (kp c o hb.1 hb.2.2.1 hb.2.2.2.1 hb.2.2.2.2 q)
    have nw : ObjOk X.prog X.w (upd H s.heap.objs.size (.tup [x, y])) h2 s.heap.objs.size (.tup [x, y]) := ⟨by show 2 ≤ sizeLine; rw [sizeLine_eq]; decide, [u, v], .cons r1 (.cons r2 .nil), ⟨_, hT2, rfl, _, rfl⟩⟩
    have I1 := I.turnedNew (t' := tk) (T := s.heap.objs.size) kp2 hf (Nat.le_refl _) nw
    have kz : ∀ c o, c ≠ z → h'.get? c = some o → h2.get? c = some o := fun c o n q => (sb.2 c n).trans q
    refine ⟨.ref s.heap.objs.size, _, I1, rfl, ⟨_, x, y, rfl, I.hok.fresh (Nat.le_refl _), rfl, fun l hl => by rw [I.list_inj hl q1]; exact g1, fun l hl => by rw [I.tuple_inj hl q2]; exact g2⟩, ⟨z2, kz _ _ D.TIz (kp _ _ D.TIz D.TITO D.TIi1 D.TIi2 s2), ⟨u, v, kz _ _ D.TOz t1⟩, d1.1.at fun o q => kz _ _ D.i1z q, d2.1.at fun o q => kz _ _ D.i2z q⟩, fun c hcm => ?_⟩
    have ltc : c < s.heap.objs.size := by
      rcases five_or hcm with rfl | rfl | rfl | rfl | rfl
      · exact zl
      · exact Heap.lt_size s2
      · exact Heap.lt_size s3
      · obtain ⟨_, e, _⟩ := s4
        exact Heap.lt_size e
      · obtain ⟨_, e, _⟩ := s5
        exact Heap.lt_size e
    rw [upd_ne (Nat.ne_of_lt ltc)]
    exact (hf c hcm).1
  done := by
    rintro X rfl rfl rfl hc i pins s σ H E I hf ⟨s1, s2, ⟨x0, y0, s3⟩, s4, s5⟩ ⟨xs, ys, q1, q2, el, ei⟩
    obtain ⟨us, ru, pu, _⟩ := I.list q1
    obtain ⟨vs, rv, pv, _⟩ := I.tuple q2
    have n1 := ru.length
    have n2 := rv.length
    have S : PySem.ZipSep2 z T0 T1 j1 j2 [j1, a] [j2, b] := ⟨D.TIz, D.TOz, D.TITO, D.TIi1, List.mem_cons_self, by simp [Ne.symm D.i1z, Ne.symm D.l1z], by simp [D.TOi1, Ne.symm D.l1TO], D.TIi2, List.mem_cons_self, by simp [Ne.symm D.i2z, Ne.symm D.l2z], by simp [D.TOi2, Ne.symm D.l2TO], by simp [D.i12, Ne.symm D.l2i1], by simp [Ne.symm D.i12, Ne.symm D.l1i2]⟩
    have nh : X.A.in1.handled = none := I.ok.hd hc
    refine PySem.wpAny_pyNext_zipD2_end S (Draws.list nh j1 a D.l1i1 us.toArray) (Draws.tuple nh j2 b D.l2i2 vs.toArray) s1 s2 s3 ⟨s4, pu.isList⟩ ⟨s5, pv⟩ (by simp; omega) (by simp; omega) (.inl (by simp; omega)) fun h' tk kp => ⟨rfl, I.turnedL (t' := tk) (ch := [z, T0, T1, j1, j2]) (fun c o hb q => ?_) hf⟩
    simp only [List.mem_cons, List.not_mem_nil, or_false, not_or] at hb
    exact kp c o hb.1 hb.2.2.1 hb.2.2.2.1 hb.2.2.2.2 q
  self := fun A i s Q E st h => wpAny_pyIter_zip st.1 h
def iZipM (K : PySem.W.Frag) (ta : TA) : TI := fun σ H R => ta σ H fun vs H1 => ∃ a b xs ys, vs = [.ref a, .ref b] ∧ SqL K H1 a xs ∧ SqT K H1 b ys ∧ R (ItzM K a b) H1
theorem pi_zipM {X : Cx} {K : PySem.W.Frag} {e e2 : Expr} {ta : TA} {p pos tpos : Pos} {elts : List Expr} {kk : Nat} (hg : Gl X "zip") (hm : X.mg "zip" = none) (ha : PA X [e, e2] ta)
    (hs : starEach [e, e2] X.env = (false, eval e X.env) :: starEach [e2] X.env := by rfl) (hpl : (backTo pos (starEach [e2] X.env)).any (·.1) = false := by rfl) (hK : X.K = K := by rfl) : PI X (.Tuple elts kk tpos) (.Call (.Name "zip" p) [e, e2] [] pos) (iZipM K ta) := by
  subst hK
  refine ⟨fun pins s σ H R I h => ?_⟩
  refine Call_ (ld_blt I hg hm PyProof.Rows.boot_zip (PyProof.Rows.callWith_type1 (thn (ha.run pos pins s σ H _ I h) fun us s1 ⟨vs, H1, I1, r1, a, b, xs, ys, ex, q1, q2, q⟩ => ?_) hs hpl))
  subst ex
  cases r1 with
  | cons r rr =>
    cases rr with
    | cons r' rr =>
      cases rr
      cases r
      cases r'
      obtain ⟨is, ri, p1, _⟩ := I1.list q1
      obtain ⟨js, rj, p2, _⟩ := I1.tuple q2
      obtain ⟨o2, ho2, _⟩ := id p2
      refine PySem.zip_begins2 (PySem.begins_list a is.toArray) (PySem.begins_tuple b js.toArray) p1.isList p2 fun h' z1 z2 z3 z4 z5 sz kp => wpAny_pyIter_zip z1 ?_
      refine ⟨_, [s1.heap.objs.size + 4, s1.heap.objs.size + 2, s1.heap.objs.size + 3, s1.heap.objs.size, s1.heap.objs.size + 1], _, _, H1, rfl, I1.kept (t' := s1.toks) kp, turn_zipM (PySem.W.ktu_apart s1.heap.objs.size a b p1.lt (Heap.lt_size ho2)), ⟨z1, z2, ⟨_, _, z3⟩, ⟨_, z4, rfl, rfl⟩, _, z5, rfl, rfl⟩, fun c hcm => ?_, q⟩
      have hle : s1.heap.objs.size ≤ c := by
        rcases five_or hcm with rfl | rfl | rfl | rfl | rfl <;> omega
      exact I1.fpOk hle (I1.hok.fresh hle)
section
variable {K : PySem.W.Frag} {a b : Addr} {xs ys : List V} {H0 : Hp} {Qd : Hp → Prop} {Body : (Hp → Prop) → V → Hp → Prop}
theorem turns_zipM (hl : xs.length = ys.length) (Pv : Nat → Hp → Prop) (h0 : Pv 0 H0) (hq : ∀ i H, i ≤ xs.length → Pv i H → SqL K H a xs ∧ SqT K H b ys)
    (hs : ∀ i x y N H, xs[i]? = some x → ys[i]? = some y → Pv i H → H N = none → Body (Pv (i + 1)) (.ref N) (upd H N (.tup [x, y]))) (hd : ∀ H, Pv xs.length H → Qd H) : Turns (ItzM K a b) Body H0 Qd := by
  refine ⟨fun i m H => m + i = xs.length ∧ Pv i H, ⟨xs.length, rfl, h0⟩, ?_⟩
  rintro i m H ⟨hm, p⟩
  obtain ⟨qx, qy⟩ := hq i H (by omega) p
  by_cases hlt : i < xs.length
  · have hx : xs[i]? = some xs[i] := List.getElem?_eq_getElem hlt
    have hlt2 : i < ys.length := by omega
    have hy : ys[i]? = some ys[i] := List.getElem?_eq_getElem hlt2
    refine .inr ⟨⟨xs, ys, _, _, qx, qy, hx, hy⟩, Pv (i + 1), fun H' p' => ⟨m - 1, by omega, by omega, p'⟩, ?_⟩
    rintro v H' ⟨N, x', y', rfl, hN, rfl, f1, f2⟩
    exact hs i x' y' N H (f1 xs qx) (f2 ys qy) p hN
  · obtain rfl : i = xs.length := by omega
    exact .inl ⟨⟨xs, ys, qx, qy, hl, rfl⟩, hd H p⟩
end
/-! ## what a module wrote: a tuple, a dict of texts -/
/-- a tuple of the module -/
def KTup (K : PySem.W.Frag) (a : Addr) (xs : List V) : Prop := ∃ (o : Obj) (its : Array Value) (n : Nat), K.lookup a = some o ∧ o.cls = .type "tuple" ∧ o.data = .seq its n ∧ its.size ≤ sizeLine ∧ Vals xs its.toList
theorem KTup.sq {K : PySem.W.Frag} {a : Addr} {xs : List V} (h : KTup K a xs) (H : Hp) : SqT K H a xs := .inr h
theorem ktup_mk {K : PySem.W.Frag} {a : Addr} {d : Option Addr} {sl : Array (Option Value)} {its : Array Value} {n : Nat} {vs : List Value} {xs : List V} (h : K.lookup a = some ⟨.type "tuple", d, .seq its n, sl⟩) (e : its.toList = vs) (hz : vs.length ≤ 100) (r : Vals xs vs) : KTup K a xs := by
  subst e
  refine ⟨_, its, n, h, rfl, rfl, ?_, r⟩
  have : its.toList.length = its.size := by simp
  rw [sizeLine_eq]
  omega
/-- what a written dict of texts answers -/
def KGet (K : PySem.W.Frag) (w : World) (a : Addr) (x : Str) (r : Option V) : Prop :=
  ∃ es n u, K.lookup a = some ⟨.type "dict", none, .dict es n, #[]⟩ ∧ PySem.W.KeysLit w.params es.toList ∧ (a == sysModules) = false ∧ PySem.W.nsIn K a x = some u ∧ (match r, u with | some v, some z => RelV v z | none, none => True | _, _ => False)
theorem kget_none {K : PySem.W.Frag} {w : World} {a : Addr} {es : Array DictEntry} {n : Nat} {ks : List Value} {ts : List Str} (h : K.lookup a = some ⟨.type "dict", none, .dict es n, #[]⟩) (hk : PySem.W.KeysLit w.params es.toList) (hs : (a == sysModules) = false)
    (e : es.toList.map (·.key) = ks) (hts : ∀ x, x ∉ ts → ∀ v ∈ ks, v.isStr x = false) {x : Str} (hx : x ∉ ts) : KGet K w a x none := by
  refine ⟨es, n, none, h, hk, hs, ?_, trivial⟩
  have h1 : es.toList.find? (·.key.isStr x) = none := List.find?_eq_none.mpr fun z hz => by
    rw [hts x hx z.key (by rw [← e]; exact List.mem_map_of_mem hz)]
    exact Bool.false_ne_true
  have h2 : es.toList.any (·.refKey) = false := by
    rw [List.any_eq_false]
    intro z hz
    obtain ⟨y, t, ey, _⟩ := hk.all z hz
    show ¬ (match z.key with | .ref _ => true | _ => false) = true
    rw [ey]
    exact Bool.false_ne_true
  unfold PySem.W.nsIn
  rw [h]
  dsimp only
  rw [h1]
  dsimp only
  rw [h2]
  rfl
theorem kget_some {K : PySem.W.Frag} {w : World} {a : Addr} {x : Str} {v : V} (h : KDct K w a x v) (hs : (a == sysModules) = false) : KGet K w a x (some v) := by
  obtain ⟨es, n, u, h1, h2, h3, h4⟩ := h
  exact ⟨es, n, some u, h1, h2, hs, h3, h4⟩
def tKGet (K : PySem.W.Frag) (w : World) (td ty : TE) : TE := fun σ H Q => td σ H fun x H1 => ty σ H1 fun y H2 => ∃ (p : Addr) (z : Str) (r : Option V), x = .ref p ∧ y = .str z ∧ KGet K w p z r ∧ Q (r.getD .non) H2
theorem pe_kget {X : Cx} {K : PySem.W.Frag} {w : World} {o e : Expr} {apos cpos : Pos} {td ty : TE} {C : Addr} (ho : PE X o td) (ht : ∀ (σ : L2.St) (H : Hp) (R : VK), td σ H R → td σ H fun v H' => v = .ref C ∧ R v H') (hC : ∃ es n, K.lookup C = some ⟨.type "dict", none, .dict es n, #[]⟩ ∧ PySem.W.KeysLit w.params es.toList) (he : PE X e ty) (m : M1 X o "get" apos e cpos) (hK : X.K = K := by rfl) (hw : X.w = w := by rfl) : PE X (.Call (.Attribute o "get" apos) [e] [] cpos) (tKGet K w td ty) := by
  subst hK
  subst hw
  refine ⟨fun pins s σ H Q I h => ?_⟩
  refine wpAny_Call_method m.base m.few m.line PySem.F.plainAttrs_dict PySem.F.slot_dict_get PySem.F.type_dict_get (thn (ho.run pins s σ H _ I (ht σ H _ h)) fun u s1 ⟨x, H1, I1, rx, ex, q1⟩ => ?_)
  subst ex
  obtain rfl : u = Value.ref C := rx
  obtain ⟨es0, n0, l0, k0⟩ := hC
  have mp0 := PySem.W.mapOf_K (prog := X.prog) (w := X.w) I1.kIn l0 k0
  refine ⟨mp0.typeIs, fun b q => ?_, ?_⟩
  · cases q
    exact ⟨_, I1.kIn _ _ l0, rfl⟩
  rw [m.trees]
  refine Calls.callWith_builtin rfl (Calls.evalArgs_plain (Calls.spliced_cons (thn (he.run pins s1 σ H1 _ I1 q1) fun iv s2 ⟨y, H2, I2, ry, p, z, r, ex, ey, ⟨es, n, w1, hl, hk, low, hn, hr⟩, q2⟩ => Calls.spliced_nil ?_)))
  cases ex
  subst ey
  obtain ⟨t, rfl⟩ := (show ∃ t, iv = Value.str z t from ry)
  have mp := PySem.W.mapOf_K (prog := X.prog) (w := X.w) I2.kIn hl hk
  refine call_meetsIn PySem.F.slot_dict_get mp.typeIs PySem.F.entry_dict_get (PySem.F.args_dict_get_2 _ _) (meets_dict_get (strKind X.prog X.w) C (strKind_is X.prog X.w z t) low) ⟨_, mp, ?_⟩
  rw [PySem.W.find_K hl hn]
  cases r with
  | none =>
    cases w1 with
    | none => exact ⟨.non, H2, I2.tok _, rfl, q2⟩
    | some _ => exact hr.elim
  | some v =>
    cases w1 with
    | none => exact hr.elim
    | some u => exact ⟨v, H2, I2.tok _, hr, q2⟩
inductive KeysAre : List Str → List Value → Prop
  | nil : KeysAre [] []
  | cons {x : Str} {t : Tok} {ts : List Str} {ks : List Value} : KeysAre ts ks → KeysAre (x :: ts) (.str x t :: ks)
theorem isStr_out {ts : List Str} {ks : List Value} (h : KeysAre ts ks) : ∀ x, x ∉ ts → ∀ v ∈ ks, v.isStr x = false := by
  induction h with
  | nil => exact fun _ _ _ z => nomatch z
  | @cons y t ts ks _ ih =>
    intro x hx v hv
    rcases List.mem_cons.mp hv with rfl | hv
    · rw [PySem.W.isStr_of]
      show (y == x) = false
      exact beq_eq_false_iff_ne.mpr fun e => hx (e ▸ List.mem_cons_self)
    · exact ih x (fun z => hx (List.mem_cons_of_mem _ z)) v hv
/-! ## str(x) of an int or a text; unpacking a list -/
def rStrA : List V → Hp → VK → Prop := fun xs H Q => (∃ i, xs = [.int i] ∧ i.natAbs.log2 < 1920 ∧ Q (.str (toString i)) H) ∨ ∃ a, xs = [.str a] ∧ Q (.str a) H
theorem call_strA {X : Cx} : CallR X (.type "str") rStrA := by
  intro pins s σ H xs us Q I r h
  rcases h with h | h
  · exact call_str_int pins s σ H xs us Q I r h
  · exact SkE.call_str_str pins s σ H xs us Q I r h
theorem pg_unlK {X : Cx} {K : PySem.W.Frag} {pos : Pos} {es : List Expr} {k : Nat} {t : TGs} {n : Nat} (hc : X.calm = true) (h : PGs X es t) (hn : (assignEach es X.env).length = n := by rfl) (hst : (assignEach es X.env).findIdx? (·.1) = none := by rfl) (hK : X.K = K := by rfl) : PG X (.Tuple es k pos) (gUnl K n t) := by
  subst hK
  exact pg_unl hc h hn hst
/-! ## a text, sign by sign -/
section
variable {σ : L2.St} {H H0 : Hp} {Q : VK} {Qd : Hp → Prop} {Body : (Hp → Prop) → V → Hp → Prop}
def StrR (y : V) (H1 : Hp) (R : It → Hp → Prop) : Prop := ∃ x, y = .str x ∧ R (Its x) H1
theorem w_lcStr {te1 te : TE} {g : TG} {tt : TT} {vs : List Nat} (q : te1 σ H fun y H1 => StrR y H1 (LcR g tt te vs σ Q)) : tLc (iStr te1) g tt te vs σ H Q := q
theorem w_strR {x : Str} {R : It → Hp → Prop} (q : R (Its x) H) : StrR (.str x) H R := ⟨x, rfl, q⟩
theorem turns_str {x : Str} (Pv : Nat → Hp → Prop) (h0 : Pv 0 H0) (hs : ∀ i c H, (tl x)[i]? = some c → Pv i H → Body (Pv (i + 1)) (.str ⟨#[c]⟩) H) (hd : ∀ H, Pv (tl x).length H → Qd H) : Turns (Its x) Body H0 Qd := by
  have len : (tl x).length = x.cps.size := by simp
  refine ⟨fun i m H => m + i = (tl x).length ∧ Pv i H, ⟨_, rfl, h0⟩, ?_⟩
  rintro i m H ⟨hm, p⟩
  by_cases hlt : i < (tl x).length
  · refine .inr ⟨by show i < x.cps.size; omega, Pv (i + 1), fun H' p' => ⟨m - 1, by omega, by omega, p'⟩, ?_⟩
    rintro v H' ⟨rfl, c, hc, rfl⟩
    exact hs i c _ (by simpa using hc) p
  · obtain rfl : i = (tl x).length := by omega
    exact .inl ⟨by show x.cps.size ≤ _; omega, hd H p⟩
theorem w_forS2 {te1 : TE} {g : TG} {tb : TS} {D : Ends} (q : te1 σ H fun y H1 => StrR y H1 (ForR g tb D σ)) : tFor (iStr te1) g tb D σ H := q
end
/-! ## zip of a list and a tuple, both kinds of walk -/
section
variable {K : PySem.W.Frag} {σ : L2.St} {H : Hp} {Q : VK}
def ZipMR (K : PySem.W.Frag) (vs : List V) (H1 : Hp) (R : It → Hp → Prop) : Prop := ∃ a b xs ys, vs = [.ref a, .ref b] ∧ SqL K H1 a xs ∧ SqT K H1 b ys ∧ R (ItzM K a b) H1
theorem w_lcZM {ta : TA} {te : TE} {g : TG} {tt : TT} {vs : List Nat} (q : ta σ H fun us H1 => ZipMR K us H1 (LcR g tt te vs σ Q)) : tLc (iZipM K ta) g tt te vs σ H Q := q
theorem w_zipMR {a b : Addr} {xs ys : List V} {R : It → Hp → Prop} (h1 : SqL K H a xs) (h2 : SqT K H b ys) (q : R (ItzM K a b) H) : ZipMR K [.ref a, .ref b] H R := ⟨a, b, xs, ys, rfl, h1, h2, q⟩
/-! zip of two lists -/
theorem turns_zipL {a b : Addr} {xs ys : List V} {H0 : Hp} {Qd : Hp → Prop} {Body : (Hp → Prop) → V → Hp → Prop} (hl : xs.length = ys.length) (Pv : Nat → Hp → Prop) (h0 : Pv 0 H0) (hq : ∀ i H, i ≤ xs.length → Pv i H → SqL K H a xs ∧ SqL K H b ys)
    (hs : ∀ i x y N H, xs[i]? = some x → ys[i]? = some y → Pv i H → H N = none → Body (Pv (i + 1)) (.ref N) (upd H N (.tup [x, y]))) (hd : ∀ H, Pv xs.length H → Qd H) : Turns (Itz K a b) Body H0 Qd := by
  refine ⟨fun i m H => m + i = xs.length ∧ Pv i H, ⟨xs.length, rfl, h0⟩, ?_⟩
  rintro i m H ⟨hm, p⟩
  obtain ⟨qx, qy⟩ := hq i H (by omega) p
  by_cases hlt : i < xs.length
  · have hx : xs[i]? = some xs[i] := List.getElem?_eq_getElem hlt
    have hlt2 : i < ys.length := by omega
    have hy : ys[i]? = some ys[i] := List.getElem?_eq_getElem hlt2
    refine .inr ⟨⟨xs, ys, _, _, qx, qy, hx, hy⟩, Pv (i + 1), fun H' p' => ⟨m - 1, by omega, by omega, p'⟩, ?_⟩
    rintro v H' ⟨N, x', y', rfl, hN, rfl, f1, f2⟩
    exact hs i x' y' N H (f1 xs qx) (f2 ys qy) p hN
  · obtain rfl : i = xs.length := by omega
    exact .inl ⟨⟨xs, ys, qx, qy, Or.inl (Nat.le_refl _)⟩, hd H p⟩
theorem w_zipL {a b : Addr} {xs ys : List V} {R : It → Hp → Prop} (h1 : SqL K H a xs) (h2 : SqL K H b ys) (q : R (Itz K a b) H) : ZipR K [.ref a, .ref b] H R := ⟨a, b, xs, ys, rfl, .inl ⟨h1, h2, q⟩⟩
end
end Hb

set_option Elab.async false
set_option linter.all false
set_option maxRecDepth 100000
set_option maxHeartbeats 4000000
/-! Numbers as texts. -/
namespace Hb
open PySem PySem.Spec L2 PyProof.Rows TL
abbrev nS (n : Int) : Str := Str.ofString (toString n)
theorem tl_nS (n : Nat) : tl (nS (n : Nat)) = numL n := tl_num n
theorem nS_inj {m n : Int} (hm : 0 ≤ m) (hn : 0 ≤ n) (h : nS m = nS n) : m = n := by
  obtain ⟨a, rfl⟩ := Int.eq_ofNat_of_zero_le hm
  obtain ⟨b, rfl⟩ := Int.eq_ofNat_of_zero_le hn
  have := congrArg tl h
  rw [tl_nS, tl_nS] at this
  rw [numL_inj this]
theorem numL_mono : ∀ {m n : Nat}, n ≤ m → (numL n).length ≤ (numL m).length := by
  intro m
  induction m using Nat.strongRecOn with
  | _ m ih =>
    intro n h
    by_cases hm : m < 10
    · rw [numL_lt hm, numL_lt (by omega : n < 10)]
      exact Nat.le_refl _
    · rw [numL_step (by omega : 10 ≤ m), List.length_append]
      by_cases hn : n < 10
      · rw [numL_lt hn]
        show 1 ≤ _ + 1
        omega
      · rw [numL_step (by omega : 10 ≤ n), List.length_append]
        have := ih (m / 10) (by omega) (n := n / 10) (by omega)
        show _ + 1 ≤ _ + 1
        omega
theorem numL_head {n : Nat} (h : (numL n).head? = some 48) : n = 0 := by
  induction n using Nat.strongRecOn with
  | _ n ih =>
    by_cases hn : n < 10
    · rw [numL_lt hn] at h
      have : 48 + n = 48 := Option.some.inj h
      omega
    · rw [numL_step (by omega), List.head?_append] at h
      cases hl : numL (n / 10) with
      | nil => exact absurd hl (numL_ne _)
      | cons c r =>
        rw [hl] at h
        have := ih (n / 10) (by omega) (by rw [hl]; exact h)
        omega
theorem val_snoc (l : List Nat) (c : Nat) : NumText.digitsVal (l ++ [c]) = NumText.digitsVal l * 10 + (c - 48) := by
  unfold NumText.digitsVal
  rw [List.foldl_append]
  rfl
/-- digits that do not begin with 0 are those of their number -/
theorem numL_back : ∀ (l : List Nat), NumText.AllDigits l → l ≠ [] → (l.head? = some 48 → l = [48]) → numL (NumText.digitsVal l) = l := by
  intro l
  induction hn : l.length using Nat.strongRecOn generalizing l with
  | _ n ih =>
    intro hd hne h0
    rcases List.eq_nil_or_concat l with rfl | ⟨r, c, rfl⟩
    · exact absurd rfl hne
    · rw [List.concat_eq_append] at hn hd hne h0 ⊢
      have hc := hd c (by simp)
      by_cases hr : r = []
      · subst hr
        have e : NumText.digitsVal ([] ++ [c]) = c - 48 := by
          rw [val_snoc]
          show 0 * 10 + _ = _
          omega
        rw [e, numL_lt (by omega)]
        show [48 + (c - 48)] = [c]
        rw [show 48 + (c - 48) = c by omega]
      · have hr0 : r.head? ≠ some 48 := fun z => by
          have h1 := h0 (by rw [List.head?_append, z]; rfl)
          have := congrArg List.length h1
          rw [List.length_append] at this
          have h2 : r.length = 0 := by simpa using this
          exact hr (List.length_eq_zero_iff.mp h2)
        have hir := ih r.length (by rw [← hn, List.length_append]; show r.length < r.length + 1; omega) r rfl (fun d hd' => hd d (List.mem_append_left _ hd')) hr (fun z => absurd z hr0)
        have hv : NumText.digitsVal r ≠ 0 := fun z => by
          rw [z, numL_lt (by decide)] at hir
          exact hr0 (by rw [← hir]; rfl)
        rw [val_snoc, numL_step (by omega)]
        have e1 : (NumText.digitsVal r * 10 + (c - 48)) / 10 = NumText.digitsVal r := by omega
        have e2 : 48 + (NumText.digitsVal r * 10 + (c - 48)) % 10 = c := by omega
        rw [e1, e2, hir]
open Classical in
/-- the number that a text is, up to a greatest -/
noncomputable def numM (w : Str) (most : Int) : Option Int := if h : ∃ n : Int, 0 ≤ n ∧ n ≤ most ∧ w = nS n then some h.choose else none
theorem numM_of {w : Str} {most n : Int} (h0 : 0 ≤ n) (h1 : n ≤ most) (e : w = nS n) : numM w most = some n := by
  have h : ∃ n : Int, 0 ≤ n ∧ n ≤ most ∧ w = nS n := ⟨n, h0, h1, e⟩
  unfold numM
  rw [dif_pos h]
  obtain ⟨a, _, b⟩ := h.choose_spec
  exact congrArg some (nS_inj a h0 (b.symm.trans e))
theorem numM_some {w : Str} {most n : Int} (h : numM w most = some n) : 0 ≤ n ∧ n ≤ most ∧ w = nS n := by
  unfold numM at h
  by_cases hx : ∃ n : Int, 0 ≤ n ∧ n ≤ most ∧ w = nS n
  · rw [dif_pos hx] at h
    cases h
    exact hx.choose_spec
  · rw [dif_neg hx] at h
    cases h
theorem numM_none {w : Str} {most : Int} (h : ∀ n : Int, 0 ≤ n → n ≤ most → w ≠ nS n) : numM w most = none := by
  unfold numM
  rw [dif_neg]
  rintro ⟨n, h0, h1, e⟩
  exact h n h0 h1 e
theorem nS_digits {n : Int} (h : 0 ≤ n) : NumText.AllDigits (tl (nS n)) ∧ tl (nS n) ≠ [] ∧ ((tl (nS n)).head? = some 48 → n = 0) := by
  obtain ⟨a, rfl⟩ := Int.eq_ofNat_of_zero_le h
  rw [tl_nS]
  exact ⟨numL_digits a, numL_ne a, fun z => by rw [numL_head z]; rfl⟩
theorem nS_len {n most : Int} (h : 0 ≤ n) (h1 : n ≤ most) : (nS n).length ≤ (nS most).length := by
  obtain ⟨a, rfl⟩ := Int.eq_ofNat_of_zero_le h
  obtain ⟨b, rfl⟩ := Int.eq_ofNat_of_zero_le (Int.le_trans h h1)
  rw [len_tl, len_tl]
  rw [tl_nS, tl_nS]
  exact numL_mono (Int.ofNat_le.mp h1)
theorem nS_ten {n : Int} (h : 0 ≤ n) (h1 : n < 10 ^ 10) : (nS n).length ≤ 10 := by
  obtain ⟨a, rfl⟩ := Int.eq_ofNat_of_zero_le h
  rw [len_tl]
  rw [tl_nS]
  refine numL_len (by decide) ?_
  have h2 : ((a : Nat) : Int) < 10 ^ 10 := h1
  omega
/-- a text of digits alone, without a needless 0 -/
theorem numM_digits {w : Str} (hd : NumText.AllDigits (tl w)) (hne : tl w ≠ []) (h0 : (tl w).head? = some 48 → tl w = [48]) (most : Int) : w = nS (NumText.digitsVal (tl w) : Nat) ∧ numM w most = if ((NumText.digitsVal (tl w) : Nat) : Int) ≤ most then some (NumText.digitsVal (tl w) : Nat) else none := by
  have e : w = nS (NumText.digitsVal (tl w) : Nat) := ext_tl (by rw [tl_nS, numL_back _ hd hne h0])
  refine ⟨e, ?_⟩
  by_cases h : ((NumText.digitsVal (tl w) : Nat) : Int) ≤ most
  · rw [if_pos h]
    exact numM_of (Int.natCast_nonneg _) h e
  · rw [if_neg h]
    refine numM_none fun n n0 n1 z => h ?_
    rw [nS_inj (Int.natCast_nonneg _) n0 (e.symm.trans z)]
    exact n1
theorem ascii_digits {w : Str} (h1 : Txt.isascii w = true) (h2 : Txt.isdigit w = true) : NumText.AllDigits (tl w) ∧ tl w ≠ [] := by
  unfold Txt.isascii at h1
  unfold Txt.isdigit at h2
  rw [Bool.and_eq_true] at h2
  obtain ⟨h2, h3⟩ := h2
  have hall : ∀ c, c < 128 → Unicode.isDigit c = true → 48 ≤ c ∧ c ≤ 57 := by
    have : ∀ c ∈ List.range 128, Unicode.isDigit c = true → 48 ≤ c ∧ c ≤ 57 := by decide +kernel
    exact fun c hc => this c (List.mem_range.mpr hc)
  refine ⟨fun c hc => hall c ?_ ?_, fun z => ?_⟩
  · exact of_decide_eq_true (Array.all_eq_true_iff_forall_mem.mp h1 c (Array.mem_toList_iff.mp hc))
  · exact Array.all_eq_true_iff_forall_mem.mp h3 c (Array.mem_toList_iff.mp hc)
  · have := of_decide_eq_true h2
    rw [len_tl, z] at this
    exact absurd this (Nat.lt_irrefl 0)
theorem digits_ascii {w : Str} (hd : NumText.AllDigits (tl w)) (hne : tl w ≠ []) : Txt.isascii w = true ∧ Txt.isdigit w = true := by
  have hall : ∀ c, 48 ≤ c → c ≤ 57 → c < 128 ∧ Unicode.isDigit c = true := by
    have : ∀ c ∈ List.range 58, 48 ≤ c → c < 128 ∧ Unicode.isDigit c = true := by decide +kernel
    exact fun c h1 h2 => this c (List.mem_range.mpr (by omega)) h1
  unfold Txt.isascii Txt.isdigit
  refine ⟨Array.all_eq_true_iff_forall_mem.mpr fun c hc => ?_, ?_⟩
  · obtain ⟨a, b⟩ := hd c (Array.mem_toList_iff.mpr hc)
    exact decide_eq_true (hall c a b).1
  · rw [Bool.and_eq_true]
    refine ⟨decide_eq_true ?_, Array.all_eq_true_iff_forall_mem.mpr fun c hc => ?_⟩
    · rw [len_tl]
      exact List.length_pos_iff.mpr hne
    · obtain ⟨a, b⟩ := hd c (Array.mem_toList_iff.mpr hc)
      exact (hall c a b).2
theorem starts_zero (w : Str) : Txt.startswith w "0" = true ↔ (tl w).head? = some 48 := by
  have e0 : ("0" : Str) = ⟨#[48]⟩ := by decide +kernel
  have e1 : (w.cps.extract 0 1).toList = (tl w).take 1 := by simp
  unfold Txt.startswith Builtin.Str.subAt
  rw [e0]
  show (decide (0 + 1 ≤ w.length) && (w.cps.extract 0 (0 + 1) == #[48])) = true ↔ _
  rw [Bool.and_eq_true, beq_iff_eq, Nat.zero_add, len_tl, decide_eq_true_iff]
  constructor
  · rintro ⟨_, h⟩
    have h2 := congrArg Array.toList h
    rw [e1] at h2
    cases hl : tl w with
    | nil => rw [hl] at h2; cases h2
    | cons c r =>
      rw [hl] at h2
      have : [c] = [48] := h2
      cases this
      rfl
  · intro h
    cases hl : tl w with
    | nil => rw [hl] at h; cases h
    | cons c r =>
      rw [hl] at h
      cases h
      refine ⟨Nat.succ_le_succ (Nat.zero_le _), ?_⟩
      apply Array.toList_inj.mp
      rw [e1, hl]
      rfl
/-! ## steps -/
section
variable {σ : L2.St} {H : Hp} {Q : VK} {to te : TE} {r : V → List V → Hp → VK → Prop}
def M0b (r : V → List V → Hp → VK → Prop) (y : V) (H : Hp) (Q : VK) : Prop := (∃ x, y = .str x) ∧ r y [] H Q
def M1b (r : V → List V → Hp → VK → Prop) (te : TE) (σ : L2.St) (y : V) (H : Hp) (Q : VK) : Prop := (∃ x, y = .str x) ∧ te σ H fun z H2 => r y [z] H2 Q
theorem w_m0 (q : to σ H fun y H1 => M0b r y H1 Q) : tM0 r to σ H Q := q
theorem w_m1 (q : to σ H fun y H1 => M1b r te σ y H1 Q) : tM1 r to te σ H Q := q
theorem w_m0b {x : Str} (q : r (.str x) [] H Q) : M0b r (.str x) H Q := ⟨⟨x, rfl⟩, q⟩
theorem w_m1b {x : Str} (q : te σ H fun z H2 => r (.str x) [z] H2 Q) : M1b r te σ (.str x) H Q := ⟨⟨x, rfl⟩, q⟩
theorem w_nS {a : Int} (q : a.natAbs < 2 ^ 64 ∧ Q (.str (nS a)) H) : rStr [.int a] H Q := w_str q.1 q.2
end
section
variable {K : PySem.W.Frag} {a : Addr} {xs : List V} {H0 : Hp} {Qd : Hp → Prop} {Body : (Hp → Prop) → V → Hp → Prop}
theorem turns_tupS (Pv : Nat → Hp → Prop) (h0 : Pv 0 H0) (hl : ∀ i H, i ≤ xs.length → Pv i H → SqT K H a xs) (hs : ∀ i x H, xs[i]? = some x → Pv i H → Body (Pv (i + 1)) x H) (hd : ∀ H, Pv xs.length H → Qd H) : Turns (Itt K a) Body H0 Qd := by
  refine ⟨fun i m H => m + i = xs.length ∧ Pv i H, ⟨xs.length, rfl, h0⟩, ?_⟩
  rintro i m H ⟨hm, p⟩
  have q := hl i H (by omega) p
  by_cases hlt : i < xs.length
  · refine .inr ⟨⟨xs, xs[i], q, List.getElem?_eq_getElem hlt⟩, Pv (i + 1), fun H' p' => ⟨m - 1, by omega, by omega, p'⟩, ?_⟩
    rintro v H' ⟨rfl, y⟩
    exact hs i v _ (y xs q) p
  · obtain rfl : i = xs.length := by omega
    exact .inl ⟨⟨xs, q, Nat.le_refl _⟩, hd H p⟩
end
section
variable {K : PySem.W.Frag} {σ : L2.St} {H : Hp} {Q : VK}
theorem w_lcTup {tl te : TE} {g : TG} {tt : TT} {vs : List Nat} (q : tl σ H fun x H1 => TupR K x H1 (LcR g tt te vs σ Q)) : tLc (iTup K tl) g tt te vs σ H Q := q
theorem w_lcFM {α β : Type} {RR : V → α → Prop} {tl te : TE} {tt : TT} {j : Nat} {vs : List Nat} {a : Addr} {us : List V} {xs : List α} (p : α → Bool) (f : α → β) (R : Hp → V → β → Prop) (hm : ∀ H1 H2 v y, (∀ p xs, H1 p = some (.tup xs) → H2 p = some (.tup xs)) → R H1 v y → R H2 v y) (hx : SqL K H a us) (hL : Row RR us xs) (hz : us.length ≤ 1000000)
    (htl : ∀ Q : VK, Q (.ref a) H → tl σ H Q) (hw : ∀ v, wipe ((wipe σ vs).set j (some v)) vs = wipe σ vs)
    (ht : ∀ u x H1, x ∈ xs → RR u x → Same H H1 → ∀ S : Bool → Hp → Prop, (∀ H2, Same H1 H2 → S (p x) H2) → tt ((wipe σ vs).set j (some u)) H1 S)
    (he : ∀ u x H1 (Q' : VK), x ∈ xs → RR u x → p x = true → Same H H1 → (∀ v H3, Same H1 H3 → R H3 v (f x) → Q' v H3) → te ((wipe σ vs).set j (some u)) H1 Q')
    (hq : ∀ D acc H', Hs H [(D, .lst acc)] H' → Row (R H') acc ((xs.filter p).map f) → Q (.ref D) H') : tLc (iList K tl) (gName j) tt te vs σ H Q := by
  refine w_lcLR (htl _ (w_listR hx fun D hD => ?_))
  refine turns_list (Body := LcBody (gName j) tt te vs σ D) (fun i H' => ∃ acc, Hs H [(D, .lst acc)] H' ∧ Row (R H') acc (((xs.take i).filter p).map f)) ⟨[], (Hs.start H).new hD, Row.nil⟩ (fun i H' _ ⟨_, h, _⟩ => h.same.seq hx) ?_ ?_
  · rintro i u H' hu ⟨acc, h1, h2⟩
    have hi := (List.getElem?_eq_some_iff.mp hu).1
    obtain ⟨x, hxi, hk⟩ := hL.get hu
    have hxm := List.mem_of_getElem? hxi
    refine w_name ⟨hw _, ht u x H' hxm hk h1.same _ fun H2 sb => ?_⟩
    have h3 := h1.keep sb
    have e1 := take_filter (p := p) hxi
    by_cases hp : p x = true
    · rw [if_pos hp]
      rw [if_pos hp] at e1
      refine he u x H2 _ hxm hk hp h3.same fun v H3 s3 r => ?_
      have hD3 : H3 D = some (.lst acc) := s3 _ _ h3.g0
      have hlt : acc.length ≤ i := by
        have h4 := h2.1
        have h5 := List.length_filter_le p (xs.take i)
        rw [List.length_map] at h4
        rw [List.length_take] at h5
        omega
      refine ⟨acc, hD3, szl (by omega), acc ++ [v], (h3.keep s3).p0 _, ?_⟩
      rw [e1, List.map_append]
      refine Row.mono (fun u x => hm H3 _ u x fun a xs => tup_but hD3 (fun _ z => by cases z) a xs) ((h2.mono fun u x => hm _ _ u x fun a xs e => s3 _ _ (sb _ _ e)).snoc r)
    · rw [if_neg hp]
      rw [if_neg hp, List.append_nil] at e1
      refine ⟨acc, h3, ?_⟩
      rw [e1]
      exact h2.mono fun u x => hm _ _ u x fun a xs e => sb _ _ e
  · rintro H' ⟨acc, h1, h2⟩
    rw [hL.1, List.take_length] at h2
    exact hq D acc H' h1 h2
theorem w_lcFT {α β : Type} {RR : V → α → Prop} {tl te : TE} {tt : TT} {j : Nat} {vs : List Nat} {a : Addr} {us : List V} {xs : List α} (p : α → Bool) (f : α → β) (R : Hp → V → β → Prop) (hm : ∀ H1 H2 v y, (∀ p xs, H1 p = some (.tup xs) → H2 p = some (.tup xs)) → R H1 v y → R H2 v y) (hx : ∀ H1, Same H H1 → SqT K H1 a us) (hL : Row RR us xs) (hz : us.length ≤ 1000000)
    (htl : ∀ Q : VK, Q (.ref a) H → tl σ H Q) (hw : ∀ v, wipe ((wipe σ vs).set j (some v)) vs = wipe σ vs)
    (ht : ∀ u x H1, x ∈ xs → RR u x → Same H H1 → ∀ S : Bool → Hp → Prop, (∀ H2, Same H1 H2 → S (p x) H2) → tt ((wipe σ vs).set j (some u)) H1 S)
    (he : ∀ u x H1 (Q' : VK), x ∈ xs → RR u x → p x = true → Same H H1 → (∀ v H3, Same H1 H3 → R H3 v (f x) → Q' v H3) → te ((wipe σ vs).set j (some u)) H1 Q')
    (hq : ∀ D acc H', Hs H [(D, .lst acc)] H' → Row (R H') acc ((xs.filter p).map f) → Q (.ref D) H') : tLc (iTup K tl) (gName j) tt te vs σ H Q := by
  refine w_lcTup (htl _ (w_tupR (hx H (Same.refl _)) fun D hD => ?_))
  refine turns_tupS (Body := LcBody (gName j) tt te vs σ D) (fun i H' => ∃ acc, Hs H [(D, .lst acc)] H' ∧ Row (R H') acc (((xs.take i).filter p).map f)) ⟨[], (Hs.start H).new hD, Row.nil⟩ (fun i H' _ ⟨_, h, _⟩ => hx _ h.same) ?_ ?_
  · rintro i u H' hu ⟨acc, h1, h2⟩
    have hi := (List.getElem?_eq_some_iff.mp hu).1
    obtain ⟨x, hxi, hk⟩ := hL.get hu
    have hxm := List.mem_of_getElem? hxi
    refine w_name ⟨hw _, ht u x H' hxm hk h1.same _ fun H2 sb => ?_⟩
    have h3 := h1.keep sb
    have e1 := take_filter (p := p) hxi
    by_cases hp : p x = true
    · rw [if_pos hp]
      rw [if_pos hp] at e1
      refine he u x H2 _ hxm hk hp h3.same fun v H3 s3 r => ?_
      have hD3 : H3 D = some (.lst acc) := s3 _ _ h3.g0
      have hlt : acc.length ≤ i := by
        have h4 := h2.1
        have h5 := List.length_filter_le p (xs.take i)
        rw [List.length_map] at h4
        rw [List.length_take] at h5
        omega
      refine ⟨acc, hD3, szl (by omega), acc ++ [v], (h3.keep s3).p0 _, ?_⟩
      rw [e1, List.map_append]
      refine Row.mono (fun u x => hm H3 _ u x fun a xs => tup_but hD3 (fun _ z => by cases z) a xs) ((h2.mono fun u x => hm _ _ u x fun a xs e => s3 _ _ (sb _ _ e)).snoc r)
    · rw [if_neg hp]
      rw [if_neg hp, List.append_nil] at e1
      refine ⟨acc, h3, ?_⟩
      rw [e1]
      exact h2.mono fun u x => hm _ _ u x fun a xs e => sb _ _ e
  · rintro H' ⟨acc, h1, h2⟩
    rw [hL.1, List.take_length] at h2
    exact hq D acc H' h1 h2
theorem rows_str {us : List V} {ys : List Str} (h : Row (fun v y => v = V.str y) us ys) : us = ys.map V.str := by
  refine List.ext_getElem? fun i => ?_
  rw [List.getElem?_map]
  by_cases hi : i < us.length
  · obtain ⟨y, hy, e⟩ := h.get (List.getElem?_eq_getElem hi)
    rw [List.getElem?_eq_getElem hi, hy, e]
    rfl
  · rw [List.getElem?_eq_none (by omega), List.getElem?_eq_none (by have := h.1; omega)]
    rfl
/-- texts joined -/
theorem w_join {sep : Str} {p : Addr} {ys : List Str} {B : Nat} (h : SqL K H p (ys.map V.str) ∨ SqT K H p (ys.map V.str)) (hs : sep.length ≤ 10) (hB : ∀ y ∈ ys, y.length ≤ B) (hn : ys.length * (B + 10) ≤ 1000000) (q : Q (.str (Txt.join sep ys)) H) :
    ∃ (a : Str) (p' : Addr) (zs : List Str), V.str sep = .str a ∧ [V.ref p] = [V.ref p'] ∧ (SqL K H p' (zs.map V.str) ∨ SqT K H p' (zs.map V.str)) ∧ (zs.map (·.length)).sum + zs.length * a.length ≤ 16777216 ∧ Q (.str (Txt.join a zs)) H := by
  refine ⟨sep, p, ys, rfl, rfl, h, ?_, q⟩
  have e : ∀ zs : List Str, (∀ y ∈ zs, y.length ≤ B) → (zs.map (·.length)).sum ≤ zs.length * B := by
    intro zs
    induction zs with
    | nil => exact fun _ => Nat.zero_le _
    | cons z zs ih =>
      intro hz
      have h1 := hz z List.mem_cons_self
      have h2 := ih fun y hy => hz y (List.mem_cons_of_mem _ hy)
      rw [List.map_cons, List.sum_cons, List.length_cons, Nat.succ_mul]
      omega
  have h1 := e ys hB
  have h2 : ys.length * sep.length ≤ ys.length * 10 := Nat.mul_le_mul_left _ hs
  rw [Nat.mul_add] at hn
  omega
theorem w_splitR {x sep : Str} (hs : (sep.length == 0) = false) (hx : x.length ≤ 1000000) (q : ∀ p, H p = none → Q (.ref p) (upd H p (.lst ((Txt.split x sep).map V.str)))) :
    ∃ (a b : Str), V.str x = .str a ∧ [V.str sep] = [V.str b] ∧ (b.length == 0) = false ∧ a.length + 2 ≤ sizeLine ∧ rNewStrs (Txt.split a b) H Q := ⟨x, sep, rfl, rfl, hs, by rw [sizeLine_eq]; omega, q⟩
end
section
variable {K : PySem.W.Frag} {σ : L2.St} {H : Hp} {Q : VK}
theorem w_lcFP {α β : Type} {RP : V → V → α → Prop} {tl te : TE} {tt : TT} {i0 j0 : Nat} {vs : List Nat} {a : Addr} {us : List V} {xs : List α} (p : α → Bool) (f : α → β) (R : Hp → V → β → Prop) (hm : ∀ H1 H2 v y, (∀ p xs, H1 p = some (.tup xs) → H2 p = some (.tup xs)) → R H1 v y → R H2 v y) (hx : SqL K H a us) (hL : Row (fun u x => ∃ p v1 v2, u = V.ref p ∧ H p = some (.tup [v1, v2]) ∧ RP v1 v2 x) us xs) (hz : us.length ≤ 1000000)
    (htl : ∀ Q : VK, Q (.ref a) H → tl σ H Q) (hw : ∀ v u, wipe (((wipe σ vs).set i0 (some v)).set j0 (some u)) vs = wipe σ vs)
    (ht : ∀ v1 v2 x H1, x ∈ xs → RP v1 v2 x → Same H H1 → ∀ S : Bool → Hp → Prop, (∀ H2, Same H1 H2 → S (p x) H2) → tt (((wipe σ vs).set i0 (some v1)).set j0 (some v2)) H1 S)
    (he : ∀ v1 v2 x H1 (Q' : VK), x ∈ xs → RP v1 v2 x → p x = true → Same H H1 → (∀ v H3, Same H1 H3 → R H3 v (f x) → Q' v H3) → te (((wipe σ vs).set i0 (some v1)).set j0 (some v2)) H1 Q')
    (hq : ∀ D acc H', Hs H [(D, .lst acc)] H' → Row (R H') acc ((xs.filter p).map f) → Q (.ref D) H') : tLc (iList K tl) (gTup K 2 (gCons (gName i0) (gCons (gName j0) gNil))) tt te vs σ H Q := by
  refine w_lcLR (htl _ (w_listR hx fun D hD => ?_))
  refine turns_list (Body := LcBody (gTup K 2 (gCons (gName i0) (gCons (gName j0) gNil))) tt te vs σ D) (fun i H' => ∃ acc, Hs H [(D, .lst acc)] H' ∧ Row (R H') acc (((xs.take i).filter p).map f)) ⟨[], (Hs.start H).new hD, Row.nil⟩ (fun i H' _ ⟨_, h, _⟩ => h.same.seq hx) ?_ ?_
  · rintro i u H' hu ⟨acc, h1, h2⟩
    have hi := (List.getElem?_eq_some_iff.mp hu).1
    obtain ⟨x, hxi, hk⟩ := hL.get hu
    have hxm := List.mem_of_getElem? hxi
    obtain ⟨pp, v1, v2, rfl, hpp, hk⟩ := hk
    refine ⟨pp, _, rfl, SqT.of (h1.same _ _ hpp), rfl, ?_⟩
    refine ⟨_, _, rfl, ⟨_, _, rfl, rfl, ?_⟩⟩
    refine ⟨hw _ _, ht v1 v2 x H' hxm hk h1.same _ fun H2 sb => ?_⟩
    have h3 := h1.keep sb
    have e1 := take_filter (p := p) hxi
    by_cases hp : p x = true
    · rw [if_pos hp]
      rw [if_pos hp] at e1
      refine he v1 v2 x H2 _ hxm hk hp h3.same fun v H3 s3 r => ?_
      have hD3 : H3 D = some (.lst acc) := s3 _ _ h3.g0
      have hlt : acc.length ≤ i := by
        have h4 := h2.1
        have h5 := List.length_filter_le p (xs.take i)
        rw [List.length_map] at h4
        rw [List.length_take] at h5
        omega
      refine ⟨acc, hD3, szl (by omega), acc ++ [v], (h3.keep s3).p0 _, ?_⟩
      rw [e1, List.map_append]
      refine Row.mono (fun u x => hm H3 _ u x fun a xs => tup_but hD3 (fun _ z => by cases z) a xs) ((h2.mono fun u x => hm _ _ u x fun a xs e => s3 _ _ (sb _ _ e)).snoc r)
    · rw [if_neg hp]
      rw [if_neg hp, List.append_nil] at e1
      refine ⟨acc, h3, ?_⟩
      rw [e1]
      exact h2.mono fun u x => hm _ _ u x fun a xs e => sb _ _ e
  · rintro H' ⟨acc, h1, h2⟩
    rw [hL.1, List.take_length] at h2
    exact hq D acc H' h1 h2
end
section
variable {K : PySem.W.Frag} {σ : L2.St} {H : Hp} {Q : VK}
theorem w_lcFL {α β : Type} {RR : V → α → Prop} {te : TE} {tt : TT} {j : Nat} {vs : List Nat} {a : Addr} {us : List V} {xs : List α} (p : α → Bool) (f : α → β) (R : Hp → V → β → Prop) (hm : ∀ H1 H2 v y, (∀ p xs, H1 p = some (.tup xs) → H2 p = some (.tup xs)) → R H1 v y → R H2 v y) (hx : SqL K H a us) (hL : Row RR us xs) (hz : us.length ≤ 1000000)
    (hw : ∀ v, wipe ((wipe σ vs).set j (some v)) vs = wipe σ vs)
    (ht : ∀ u x H1, x ∈ xs → RR u x → Same H H1 → ∀ S : Bool → Hp → Prop, (∀ H2, Same H1 H2 → S (p x) H2) → tt ((wipe σ vs).set j (some u)) H1 S)
    (he : ∀ u x H1 (Q' : VK), x ∈ xs → RR u x → p x = true → Same H H1 → (∀ v H3, Same H1 H3 → R H3 v (f x) → Q' v H3) → te ((wipe σ vs).set j (some u)) H1 Q')
    (hq : ∀ D acc H', Hs H [(D, .lst acc)] H' → Row (R H') acc ((xs.filter p).map f) → Q (.ref D) H') : ListR K (.ref a) H (LcR (gName j) tt te vs σ Q) := by
  refine w_listR hx fun D hD => ?_
  refine turns_list (Body := LcBody (gName j) tt te vs σ D) (fun i H' => ∃ acc, Hs H [(D, .lst acc)] H' ∧ Row (R H') acc (((xs.take i).filter p).map f)) ⟨[], (Hs.start H).new hD, Row.nil⟩ (fun i H' _ ⟨_, h, _⟩ => h.same.seq hx) ?_ ?_
  · rintro i u H' hu ⟨acc, h1, h2⟩
    have hi := (List.getElem?_eq_some_iff.mp hu).1
    obtain ⟨x, hxi, hk⟩ := hL.get hu
    have hxm := List.mem_of_getElem? hxi
    refine w_name ⟨hw _, ht u x H' hxm hk h1.same _ fun H2 sb => ?_⟩
    have h3 := h1.keep sb
    have e1 := take_filter (p := p) hxi
    by_cases hp : p x = true
    · rw [if_pos hp]
      rw [if_pos hp] at e1
      refine he u x H2 _ hxm hk hp h3.same fun v H3 s3 r => ?_
      have hD3 : H3 D = some (.lst acc) := s3 _ _ h3.g0
      have hlt : acc.length ≤ i := by
        have h4 := h2.1
        have h5 := List.length_filter_le p (xs.take i)
        rw [List.length_map] at h4
        rw [List.length_take] at h5
        omega
      refine ⟨acc, hD3, szl (by omega), acc ++ [v], (h3.keep s3).p0 _, ?_⟩
      rw [e1, List.map_append]
      refine Row.mono (fun u x => hm H3 _ u x fun a xs => tup_but hD3 (fun _ z => by cases z) a xs) ((h2.mono fun u x => hm _ _ u x fun a xs e => s3 _ _ (sb _ _ e)).snoc r)
    · rw [if_neg hp]
      rw [if_neg hp, List.append_nil] at e1
      refine ⟨acc, h3, ?_⟩
      rw [e1]
      exact h2.mono fun u x => hm _ _ u x fun a xs e => sb _ _ e
  · rintro H' ⟨acc, h1, h2⟩
    rw [hL.1, List.take_length] at h2
    exact hq D acc H' h1 h2
end
/-! ## the parts of a text -/
theorem spl_ne (S : List Nat) : ∀ (l : List Nat) (k : Nat) (acc : List Nat), spl S k acc l ≠ []
  | [], k, acc => by
    rw [spl_nil]
    simp
  | c :: r, 0, acc => by
    cases h : pre S (c :: r) with
    | true =>
      rw [spl_hit h]
      simp
    | false =>
      rw [spl_miss h]
      exact spl_ne S r 0 _
  | c :: r, k + 1, acc => by
    show spl S k acc r ≠ []
    exact spl_ne S r k acc
theorem spl_le (S : List Nat) : ∀ (l : List Nat) (k : Nat) (acc p : List Nat), p ∈ spl S k acc l → p.length ≤ acc.length + l.length
  | [], k, acc, p, h => by
    rw [spl_nil] at h
    rw [List.mem_singleton.mp h]
    exact Nat.le_refl _
  | c :: r, 0, acc, p, h => by
    cases hp : pre S (c :: r) with
    | true =>
      rw [spl_hit hp] at h
      rcases List.mem_cons.mp h with rfl | h
      · exact Nat.le_add_right _ _
      · have := spl_le S r _ [] p h
        rw [List.length_nil] at this
        rw [List.length_cons]
        omega
    | false =>
      rw [spl_miss hp] at h
      have := spl_le S r 0 _ p h
      rw [List.length_append] at this
      rw [List.length_cons]
      have e : [c].length = 1 := rfl
      omega
  | c :: r, k + 1, acc, p, h => by
    have h : p ∈ spl S k acc r := h
    have := spl_le S r k acc p h
    rw [List.length_cons]
    omega
theorem spl_cnt (S : List Nat) : ∀ (l : List Nat) (k : Nat) (acc : List Nat), (spl S k acc l).length ≤ l.length + 1
  | [], k, acc => by
    rw [spl_nil]
    exact Nat.le_refl _
  | c :: r, 0, acc => by
    cases hp : pre S (c :: r) with
    | true =>
      rw [spl_hit hp, List.length_cons, List.length_cons]
      have := spl_cnt S r (S.length - 1) []
      omega
    | false =>
      rw [spl_miss hp, List.length_cons]
      have := spl_cnt S r 0 (acc ++ [c])
      omega
  | c :: r, k + 1, acc => by
    have := spl_cnt S r k acc
    show (spl S k acc r).length ≤ _
    rw [List.length_cons]
    omega
structure Sep (y : Str) (s : Nat) : Prop where
  e : tl y = [s]
  k : y.cps.all (· < 256) = true
theorem Sep.len {y : Str} {s : Nat} (h : Sep y s) : (y.length == 0) = false := by
  rw [len_tl, h.e]
  rfl
theorem split_map {x y : Str} {s : Nat} (h : Sep y s) : (Txt.split x y).map tl = spl [s] 0 [] (tl x) := by
  rw [split_spl x y (by rw [h.e]; simp) (kind_ok h.k), h.e]
theorem split_ne {x y : Str} {s : Nat} (h : Sep y s) : Txt.split x y ≠ [] := fun z => by
  have := split_map (x := x) h
  rw [z] at this
  exact spl_ne [s] (tl x) 0 [] this.symm
theorem split_le {x y : Str} {s : Nat} (h : Sep y s) {p : Str} (hp : p ∈ Txt.split x y) : p.length ≤ x.length := by
  have h1 : tl p ∈ spl [s] 0 [] (tl x) := by
    rw [← split_map h]
    exact List.mem_map_of_mem hp
  have := spl_le _ _ _ _ _ h1
  rw [len_tl, len_tl]
  simpa using this
theorem split_cnt {x y : Str} {s : Nat} (h : Sep y s) : (Txt.split x y).length ≤ x.length + 1 := by
  have := spl_cnt [s] (tl x) 0 []
  rw [← split_map h, List.length_map] at this
  rw [len_tl]
  exact this
theorem sep_space : Sep " " 32 := ⟨by decide +kernel, by decide +kernel⟩
theorem sep_comma : Sep "," 44 := ⟨by decide +kernel, by decide +kernel⟩
theorem sep_semi : Sep ";" 59 := ⟨by decide +kernel, by decide +kernel⟩
theorem sep_colon : Sep ":" 58 := ⟨by decide +kernel, by decide +kernel⟩
def KGetR (K : PySem.W.Frag) (w : World) (x y : V) (H2 : Hp) (Q : VK) : Prop := ∃ (p : Addr) (z : Str) (r : Option V), x = .ref p ∧ y = .str z ∧ KGet K w p z r ∧ Q (r.getD .non) H2
theorem w_kget {K : PySem.W.Frag} {w : World} {td ty : TE} {σ : L2.St} {H : Hp} {Q : VK} (q : td σ H fun x H1 => ty σ H1 fun y H2 => KGetR K w x y H2 Q) : tKGet K w td ty σ H Q := q
end Hb

set_option Elab.async false
set_option linter.all false
set_option maxRecDepth 100000
set_option maxHeartbeats 4000000
/-! A walk over the keys of a written dict; texts cut by places, read at a place. -/
namespace Hb
open PySem PySem.Spec L2 PyProof.Rows TL
/-! ## for x in D, D a dict of the module with text keys -/
def KKeys (K : PySem.W.Frag) (d : Addr) (ts : List Str) : Prop := (d == sysModules) = false ∧ ∃ (es : Array DictEntry) (n : Nat), K.lookup d = some ⟨.type "dict", none, .dict es n, #[]⟩ ∧ Vals (ts.map V.str) (es.toList.map (·.key))
theorem kkeys_mk {K : PySem.W.Frag} {d : Addr} {es : Array DictEntry} {n : Nat} {ks : List Value} {ts : List Str} (h : K.lookup d = some ⟨.type "dict", none, .dict es n, #[]⟩) (hs : (d == sysModules) = false) (e : es.toList.map (·.key) = ks) (r : Vals (ts.map V.str) ks) : KKeys K d ts := by
  subst e
  exact ⟨hs, es, n, h, r⟩
def Itkk (ts : List Str) : It := ⟨fun i _ => i < ts.length, fun i H x H' => H' = H ∧ ∃ z, ts[i]? = some z ∧ x = .str z, fun i _ => ts.length ≤ i⟩
theorem turn_kkeys {P : Program} {w : World} {K : PySem.W.Frag} {tg : Expr} {d : Addr} {ts : List Str} {es : Array DictEntry} {n : Nat} (it : Addr) (hl : K.lookup d = some ⟨.type "dict", none, .dict es n, #[]⟩) (hv : Vals (ts.map V.str) (es.toList.map (·.key))) :
    Turn P w K tg (Itkk ts) [it] it (fun i h => h.IsKeyIter it d i es.size n) where
  mem := by simp
  obj := fun i h st b hb => by
    have e : b = it := by simpa using hb
    subst e
    obtain ⟨oi, e, c, dd⟩ := st
    exact ⟨oi, e, fun v z => by rw [dd] at z; cases z⟩
  keep := fun i h h' st k => st.at fun oi e => k it (by simp) oi e
  item := by
    intro X hP hw hK hc i pins s σ H E I hf st hi
    subst hP hw hK
    obtain ⟨f0, f1, f2, f3, f4, f5⟩ := hf it (by simp)
    have hgd := I.kIn _ _ hl
    have hi : i < ts.length := hi
    have hx : (ts.map V.str)[i]? = some (.str ts[i]) := by rw [List.getElem?_map, List.getElem?_eq_getElem hi]; rfl
    obtain ⟨u, hu, ru⟩ := hv.get hx
    rw [List.getElem?_map] at hu
    obtain ⟨en, hen, rfl⟩ := Option.map_eq_some_iff.mp hu
    have hen' : es[i]? = some en := by rw [← hen]; simp
    refine next_key_item st hgd rfl rfl hen' fun h' st' sb => ?_
    have I1 : Inv X pins σ H { s with heap := h' } := I.turned (t' := s.toks) (fun b ob hb e => (sb.2 b hb).trans e) f0 f1 f3 f4 f5
    obtain ⟨oi, e, c, dd⟩ := id st'
    exact ⟨en.key, rfl, go_of (s := { s with heap := h' }) e c dd (by decide) ⟨.str ts[i], H, I1, ru, ⟨rfl, _, List.getElem?_eq_getElem hi, rfl⟩, st', fun b hb => (hf b hb).1⟩⟩
  done := by
    intro X hP hw hK hc i pins s σ H E I hf st hi
    subst hP hw hK
    obtain ⟨f0, f1, f2, f3, f4, f5⟩ := hf it (by simp)
    have hgd := I.kIn _ _ hl
    have hi : ts.length ≤ i := hi
    have l1 := hv.length
    rw [List.length_map, List.length_map] at l1
    have l2 : es.toList.length = es.size := Array.length_toList
    exact next_key_end (I.ok.hd hc) st hgd rfl rfl (by omega) fun h' eb => ⟨rfl, I.turned (t' := s.toks) (fun b ob hb e => eb b ob hb e) f0 f1 f3 f4 f5⟩
  self := fun A i s Q E st h => wpAny_pyIter_keyiter st h
def iKKeys (K : PySem.W.Frag) (td : TE) : TI := fun σ H R => td σ H fun x H1 => ∃ d ts, x = .ref d ∧ KKeys K d ts ∧ R (Itkk ts) H1
theorem pi_kkeys {X : Cx} {K : PySem.W.Frag} {tg e : Expr} {td : TE} (he : PE X e td) (hK : X.K = K := by rfl) : PI X tg e (iKKeys K td) := by
  subst hK
  refine ⟨fun pins s σ H R I h => ?_⟩
  refine thn (he.run pins s σ H _ I h) fun u s1 ⟨x, H1, I1, rx, d, ts, ex, ⟨hs, es, n, hl, hv⟩, q⟩ => ?_
  subst ex
  obtain rfl : u = Value.ref d := rx
  exact iter_keys hs (I1.kIn _ _ hl) ⟨rfl, rfl, rfl⟩ rfl (pi_one (tk := s1.toks) I1 _ (turn_kkeys _ hl hv) ⟨_, Heap.get?_push_size _ rfl, rfl, rfl⟩ q)
theorem for_kk {σ : L2.St} {H : Hp} {D : Ends} {g : TG} {tb : TS} {ts : List Str} (Pv : Nat → L2.St → Hp → Prop) (h0 : Pv 0 σ H)
    (hs : ∀ i z σ H, ts[i]? = some z → Pv i σ H → g (.str z) σ H fun σ2 H2 => tb { D with nx := Pv (i + 1), ct := Pv (i + 1), bk := D.nx } σ2 H2) (hd : ∀ σ H, Pv ts.length σ H → D.nx σ H) : ForR g tb D σ (Itkk ts) H := by
  refine ⟨fun i m σ H => m + i = ts.length ∧ Pv i σ H, ⟨_, rfl, h0⟩, ?_⟩
  rintro i m σ' H' ⟨hm, p⟩
  by_cases hlt : i < ts.length
  · refine .inr ⟨hlt, Pv (i + 1), fun σ2 H2 p2 => ⟨m - 1, by omega, by omega, p2⟩, ?_⟩
    rintro v H2 ⟨rfl, z, hz, rfl⟩
    exact hs i z _ _ hz p
  · obtain rfl : i = ts.length := by omega
    exact .inl ⟨Nat.le_refl _, hd σ' H' p⟩
/-- what is walked is known -/
def KkR (K : PySem.W.Frag) (x : V) (H : Hp) (R : It → Hp → Prop) : Prop := ∃ d ts, x = .ref d ∧ KKeys K d ts ∧ R (Itkk ts) H
theorem w_forKK {K : PySem.W.Frag} {σ : L2.St} {H : Hp} {D : Ends} {td : TE} {g : TG} {tb : TS} (q : td σ H fun x H1 => KkR K x H1 fun J H2 => ForR g tb D σ J H2) : tFor (iKKeys K td) g tb D σ H := q
theorem w_kkR {K : PySem.W.Frag} {d : Addr} {ts : List Str} {H : Hp} {R : It → Hp → Prop} (h : KKeys K d ts) (q : R (Itkk ts) H) : KkR K (.ref d) H R := ⟨d, ts, rfl, h, q⟩
/-! ## a text at a place -/
theorem tl_cut (x : Str) (i n : Nat) : tl (cutS x (some (i : Int)) (some ((i + n : Nat) : Int))) = ((tl x).drop i).take n := by
  show (((tl x).drop (HT.sIx x.length 0 (some (i : Int)))).take (HT.sIx x.length x.length (some ((i + n : Nat) : Int)) - HT.sIx x.length 0 (some (i : Int)))) = _
  rw [HT.sIx_nat, HT.sIx_nat, len_tl]
  by_cases h : i ≤ (tl x).length
  · rw [Nat.min_eq_left h]
    by_cases h2 : i + n ≤ (tl x).length
    · rw [Nat.min_eq_left h2, Nat.add_sub_cancel_left]
    · rw [Nat.min_eq_right (by omega), List.take_of_length_le, List.take_of_length_le]
      · rw [List.length_drop]; omega
      · rw [List.length_drop]; omega
  · rw [List.drop_of_length_le (by omega : (tl x).length ≤ i), List.drop_of_length_le (by omega)]
    simp
theorem tl_cutTo (x : Str) (i : Nat) : tl (cutS x none (some (i : Int))) = (tl x).take i := by
  show (((tl x).drop (HT.sIx x.length 0 none)).take (HT.sIx x.length x.length (some (i : Int)) - HT.sIx x.length 0 none)) = _
  rw [HT.sIx_nat, HT.sIx_none, List.drop_zero, Nat.sub_zero, len_tl, take_min]
theorem tl_cutFrom (x : Str) (i : Nat) : tl (cutS x (some (i : Int)) none) = (tl x).drop i := by
  show (((tl x).drop (HT.sIx x.length 0 (some (i : Int)))).take (HT.sIx x.length x.length none - HT.sIx x.length 0 (some (i : Int)))) = _
  rw [HT.sIx_nat, HT.sIx_none, len_tl, drop_min]
  by_cases h : i ≤ (tl x).length
  · rw [Nat.min_eq_left h, List.take_of_length_le]
    rw [List.length_drop]
    exact Nat.le_refl _
  · rw [List.drop_of_length_le (by omega)]
    simp
theorem pre_take (S l : List Nat) : pre S l = decide (l.take S.length = S) := by
  unfold pre
  by_cases h : l.take S.length = S
  · rw [decide_eq_true h]
    simp [h]
  · rw [decide_eq_false h]
    simpa using h
theorem pre_len {S l : List Nat} (h : pre S l = true) : S.length ≤ l.length := by
  rw [pre_take, decide_eq_true_iff] at h
  have := congrArg List.length h
  rw [List.length_take] at this
  omega
theorem pre_split {S l : List Nat} (h : pre S l = true) : l = S ++ l.drop S.length := by
  rw [pre_take, decide_eq_true_iff] at h
  have := List.take_append_drop S.length l
  rw [h] at this
  exact this.symm
theorem pre_app (S r : List Nat) : pre S (S ++ r) = true := by
  rw [pre_take]
  simp
theorem starts3 (x y : Str) (i : Nat) (h : i ≤ x.length) : Txt.startswith3 x y (i : Int) = pre (tl y) ((tl x).drop i) := by
  have e : fromIndex x.length (i : Int) = i := by
    unfold fromIndex
    rw [if_neg (by omega)]
    omega
  unfold Txt.startswith3
  rw [e, pre_take]
  unfold Builtin.Str.subAt
  have e1 : (x.cps.extract i (i + y.length)).toList = ((tl x).drop i).take (tl y).length := by
    rw [Array.toList_extract, len_tl y]
    simp [List.extract_eq_take_drop]
  by_cases hh : ((tl x).drop i).take (tl y).length = tl y
  · rw [decide_eq_true hh, Bool.and_eq_true]
    refine ⟨decide_eq_true ?_, beq_iff_eq.mpr (Array.toList_inj.mp (e1.trans hh))⟩
    have := congrArg List.length hh
    rw [List.length_take, List.length_drop] at this
    have hx := len_tl x
    have hy := len_tl y
    omega
  · rw [decide_eq_false hh, Bool.and_eq_false_iff]
    refine .inr (beq_eq_false_iff_ne.mpr fun z => hh ?_)
    rw [← e1, z]
theorem w_slS {H : Hp} {Q : VK} {x : Str} {lo hi : Option Int} (h : x.length ≤ 1000000) (q : Q (.str (cutS x lo hi)) H) : rSlS (.str x) lo hi H Q := ⟨x, rfl, sz h, q⟩
theorem at_ofA {α : Type} {xs : List α} {z : Int} {j : Nat} {v : α} (e : z = (j : Int)) (h : xs[j]? = some v) : atI xs z = some v := by
  rw [e]
  have hj := (List.getElem?_eq_some_iff.mp h).1
  unfold atI ixN
  rw [if_pos (by omega), if_pos (by omega)]
  simpa using h
theorem w_ixS {H : Hp} {Q : VK} {x : Str} {i : Nat} {c : Nat} {j : Int} (h : x.length ≤ 1000000) (e : j = (i : Int)) (hc : (tl x)[i]? = some c) (q : Q (.str ⟨#[c]⟩) H) : rIxS (.str x) (.int j) H Q := ⟨x, j, c, rfl, rfl, sz h, at_ofA e hc, q⟩
end Hb

set_option Elab.async false
set_option linter.all false
set_option maxRecDepth 100000
set_option maxHeartbeats 4000000
namespace K44
open PySem L2 Hb TL
class IsP (P : Program) : Prop where
  eq : P = PySem.Challenge.pw_hangbridge_k44_texts_of_policies
def top (i : Nat) : Stmt := PySem.Challenge.pw_hangbridge_k44_texts_of_policies.main.body.getD i (.Pass ⟨0, 0, 0, 0⟩)
abbrev s_MisreadError_init : Stmt := (inClass (top 2) 0)
abbrev s_number_of : Stmt := (top 4)
abbrev s_in_brackets : Stmt := (top 16)
abbrev s_show_test : Stmt := (top 17)
abbrev s_show_policy : Stmt := (top 18)
abbrev s_Reader_init : Stmt := (inClass (top 19) 0)
abbrev s_Reader_skip : Stmt := (inClass (top 19) 1)
abbrev s_Reader_expect : Stmt := (inClass (top 19) 2)
abbrev s_Reader_field : Stmt := (inClass (top 19) 3)
abbrev s_Reader_number : Stmt := (inClass (top 19) 4)
abbrev s_Reader_end : Stmt := (inClass (top 19) 5)
abbrev s_read_leaf : Stmt := (top 20)
abbrev s_read_parts : Stmt := (top 21)
abbrev s_check_depth : Stmt := (top 22)
abbrev s_read_test : Stmt := (top 23)
abbrev s_read_part : Stmt := (top 24)
abbrev s_read_policy : Stmt := (top 25)
abbrev s__law_state : Stmt := (top 27)
abbrev s__law_draw : Stmt := (top 28)
abbrev s__law_test : Stmt := (top 29)
abbrev s__law_policy : Stmt := (top 30)
abbrev s__law_show_test : Stmt := (top 31)
abbrev s__law_show : Stmt := (top 32)
abbrev s__law_number : Stmt := (top 33)
abbrev s__law_named : Stmt := (top 34)
abbrev s__law_test_at : Stmt := (top 36)
abbrev s__law_policy_at : Stmt := (top 37)
abbrev s__law_row : Stmt := (top 35)
abbrev s__law_due : Stmt := (top 38)
abbrev s__law_told : Stmt := (top 39)
abbrev s__law_deep : Stmt := (top 40)
abbrev s_law : Stmt := (top 41)
abbrev N_MisreadError_init : List Str := ["self", "at"]
theorem sc_MisreadError_init : ∃ ar, ScS N_MisreadError_init ["self", "at"] ar s_MisreadError_init := ⟨_, scS_by (by decide +kernel) (by decide +kernel) rfl (by decide +kernel) rfl (by decide +kernel)⟩
abbrev N_number_of : List Str := ["word", "most", "number"]
theorem sc_number_of : FnScope N_number_of ["word", "most"] (defScope s_number_of) := ⟨rfl, rfl, rfl, by decide +kernel, rfl, by decide +kernel, by decide +kernel⟩
abbrev N_in_brackets : List Str := ["sign", "texts", "parts"]
theorem sc_in_brackets : FnScope N_in_brackets ["sign", "texts"] (defScope s_in_brackets) := ⟨rfl, rfl, rfl, by decide +kernel, rfl, by decide +kernel, by decide +kernel⟩
abbrev N_show_test : List Str := ["test", "name", "part"]
theorem sc_show_test : FnScope N_show_test ["test"] (defScope s_show_test) := ⟨rfl, rfl, rfl, by decide +kernel, rfl, by decide +kernel, by decide +kernel⟩
abbrev N_show_policy : List Str := ["policy", "name", "part"]
theorem sc_show_policy : FnScope N_show_policy ["policy"] (defScope s_show_policy) := ⟨rfl, rfl, rfl, by decide +kernel, rfl, by decide +kernel, by decide +kernel⟩
abbrev N_Reader_init : List Str := ["self", "text"]
theorem sc_Reader_init : FnScope N_Reader_init ["self", "text"] (defScope s_Reader_init) := ⟨rfl, rfl, rfl, by decide +kernel, rfl, by decide +kernel, by decide +kernel⟩
abbrev N_Reader_skip : List Str := ["self", "sign", "stands"]
theorem sc_Reader_skip : FnScope N_Reader_skip ["self", "sign"] (defScope s_Reader_skip) := ⟨rfl, rfl, rfl, by decide +kernel, rfl, by decide +kernel, by decide +kernel⟩
abbrev N_Reader_expect : List Str := ["self", "sign"]
theorem sc_Reader_expect : FnScope N_Reader_expect ["self", "sign"] (defScope s_Reader_expect) := ⟨rfl, rfl, rfl, by decide +kernel, rfl, by decide +kernel, by decide +kernel⟩
abbrev N_Reader_field : List Str := ["self", "field"]
theorem sc_Reader_field : FnScope N_Reader_field ["self"] (defScope s_Reader_field) := ⟨rfl, rfl, rfl, by decide +kernel, rfl, by decide +kernel, by decide +kernel⟩
abbrev N_Reader_number : List Str := ["self", "start", "number"]
theorem sc_Reader_number : FnScope N_Reader_number ["self"] (defScope s_Reader_number) := ⟨rfl, rfl, rfl, by decide +kernel, rfl, by decide +kernel, by decide +kernel⟩
abbrev N_Reader_end : List Str := ["self"]
theorem sc_Reader_end : FnScope N_Reader_end ["self"] (defScope s_Reader_end) := ⟨rfl, rfl, rfl, by decide +kernel, rfl, by decide +kernel, by decide +kernel⟩
abbrev N_read_leaf : List Str := ["reader", "name", "sign", "field"]
theorem sc_read_leaf : FnScope N_read_leaf ["reader", "name", "sign"] (defScope s_read_leaf) := ⟨rfl, rfl, rfl, by decide +kernel, rfl, by decide +kernel, by decide +kernel⟩
abbrev N_read_parts : List Str := ["reader", "around", "read", "parts"]
theorem sc_read_parts : FnScope N_read_parts ["reader", "around", "read"] (defScope s_read_parts) := ⟨rfl, rfl, rfl, by decide +kernel, rfl, by decide +kernel, by decide +kernel⟩
abbrev N_check_depth : List Str := ["reader", "around"]
theorem sc_check_depth : FnScope N_check_depth ["reader", "around"] (defScope s_check_depth) := ⟨rfl, rfl, rfl, by decide +kernel, rfl, by decide +kernel, by decide +kernel⟩
abbrev N_read_test : List Str := ["reader", "around", "name"]
theorem sc_read_test : FnScope N_read_test ["reader", "around"] (defScope s_read_test) := ⟨rfl, rfl, rfl, by decide +kernel, rfl, by decide +kernel, by decide +kernel⟩
abbrev N_read_part : List Str := ["reader", "around", "test", "name"]
theorem sc_read_part : FnScope N_read_part ["reader", "around"] (defScope s_read_part) := ⟨rfl, rfl, rfl, by decide +kernel, rfl, by decide +kernel, by decide +kernel⟩
abbrev N_read_policy : List Str := ["text", "reader", "policy"]
theorem sc_read_policy : FnScope N_read_policy ["text"] (defScope s_read_policy) := ⟨rfl, rfl, rfl, by decide +kernel, rfl, by decide +kernel, by decide +kernel⟩
abbrev N__law_state : List Str := ["script", "seed", "cell"]
theorem sc__law_state : FnScope N__law_state ["script"] (defScope s__law_state) := ⟨rfl, rfl, rfl, by decide +kernel, rfl, by decide +kernel, by decide +kernel⟩
abbrev N__law_draw : List Str := ["state", "many", "cells", "k", "amount", "mixed"]
theorem sc__law_draw : FnScope N__law_draw ["state", "many"] (defScope s__law_draw) := ⟨rfl, rfl, rfl, by decide +kernel, rfl, by decide +kernel, by decide +kernel⟩
abbrev N__law_test : List Str := ["state", "deep", "kind", "field", "parts", "k"]
theorem sc__law_test : FnScope N__law_test ["state", "deep"] (defScope s__law_test) := ⟨rfl, rfl, rfl, by decide +kernel, rfl, by decide +kernel, by decide +kernel⟩
abbrev N__law_policy : List Str := ["state", "deep", "fields", "kind", "field", "parts", "k"]
theorem sc__law_policy : FnScope N__law_policy ["state", "deep", "fields"] (defScope s__law_policy) := ⟨rfl, rfl, rfl, by decide +kernel, rfl, by decide +kernel, by decide +kernel⟩
abbrev N__law_show_test : List Str := ["test", "part"]
theorem sc__law_show_test : FnScope N__law_show_test ["test"] (defScope s__law_show_test) := ⟨rfl, rfl, rfl, by decide +kernel, rfl, by decide +kernel, by decide +kernel⟩
abbrev N__law_show : List Str := ["policy", "part"]
theorem sc__law_show : FnScope N__law_show ["policy"] (defScope s__law_show) := ⟨rfl, rfl, rfl, by decide +kernel, rfl, by decide +kernel, by decide +kernel⟩
abbrev N__law_number : List Str := ["text", "at", "last"]
theorem sc__law_number : FnScope N__law_number ["text", "at"] (defScope s__law_number) := ⟨rfl, rfl, rfl, by decide +kernel, rfl, by decide +kernel, by decide +kernel⟩
abbrev N__law_named : List Str := ["text", "at", "sign", "field", "number", "last"]
theorem sc__law_named : FnScope N__law_named ["text", "at", "sign"] (defScope s__law_named) := ⟨rfl, rfl, rfl, by decide +kernel, rfl, by decide +kernel, by decide +kernel⟩
abbrev N__law_test_at : List Str := ["text", "at", "deep", "sign", "part", "last", "parts", "pair"]
theorem sc__law_test_at : FnScope N__law_test_at ["text", "at", "deep"] (defScope s__law_test_at) := ⟨rfl, rfl, rfl, by decide +kernel, rfl, by decide +kernel, by decide +kernel⟩
abbrev N__law_policy_at : List Str := ["text", "at", "deep", "sign", "test", "last", "part", "parts", "pair"]
theorem sc__law_policy_at : FnScope N__law_policy_at ["text", "at", "deep"] (defScope s__law_policy_at) := ⟨rfl, rfl, rfl, by decide +kernel, rfl, by decide +kernel, by decide +kernel⟩
abbrev N__law_row : List Str := ["text", "at", "deep", "tests", "found", "k", "part"]
theorem sc__law_row : FnScope N__law_row ["text", "at", "deep", "tests"] (defScope s__law_row) := ⟨rfl, rfl, rfl, by decide +kernel, rfl, by decide +kernel, by decide +kernel⟩
abbrev N__law_due : List Str := ["text", "policy", "last"]
theorem sc__law_due : FnScope N__law_due ["text"] (defScope s__law_due) := ⟨rfl, rfl, rfl, by decide +kernel, rfl, by decide +kernel, by decide +kernel⟩
abbrev N__law_told : List Str := ["text", "e"]
theorem sc__law_told : FnScope N__law_told ["text"] (defScope s__law_told) := ⟨rfl, rfl, rfl, by decide +kernel, rfl, by decide +kernel, by decide +kernel⟩
abbrev N__law_deep : List Str := ["state", "policy", "k"]
theorem sc__law_deep : FnScope N__law_deep ["state", "policy"] (defScope s__law_deep) := ⟨rfl, rfl, rfl, by decide +kernel, rfl, by decide +kernel, by decide +kernel⟩
abbrev N_law : List Str := ["script", "state", "policy", "kept", "text", "test", "turn", "at", "signs", "sign", "rows", "changed", "told"]
theorem sc_law : FnScope N_law ["script"] (defScope s_law) := ⟨rfl, rfl, rfl, by decide +kernel, rfl, by decide +kernel, by decide +kernel⟩
structure Ad where
  BridgeError : Addr
  MisreadError : Addr
  Reader : Addr
  MisreadError_init : Addr
  fd_MisreadError_init : FuncData
  number_of : Addr
  fd_number_of : FuncData
  in_brackets : Addr
  fd_in_brackets : FuncData
  show_test : Addr
  fd_show_test : FuncData
  show_policy : Addr
  fd_show_policy : FuncData
  Reader_init : Addr
  fd_Reader_init : FuncData
  Reader_skip : Addr
  fd_Reader_skip : FuncData
  Reader_expect : Addr
  fd_Reader_expect : FuncData
  Reader_field : Addr
  fd_Reader_field : FuncData
  Reader_number : Addr
  fd_Reader_number : FuncData
  Reader_end : Addr
  fd_Reader_end : FuncData
  read_leaf : Addr
  fd_read_leaf : FuncData
  read_parts : Addr
  fd_read_parts : FuncData
  check_depth : Addr
  fd_check_depth : FuncData
  read_test : Addr
  fd_read_test : FuncData
  read_part : Addr
  fd_read_part : FuncData
  read_policy : Addr
  fd_read_policy : FuncData
  _law_state : Addr
  fd__law_state : FuncData
  _law_draw : Addr
  fd__law_draw : FuncData
  _law_test : Addr
  fd__law_test : FuncData
  _law_policy : Addr
  fd__law_policy : FuncData
  _law_show_test : Addr
  fd__law_show_test : FuncData
  _law_show : Addr
  fd__law_show : FuncData
  _law_number : Addr
  fd__law_number : FuncData
  _law_named : Addr
  fd__law_named : FuncData
  _law_test_at : Addr
  fd__law_test_at : FuncData
  _law_policy_at : Addr
  fd__law_policy_at : FuncData
  _law_row : Addr
  fd__law_row : FuncData
  _law_due : Addr
  fd__law_due : FuncData
  _law_told : Addr
  fd__law_told : FuncData
  _law_deep : Addr
  fd__law_deep : FuncData
  law : Addr
  fd_law : FuncData
  K_FIELD_PLACES : Addr
  K_TEST_SIGNS : Addr
  K_POLICY_SIGNS : Addr
structure Txt (w : World) (K : PySem.W.Frag) (mg : Str → Option Value) (a : Ad) : Prop where
  mg_BridgeError : mg "BridgeError" = some (.ref a.BridgeError)
  rd_BridgeError : ClX.CRead K a.BridgeError (.type "type")
  cv_BridgeError : PySem.W.findCls K (.ref a.BridgeError) (.type "type") "__init__" = some (.val (.builtin "ValueError.__init__"))
  mg_MisreadError : mg "MisreadError" = some (.ref a.MisreadError)
  ox_MisreadError : OexC K a.MisreadError
  iC_MisreadError : PySem.W.findIn K (.ref a.MisreadError) "__init__" = some (some (.ref a.MisreadError_init))
  tI_MisreadError : PySem.W.typeIn K (.ref a.MisreadError_init) = some (.type "function")
  no_MisreadError_at : PySem.W.findIn K (.ref a.MisreadError) "at" = some none
  xf_MisreadError : XfC K a.MisreadError
  xc_MisreadError : XcC K a.MisreadError
  te_MisreadError : PySem.W.exmOne K (.ref a.MisreadError) (.ref a.MisreadError) = some true
  is_MisreadError_BridgeError : PySem.W.kitOne K (.ref a.MisreadError) (.ref a.BridgeError) = some true
  cl_Reader : Cls K a.Reader
  mg_Reader : mg "Reader" = some (.ref a.Reader)
  na_Reader_text : NoAttr K a.Reader "text"
  na_Reader_at : NoAttr K a.Reader "at"
  fn_MisreadError_init : FunS PySem.Challenge.pw_hangbridge_k44_texts_of_policies K mg "__init__" "MisreadError.__init__" s_MisreadError_init a.MisreadError_init a.fd_MisreadError_init a.MisreadError
  bi_MisreadError_init : Binds K a.fd_MisreadError_init ["self", "at"] []
  fn_number_of : Fun K "number_of" "number_of" s_number_of a.number_of a.fd_number_of
  bi_number_of : Binds K a.fd_number_of ["word", "most"] []
  mg_number_of : mg "number_of" = some (.ref a.number_of)
  kp_number_of : PySem.W.keepIn K (.ref a.number_of) = true
  fn_in_brackets : Fun K "in_brackets" "in_brackets" s_in_brackets a.in_brackets a.fd_in_brackets
  bi_in_brackets : Binds K a.fd_in_brackets ["sign", "texts"] []
  mg_in_brackets : mg "in_brackets" = some (.ref a.in_brackets)
  kp_in_brackets : PySem.W.keepIn K (.ref a.in_brackets) = true
  fn_show_test : Fun K "show_test" "show_test" s_show_test a.show_test a.fd_show_test
  bi_show_test : Binds K a.fd_show_test ["test"] []
  mg_show_test : mg "show_test" = some (.ref a.show_test)
  kp_show_test : PySem.W.keepIn K (.ref a.show_test) = true
  fn_show_policy : Fun K "show_policy" "show_policy" s_show_policy a.show_policy a.fd_show_policy
  bi_show_policy : Binds K a.fd_show_policy ["policy"] []
  mg_show_policy : mg "show_policy" = some (.ref a.show_policy)
  kp_show_policy : PySem.W.keepIn K (.ref a.show_policy) = true
  fn_Reader_init : Fun K "__init__" "Reader.__init__" s_Reader_init a.Reader_init a.fd_Reader_init
  bi_Reader_init : Binds K a.fd_Reader_init ["self", "text"] []
  mk_Reader : Mk K a.Reader a.Reader_init
  fn_Reader_skip : Fun K "skip" "Reader.skip" s_Reader_skip a.Reader_skip a.fd_Reader_skip
  bi_Reader_skip : Binds K a.fd_Reader_skip ["self", "sign"] []
  me_Reader_skip : Meth K a.Reader "skip" a.Reader_skip
  fn_Reader_expect : Fun K "expect" "Reader.expect" s_Reader_expect a.Reader_expect a.fd_Reader_expect
  bi_Reader_expect : Binds K a.fd_Reader_expect ["self", "sign"] []
  me_Reader_expect : Meth K a.Reader "expect" a.Reader_expect
  fn_Reader_field : Fun K "field" "Reader.field" s_Reader_field a.Reader_field a.fd_Reader_field
  bi_Reader_field : Binds K a.fd_Reader_field ["self"] []
  me_Reader_field : Meth K a.Reader "field" a.Reader_field
  fn_Reader_number : Fun K "number" "Reader.number" s_Reader_number a.Reader_number a.fd_Reader_number
  bi_Reader_number : Binds K a.fd_Reader_number ["self"] []
  me_Reader_number : Meth K a.Reader "number" a.Reader_number
  fn_Reader_end : Fun K "end" "Reader.end" s_Reader_end a.Reader_end a.fd_Reader_end
  bi_Reader_end : Binds K a.fd_Reader_end ["self"] []
  me_Reader_end : Meth K a.Reader "end" a.Reader_end
  fn_read_leaf : Fun K "read_leaf" "read_leaf" s_read_leaf a.read_leaf a.fd_read_leaf
  bi_read_leaf : Binds K a.fd_read_leaf ["reader", "name", "sign"] []
  mg_read_leaf : mg "read_leaf" = some (.ref a.read_leaf)
  kp_read_leaf : PySem.W.keepIn K (.ref a.read_leaf) = true
  fn_read_parts : Fun K "read_parts" "read_parts" s_read_parts a.read_parts a.fd_read_parts
  bi_read_parts : Binds K a.fd_read_parts ["reader", "around", "read"] []
  mg_read_parts : mg "read_parts" = some (.ref a.read_parts)
  kp_read_parts : PySem.W.keepIn K (.ref a.read_parts) = true
  fn_check_depth : Fun K "check_depth" "check_depth" s_check_depth a.check_depth a.fd_check_depth
  bi_check_depth : Binds K a.fd_check_depth ["reader", "around"] []
  mg_check_depth : mg "check_depth" = some (.ref a.check_depth)
  kp_check_depth : PySem.W.keepIn K (.ref a.check_depth) = true
  fn_read_test : Fun K "read_test" "read_test" s_read_test a.read_test a.fd_read_test
  bi_read_test : Binds K a.fd_read_test ["reader", "around"] []
  mg_read_test : mg "read_test" = some (.ref a.read_test)
  kp_read_test : PySem.W.keepIn K (.ref a.read_test) = true
  fn_read_part : Fun K "read_part" "read_part" s_read_part a.read_part a.fd_read_part
  bi_read_part : Binds K a.fd_read_part ["reader", "around"] []
  mg_read_part : mg "read_part" = some (.ref a.read_part)
  kp_read_part : PySem.W.keepIn K (.ref a.read_part) = true
  fn_read_policy : Fun K "read_policy" "read_policy" s_read_policy a.read_policy a.fd_read_policy
  bi_read_policy : Binds K a.fd_read_policy ["text"] []
  mg_read_policy : mg "read_policy" = some (.ref a.read_policy)
  kp_read_policy : PySem.W.keepIn K (.ref a.read_policy) = true
  fn__law_state : Fun K "_law_state" "_law_state" s__law_state a._law_state a.fd__law_state
  bi__law_state : Binds K a.fd__law_state ["script"] []
  mg__law_state : mg "_law_state" = some (.ref a._law_state)
  kp__law_state : PySem.W.keepIn K (.ref a._law_state) = true
  fn__law_draw : Fun K "_law_draw" "_law_draw" s__law_draw a._law_draw a.fd__law_draw
  bi__law_draw : Binds K a.fd__law_draw ["state", "many"] []
  mg__law_draw : mg "_law_draw" = some (.ref a._law_draw)
  kp__law_draw : PySem.W.keepIn K (.ref a._law_draw) = true
  fn__law_test : Fun K "_law_test" "_law_test" s__law_test a._law_test a.fd__law_test
  bi__law_test : Binds K a.fd__law_test ["state", "deep"] []
  mg__law_test : mg "_law_test" = some (.ref a._law_test)
  kp__law_test : PySem.W.keepIn K (.ref a._law_test) = true
  fn__law_policy : Fun K "_law_policy" "_law_policy" s__law_policy a._law_policy a.fd__law_policy
  bi__law_policy : Binds K a.fd__law_policy ["state", "deep", "fields"] []
  mg__law_policy : mg "_law_policy" = some (.ref a._law_policy)
  kp__law_policy : PySem.W.keepIn K (.ref a._law_policy) = true
  fn__law_show_test : Fun K "_law_show_test" "_law_show_test" s__law_show_test a._law_show_test a.fd__law_show_test
  bi__law_show_test : Binds K a.fd__law_show_test ["test"] []
  mg__law_show_test : mg "_law_show_test" = some (.ref a._law_show_test)
  kp__law_show_test : PySem.W.keepIn K (.ref a._law_show_test) = true
  fn__law_show : Fun K "_law_show" "_law_show" s__law_show a._law_show a.fd__law_show
  bi__law_show : Binds K a.fd__law_show ["policy"] []
  mg__law_show : mg "_law_show" = some (.ref a._law_show)
  kp__law_show : PySem.W.keepIn K (.ref a._law_show) = true
  fn__law_number : Fun K "_law_number" "_law_number" s__law_number a._law_number a.fd__law_number
  bi__law_number : Binds K a.fd__law_number ["text", "at"] []
  mg__law_number : mg "_law_number" = some (.ref a._law_number)
  kp__law_number : PySem.W.keepIn K (.ref a._law_number) = true
  fn__law_named : Fun K "_law_named" "_law_named" s__law_named a._law_named a.fd__law_named
  bi__law_named : Binds K a.fd__law_named ["text", "at", "sign"] []
  mg__law_named : mg "_law_named" = some (.ref a._law_named)
  kp__law_named : PySem.W.keepIn K (.ref a._law_named) = true
  fn__law_test_at : Fun K "_law_test_at" "_law_test_at" s__law_test_at a._law_test_at a.fd__law_test_at
  bi__law_test_at : Binds K a.fd__law_test_at ["text", "at", "deep"] []
  mg__law_test_at : mg "_law_test_at" = some (.ref a._law_test_at)
  kp__law_test_at : PySem.W.keepIn K (.ref a._law_test_at) = true
  fn__law_policy_at : Fun K "_law_policy_at" "_law_policy_at" s__law_policy_at a._law_policy_at a.fd__law_policy_at
  bi__law_policy_at : Binds K a.fd__law_policy_at ["text", "at", "deep"] []
  mg__law_policy_at : mg "_law_policy_at" = some (.ref a._law_policy_at)
  kp__law_policy_at : PySem.W.keepIn K (.ref a._law_policy_at) = true
  fn__law_row : Fun K "_law_row" "_law_row" s__law_row a._law_row a.fd__law_row
  bi__law_row : Binds K a.fd__law_row ["text", "at", "deep", "tests"] []
  mg__law_row : mg "_law_row" = some (.ref a._law_row)
  kp__law_row : PySem.W.keepIn K (.ref a._law_row) = true
  fn__law_due : Fun K "_law_due" "_law_due" s__law_due a._law_due a.fd__law_due
  bi__law_due : Binds K a.fd__law_due ["text"] []
  mg__law_due : mg "_law_due" = some (.ref a._law_due)
  kp__law_due : PySem.W.keepIn K (.ref a._law_due) = true
  fn__law_told : Fun K "_law_told" "_law_told" s__law_told a._law_told a.fd__law_told
  bi__law_told : Binds K a.fd__law_told ["text"] []
  mg__law_told : mg "_law_told" = some (.ref a._law_told)
  kp__law_told : PySem.W.keepIn K (.ref a._law_told) = true
  fn__law_deep : Fun K "_law_deep" "_law_deep" s__law_deep a._law_deep a.fd__law_deep
  bi__law_deep : Binds K a.fd__law_deep ["state", "policy"] []
  mg__law_deep : mg "_law_deep" = some (.ref a._law_deep)
  kp__law_deep : PySem.W.keepIn K (.ref a._law_deep) = true
  fn_law : Fun K "law" "law" s_law a.law a.fd_law
  bi_law : Binds K a.fd_law ["script"] []
  mg_law : mg "law" = some (.ref a.law)
  kp_law : PySem.W.keepIn K (.ref a.law) = true
  mg_FIELD_PLACES : mg "FIELD_PLACES" = some (.ref a.K_FIELD_PLACES)
  ky_FIELD_PLACES : KKeys K a.K_FIELD_PLACES ["switch", "port", "src", "dst", "kind"]
  kd_FIELD_PLACES_switch : KDct K w a.K_FIELD_PLACES "switch" (.int 0)
  kd_FIELD_PLACES_port : KDct K w a.K_FIELD_PLACES "port" (.int 1)
  kd_FIELD_PLACES_src : KDct K w a.K_FIELD_PLACES "src" (.int 2)
  kd_FIELD_PLACES_dst : KDct K w a.K_FIELD_PLACES "dst" (.int 3)
  kd_FIELD_PLACES_kind : KDct K w a.K_FIELD_PLACES "kind" (.int 4)
  mg_MOST_WRITTEN : ∃ tk, mg "MOST_WRITTEN" = some (.int 99 tk)
  mg_MOST_DIGITS : ∃ tk, mg "MOST_DIGITS" = some (.int 2 tk)
  mg_MOST_AROUND : ∃ tk, mg "MOST_AROUND" = some (.int 20 tk)
  mg_DIGITS : ∃ tk, mg "DIGITS" = some (.str "0123456789" tk)
  mg_SIGN_OF_IS : ∃ tk, mg "SIGN_OF_IS" = some (.str " = " tk)
  mg_SIGN_OF_SET : ∃ tk, mg "SIGN_OF_SET" = some (.str " := " tk)
  mg_SEPARATOR : ∃ tk, mg "SEPARATOR" = some (.str ", " tk)
  mg_TEST_SIGNS : mg "TEST_SIGNS" = some (.ref a.K_TEST_SIGNS)
  ky_TEST_SIGNS : KKeys K a.K_TEST_SIGNS ["all", "any"]
  kd_TEST_SIGNS_all : KDct K w a.K_TEST_SIGNS "all" (.str "&")
  kd_TEST_SIGNS_any : KDct K w a.K_TEST_SIGNS "any" (.str "|")
  mg_POLICY_SIGNS : mg "POLICY_SIGNS" = some (.ref a.K_POLICY_SIGNS)
  ky_POLICY_SIGNS : KKeys K a.K_POLICY_SIGNS ["sum", "seq"]
  kd_POLICY_SIGNS_sum : KDct K w a.K_POLICY_SIGNS "sum" (.str "+")
  kd_POLICY_SIGNS_seq : KDct K w a.K_POLICY_SIGNS "seq" (.str ";")
  mg_int : mg "int" = none
  mg_len : mg "len" = none
  mg_str : mg "str" = none
  mg_min : mg "min" = none
  mg_abs : mg "abs" = none
  mg_range : mg "range" = none
  mg_isinstance : mg "isinstance" = none
  mg_tuple : mg "tuple" = none
  mg_repr : mg "repr" = none
local macro_rules | `(tactic| walk_at "g") => `(tactic| first | assumption | exact Hs.g0 (by assumption) | exact Hs.g1 (by assumption) | exact Hs.g2 (by assumption) | exact Hs.g3 (by assumption) | exact Hs.g4 (by assumption) | exact Hs.g5 (by assumption) | exact Hs.g6 (by assumption) | exact Hs.g7 (by assumption) | exact Hs.g8 (by assumption) | exact Hs.g9 (by assumption) | exact Hs.g10 (by assumption) | exact Hs.g11 (by assumption) | exact Hs.g12 (by assumption) | exact Hs.g13 (by assumption) | exact Hs.g14 (by assumption) | exact Hs.g15 (by assumption) | exact Hs.old (by assumption) (by assumption))
local macro_rules | `(tactic| walk_at "l") => `(tactic| first | assumption | exact SqL.of (by walk_at "g") | exact Hs.sql (by assumption) (by assumption))
local macro_rules | `(tactic| walk_at "p") => `(tactic| first | exact .here | exact .there .here | exact .there (.there .here) | exact .there (.there (.there .here)) | exact .there (.there (.there (.there .here))) | exact .there (.there (.there (.there (.there .here)))) | exact .there (.there (.there (.there (.there (.there .here))))) | exact .there (.there (.there (.there (.there (.there (.there .here)))))) | exact .there (.there (.there (.there (.there (.there (.there (.there .here))))))) | exact .there (.there (.there (.there (.there (.there (.there (.there (.there .here)))))))) | exact .there (.there (.there (.there (.there (.there (.there (.there (.there (.there .here))))))))) | exact .there (.there (.there (.there (.there (.there (.there (.there (.there (.there (.there .here)))))))))) | exact .there (.there (.there (.there (.there (.there (.there (.there (.there (.there (.there (.there .here))))))))))) | exact .there (.there (.there (.there (.there (.there (.there (.there (.there (.there (.there (.there (.there .here)))))))))))))
local macro_rules | `(tactic| walk_at "f") => `(tactic| first | exact lk0 | exact lk1 (by decide +kernel) lk0 | exact lk1 (by decide +kernel) (lk1 (by decide +kernel) lk0) | exact lk1 (by decide +kernel) (lk1 (by decide +kernel) (lk1 (by decide +kernel) lk0)) | exact lk1 (by decide +kernel) (lk1 (by decide +kernel) (lk1 (by decide +kernel) (lk1 (by decide +kernel) lk0))) | exact lk1 (by decide +kernel) (lk1 (by decide +kernel) (lk1 (by decide +kernel) (lk1 (by decide +kernel) (lk1 (by decide +kernel) lk0)))) | exact lk1 (by decide +kernel) (lk1 (by decide +kernel) (lk1 (by decide +kernel) (lk1 (by decide +kernel) (lk1 (by decide +kernel) (lk1 (by decide +kernel) lk0))))) | exact lk1 (by decide +kernel) (lk1 (by decide +kernel) (lk1 (by decide +kernel) (lk1 (by decide +kernel) (lk1 (by decide +kernel) (lk1 (by decide +kernel) (lk1 (by decide +kernel) lk0)))))) | exact lk1 (by decide +kernel) (lk1 (by decide +kernel) (lk1 (by decide +kernel) (lk1 (by decide +kernel) (lk1 (by decide +kernel) (lk1 (by decide +kernel) (lk1 (by decide +kernel) (lk1 (by decide +kernel) lk0))))))))
local macro_rules | `(tactic| walk_at "fn") => `(tactic| first | exact lke | exact lkn (by decide +kernel) lke | exact lkn (by decide +kernel) (lkn (by decide +kernel) lke) | exact lkn (by decide +kernel) (lkn (by decide +kernel) (lkn (by decide +kernel) lke)) | exact lkn (by decide +kernel) (lkn (by decide +kernel) (lkn (by decide +kernel) (lkn (by decide +kernel) lke))) | exact lkn (by decide +kernel) (lkn (by decide +kernel) (lkn (by decide +kernel) (lkn (by decide +kernel) (lkn (by decide +kernel) lke)))) | exact lkn (by decide +kernel) (lkn (by decide +kernel) (lkn (by decide +kernel) (lkn (by decide +kernel) (lkn (by decide +kernel) (lkn (by decide +kernel) lke))))) | exact lkn (by decide +kernel) (lkn (by decide +kernel) (lkn (by decide +kernel) (lkn (by decide +kernel) (lkn (by decide +kernel) (lkn (by decide +kernel) (lkn (by decide +kernel) lke)))))) | exact lkn (by decide +kernel) (lkn (by decide +kernel) (lkn (by decide +kernel) (lkn (by decide +kernel) (lkn (by decide +kernel) (lkn (by decide +kernel) (lkn (by decide +kernel) (lkn (by decide +kernel) lke))))))))
local macro_rules | `(tactic| walk_at "fp") => `(tactic| first | exact pue | exact pu0 | exact pu2 (by decide +kernel) pue | exact pu2 (by decide +kernel) pu0 | exact pu2 (by decide +kernel) (pu2 (by decide +kernel) pue) | exact pu2 (by decide +kernel) (pu2 (by decide +kernel) pu0) | exact pu2 (by decide +kernel) (pu2 (by decide +kernel) (pu2 (by decide +kernel) pue)) | exact pu2 (by decide +kernel) (pu2 (by decide +kernel) (pu2 (by decide +kernel) pu0)) | exact pu2 (by decide +kernel) (pu2 (by decide +kernel) (pu2 (by decide +kernel) (pu2 (by decide +kernel) pue))) | exact pu2 (by decide +kernel) (pu2 (by decide +kernel) (pu2 (by decide +kernel) (pu2 (by decide +kernel) pu0))) | exact pu2 (by decide +kernel) (pu2 (by decide +kernel) (pu2 (by decide +kernel) (pu2 (by decide +kernel) (pu2 (by decide +kernel) pue)))) | exact pu2 (by decide +kernel) (pu2 (by decide +kernel) (pu2 (by decide +kernel) (pu2 (by decide +kernel) (pu2 (by decide +kernel) pu0)))) | exact pu2 (by decide +kernel) (pu2 (by decide +kernel) (pu2 (by decide +kernel) (pu2 (by decide +kernel) (pu2 (by decide +kernel) (pu2 (by decide +kernel) pue))))) | exact pu2 (by decide +kernel) (pu2 (by decide +kernel) (pu2 (by decide +kernel) (pu2 (by decide +kernel) (pu2 (by decide +kernel) (pu2 (by decide +kernel) pu0))))) | exact pu2 (by decide +kernel) (pu2 (by decide +kernel) (pu2 (by decide +kernel) (pu2 (by decide +kernel) (pu2 (by decide +kernel) (pu2 (by decide +kernel) (pu2 (by decide +kernel) pue)))))) | exact pu2 (by decide +kernel) (pu2 (by decide +kernel) (pu2 (by decide +kernel) (pu2 (by decide +kernel) (pu2 (by decide +kernel) (pu2 (by decide +kernel) (pu2 (by decide +kernel) pu0)))))))
local macro_rules | `(tactic| walk_at "c") => `(tactic| first | assumption | omega | (dsimp only; omega) | (unfold CMul; omega))
local macro_rules | `(tactic| walk_at "z") => `(tactic| first | assumption | (refine sz ?_; first | decide | omega | (simp only [List.length_map, List.length_append] <;> omega) | (simp only [List.length_cons, List.length_nil, List.length_map, List.length_append] <;> omega)) | (refine szl ?_; first | decide | omega | (simp only [List.length_map, List.length_append] <;> omega) | (simp only [List.length_cons, List.length_nil, List.length_map, List.length_append] <;> omega)))
local macro_rules | `(tactic| walk_at "s") => `(tactic| first
  | with_reducible refine w_seq ?_
  | ((with_reducible refine' w_var ?h ?_); case h => exact rfl)
  | with_reducible refine w_c ?_
  | with_reducible refine w_name ?_
  | with_reducible refine w_asg ?_
  | with_reducible refine w_op ?_
  | with_reducible refine w_I0 ?_
  | with_reducible refine w_exb ?_
  | with_reducible refine w_if ?_
  | with_reducible refine w_test ?_
  | with_reducible refine w_fld ?_
  | ((with_reducible refine' w_fl ?h ?hc ?hn ?hl ?_); (case h => walk_at "g"); (case hc => assumption); (case hn => assumption); (case hl => walk_at "f"))
  | with_reducible refine w_nil ?_
  | with_reducible refine w_cons ?_
  | with_reducible refine w_cb ?_
  | with_reducible refine w_call ?_
  | with_reducible refine w_meth ?_
  | with_reducible refine w_make ?_
  | ((with_reducible refine' w_rc ?h ?hl ?_); (case h => walk_at "g"); (case hl => walk_at "fn"))
  | with_reducible refine w_drop ?_
  | with_reducible refine w_ret ?_
  | with_reducible refine w_retN ?_
  | with_reducible refine w_next ?_
  | with_reducible refine w_brk ?_
  | with_reducible refine w_cont ?_
  | with_reducible refine w_eqI ?_
  | with_reducible refine w_neI ?_
  | with_reducible refine w_neB ?_
  | with_reducible refine w_isi ?_
  | ((with_reducible refine' w_len ?h ?_); case h => walk_at "l")
  | ((with_reducible refine' w_ixL ?h ?a ?_); (case h => walk_at "l"); (case a => first | exact at0 | exact at1 | exact at2 | exact at3 | assumption))
  | with_reducible refine w_bm ?_
  | with_reducible refine w_bm0 ?_
  | ((with_reducible refine' w_tyL ?h ?_); case h => walk_at "l")
  | with_reducible refine w_B ?_
  | with_reducible refine w_not ?_
  | with_reducible refine w_and ?_
  | with_reducible refine w_or ?_
  | with_reducible refine w_andV ?_
  | with_reducible refine w_orV ?_
  | with_reducible refine w_notV ?_
  | with_reducible refine w_ifE ?_
  | with_reducible refine w_chain ?_
  | with_reducible refine w_un ?_
  | with_reducible refine w_U ?_
  | with_reducible refine w_int ?_
  | with_reducible refine w_abs ?_
  | with_reducible refine w_tup ?_
  | with_reducible refine w_lst ?_
  | with_reducible refine w_sl ?_
  | with_reducible refine w_noPart ?_
  | with_reducible refine w_part ?_
  | with_reducible refine w_exi ?_
  | ((with_reducible refine' w_newL ?hs ?hl ?_); (case hs => assumption); (case hl => walk_at "z"); intro _ _ _)
  | ((with_reducible refine' w_newT ?hs ?hl ?_); (case hs => assumption); (case hl => walk_at "z"); intro _ _ _)
  | ((with_reducible refine' w_slL ?hs ?h ?_); (case hs => assumption); (case h => walk_at "l"); intro _ _ _)
  | ((with_reducible refine' w_cat ?hs ?ha ?hb ?hl ?_); (case hs => assumption); (case ha => walk_at "g"); (case hb => walk_at "g"); (case hl => walk_at "z"); intro _ _ _)
  | ((with_reducible refine' w_app ?hs ?h ?hl ?_); (case hs => assumption); (case h => walk_at "p"); (case hl => walk_at "z"); intro _ _)
  | ((with_reducible refine' w_clear ?hs ?h ?_); (case hs => assumption); (case h => walk_at "p"); intro _ _)
  | with_reducible refine w_sfld ?_
  | ((with_reducible refine' w_fsP ?hs ?h ?hc ?hn ?hl ?hg ?_); (case hs => assumption); (case h => walk_at "p"); (case hc => assumption); (case hn => assumption); (case hl => exact Nat.lt_of_lt_of_le (by simp only [List.length_cons, List.length_nil]; omega) (Nat.le_refl 1000)); (case hg => walk_at "fp"); intro _ _)
  | with_reducible refine w_lpb ?_
  | with_reducible refine w_yes ?_
  | with_reducible refine w_sub ?_
  | with_reducible refine w_delL0 ?_
  | ((with_reducible refine' w_I ?h ?_); case h => walk_at "c"))
local macro_rules | `(tactic| walk_at "ss") => `(tactic| repeat walk_at "s")

local macro_rules | `(tactic| walk_at "t") => `(tactic| first | assumption | exact SqT.of (by walk_at "g"))
local macro_rules | `(tactic| walk_at "s") => `(tactic| first
  | with_reducible refine iteT ?_
  | with_reducible refine iteF ?_
  | with_reducible refine w_din ?_
  | with_reducible refine w_dni ?_
  | ((with_reducible refine' w_dinI ?h ?_); case h => walk_at "g")
  | ((with_reducible refine' w_dniI ?h ?_); case h => walk_at "g")
  | with_reducible refine w_dput ?_
  | ((with_reducible refine' w_dputI ?hs ?h ?hl ?_); (case hs => assumption); (case h => walk_at "p"); (case hl => walk_at "z"); intro _ _)
  | with_reducible refine w_dpop ?_
  | ((with_reducible refine' w_dpopA ?h ?_); case h => walk_at "g")
  | with_reducible refine w_dnew ?_
  | ((with_reducible refine' w_newD ?hs ?_); (case hs => assumption); intro _ _ _)
  | with_reducible refine w_faug ?_
  | ((with_reducible refine' w_fa1 ?h ?hc ?hn ?hl ?_); (case h => walk_at "g"); (case hc => assumption); (case hn => assumption); (case hl => walk_at "f"))
  | ((with_reducible refine' w_fa2 ?hs ?h ?hl ?hg ?_); (case hs => assumption); (case h => walk_at "p"); (case hl => exact Nat.lt_of_lt_of_le (by simp only [List.length_cons, List.length_nil]; omega) (Nat.le_refl 1000)); (case hg => walk_at "fp"); intro _ _)
  | with_reducible refine w_rAdd ?_
  | with_reducible refine w_rSub ?_
  | with_reducible refine w_max ?_
  | with_reducible refine w_min ?_
  | with_reducible refine w_eqB ?_
  | with_reducible refine w_methQ ?_
  | with_reducible refine w_xf0 ?_
  | ((with_reducible refine' w_xf ?h ?hl ?_); (case h => walk_at "g"); (case hl => walk_at "f"))
  | with_reducible refine w_eqSt ?_
  | with_reducible refine w_isN ?_
  | with_reducible refine w_notN ?_
  | ((with_reducible refine' w_gtup ?h ?hl ?_); (case h => walk_at "t"); (case hl => rfl))
  | with_reducible refine w_gnil ?_
  | with_reducible refine w_gcons ?_
  | with_reducible refine w_par3 ?_
  | with_reducible refine w_ex3 ?_
  | with_reducible refine w_par2 ?_
  | with_reducible refine w_ex2 ?_
  | ((with_reducible refine' w_ixT ?h ?a ?_); (case h => walk_at "t"); (case a => first | exact at0 | exact at1 | exact at2 | exact at3 | assumption))
  | ((with_reducible refine' w_lenT ?h ?_); case h => walk_at "t")
  | ((with_reducible refine' w_set0 ?hs ?h ?_); (case hs => assumption); (case h => walk_at "p"); intro _ _)
  | ((with_reducible refine' w_set1 ?hs ?h ?_); (case hs => assumption); (case h => walk_at "p"); intro _ _)
  | ((with_reducible refine' w_set2 ?hs ?h ?_); (case hs => assumption); (case h => walk_at "p"); intro _ _)
  | ((with_reducible refine' w_set3 ?hs ?h ?_); (case hs => assumption); (case h => walk_at "p"); intro _ _)
  | ((with_reducible refine' w_set4 ?hs ?h ?_); (case hs => assumption); (case h => walk_at "p"); intro _ _)
  | with_reducible refine w_vei ?_
  | with_reducible refine w_ost0 ?_
  | with_reducible refine w_mko ?_
  | with_reducible refine w_raise ?_
  | with_reducible refine w_js ?_
  | with_reducible refine w_js0 ?_
  | with_reducible refine w_fmt ?_)

local macro_rules | `(tactic| walk_at "v") => `(tactic| first | exact v0 | exact v1 | exact v2 | exact v3 | exact v4 | exact v5 | exact v6 | exact v7 | exact v8)
local macro_rules | `(tactic| walk_at "vs") => `(tactic| first | exact st0 | exact st1 | exact st2 | exact st3 | exact st4 | exact st5 | exact st6 | exact st7 | exact st8)
local macro_rules | `(tactic| walk_at "s") => `(tactic| first
  | with_reducible refine w_dget ?_
  | ((with_reducible refine' w_dgetZ ?h ?nd ?hk ?hv ?_); (case h => walk_at "g"); (case nd => walk_at "nd"); (case hk => walk_at "k"); (case hv => walk_at "v"))
  | ((with_reducible refine' w_dputZ ?hs ?h ?nd ?hk ?hv ?hu ?hl ?_); (case hs => assumption); (case h => walk_at "p"); (case nd => walk_at "nd"); (case hk => walk_at "k"); (case hv => walk_at "v"); (case hu => walk_at "vs"); (case hl => decide); intro _ _)
  | with_reducible refine w_gsub ?_
  | with_reducible refine w_setD ?_
  | with_reducible refine w_disp ?_
  | ((with_reducible refine' w_newP ?hs ?_); (case hs => assumption); intro _ _ _)
  | with_reducible refine w_pcons ?_
  | with_reducible refine w_pnil ?_)

local macro_rules | `(tactic| walk_at "s") => `(tactic| first
  | with_reducible refine w_nget ?_
  | with_reducible refine w_nin ?_
  | with_reducible refine w_nnot ?_
  | with_reducible refine w_nput ?_
  | with_reducible refine w_ndel ?_
  | with_reducible refine w_npop ?_
  | ((with_reducible refine' w_nnew ?hs ?_); (case hs => assumption); intro _ _ _))

local macro_rules | `(tactic| walk_at "s") => `(tactic| first
  | with_reducible refine w_m0 ?_
  | with_reducible refine w_m1 ?_
  | with_reducible refine w_m0b ?_
  | with_reducible refine w_m1b ?_
  | with_reducible refine w_kget ?_
  | with_reducible refine w_nS ?_)

/-! ## trees: tests and policies -/
inductive Tr
  | lf (p : Bool) (f : Nat) (n : Int)
  | no (t : Tr)
  | te (t : Tr)
  | st (t : Tr)
  | rw (p k : Bool) (ts : List Tr)
def fldS : Nat → Str
  | 0 => "switch"
  | 1 => "port"
  | 2 => "src"
  | 3 => "dst"
  | _ => "kind"
def lfN : Bool → Str
  | false => "is"
  | true => "set"
def lfS : Bool → Str
  | false => " = "
  | true => " := "
def rwN : Bool → Bool → Str
  | false, false => "all"
  | false, true => "any"
  | true, false => "sum"
  | true, true => "seq"
def rwS : Bool → Bool → Str
  | false, false => "&"
  | false, true => "|"
  | true, false => "+"
  | true, true => ";"
mutual
def showL : Tr → List Nat
  | .lf p f n => tl (fldS f) ++ (tl (lfS p) ++ tl (nS n))
  | .no t => 33 :: showL t
  | .te t => 91 :: (showL t ++ [93])
  | .st t => 42 :: showL t
  | .rw p k ts => tl (rwS p k) ++ (40 :: (joinL [44, 32] (showLs ts) ++ [41]))
def showLs : List Tr → List (List Nat)
  | [] => []
  | t :: ts => showL t :: showLs ts
end
mutual
def dep : Tr → Nat
  | .lf _ _ _ => 0
  | .no t => dep t + 1
  | .te t => dep t + 1
  | .st t => dep t + 1
  | .rw _ _ ts => deps ts + 1
def deps : List Tr → Nat
  | [] => 0
  | t :: ts => max (dep t) (deps ts)
end
mutual
def wf : Tr → Bool → Prop
  | .lf q f n, p => p = q ∧ f < 5 ∧ 0 ≤ n ∧ n ≤ 99
  | .no t, p => p = false ∧ wf t false
  | .te t, p => p = true ∧ wf t false
  | .st t, p => p = true ∧ wf t true
  | .rw q _ ts, p => p = q ∧ wfs ts p
def wfs : List Tr → Bool → Prop
  | [], _ => True
  | t :: ts, p => wf t p ∧ wfs ts p
end
theorem deps_le {n : Nat} : ∀ {ts : List Tr}, deps ts ≤ n ↔ ∀ t ∈ ts, dep t ≤ n
  | [] => ⟨fun _ t h => (nomatch h), fun _ => Nat.zero_le _⟩
  | t :: ts => by
    have ih := deps_le (n := n) (ts := ts)
    simp only [deps, List.mem_cons, forall_eq_or_imp]
    rw [← ih]
    omega
theorem wfs_all {p : Bool} : ∀ {ts : List Tr}, wfs ts p ↔ ∀ t ∈ ts, wf t p
  | [] => ⟨fun _ t h => (nomatch h), fun _ => trivial⟩
  | t :: ts => by
    have ih := wfs_all (p := p) (ts := ts)
    simp only [wfs, List.mem_cons, forall_eq_or_imp]
    rw [ih]
theorem showLs_map : ∀ ts : List Tr, showLs ts = ts.map showL
  | [] => rfl
  | t :: ts => by simp only [showLs, List.map_cons, showLs_map ts]
/-! ## what a reader finds -/
inductive Res (α : Type)
  | ok (v : α) (l : Nat)
  | bad (l : Nat)
def Res.map {α β : Type} (f : α → β) : Res α → Res β
  | .ok v l => .ok (f v) l
  | .bad l => .bad l
def at_ (x : List Nat) (S : List Nat) (i : Nat) : Bool := pre S (x.drop i)
def isDg (c : Nat) : Bool := decide (48 ≤ c) && decide (c ≤ 57)
def digW (l : List Nat) : List Nat := (l.take 2).takeWhile isDg
def badW (w : List Nat) : Bool := decide (w.length = 0) || (decide (w.length = 2) && decide (w.head? = some 48))
def rNum (x : List Nat) (i : Nat) : Res Int := if badW (digW (x.drop i)) = true then .bad i else .ok (NumText.digitsVal (digW (x.drop i)) : Nat) (i + (digW (x.drop i)).length)
def rFld (x : List Nat) (i : Nat) : Option Nat := [0, 1, 2, 3, 4].find? fun f => at_ x (tl (fldS f)) i
def rLeaf (x : List Nat) (p : Bool) (i : Nat) : Res Tr := match rFld x i with
  | none => .bad i
  | some f => if at_ x (tl (lfS p)) (i + (tl (fldS f)).length) = true then (rNum x (i + (tl (fldS f)).length + (tl (lfS p)).length)).map (.lf p f) else .bad (i + (tl (fldS f)).length)
def rPart (x : List Nat) (rd : Nat → Res Tr) : Nat → List Tr → Nat → Res (List Tr)
  | 0, _, i => .bad i
  | n + 1, acc, i => match rd i with
    | .bad l => .bad l
    | .ok t l => if at_ x [41] l = true then .ok (acc ++ [t]) (l + 1) else if at_ x [44, 32] l = true then rPart x rd n (acc ++ [t]) (l + 2) else .bad l
def rRow (x : List Nat) (rd : Nat → Res Tr) (i : Nat) : Res (List Tr) := if at_ x [40] i = true then (if at_ x [41] (i + 1) = true then .ok [] (i + 2) else rPart x rd x.length [] (i + 1)) else .bad i
def rEnd (x : List Nat) : Res Tr → Res Tr
  | .bad l => .bad l
  | .ok t l => if at_ x [93] l = true then .ok (.te t) (l + 1) else .bad l
def rd (x : List Nat) : Nat → Bool → Nat → Res Tr
  | 0, _, i => .bad i
  | d + 1, false, i => if at_ x [33] i = true then (rd x d false (i + 1)).map .no else if at_ x [38] i = true then (rRow x (rd x d false) (i + 1)).map (.rw false false) else if at_ x [124] i = true then (rRow x (rd x d false) (i + 1)).map (.rw false true) else rLeaf x false i
  | d + 1, true, i => if at_ x [91] i = true then rEnd x (rd x d false (i + 1)) else if at_ x [42] i = true then (rd x d true (i + 1)).map .st else if at_ x [43] i = true then (rRow x (rd x d true) (i + 1)).map (.rw true false) else if at_ x [59] i = true then (rRow x (rd x d true) (i + 1)).map (.rw true true) else rLeaf x true i
def rTop (x : List Nat) : Res Tr := match rd x 21 true 0 with
  | .bad l => .bad l
  | .ok t l => if l < x.length then .bad l else .ok t l
theorem tl_lits : tl ("!" : Str) = [33] ∧ tl ("&" : Str) = [38] ∧ tl ("|" : Str) = [124] ∧ tl ("[" : Str) = [91] ∧ tl ("]" : Str) = [93] ∧ tl ("*" : Str) = [42] ∧ tl ("+" : Str) = [43] ∧ tl (";" : Str) = [59] ∧ tl ("(" : Str) = [40] ∧ tl (")" : Str) = [41] ∧ tl (", " : Str) = [44, 32] := by decide +kernel
theorem tl_flds : tl (fldS 0) = [115, 119, 105, 116, 99, 104] ∧ tl (fldS 1) = [112, 111, 114, 116] ∧ tl (fldS 2) = [115, 114, 99] ∧ tl (fldS 3) = [100, 115, 116] ∧ tl (fldS 4) = [107, 105, 110, 100] ∧ tl (lfS false) = [32, 61, 32] ∧ tl (lfS true) = [32, 58, 61, 32] := by decide +kernel
/-! ## a reader finds a place behind it, and what stands between is the text -/
theorem at_le {x S : List Nat} {i : Nat} (h : at_ x S i = true) (hS : S ≠ []) : i + S.length ≤ x.length := by
  have := pre_len h
  rw [List.length_drop] at this
  have := List.length_pos_iff.mpr hS
  omega
theorem at_split {x S : List Nat} {i : Nat} (h : at_ x S i = true) : x.drop i = S ++ x.drop (i + S.length) := by
  have := pre_split h
  rwa [List.drop_drop] at this
def Good1 (x : List Nat) (i : Nat) {α : Type} (sh : α → List Nat) : Res α → Prop
  | .bad l => l ≤ x.length
  | .ok t l => i < l ∧ l ≤ x.length ∧ x.drop i = sh t ++ x.drop l
theorem digW_le (l : List Nat) : (digW l).length ≤ 2 ∧ (digW l).length ≤ l.length := by
  have h := (List.takeWhile_sublist isDg (l := l.take 2)).length_le
  unfold digW
  rw [List.length_take] at h
  omega
theorem digW_split (l : List Nat) : l = digW l ++ l.drop (digW l).length := by
  have h : digW l <+: l := (List.takeWhile_prefix isDg).trans (List.take_prefix 2 l)
  obtain ⟨r, e⟩ := h
  have e2 : (digW l ++ r).drop (digW l).length = r := List.drop_left
  rw [e] at e2
  rw [e2, e]
theorem digW_all (l : List Nat) : NumText.AllDigits (digW l) := fun c hc => by
  have := List.all_takeWhile (p := isDg) (l := l.take 2)
  rw [List.all_eq_true] at this
  have := this c hc
  unfold isDg at this
  rw [Bool.and_eq_true, decide_eq_true_iff, decide_eq_true_iff] at this
  exact this
theorem num_good (x : List Nat) (i : Nat) (hi : i ≤ x.length) : Good1 x i (fun n => tl (nS n)) (rNum x i) ∧ ∀ n l, rNum x i = .ok n l → 0 ≤ n ∧ n ≤ 99 := by
  unfold rNum
  by_cases h : badW (digW (x.drop i)) = true
  · rw [if_pos h]
    exact ⟨hi, fun n l z => by cases z⟩
  · rw [if_neg h]
    unfold badW at h
    simp only [Bool.or_eq_true, decide_eq_true_eq, Bool.and_eq_true, not_or, not_and] at h
    obtain ⟨h0, h2⟩ := h
    have hl := digW_le (x.drop i)
    rw [List.length_drop] at hl
    have hall := digW_all (x.drop i)
    have hne : digW (x.drop i) ≠ [] := fun z => h0 (by rw [z]; rfl)
    have hb := numL_back (digW (x.drop i)) hall hne fun z => by
      have h1 : (digW (x.drop i)).length ≠ 2 := fun w => h2 w z
      cases hd : digW (x.drop i) with
      | nil => exact absurd hd hne
      | cons c r =>
        rw [hd] at z h1 hl h0
        cases z
        cases r with
        | nil => rfl
        | cons d r =>
          rw [List.length_cons, List.length_cons] at h1 hl
          omega
    refine ⟨⟨by omega, by omega, ?_⟩, fun n l z => ?_⟩
    · show x.drop i = tl (nS ((NumText.digitsVal (digW (x.drop i)) : Nat) : Int)) ++ _
      rw [tl_nS, hb, ← List.drop_drop]
      exact digW_split _
    · cases z
      refine ⟨Int.natCast_nonneg _, ?_⟩
      have hv : ∀ w : List Nat, NumText.AllDigits w → w.length ≤ 2 → NumText.digitsVal w ≤ 99 := by
        intro w hw hl
        match w, hw, hl with
        | [], _, _ => decide
        | [a], hw, _ =>
          have := hw a (by simp)
          show 0 * 10 + (a - 48) ≤ 99
          omega
        | [a, b], hw, _ =>
          have h1 := hw a (by simp)
          have h2 := hw b (by simp)
          show (0 * 10 + (a - 48)) * 10 + (b - 48) ≤ 99
          omega
        | _ :: _ :: _ :: _, _, hl => simp at hl
      have := hv _ hall hl.1
      omega
theorem fld_at {x : List Nat} {i f : Nat} (h : rFld x i = some f) : f < 5 ∧ at_ x (tl (fldS f)) i = true := by
  unfold rFld at h
  have h1 := List.find?_some h
  have h2 := List.mem_of_find?_eq_some h
  refine ⟨?_, h1⟩
  simp only [List.mem_cons, List.not_mem_nil, or_false] at h2
  omega
theorem fld_ne {f : Nat} : tl (fldS f) ≠ [] := by
  obtain ⟨h0, h1, h2, h3, h4, _⟩ := tl_flds
  match f with
  | 0 => rw [h0]; simp
  | 1 => rw [h1]; simp
  | 2 => rw [h2]; simp
  | 3 => rw [h3]; simp
  | _ + 4 => show tl (fldS 4) ≠ []; rw [h4]; simp
theorem lfS_ne {p : Bool} : tl (lfS p) ≠ [] := by
  obtain ⟨_, _, _, _, _, h0, h1⟩ := tl_flds
  cases p
  · rw [h0]; simp
  · rw [h1]; simp
theorem leaf_good (x : List Nat) (p : Bool) (i : Nat) (hi : i ≤ x.length) : Good1 x i showL (rLeaf x p i) ∧ ∀ t l, rLeaf x p i = .ok t l → wf t p ∧ dep t = 0 := by
  unfold rLeaf
  cases hf : rFld x i with
  | none => exact ⟨hi, fun t l z => by cases z⟩
  | some f =>
    obtain ⟨hf5, hat⟩ := fld_at hf
    have h1 := at_le hat fld_ne
    have h2 := at_split hat
    dsimp only
    by_cases hs : at_ x (tl (lfS p)) (i + (tl (fldS f)).length) = true
    · rw [if_pos hs]
      have h3 := at_le hs lfS_ne
      have h4 := at_split hs
      obtain ⟨g1, g2⟩ := num_good x (i + (tl (fldS f)).length + (tl (lfS p)).length) h3
      cases hn : rNum x (i + (tl (fldS f)).length + (tl (lfS p)).length) with
      | bad l =>
        rw [hn] at g1
        exact ⟨g1, fun t l z => by cases z⟩
      | ok n l =>
        rw [hn] at g1
        obtain ⟨a1, a2, a3⟩ := g1
        obtain ⟨b1, b2⟩ := g2 n l hn
        refine ⟨⟨by omega, a2, ?_⟩, fun t l z => ?_⟩
        · show x.drop i = (tl (fldS f) ++ (tl (lfS p) ++ tl (nS n))) ++ x.drop l
          rw [h2, h4, a3, List.append_assoc, List.append_assoc]
        · cases z
          exact ⟨⟨rfl, hf5, b1, b2⟩, rfl⟩
    · rw [if_neg hs]
      exact ⟨h1, fun t l z => by cases z⟩
theorem join_snoc (s : List Nat) : ∀ (l : List (List Nat)) (a : List Nat), l ≠ [] → joinL s (l ++ [a]) = joinL s l ++ (s ++ a)
  | [], _, h => absurd rfl h
  | [b], a, _ => rfl
  | b :: c :: l, a, _ => by
    have ih := join_snoc s (c :: l) a (by simp)
    show b ++ (s ++ joinL s ((c :: l) ++ [a])) = b ++ (s ++ joinL s (c :: l)) ++ (s ++ a)
    rw [ih]
    simp only [List.append_assoc]
def accL (acc : List Tr) : List Nat := match acc with
  | [] => []
  | _ => joinL [44, 32] (showLs acc) ++ [44, 32]
theorem part_good (x : List Nat) (p : Bool) (r : Nat → Res Tr) (d : Nat) (hr : ∀ i, i ≤ x.length → Good1 x i showL (r i) ∧ ∀ t l, r i = .ok t l → wf t p ∧ dep t ≤ d) (i0 : Nat) : ∀ (n : Nat) (acc : List Tr) (i : Nat), i ≤ x.length → i0 ≤ i → x.drop i0 = accL acc ++ x.drop i → wfs acc p → (∀ t ∈ acc, dep t ≤ d) →
    Good1 x i0 (fun ts => joinL [44, 32] (showLs ts) ++ [41]) (rPart x r n acc i) ∧ ∀ ts l, rPart x r n acc i = .ok ts l → wfs ts p ∧ ∀ t ∈ ts, dep t ≤ d := by
  intro n
  induction n with
  | zero => exact fun acc i hi _ _ _ _ => ⟨hi, fun t l z => by cases z⟩
  | succ n ih =>
    intro acc i hi h0 hx hw hd
    unfold rPart
    obtain ⟨g1, g2⟩ := hr i hi
    cases hri : r i with
    | bad l =>
      rw [hri] at g1
      exact ⟨g1, fun t l z => by cases z⟩
    | ok t l =>
      rw [hri] at g1
      obtain ⟨a1, a2, a3⟩ := g1
      obtain ⟨b1, b2⟩ := g2 t l hri
      have hw2 : wfs (acc ++ [t]) p := wfs_all.mpr fun u hu => by
        rcases List.mem_append.mp hu with hu | hu
        · exact wfs_all.mp hw u hu
        · rw [List.mem_singleton.mp hu]
          exact b1
      have hd2 : ∀ u ∈ acc ++ [t], dep u ≤ d := fun u hu => by
        rcases List.mem_append.mp hu with hu | hu
        · exact hd u hu
        · rw [List.mem_singleton.mp hu]
          exact b2
      have hj : joinL [44, 32] (showLs (acc ++ [t])) = accL acc ++ showL t := by
        rw [showLs_map, List.map_append]
        cases acc with
        | nil => rfl
        | cons b acc =>
          show joinL [44, 32] ((b :: acc).map showL ++ [showL t]) = (joinL [44, 32] (showLs (b :: acc)) ++ [44, 32]) ++ showL t
          rw [join_snoc _ _ _ (by simp), showLs_map, List.append_assoc]
      dsimp only
      by_cases h1 : at_ x [41] l = true
      · rw [if_pos h1]
        have z1 := at_le h1 (by simp)
        have z2 := at_split h1
        refine ⟨⟨by omega, z1, ?_⟩, fun ts l z => ?_⟩
        · show x.drop i0 = (joinL [44, 32] (showLs (acc ++ [t])) ++ [41]) ++ x.drop (l + 1)
          rw [hj, hx, a3, z2]
          simp only [List.append_assoc]
          rfl
        · cases z
          exact ⟨hw2, hd2⟩
      · rw [if_neg h1]
        by_cases h2 : at_ x [44, 32] l = true
        · rw [if_pos h2]
          have z1 := at_le h2 (by simp)
          have z2 := at_split h2
          refine ih (acc ++ [t]) (l + 2) z1 (by omega) ?_ hw2 hd2
          have e : accL (acc ++ [t]) = joinL [44, 32] (showLs (acc ++ [t])) ++ [44, 32] := by
            cases acc <;> rfl
          rw [e, hj, hx, a3, z2]
          simp only [List.append_assoc]
          rfl
        · rw [if_neg h2]
          exact ⟨a2, fun t l z => by cases z⟩
theorem row_good (x : List Nat) (p : Bool) (r : Nat → Res Tr) (d : Nat) (hr : ∀ i, i ≤ x.length → Good1 x i showL (r i) ∧ ∀ t l, r i = .ok t l → wf t p ∧ dep t ≤ d) (i : Nat) (hi : i ≤ x.length) :
    Good1 x i (fun ts => 40 :: (joinL [44, 32] (showLs ts) ++ [41])) (rRow x r i) ∧ ∀ ts l, rRow x r i = .ok ts l → wfs ts p ∧ ∀ t ∈ ts, dep t ≤ d := by
  unfold rRow
  by_cases h0 : at_ x [40] i = true
  · rw [if_pos h0]
    have z1 := at_le h0 (by simp)
    have z2 := at_split h0
    have z1 : i + 1 ≤ x.length := z1
    have z2 : x.drop i = 40 :: x.drop (i + 1) := z2
    by_cases h1 : at_ x [41] (i + 1) = true
    · rw [if_pos h1]
      have y1 := at_le h1 (by simp)
      have y2 := at_split h1
      have y1 : i + 1 + 1 ≤ x.length := y1
      have y2 : x.drop (i + 1) = 41 :: x.drop (i + 2) := y2
      refine ⟨⟨by omega, by omega, ?_⟩, fun ts l z => ?_⟩
      · rw [z2, y2]
        rfl
      · cases z
        exact ⟨trivial, fun t h => (nomatch h)⟩
    · rw [if_neg h1]
      obtain ⟨g1, g2⟩ := part_good x p r d hr (i + 1) x.length [] (i + 1) z1 (Nat.le_refl _) rfl trivial (fun t h => nomatch h)
      refine ⟨?_, g2⟩
      cases hp : rPart x r x.length [] (i + 1) with
      | bad l =>
        rw [hp] at g1
        exact g1
      | ok ts l =>
        rw [hp] at g1
        obtain ⟨a1, a2, a3⟩ := g1
        refine ⟨by omega, a2, ?_⟩
        rw [z2, a3]
        rfl
  · rw [if_neg h0]
    exact ⟨hi, fun t l z => by cases z⟩
theorem map_good {α β : Type} {x : List Nat} {i j : Nat} {sa : α → List Nat} {sb : β → List Nat} {f : α → β} {r : Res α} {pre0 : List Nat} (h : Good1 x j sa r) (hij : i < j) (hx : x.drop i = pre0 ++ x.drop j) (e : ∀ t, sb (f t) = pre0 ++ sa t) : Good1 x i sb (r.map f) := by
  cases r with
  | bad l => exact h
  | ok t l =>
    obtain ⟨a1, a2, a3⟩ := h
    refine ⟨by omega, a2, ?_⟩
    show x.drop i = sb (f t) ++ x.drop l
    rw [e, hx, a3, List.append_assoc]
theorem map_ok {α β : Type} {f : α → β} {r : Res α} {u : β} {l : Nat} (h : r.map f = .ok u l) : ∃ t, r = .ok t l ∧ u = f t := by
  cases r with
  | bad l => cases h
  | ok t l => cases h; exact ⟨t, rfl, rfl⟩
theorem at_one {x : List Nat} {c i : Nat} (h : at_ x [c] i = true) : i + 1 ≤ x.length ∧ x.drop i = [c] ++ x.drop (i + 1) := ⟨at_le h (by simp), at_split h⟩
theorem rd_good (x : List Nat) : ∀ (d : Nat) (p : Bool) (i : Nat), i ≤ x.length → Good1 x i showL (rd x d p i) ∧ ∀ t l, rd x d p i = .ok t l → wf t p ∧ dep t ≤ d := by
  intro d
  induction d with
  | zero => exact fun p i hi => ⟨hi, fun t l z => by cases z⟩
  | succ d ih =>
    intro p i hi
    have leaf : ∀ p, Good1 x i showL (rLeaf x p i) ∧ ∀ t l, rLeaf x p i = .ok t l → wf t p ∧ dep t ≤ d + 1 := fun p => by
      obtain ⟨g1, g2⟩ := leaf_good x p i hi
      exact ⟨g1, fun t l z => ⟨(g2 t l z).1, by rw [(g2 t l z).2]; omega⟩⟩
    have row : ∀ p k c, tl (rwS p k) = [c] → at_ x [c] i = true → Good1 x i showL ((rRow x (rd x d p) (i + 1)).map (.rw p k)) ∧ ∀ t l, (rRow x (rd x d p) (i + 1)).map (.rw p k) = .ok t l → wf t p ∧ dep t ≤ d + 1 := fun p k c hc h => by
      obtain ⟨h1, h2⟩ := at_one h
      obtain ⟨g1, g2⟩ := row_good x p (rd x d p) d (fun i hi => ih p i hi) (i + 1) h1
      refine ⟨map_good g1 (Nat.lt_succ_self i) h2 (fun t => by simp only [showL, hc]), fun t l z => ?_⟩
      obtain ⟨ts, e, rfl⟩ := map_ok z
      obtain ⟨w1, w2⟩ := g2 ts l e
      refine ⟨⟨rfl, w1⟩, ?_⟩
      simp only [dep]
      have : deps ts ≤ d := deps_le.mpr w2
      omega
    obtain ⟨_, _, _, _, _, _, _, _, _, _, _⟩ := tl_lits
    cases p with
    | false =>
      unfold rd
      by_cases h1 : at_ x [33] i = true
      · rw [if_pos h1]
        obtain ⟨y1, y2⟩ := at_one h1
        obtain ⟨g1, g2⟩ := ih false (i + 1) y1
        refine ⟨map_good g1 (Nat.lt_succ_self i) y2 fun t => by simp only [showL, List.singleton_append], fun t l z => ?_⟩
        obtain ⟨u, e, rfl⟩ := map_ok z
        obtain ⟨w1, w2⟩ := g2 u l e
        exact ⟨⟨rfl, w1⟩, by simp only [dep]; omega⟩
      · rw [if_neg h1]
        by_cases h2 : at_ x [38] i = true
        · rw [if_pos h2]
          exact row false false 38 (by assumption) h2
        · rw [if_neg h2]
          by_cases h3 : at_ x [124] i = true
          · rw [if_pos h3]
            exact row false true 124 (by assumption) h3
          · rw [if_neg h3]
            exact leaf false
    | true =>
      unfold rd
      by_cases h1 : at_ x [91] i = true
      · rw [if_pos h1]
        obtain ⟨y1, y2⟩ := at_one h1
        obtain ⟨g1, g2⟩ := ih false (i + 1) y1
        cases hr : rd x d false (i + 1) with
        | bad l =>
          rw [hr] at g1
          exact ⟨g1, fun t l z => by cases z⟩
        | ok u l =>
          rw [hr] at g1
          obtain ⟨a1, a2, a3⟩ := g1
          obtain ⟨w1, w2⟩ := g2 u l hr
          unfold rEnd
          dsimp only
          by_cases h5 : at_ x [93] l = true
          · rw [if_pos h5]
            obtain ⟨z1, z2⟩ := at_one h5
            refine ⟨⟨by omega, z1, ?_⟩, fun t l z => ?_⟩
            · rw [y2, a3, z2]
              simp only [showL, List.append_assoc, List.singleton_append, List.cons_append, List.nil_append]
            · cases z
              exact ⟨⟨rfl, w1⟩, by simp only [dep]; omega⟩
          · rw [if_neg h5]
            exact ⟨a2, fun t l z => by cases z⟩
      · rw [if_neg h1]
        by_cases h4 : at_ x [42] i = true
        · rw [if_pos h4]
          obtain ⟨y1, y2⟩ := at_one h4
          obtain ⟨g1, g2⟩ := ih true (i + 1) y1
          refine ⟨map_good g1 (Nat.lt_succ_self i) y2 fun t => by simp only [showL, List.singleton_append], fun t l z => ?_⟩
          obtain ⟨u, e, rfl⟩ := map_ok z
          obtain ⟨w1, w2⟩ := g2 u l e
          exact ⟨⟨rfl, w1⟩, by simp only [dep]; omega⟩
        · rw [if_neg h4]
          by_cases h2 : at_ x [43] i = true
          · rw [if_pos h2]
            exact row true false 43 (by assumption) h2
          · rw [if_neg h2]
            by_cases h3 : at_ x [59] i = true
            · rw [if_pos h3]
              exact row true true 59 (by assumption) h3
            · rw [if_neg h3]
              exact leaf true
local macro_rules | `(tactic| walk_at "v") => `(tactic| first | exact v0 | exact v1 | exact v2 | exact v3 | exact v4 | exact v5 | exact v6 | exact v7 | exact v8)
local macro_rules | `(tactic| walk_at "vs") => `(tactic| first | exact st0 | exact st1 | exact st2 | exact st3 | exact st4 | exact st5 | exact st6 | exact st7 | exact st8)
local macro_rules | `(tactic| walk_at "s") => `(tactic| first
  | with_reducible refine w_dget ?_
  | ((with_reducible refine' w_dgetZ ?h ?nd ?hk ?hv ?_); (case h => walk_at "g"); (case nd => walk_at "nd"); (case hk => walk_at "k"); (case hv => walk_at "v"))
  | ((with_reducible refine' w_dputZ ?hs ?h ?nd ?hk ?hv ?hu ?hl ?_); (case hs => assumption); (case h => walk_at "p"); (case nd => walk_at "nd"); (case hk => walk_at "k"); (case hv => walk_at "v"); (case hu => walk_at "vs"); (case hl => decide); intro _ _)
  | with_reducible refine w_gsub ?_
  | with_reducible refine w_setD ?_
  | with_reducible refine w_disp ?_
  | ((with_reducible refine' w_newP ?hs ?_); (case hs => assumption); intro _ _ _)
  | with_reducible refine w_pcons ?_
  | with_reducible refine w_pnil ?_)

local macro_rules | `(tactic| walk_at "s") => `(tactic| first
  | with_reducible refine w_nget ?_
  | with_reducible refine w_nin ?_
  | with_reducible refine w_nnot ?_
  | with_reducible refine w_nput ?_
  | with_reducible refine w_ndel ?_
  | with_reducible refine w_npop ?_
  | ((with_reducible refine' w_nnew ?hs ?_); (case hs => assumption); intro _ _ _))

local macro_rules | `(tactic| walk_at "s") => `(tactic| first
  | with_reducible refine w_m0 ?_
  | with_reducible refine w_m1 ?_
  | with_reducible refine w_m0b ?_
  | with_reducible refine w_m1b ?_
  | with_reducible refine w_kget ?_
  | with_reducible refine w_nS ?_)

/-! ## what is shown is found again, or a fault -/
def NoDig (r : List Nat) : Prop := ∀ c r', r = c :: r' → isDg c = false
theorem at_app {x S r : List Nat} {i : Nat} (h : x.drop i = S ++ r) : at_ x S i = true ∧ x.drop (i + S.length) = r := by
  unfold at_
  rw [← List.drop_drop, h]
  exact ⟨pre_app S r, List.drop_left⟩
theorem at_no {x r : List Nat} {i c d : Nat} (h : x.drop i = d :: r) (n : d ≠ c) : at_ x [c] i = false := by
  unfold at_
  rw [h, pre_take, decide_eq_false_iff_not]
  intro z
  have z : [d] = [c] := z
  exact n (List.cons.inj z).1
theorem at_no2 {x r : List Nat} {i c d : Nat} {S : List Nat} (h : x.drop i = d :: r) (n : d ≠ c) : at_ x (c :: S) i = false := by
  unfold at_
  rw [h, pre_take, decide_eq_false_iff_not]
  intro z
  rw [List.length_cons, List.take_succ_cons] at z
  exact n (List.cons.inj z).1
theorem num_back {n : Int} (h0 : 0 ≤ n) (h1 : n ≤ 99) {r : List Nat} (hr : NoDig r) : digW (tl (nS n) ++ r) = tl (nS n) ∧ badW (tl (nS n)) = false ∧ ((NumText.digitsVal (tl (nS n)) : Nat) : Int) = n := by
  obtain ⟨a, rfl⟩ := Int.eq_ofNat_of_zero_le h0
  have ha : a ≤ 99 := by omega
  rw [tl_nS]
  by_cases hlt : a < 10
  · rw [numL_lt hlt]
    refine ⟨?_, by simp [badW], ?_⟩
    · unfold digW
      have hd : isDg (48 + a) = true := by
        unfold isDg
        rw [Bool.and_eq_true, decide_eq_true_iff, decide_eq_true_iff]
        omega
      cases r with
      | nil => simp [hd]
      | cons c r' =>
        have := hr c r' rfl
        show ((48 + a) :: c :: (r'.take 0)).takeWhile isDg = _
        simp [hd, this]
    · show (((0 * 10 + (48 + a - 48) : Nat)) : Int) = _
      omega
  · rw [numL_step (by omega), numL_lt (by omega : a / 10 < 10)]
    have hd1 : isDg (48 + a / 10) = true := by
      unfold isDg
      rw [Bool.and_eq_true, decide_eq_true_iff, decide_eq_true_iff]
      omega
    have hd2 : isDg (48 + a % 10) = true := by
      unfold isDg
      rw [Bool.and_eq_true, decide_eq_true_iff, decide_eq_true_iff]
      omega
    refine ⟨?_, ?_, ?_⟩
    · show ((48 + a / 10) :: (48 + a % 10) :: (r.take 0)).takeWhile isDg = [48 + a / 10, 48 + a % 10]
      simp [hd1, hd2]
    · unfold badW
      have : (some (48 + a / 10) : Option Nat) ≠ some 48 := fun z => by
        have := Option.some.inj z
        omega
      simp [this]
    · show (((0 * 10 + (48 + a / 10 - 48)) * 10 + (48 + a % 10 - 48) : Nat) : Int) = _
      omega
theorem num_comp {x r : List Nat} {i : Nat} {n : Int} (h0 : 0 ≤ n) (h1 : n ≤ 99) (hr : NoDig r) (hx : x.drop i = tl (nS n) ++ r) : rNum x i = .ok n (i + (tl (nS n)).length) := by
  obtain ⟨e1, e2, e3⟩ := num_back h0 h1 hr
  unfold rNum
  rw [hx, e1, e2, e3, if_neg (by decide)]
theorem fld_comp {x r : List Nat} {i f : Nat} (hf : f < 5) (hx : x.drop i = tl (fldS f) ++ r) : rFld x i = some f := by
  obtain ⟨h0, h1, h2, h3, h4, _⟩ := tl_flds
  have key : ∀ g, g < 5 → (at_ x (tl (fldS g)) i = true ↔ g = f) := by
    intro g hg
    constructor
    · intro h
      have s := at_split h
      rw [hx] at s
      match f, hf, g, hg, s with
      | 0, _, 0, _, _ => rfl
      | 1, _, 1, _, _ => rfl
      | 2, _, 2, _, _ => rfl
      | 3, _, 3, _, _ => rfl
      | 4, _, 4, _, _ => rfl
      | 0, _, 1, _, s => rw [h0, h1] at s; cases s
      | 0, _, 2, _, s => rw [h0, h2] at s; injection s with _ s; cases s
      | 0, _, 3, _, s => rw [h0, h3] at s; cases s
      | 0, _, 4, _, s => rw [h0, h4] at s; cases s
      | 1, _, 0, _, s => rw [h0, h1] at s; cases s
      | 1, _, 2, _, s => rw [h1, h2] at s; cases s
      | 1, _, 3, _, s => rw [h1, h3] at s; cases s
      | 1, _, 4, _, s => rw [h1, h4] at s; cases s
      | 2, _, 0, _, s => rw [h0, h2] at s; injection s with _ s; cases s
      | 2, _, 1, _, s => rw [h1, h2] at s; cases s
      | 2, _, 3, _, s => rw [h2, h3] at s; cases s
      | 2, _, 4, _, s => rw [h2, h4] at s; cases s
      | 3, _, 0, _, s => rw [h0, h3] at s; cases s
      | 3, _, 1, _, s => rw [h1, h3] at s; cases s
      | 3, _, 2, _, s => rw [h2, h3] at s; cases s
      | 3, _, 4, _, s => rw [h3, h4] at s; cases s
      | 4, _, 0, _, s => rw [h0, h4] at s; cases s
      | 4, _, 1, _, s => rw [h1, h4] at s; cases s
      | 4, _, 2, _, s => rw [h2, h4] at s; cases s
      | 4, _, 3, _, s => rw [h3, h4] at s; cases s
    · rintro rfl
      exact (at_app hx).1
  have no : ∀ g, g < 5 → g ≠ f → at_ x (tl (fldS g)) i = false := fun g hg n => Bool.eq_false_iff.mpr fun z => n ((key g hg).mp z)
  have yes : at_ x (tl (fldS f)) i = true := (at_app hx).1
  unfold rFld
  match f, hf, no, yes with
  | 0, _, no, yes => simp only [List.find?_cons, yes]
  | 1, _, no, yes => simp only [List.find?_cons, yes, no 0 (by decide) (by decide)]
  | 2, _, no, yes => simp only [List.find?_cons, yes, no 0 (by decide) (by decide), no 1 (by decide) (by decide)]
  | 3, _, no, yes => simp only [List.find?_cons, yes, no 0 (by decide) (by decide), no 1 (by decide) (by decide), no 2 (by decide) (by decide)]
  | 4, _, no, yes => simp only [List.find?_cons, yes, no 0 (by decide) (by decide), no 1 (by decide) (by decide), no 2 (by decide) (by decide), no 3 (by decide) (by decide)]
theorem leaf_comp {x r : List Nat} {i f : Nat} {p : Bool} {n : Int} (hf : f < 5) (h0 : 0 ≤ n) (h1 : n ≤ 99) (hr : NoDig r) (hx : x.drop i = showL (.lf p f n) ++ r) : rLeaf x p i = .ok (.lf p f n) (i + (showL (.lf p f n)).length) := by
  have hx : x.drop i = (tl (fldS f) ++ (tl (lfS p) ++ tl (nS n))) ++ r := hx
  rw [List.append_assoc, List.append_assoc] at hx
  obtain ⟨_, h3⟩ := at_app hx
  obtain ⟨h4, h5⟩ := at_app h3
  unfold rLeaf
  rw [fld_comp hf hx]
  dsimp only
  rw [if_pos h4, num_comp h0 h1 hr h5]
  show Res.ok _ _ = Res.ok _ (i + (tl (fldS f) ++ (tl (lfS p) ++ tl (nS n))).length)
  rw [List.length_append, List.length_append]
  simp only [Nat.add_assoc]
def Fnd {α : Type} (t : α) (l : Nat) (r : Res α) : Prop := (∃ b, r = .bad b) ∨ r = .ok t l
theorem Fnd.map {α β : Type} {f : α → β} {t : α} {l : Nat} {r : Res α} (h : Fnd t l r) : Fnd (f t) l (r.map f) := by
  rcases h with ⟨b, rfl⟩ | rfl
  · exact .inl ⟨b, rfl⟩
  · exact .inr rfl
/-- what a text of a tree begins with -/
def firsts : Bool → List Nat
  | false => [33, 38, 124, 115, 112, 100, 107]
  | true => [91, 42, 43, 59, 115, 112, 100, 107]
theorem first_of {p : Bool} : ∀ {t : Tr}, wf t p → ∃ c r, showL t = c :: r ∧ c ∈ firsts p
  | .lf q f n, ⟨e0, hf, _⟩ => by
    subst e0
    obtain ⟨h0, h1, h2, h3, h4, _⟩ := tl_flds
    have : ∃ c r, tl (fldS f) = c :: r ∧ c ∈ firsts p := by
      match f, hf with
      | 0, _ => exact ⟨_, _, h0, by cases p <;> decide⟩
      | 1, _ => exact ⟨_, _, h1, by cases p <;> decide⟩
      | 2, _ => exact ⟨_, _, h2, by cases p <;> decide⟩
      | 3, _ => exact ⟨_, _, h3, by cases p <;> decide⟩
      | 4, _ => exact ⟨_, _, h4, by cases p <;> decide⟩
    obtain ⟨c, r, e, m⟩ := this
    exact ⟨c, r ++ (tl (lfS p) ++ tl (nS n)), by simp only [showL, e, List.cons_append], m⟩
  | .no t, ⟨e0, _⟩ => by subst e0; exact ⟨33, showL t, by simp only [showL], by decide⟩
  | .te t, ⟨e0, _⟩ => by subst e0; exact ⟨91, showL t ++ [93], by simp only [showL], by decide⟩
  | .st t, ⟨e0, _⟩ => by subst e0; exact ⟨42, showL t, by simp only [showL], by decide⟩
  | .rw q k ts, ⟨e0, _⟩ => by
    subst e0
    obtain ⟨_, _, _, _⟩ := tl_lits
    have : ∃ c, tl (rwS p k) = [c] ∧ c ∈ firsts p := by
      have : tl (rwS false false) = [38] ∧ tl (rwS false true) = [124] ∧ tl (rwS true false) = [43] ∧ tl (rwS true true) = [59] := by decide +kernel
      obtain ⟨h1, h2, h3, h4⟩ := this
      cases p <;> cases k
      · exact ⟨_, h1, by decide⟩
      · exact ⟨_, h2, by decide⟩
      · exact ⟨_, h3, by decide⟩
      · exact ⟨_, h4, by decide⟩
    obtain ⟨c, e, m⟩ := this
    exact ⟨c, 40 :: (joinL [44, 32] (showLs ts) ++ [41]), by simp only [showL, e, List.cons_append, List.nil_append], m⟩
theorem first_ne {p : Bool} {c d : Nat} (h : c ∈ firsts p) (hd : d ∉ firsts p) : c ≠ d := fun z => hd (z ▸ h)
theorem part_comp {x : List Nat} {p : Bool} {r : Nat → Res Tr} (hr : ∀ t i q, wf t p → NoDig q → x.drop i = showL t ++ q → Fnd t (i + (showL t).length) (r i)) :
    ∀ (ts : List Tr) (t : Tr) (acc : List Tr) (n i : Nat) (q : List Nat), wf t p → wfs ts p → x.length < n + i → x.drop i = joinL [44, 32] (showL t :: showLs ts) ++ (41 :: q) → Fnd (acc ++ t :: ts) (i + ((joinL [44, 32] (showL t :: showLs ts)).length + 1)) (rPart x r n acc i)
  | ts, t, acc, 0, i, q, hw, _, hn, hx => by
    have := congrArg List.length hx
    rw [List.length_drop, List.length_append, List.length_cons] at this
    omega
  | [], t, acc, n + 1, i, q, hw, _, hn, hx => by
    have hx : x.drop i = showL t ++ (41 :: q) := hx
    unfold rPart
    rcases hr t i (41 :: q) hw (fun c r' e => by cases e; rfl) hx with ⟨b, e⟩ | e
    · rw [e]
      exact .inl ⟨b, rfl⟩
    · rw [e]
      have := (at_app (S := [41]) (r := q) (i := i + (showL t).length) (by rw [(at_app hx).2]; rfl)).1
      dsimp only
      rw [if_pos this]
      exact .inr rfl
  | u :: us, t, acc, n + 1, i, q, hw, hws, hn, hx => by
    have ej : joinL [44, 32] (showL t :: showLs (u :: us)) = showL t ++ ([44, 32] ++ joinL [44, 32] (showL u :: showLs us)) := rfl
    rw [ej, List.append_assoc, List.append_assoc] at hx
    unfold rPart
    rcases hr t i _ hw (fun c r' e => by cases e; rfl) hx with ⟨b, e⟩ | e
    · rw [e]
      exact .inl ⟨b, rfl⟩
    · rw [e]
      have hx2 := (at_app hx).2
      obtain ⟨h3, h4⟩ := at_app hx2
      dsimp only
      rw [if_neg (by rw [at_no (c := 41) hx2 (by decide)]; decide), if_pos h3]
      obtain ⟨w1, w2⟩ := hws
      have h5 := part_comp hr us u (acc ++ [t]) n (i + (showL t).length + 2) q w1 w2 (by
        obtain ⟨c, r', ec, _⟩ := first_of hw
        rw [ec, List.length_cons]
        omega) h4
      rw [List.append_assoc] at h5
      have el : i + (showL t).length + 2 + ((joinL [44, 32] (showL u :: showLs us)).length + 1) = i + ((joinL [44, 32] (showL t :: showLs (u :: us))).length + 1) := by
        rw [ej, List.length_append, List.length_append]
        show _ + 2 + _ = _ + (_ + (2 + _) + 1)
        omega
      rw [el] at h5
      exact h5
theorem row_comp {x : List Nat} {p : Bool} {r : Nat → Res Tr} (hr : ∀ t i q, wf t p → NoDig q → x.drop i = showL t ++ q → Fnd t (i + (showL t).length) (r i)) {ts : List Tr} {i : Nat} {q : List Nat} (hi : 1 ≤ i) (hw : wfs ts p) (hx : x.drop i = (40 :: (joinL [44, 32] (showLs ts) ++ [41])) ++ q) : Fnd ts (i + ((joinL [44, 32] (showLs ts)).length + 2)) (rRow x r i) := by
  have hx : x.drop i = [40] ++ (joinL [44, 32] (showLs ts) ++ (41 :: q)) := by
    rw [hx]
    simp
  obtain ⟨h1, h2⟩ := at_app hx
  have h2 : x.drop (i + 1) = _ := h2
  unfold rRow
  rw [if_pos h1]
  cases ts with
  | nil =>
    rw [if_pos (at_app (S := [41]) h2).1]
    exact .inr rfl
  | cons t ts =>
    obtain ⟨w1, w2⟩ := hw
    obtain ⟨c, r', ec, m⟩ := first_of w1
    have h3 : ∃ z, x.drop (i + 1) = c :: z := by
      rw [h2]
      cases ts with
      | nil => exact ⟨r' ++ (41 :: q), by show showL t ++ _ = _; rw [ec]; rfl⟩
      | cons u us => exact ⟨_, by show (showL t ++ ([44, 32] ++ joinL [44, 32] (showL u :: showLs us))) ++ _ = _; rw [ec]; rfl⟩
    obtain ⟨z, hz⟩ := h3
    rw [if_neg (by rw [at_no (c := 41) hz (first_ne m (by cases p <;> decide))]; decide)]
    have := part_comp hr ts t [] x.length (i + 1) q w1 w2 (by omega) h2
    have el : i + 1 + ((joinL [44, 32] (showL t :: showLs ts)).length + 1) = i + ((joinL [44, 32] (showLs (t :: ts))).length + 2) := by
      show _ = i + ((joinL [44, 32] (showL t :: showLs ts)).length + 2)
      omega
    rw [el] at this
    exact this
theorem rws : tl (rwS false false) = [38] ∧ tl (rwS false true) = [124] ∧ tl (rwS true false) = [43] ∧ tl (rwS true true) = [59] := by decide +kernel
theorem rd_comp {x : List Nat} : ∀ (d : Nat) (p : Bool) (t : Tr) (i : Nat) (q : List Nat), wf t p → NoDig q → x.drop i = showL t ++ q → Fnd t (i + (showL t).length) (rd x d p i)
  | 0, p, t, i, q, _, _, _ => .inl ⟨i, rfl⟩
  | d + 1, p, .lf q f n, i, r, ⟨e0, hf, h0, h1⟩, hr, hx => by
    subst e0
    have e := leaf_comp hf h0 h1 hr hx
    obtain ⟨f0, f1, f2, f3, f4, _⟩ := tl_flds
    obtain ⟨c, z, hz, m⟩ : ∃ c z, x.drop i = c :: z ∧ c ∈ [115, 112, 100, 107] := by
      have hx : x.drop i = (tl (fldS f) ++ (tl (lfS p) ++ tl (nS n))) ++ r := hx
      match f, hf with
      | 0, _ => exact ⟨_, _, by rw [hx, f0]; rfl, by decide⟩
      | 1, _ => exact ⟨_, _, by rw [hx, f1]; rfl, by decide⟩
      | 2, _ => exact ⟨_, _, by rw [hx, f2]; rfl, by decide⟩
      | 3, _ => exact ⟨_, _, by rw [hx, f3]; rfl, by decide⟩
      | 4, _ => exact ⟨_, _, by rw [hx, f4]; rfl, by decide⟩
    have no : ∀ k, k ∉ [115, 112, 100, 107] → ¬ at_ x [k] i = true := fun k hk => by
      rw [at_no (c := k) hz (fun z => hk (z ▸ m))]
      decide
    cases p with
    | false =>
      unfold rd
      rw [if_neg (no 33 (by decide)), if_neg (no 38 (by decide)), if_neg (no 124 (by decide))]
      exact .inr e
    | true =>
      unfold rd
      rw [if_neg (no 91 (by decide)), if_neg (no 42 (by decide)), if_neg (no 43 (by decide)), if_neg (no 59 (by decide))]
      exact .inr e
  | d + 1, p, .no t, i, r, ⟨e0, hw⟩, hr, hx => by
    subst e0
    have hx : x.drop i = [33] ++ (showL t ++ r) := hx
    obtain ⟨h1, h2⟩ := at_app hx
    unfold rd
    rw [if_pos h1]
    have := (rd_comp d false t (i + 1) r hw hr h2).map (f := Tr.no)
    have el : i + 1 + (showL t).length = i + (showL (.no t)).length := by
      simp only [showL, List.length_cons]
      omega
    rw [el] at this
    exact this
  | d + 1, p, .te t, i, r, ⟨e0, hw⟩, hr, hx => by
    subst e0
    have hx : x.drop i = [91] ++ (showL t ++ ([93] ++ r)) := by
      rw [hx]
      simp [showL]
    obtain ⟨h1, h2⟩ := at_app hx
    unfold rd
    rw [if_pos h1]
    rcases rd_comp d false t (i + 1) _ hw (fun c r' e => by cases e; rfl) h2 with ⟨b, e⟩ | e
    · rw [e]
      exact .inl ⟨b, rfl⟩
    · rw [e]
      unfold rEnd
      dsimp only
      rw [if_pos (show at_ x [93] (i + 1 + (showL t).length) = true from (at_app (at_app h2).2).1)]
      refine .inr ?_
      simp only [showL, List.length_cons, List.length_append, List.length_nil]
      congr 1
      omega
  | d + 1, p, .st t, i, r, ⟨e0, hw⟩, hr, hx => by
    subst e0
    have hx0 : x.drop i = 42 :: (showL t ++ r) := hx
    have hx : x.drop i = [42] ++ (showL t ++ r) := hx
    obtain ⟨h1, h2⟩ := at_app hx
    unfold rd
    rw [if_neg (by rw [at_no (c := 91) hx0 (by decide)]; decide), if_pos h1]
    have := (rd_comp d true t (i + 1) r hw hr h2).map (f := Tr.st)
    have el : i + 1 + (showL t).length = i + (showL (.st t)).length := by
      simp only [showL, List.length_cons]
      omega
    rw [el] at this
    exact this
  | d + 1, p, .rw q k ts, i, r, ⟨e0, hw⟩, hr, hx => by
    subst e0
    obtain ⟨r1, r2, r3, r4⟩ := rws
    have key : ∀ c, tl (rwS p k) = [c] → x.drop i = c :: ((40 :: (joinL [44, 32] (showLs ts) ++ [41])) ++ r) ∧ at_ x [c] i = true ∧ Fnd (Tr.rw p k ts) (i + (showL (Tr.rw p k ts)).length) ((rRow x (rd x d p) (i + 1)).map (Tr.rw p k)) := by
      intro c hc
      have hx0 : x.drop i = [c] ++ ((40 :: (joinL [44, 32] (showLs ts) ++ [41])) ++ r) := by
        rw [hx]
        simp only [showL, hc, List.append_assoc]
      obtain ⟨h1, h2⟩ := at_app hx0
      refine ⟨hx0, h1, ?_⟩
      have := (row_comp (r := rd x d p) (fun t i q hw hq hx => rd_comp d p t i q hw hq hx) (i := i + 1) (by omega) hw h2).map (f := Tr.rw p k)
      have el : i + 1 + ((joinL [44, 32] (showLs ts)).length + 2) = i + (showL (Tr.rw p k ts)).length := by
        simp only [showL, hc, List.length_cons, List.length_append, List.length_nil]
        omega
      rw [el] at this
      exact this
    cases p with
    | false =>
      cases k with
      | false =>
        obtain ⟨k0, k1, k2⟩ := key 38 r1
        unfold rd
        rw [if_neg (by rw [at_no (c := 33) k0 (by decide)]; decide), if_pos k1]
        exact k2
      | true =>
        obtain ⟨k0, k1, k2⟩ := key 124 r2
        unfold rd
        rw [if_neg (by rw [at_no (c := 33) k0 (by decide)]; decide), if_neg (by rw [at_no (c := 38) k0 (by decide)]; decide), if_pos k1]
        exact k2
    | true =>
      cases k with
      | false =>
        obtain ⟨k0, k1, k2⟩ := key 43 r3
        unfold rd
        rw [if_neg (by rw [at_no (c := 91) k0 (by decide)]; decide), if_neg (by rw [at_no (c := 42) k0 (by decide)]; decide), if_pos k1]
        exact k2
      | true =>
        obtain ⟨k0, k1, k2⟩ := key 59 r4
        unfold rd
        rw [if_neg (by rw [at_no (c := 91) k0 (by decide)]; decide), if_neg (by rw [at_no (c := 42) k0 (by decide)]; decide), if_neg (by rw [at_no (c := 43) k0 (by decide)]; decide), if_pos k1]
        exact k2
/-- the text of a policy, read -/
theorem top_comp {t : Tr} (hw : wf t true) : (∃ b, rTop (showL t) = .bad b) ∨ rTop (showL t) = .ok t (showL t).length := by
  have := rd_comp (x := showL t) 21 true t 0 [] hw (fun c r' e => by cases e) (by simp)
  unfold rTop
  rcases this with ⟨b, e⟩ | e
  · rw [e]
    exact .inl ⟨b, rfl⟩
  · rw [e]
    dsimp only
    rw [Nat.zero_add, if_neg (Nat.lt_irrefl _)]
    exact .inr rfl
/-- what is read has just this text -/
theorem top_good {x : List Nat} {t : Tr} {l : Nat} (h : rTop x = .ok t l) : showL t = x ∧ wf t true ∧ dep t ≤ 21 := by
  obtain ⟨g1, g2⟩ := rd_good x 21 true 0 (Nat.zero_le _)
  unfold rTop at h
  cases hr : rd x 21 true 0 with
  | bad b =>
    rw [hr] at h
    cases h
  | ok u m =>
    rw [hr] at h g1
    dsimp only at h
    obtain ⟨a1, a2, a3⟩ := g1
    by_cases hl : m < x.length
    · rw [if_pos hl] at h
      cases h
    · rw [if_neg hl] at h
      cases h
      rw [List.drop_zero, List.drop_of_length_le (by omega), List.append_nil] at a3
      exact ⟨a3.symm, g2 _ _ hr⟩
theorem top_le {x : List Nat} {l : Nat} (h : rTop x = .bad l) : l ≤ x.length := by
  obtain ⟨g1, g2⟩ := rd_good x 21 true 0 (Nat.zero_le _)
  unfold rTop at h
  cases hr : rd x 21 true 0 with
  | bad b =>
    rw [hr] at h g1
    cases h
    exact g1
  | ok u m =>
    rw [hr] at h g1
    dsimp only at h
    by_cases hl : m < x.length
    · rw [if_pos hl] at h
      cases h
      omega
    · rw [if_neg hl] at h
      cases h
local macro_rules | `(tactic| walk_at "v") => `(tactic| first | exact v0 | exact v1 | exact v2 | exact v3 | exact v4 | exact v5 | exact v6 | exact v7 | exact v8)
local macro_rules | `(tactic| walk_at "vs") => `(tactic| first | exact st0 | exact st1 | exact st2 | exact st3 | exact st4 | exact st5 | exact st6 | exact st7 | exact st8)
local macro_rules | `(tactic| walk_at "s") => `(tactic| first
  | with_reducible refine w_dget ?_
  | ((with_reducible refine' w_dgetZ ?h ?nd ?hk ?hv ?_); (case h => walk_at "g"); (case nd => walk_at "nd"); (case hk => walk_at "k"); (case hv => walk_at "v"))
  | ((with_reducible refine' w_dputZ ?hs ?h ?nd ?hk ?hv ?hu ?hl ?_); (case hs => assumption); (case h => walk_at "p"); (case nd => walk_at "nd"); (case hk => walk_at "k"); (case hv => walk_at "v"); (case hu => walk_at "vs"); (case hl => decide); intro _ _)
  | with_reducible refine w_gsub ?_
  | with_reducible refine w_setD ?_
  | with_reducible refine w_disp ?_
  | ((with_reducible refine' w_newP ?hs ?_); (case hs => assumption); intro _ _ _)
  | with_reducible refine w_pcons ?_
  | with_reducible refine w_pnil ?_)

local macro_rules | `(tactic| walk_at "s") => `(tactic| first
  | with_reducible refine w_nget ?_
  | with_reducible refine w_nin ?_
  | with_reducible refine w_nnot ?_
  | with_reducible refine w_nput ?_
  | with_reducible refine w_ndel ?_
  | with_reducible refine w_npop ?_
  | ((with_reducible refine' w_nnew ?hs ?_); (case hs => assumption); intro _ _ _))

local macro_rules | `(tactic| walk_at "s") => `(tactic| first
  | with_reducible refine w_m0 ?_
  | with_reducible refine w_m1 ?_
  | with_reducible refine w_m0b ?_
  | with_reducible refine w_m1b ?_
  | with_reducible refine w_kget ?_
  | with_reducible refine w_nS ?_)

/-! ## trees on the heap, as data -/
mutual
def TrAt (H : Hp) : Tr → V → Prop
  | .lf p f n, v => ∃ a : Addr, v = .ref a ∧ H a = some (.tup [.str (lfN p), .str (fldS f), .int n])
  | .no t, v => ∃ (a : Addr) (u : V), v = .ref a ∧ H a = some (.tup [.str "not", u]) ∧ TrAt H t u
  | .te t, v => ∃ (a : Addr) (u : V), v = .ref a ∧ H a = some (.tup [.str "test", u]) ∧ TrAt H t u
  | .st t, v => ∃ (a : Addr) (u : V), v = .ref a ∧ H a = some (.tup [.str "star", u]) ∧ TrAt H t u
  | .rw p k ts, v => ∃ (a l : Addr) (us : List V), v = .ref a ∧ H a = some (.tup [.str (rwN p k), .ref l]) ∧ H l = some (.lst us) ∧ TrsAt H ts us
def TrsAt (H : Hp) : List Tr → List V → Prop
  | [], us => us = []
  | t :: ts, us => ∃ (u : V) (vs : List V), us = u :: vs ∧ TrAt H t u ∧ TrsAt H ts vs
end
mutual
theorem TrAt.same {H H' : Hp} (e : Same H H') : ∀ {t : Tr} {v : V}, TrAt H t v → TrAt H' t v
  | .lf p f n, v, h => by
    simp only [TrAt] at h ⊢
    obtain ⟨a, h1, h2⟩ := h
    exact ⟨a, h1, e _ _ h2⟩
  | .no t, v, h => by
    simp only [TrAt] at h ⊢
    obtain ⟨a, u, h1, h2, h3⟩ := h
    exact ⟨a, u, h1, e _ _ h2, h3.same e⟩
  | .te t, v, h => by
    simp only [TrAt] at h ⊢
    obtain ⟨a, u, h1, h2, h3⟩ := h
    exact ⟨a, u, h1, e _ _ h2, h3.same e⟩
  | .st t, v, h => by
    simp only [TrAt] at h ⊢
    obtain ⟨a, u, h1, h2, h3⟩ := h
    exact ⟨a, u, h1, e _ _ h2, h3.same e⟩
  | .rw p k ts, v, h => by
    simp only [TrAt] at h ⊢
    obtain ⟨a, l, us, h1, h2, h3, h4⟩ := h
    exact ⟨a, l, us, h1, e _ _ h2, e _ _ h3, h4.same e⟩
theorem TrsAt.same {H H' : Hp} (e : Same H H') : ∀ {ts : List Tr} {us : List V}, TrsAt H ts us → TrsAt H' ts us
  | [], us, h => by
    simp only [TrsAt] at h ⊢
    exact h
  | t :: ts, us, h => by
    simp only [TrsAt] at h ⊢
    obtain ⟨u, vs, h1, h2, h3⟩ := h
    exact ⟨u, vs, h1, h2.same e, h3.same e⟩
end
theorem TrsAt.row {H : Hp} : ∀ {ts : List Tr} {us : List V}, TrsAt H ts us → Row (fun u t => TrAt H t u) us ts
  | [], us, h => by
    simp only [TrsAt] at h
    subst h
    exact .nil
  | t :: ts, us, h => by
    simp only [TrsAt] at h
    obtain ⟨u, vs, rfl, h2, h3⟩ := h
    exact .cons h2 h3.row
theorem TrsAt.snoc {H : Hp} {t : Tr} {u : V} (h : TrAt H t u) : ∀ {ts : List Tr} {us : List V}, TrsAt H ts us → TrsAt H (ts ++ [t]) (us ++ [u])
  | [], us, hs => by
    simp only [TrsAt] at hs
    subst hs
    exact ⟨u, [], rfl, h, rfl⟩
  | s :: ts, us, hs => by
    simp only [TrsAt] at hs
    obtain ⟨w, vs, rfl, h2, h3⟩ := hs
    exact ⟨w, vs ++ [u], rfl, h2, TrsAt.snoc h h3⟩
mutual
def trD : Tr → PyData
  | .lf p f n => .tuple [.str (lfN p), .str (fldS f), .int n]
  | .no t => .tuple [.str "not", trD t]
  | .te t => .tuple [.str "test", trD t]
  | .st t => .tuple [.str "star", trD t]
  | .rw p k ts => .tuple [.str (rwN p k), .list (trDs ts)]
def trDs : List Tr → List PyData
  | [] => []
  | t :: ts => trD t :: trDs ts
end
mutual
theorem TrAt.dp {K : PySem.W.Frag} {H : Hp} : ∀ {t : Tr} {v : V}, TrAt H t v → Dp K H v (trD t)
  | .lf p f n, v, h => by
    simp only [TrAt] at h
    obtain ⟨a, rfl, h2⟩ := h
    simp only [trD]
    exact .tup (SqT.of h2) (.cons (.str _) (.cons (.str _) (.cons (.int _) .nil)))
  | .no t, v, h => by
    simp only [TrAt] at h
    obtain ⟨a, u, rfl, h2, h3⟩ := h
    simp only [trD]
    exact .tup (SqT.of h2) (.cons (.str _) (.cons h3.dp .nil))
  | .te t, v, h => by
    simp only [TrAt] at h
    obtain ⟨a, u, rfl, h2, h3⟩ := h
    simp only [trD]
    exact .tup (SqT.of h2) (.cons (.str _) (.cons h3.dp .nil))
  | .st t, v, h => by
    simp only [TrAt] at h
    obtain ⟨a, u, rfl, h2, h3⟩ := h
    simp only [trD]
    exact .tup (SqT.of h2) (.cons (.str _) (.cons h3.dp .nil))
  | .rw p k ts, v, h => by
    simp only [TrAt] at h
    obtain ⟨a, l, us, rfl, h2, h3, h4⟩ := h
    simp only [trD]
    exact .tup (SqT.of h2) (.cons (.str _) (.cons (.lst (SqL.of h3) h4.dp) .nil))
theorem TrsAt.dp {K : PySem.W.Frag} {H : Hp} : ∀ {ts : List Tr} {us : List V}, TrsAt H ts us → DpAll K H us (trDs ts)
  | [], us, h => by
    simp only [TrsAt] at h
    subst h
    simp only [trDs]
    exact .nil
  | t :: ts, us, h => by
    simp only [TrsAt] at h
    obtain ⟨u, vs, rfl, h2, h3⟩ := h
    simp only [trDs]
    exact .cons h2.dp h3.dp
end
theorem sh_str {s : Str} (h : (PyData.str s).canLay0 = true ∧ s.cps.size ≤ 6 ∧ (PyData.str s).leavesShort 13 = true) : Sh 0 6 (.str s) := ⟨h.1, Nat.le_refl _, rfl, h.2.1, h.2.2⟩
theorem sh_fld {f : Nat} (h : f < 5) : Sh 0 6 (.str (fldS f)) := by
  match f, h with
  | 0, _ => exact sh_str (by decide +kernel)
  | 1, _ => exact sh_str (by decide +kernel)
  | 2, _ => exact sh_str (by decide +kernel)
  | 3, _ => exact sh_str (by decide +kernel)
  | 4, _ => exact sh_str (by decide +kernel)
theorem sh_two {D b : Nat} {s : Str} {d : PyData} (h : (PyData.str s).canLay0 = true ∧ s.cps.size ≤ 6 ∧ (PyData.str s).leavesShort 13 = true) (hd : Sh D b d) : Sh (D + 1) (b + 8) (.tuple [.str s, d]) :=
  (Sh.tup (ShA.cons ((sh_str h).mono (Nat.zero_le D) (Nat.le_refl _)) (ShA.cons hd (ShA.nil (b := 0))))).mono (Nat.le_refl _) (by omega)
/-- how much a tree's data weighs -/
theorem lf_len {p : Bool} {f : Nat} {n : Int} (hf : f < 5) : 6 ≤ (showL (.lf p f n)).length := by
  obtain ⟨h0, h1, h2, h3, h4, h5, h6⟩ := tl_flds
  show 6 ≤ (tl (fldS f) ++ (tl (lfS p) ++ tl (nS n))).length
  rw [List.length_append, List.length_append]
  have a1 : 3 ≤ (tl (fldS f)).length := by
    match f, hf with
    | 0, _ => rw [h0]; decide
    | 1, _ => rw [h1]; decide
    | 2, _ => rw [h2]; decide
    | 3, _ => rw [h3]; decide
    | 4, _ => rw [h4]; decide
  have a2 : 3 ≤ (tl (lfS p)).length := by
    cases p
    · rw [h5]; decide
    · rw [h6]; decide
  omega
def wgs : List Tr → Nat
  | [] => 0
  | t :: ts => 20 * (showL t).length + 1 + wgs ts
theorem wgs_le : ∀ ts : List Tr, wgs ts ≤ 20 * (joinL [44, 32] (showLs ts)).length + 1
  | [] => Nat.zero_le _
  | [t] => by
    show 20 * (showL t).length + 1 + 0 ≤ 20 * (showL t).length + 1
    omega
  | t :: u :: ts => by
    have ih := wgs_le (u :: ts)
    show 20 * (showL t).length + 1 + wgs (u :: ts) ≤ 20 * (showL t ++ ([44, 32] ++ joinL [44, 32] (showLs (u :: ts)))).length + 1
    rw [List.length_append, List.length_append]
    show 20 * (showL t).length + 1 + wgs (u :: ts) ≤ 20 * ((showL t).length + (2 + (joinL [44, 32] (showLs (u :: ts))).length)) + 1
    omega
mutual
theorem sh_tr {p : Bool} : ∀ {t : Tr}, wf t p → Sh (2 * dep t + 1) (20 * (showL t).length) (trD t)
  | .lf q f n, ⟨_, hf, h0, h1⟩ => by
    have h : (PyData.str (lfN q)).canLay0 = true ∧ (lfN q).cps.size ≤ 6 ∧ (PyData.str (lfN q)).leavesShort 13 = true := by cases q <;> decide +kernel
    have := lf_len (p := q) (n := n) hf
    simp only [trD, dep]
    exact (Sh.tup (ShA.cons (sh_str h) (ShA.cons (sh_fld hf) (ShA.cons (Sh.int ⟨h0, by omega⟩) (ShA.nil (b := 0)))))).mono (by omega) (by omega)
  | .no t, ⟨_, h⟩ => by
    simp only [trD, dep, showL, List.length_cons]
    exact (sh_two (by decide +kernel) (sh_tr h)).mono (by omega) (by omega)
  | .te t, ⟨_, h⟩ => by
    simp only [trD, dep, showL, List.length_cons, List.length_append, List.length_nil]
    exact (sh_two (by decide +kernel) (sh_tr h)).mono (by omega) (by omega)
  | .st t, ⟨_, h⟩ => by
    simp only [trD, dep, showL, List.length_cons]
    exact (sh_two (by decide +kernel) (sh_tr h)).mono (by omega) (by omega)
  | .rw q k ts, ⟨_, h⟩ => by
    have hz : (PyData.str (rwN q k)).canLay0 = true ∧ (rwN q k).cps.size ≤ 6 ∧ (PyData.str (rwN q k)).leavesShort 13 = true := by cases q <;> cases k <;> decide +kernel
    have h1 := wgs_le ts
    simp only [trD, dep, showL, List.length_cons, List.length_append, List.length_nil]
    exact (sh_two hz (Sh.lst (sh_trs h))).mono (by omega) (by omega)
theorem sh_trs {p : Bool} : ∀ {ts : List Tr}, wfs ts p → ShA (2 * deps ts + 1) (wgs ts) (trDs ts)
  | [], _ => by
    simp only [trDs]
    exact ⟨rfl, Nat.zero_le _, rfl, Nat.zero_le _, rfl⟩
  | t :: ts, ⟨h1, h2⟩ => by
    simp only [trDs, deps]
    have a := (sh_tr h1).mono (D' := 2 * max (dep t) (deps ts) + 1) (by omega) (Nat.le_refl _)
    have b := sh_trs h2
    have b2 : ShA (2 * max (dep t) (deps ts) + 1) (wgs ts) (trDs ts) := ⟨b.lay, Nat.le_trans b.dep (by omega), b.sho, b.blk, b.lvs⟩
    exact (show wgs (t :: ts) = 20 * (showL t).length + 1 + wgs ts from rfl) ▸ ShA.cons a b2
end
theorem shp_tr {p : Bool} {t : Tr} (h : wf t p) (hd : dep t ≤ 31) : SeqAt.shaped (trD t) = true := by
  have := sh_tr h
  have h2 := this.dep
  unfold SeqAt.shaped
  rw [this.lay, Bool.true_and]
  exact decide_eq_true (by omega)
theorem shp_int (n : Int) : SeqAt.shaped (.int n) = true := by
  unfold SeqAt.shaped PyData.canLay0 PyData.depth
  rfl
local macro_rules | `(tactic| walk_at "v") => `(tactic| first | exact v0 | exact v1 | exact v2 | exact v3 | exact v4 | exact v5 | exact v6 | exact v7 | exact v8)
local macro_rules | `(tactic| walk_at "vs") => `(tactic| first | exact st0 | exact st1 | exact st2 | exact st3 | exact st4 | exact st5 | exact st6 | exact st7 | exact st8)
local macro_rules | `(tactic| walk_at "s") => `(tactic| first
  | with_reducible refine w_dget ?_
  | ((with_reducible refine' w_dgetZ ?h ?nd ?hk ?hv ?_); (case h => walk_at "g"); (case nd => walk_at "nd"); (case hk => walk_at "k"); (case hv => walk_at "v"))
  | ((with_reducible refine' w_dputZ ?hs ?h ?nd ?hk ?hv ?hu ?hl ?_); (case hs => assumption); (case h => walk_at "p"); (case nd => walk_at "nd"); (case hk => walk_at "k"); (case hv => walk_at "v"); (case hu => walk_at "vs"); (case hl => decide); intro _ _)
  | with_reducible refine w_gsub ?_
  | with_reducible refine w_setD ?_
  | with_reducible refine w_disp ?_
  | ((with_reducible refine' w_newP ?hs ?_); (case hs => assumption); intro _ _ _)
  | with_reducible refine w_pcons ?_
  | with_reducible refine w_pnil ?_)

local macro_rules | `(tactic| walk_at "s") => `(tactic| first
  | with_reducible refine w_nget ?_
  | with_reducible refine w_nin ?_
  | with_reducible refine w_nnot ?_
  | with_reducible refine w_nput ?_
  | with_reducible refine w_ndel ?_
  | with_reducible refine w_npop ?_
  | ((with_reducible refine' w_nnew ?hs ?_); (case hs => assumption); intro _ _ _))

local macro_rules | `(tactic| walk_at "s") => `(tactic| first
  | with_reducible refine w_m0 ?_
  | with_reducible refine w_m1 ?_
  | with_reducible refine w_m0b ?_
  | with_reducible refine w_m1b ?_
  | with_reducible refine w_kget ?_
  | with_reducible refine w_nS ?_)

section
variable {P : Program} [IsP P] {w : World} {K : PySem.W.Frag} {mg : Str → Option Value} {base : Heap} {a : Ad}
/-! ## numbers -/
def optV : Option Int → V
  | none => .non
  | some n => .int n
def sp_number_of : Sp := fun vs H Q _ => ∃ (x : Str) (most : Int), vs = [.str x, .int most] ∧ x.length ≤ 100000 ∧ 0 ≤ most ∧ most < 10 ^ 10 ∧ Q (optV (numM x most)) H
theorem ok_number_of (T : Txt w K mg a) : FnOk P w K mg base CX0 1 a.number_of a.fd_number_of ["word", "most"] sp_number_of := by
  refine T.fn_number_of.ok sc_number_of (fun vs H Q E h => ?_) (fun cdv A outer s H vs Q E hr h => ?_)
  · obtain ⟨_, _, rfl, _⟩ := h
    rfl
  · obtain ⟨x, most, rfl, hx, h0, h1, k⟩ := h
    refine ⟨_, (pss_cons (ps_if (PW.pt (pw_or (pt_not (pt_val (pe_m0 PySem.F.slot_str_isascii PySem.F.type_str_isascii mt_isascii (pv 0)))) (pw_or1 (pt_not (pt_val (pe_m0 PySem.F.slot_str_isdigit PySem.F.type_str_isdigit mt_isdigit (pv 0)))))))
  (pss_one (ps_ret pe_non))
  pss_nil)
  (C8.pss_cut (ps_if (PW.pt (pw_and (pt_val (pe_m1 PySem.F.slot_str_startswith PySem.F.type_str_startswith mt_startswith (pv 0) pe_str)) (pw_and1 (pt_cmpR op_ne (pv 0) pe_str (nomark _)))))
  (pss_one (ps_ret pe_non))
  pss_nil)
  (pss_cons (ps_if (pt_cmpR op_gt (pe_callB call_len_str (by rfl) T.mg_len PySem.boot_len (pa_cons (pv 0) pa_nil)) (pe_callB call_len_str (by rfl) T.mg_len PySem.boot_len (pa_cons (pe_callTy call_strQ (by rfl) T.mg_str (by decide +kernel) (pa_cons (pv 1) pa_nil)) pa_nil)) (nomark _))
  (pss_one (ps_ret pe_non))
  pss_nil)
  (pss_cons (ps_set (i := 2) sc_number_of.nd rfl (Or.inl rfl) (pe_callTy call_int_str (by rfl) T.mg_int (by decide +kernel) (pa_cons (pv 0) pa_nil)))
  (pss_one (ps_ret (pe_ifExp (pt_cmpR op_le (pv 2) (pv 1) (nomark _)) (pv 2) pe_non))))))), ?_⟩
    walk_at "ss"
    refine ⟨x, rfl, rfl, trivial, ?_⟩
    have bad : ¬ (Txt.isascii x = true ∧ Txt.isdigit x = true) → numM x most = none := fun z => numM_none fun n n0 _ e => by
      obtain ⟨d1, d2, _⟩ := nS_digits n0
      rw [← e] at d1 d2
      exact z (digits_ascii d1 d2)
    refine ⟨_, rfl, ?_⟩
    cases ha : Txt.isascii x with
    | false =>
      refine iteT ?_
      walk_at "ss"
      rw [bad (fun z => by rw [ha] at z; exact nomatch z.1)] at k
      exact k
    | true =>
      refine iteF ?_
      walk_at "ss"
      refine ⟨x, rfl, rfl, trivial, ?_⟩
      refine ⟨_, rfl, ?_⟩
      cases hd : Txt.isdigit x with
      | false =>
        refine iteT ?_
        walk_at "ss"
        rw [bad (fun z => by rw [hd] at z; exact nomatch z.2)] at k
        exact k
      | true =>
        refine iteF ?_
        obtain ⟨d1, d2⟩ := ascii_digits ha hd
        walk_at "ss"
        refine w_cut (fun σ' H' => σ' = [some (.str x), some (.int most), none] ∧ H' = H ∧ ((tl x).head? = some 48 → tl x = [48])) ?_ ?_
        · walk_at "ss"
          refine ⟨x, _, rfl, rfl, ?_⟩
          refine ⟨_, rfl, ?_⟩
          have e0 : tl ("0" : Str) = [48] := by decide +kernel
          cases hz : Txt.startswith x "0" with
          | false =>
            refine iteF ?_
            refine iteF ?_
            walk_at "ss"
            exact ⟨rfl, rfl, fun z => by rw [(starts_zero x).mpr z] at hz; cases hz⟩
          | true =>
            refine iteT ?_
            walk_at "ss"
            refine w_ne rfl ?_
            refine ⟨_, rfl, ?_⟩
            by_cases hx0 : x = ("0" : Str)
            · rw [hx0, decide_eq_true rfl]
              refine iteF ?_
              walk_at "ss"
              exact ⟨rfl, rfl, fun _ => e0⟩
            · rw [show decide (V.str x = V.str ("0" : Str)) = false from decide_eq_false fun z => hx0 (V.str.inj z)]
              refine iteT ?_
              walk_at "ss"
              rw [numM_none (fun n n0 _ e => ?_)] at k
              · exact k
              · have h48 := (starts_zero x).mp hz
                rw [e] at h48
                have := (nS_digits n0).2.2 h48
                subst this
                exact hx0 (by rw [e]; decide +kernel)
        rintro σ' H' ⟨rfl, rfl, h48⟩
        obtain ⟨e1, e2⟩ := numM_digits d1 d2 h48 most
        walk_at "ss"
        refine ⟨x, rfl, sz (by omega : x.length ≤ 1000000), ?_⟩
        walk_at "ss"
        refine ⟨by omega, ?_⟩
        walk_at "ss"
        refine ⟨nS most, rfl, sz (Nat.le_trans (nS_ten h0 h1) (by decide)), ?_⟩
        walk_at "ss"
        refine ifd (fun hl => ?_) (fun hl => ?_)
        · walk_at "ss"
          rw [numM_none (fun n n0 n1 e => ?_)] at k
          · exact k
          · have := nS_len n0 n1
            rw [← e] at this
            omega
        · have hten := nS_ten h0 h1
          walk_at "ss"
          refine ⟨x, _, rfl, intText_digits d1 d2 (by omega), by omega, ?_⟩
          walk_at "ss"
          rw [e2] at k
          refine ifd (fun hm => ?_) (fun hm => ?_)
          · rw [if_pos hm] at k
            walk_at "ss"
            exact k
          · rw [if_neg hm] at k
            walk_at "ss"
            exact k
/-! ## the error -/
def okAt : V → Prop := fun v => ∃ n : Nat, v = .int (n : Int) ∧ n < 10 ^ 10
abbrev sp_MisreadError_init (a : Ad) : Sp := spXinit a.MisreadError "at" okAt
theorem ok_MisreadError_init (T : Txt w K mg a) : FnOk P w K mg base CX0 1 a.MisreadError_init a.fd_MisreadError_init ["self", "at"] (sp_MisreadError_init a) := by
  obtain ⟨ar, S⟩ := sc_MisreadError_init
  obtain rfl : P = _ := IsP.eq
  refine T.fn_MisreadError_init.ok T.ox_MisreadError S (fun vs H Q E h => ?_) rfl (fun cda cc A outer s H vs Q E hr h => ?_)
  · obtain ⟨_, _, _, rfl, _⟩ := h
    rfl
  · obtain ⟨B, e, v, rfl, hs, ⟨n, rfl, hn⟩, k⟩ := h
    refine ⟨e, _, _, rfl, hs.g0, (pa_cons (pe_joined (.cons pe_str (.cons (pe_fmt (pv 1)) .nil))) pa_nil), (pss_one (ps_ost (pv 0) (pv 1))), ?_⟩
    walk_at "ss"
    have hz : (Str.empty ++ ("misread at index " : Str)).length ≤ 100 := by decide +kernel
    refine w_js1 (Nat.le_trans hz (by decide)) ?_
    walk_at "ss"
    refine w_fmtI (by omega) ?_
    have hm : (Str.ofString (toString (n : Int))).length ≤ 2000 := Nat.le_trans (PyProof.Rows.toString_length_le (Int.natCast_nonneg n) (by decide) (show (n : Int) < 10 ^ 10 by omega)) (by decide)
    refine w_js1 ?_ ?_
    · rw [Str.length_append]
      exact sz (by omega)
    walk_at "ss"
    refine ⟨by simp, hs.g0, ?_⟩
    walk_at "ss"
    refine w_ost hs T.ox_MisreadError T.no_MisreadError_at fun dx H' hs' => ?_
    exact k _ _ hs'
/-! ## the reader -/
abbrev rdO (a : Ad) (dx : Addr) (x : Str) (i : Nat) : HO := .ins a.Reader dx [("text", .str x), ("at", .int (i : Int))]
/-- what a reading leaves: a value and the place behind it, or the fault -/
def RdEnd {α : Type} (a : Ad) (At : Hp → α → V → Prop) (r dx : Addr) (x : Str) (B : Hp) (R : List (Addr × HO)) (Q : VK) (E : XK) : Res α → Prop
  | .ok t l => ∀ B2 v H', Same B B2 → Hs B2 ((r, rdO a dx x l) :: R) H' → At B2 t v → Q v H'
  | .bad l => ∀ B2 d j H', Same B B2 → Hs B2 ((d, .xd [("at", .int (l : Int))]) :: (r, rdO a dx x j) :: R) H' → E (.ref a.MisreadError) (some d) H'
structure RdAt (a : Ad) (r dx : Addr) (x : Str) (i : Nat) (B H : Hp) : Prop where
  hs : Hs B [(r, rdO a dx x i)] H
  le : i ≤ x.length
  sz : x.length ≤ 20000
def atS (x s : Str) (i : Nat) : Bool := at_ (tl x) (tl s) i
def sp_Reader_init (a : Ad) : Sp := fun vs H Q _ => ∃ (B : Hp) (r dx : Addr) (x : Str), vs = [.ref r, .str x] ∧ Hs B [(r, .ins a.Reader dx [])] H ∧ ∀ H', Hs B [(r, rdO a dx x 0)] H' → Q .non H'
theorem ok_Reader_init (T : Txt w K mg a) : FnOk P w K mg base CX0 1 a.Reader_init a.fd_Reader_init ["self", "text"] (sp_Reader_init a) := by
  refine T.fn_Reader_init.ok sc_Reader_init (fun vs H Q E h => ?_) (fun cdv A outer s H vs Q E hr h => ?_)
  · obtain ⟨_, _, _, _, rfl, _⟩ := h
    rfl
  · obtain ⟨B, r, dx, x, rfl, hs, k⟩ := h
    have c1 := T.cl_Reader
    have n1 := T.na_Reader_text
    have n2 := T.na_Reader_at
    refine ⟨_, (pss_cons (ps_fldK (K := K) (pv 0) (pv 1))
  (pss_one (ps_fldK (K := K) (pv 0) pe_int))), ?_⟩
    walk_at "ss"
    exact k _ (by assumption)
def sp_Reader_skip (a : Ad) : Sp := fun vs H Q _ => ∃ (B : Hp) (r dx : Addr) (x s : Str) (i : Nat), vs = [.ref r, .str s] ∧ RdAt a r dx x i B H ∧
  ∀ H', Hs B [(r, rdO a dx x (if atS x s i = true then i + (tl s).length else i))] H' → Q (.bl (atS x s i)) H'
theorem ok_Reader_skip (T : Txt w K mg a) : FnOk P w K mg base CX0 1 a.Reader_skip a.fd_Reader_skip ["self", "sign"] (sp_Reader_skip a) := by
  refine T.fn_Reader_skip.ok sc_Reader_skip (fun vs H Q E h => ?_) (fun cdv A outer s H vs Q E hr h => ?_)
  · obtain ⟨_, _, _, _, _, _, rfl, _⟩ := h
    rfl
  · obtain ⟨B, r, dx, x, z, i, rfl, ⟨hs, hi, hz⟩, k⟩ := h
    have c1 := T.cl_Reader
    have n1 := T.na_Reader_text
    have n2 := T.na_Reader_at
    refine ⟨_, (pss_cons (ps_set (i := 2) sc_Reader_skip.nd rfl (Or.inl rfl) (pe_bmK (K := K) PySem.F.plainAttrs_str PySem.F.slot_str_startswith PySem.F.type_str_startswith mt_startswith3 (pe_fldK (K := K) (pv 0)) (pa_cons (pv 1) (pa_cons (pe_fldK (K := K) (pv 0)) pa_nil))))
  (C8.pss_cut (ps_if (pt_val (pv 2))
  (pss_one (ps_fldaugK (K := K) (pv 0) (pe_callB call_len_str (by rfl) T.mg_len PySem.boot_len (pa_cons (pv 1) pa_nil)) in_add))
  pss_nil)
  (pss_one (ps_ret (pv 2))))), ?_⟩
    walk_at "ss"
    refine ⟨rfl, ?_⟩
    walk_at "ss"
    refine ⟨x, z, (i : Int), rfl, rfl, ?_⟩
    rw [starts3 x z i hi]
    have hzl : atS x z i = true → z.length ≤ 20000 := fun h => by
      have := pre_len h
      rw [List.length_drop] at this
      have h1 := len_tl x
      have h2 := len_tl z
      omega
    rw [show pre (tl z) ((tl x).drop i) = atS x z i from rfl]
    walk_at "ss"
    refine w_cut (fun σ' H' => σ' = [some (.ref r), some (.str z), some (.bl (atS x z i))] ∧ Hs B [(r, rdO a dx x (if atS x z i = true then i + (tl z).length else i))] H') ?_ ?_
    · walk_at "ss"
      cases hb : atS x z i with
      | true =>
        refine iteT ?_
        walk_at "ss"
        refine ⟨z, rfl, sz (by have := hzl hb; omega), ?_⟩
        walk_at "ss"
        refine ⟨rfl, ?_⟩
        rw [if_pos rfl, ← len_tl z]
        assumption
      | false =>
        refine iteF ?_
        walk_at "ss"
        exact ⟨rfl, hs⟩
    · rintro σ' H' ⟨rfl, hs1⟩
      walk_at "ss"
      exact k _ hs1
/-- skip, as its callers see it -/
theorem w_skip {B H : Hp} {r dx : Addr} {x z : Str} {i : Nat} {Q : VK} {E : XK} (h : RdAt a r dx x i B H) (hn : tl z ≠ []) (q1 : atS x z i = true → ∀ H', RdAt a r dx x (i + (tl z).length) B H' → Q (.bl true) H') (q2 : atS x z i = false → ∀ H', RdAt a r dx x i B H' → Q (.bl false) H') : sp_Reader_skip a [.ref r, .str z] H Q E := by
  refine ⟨B, r, dx, x, z, i, rfl, h, fun H' hs' => ?_⟩
  cases hb : atS x z i with
  | true =>
    rw [hb, if_pos rfl] at hs'
    have := at_le hb hn
    exact q1 hb H' ⟨hs', by rw [len_tl x]; exact this, h.sz⟩
  | false =>
    rw [hb, if_neg (by decide)] at hs'
    exact q2 hb H' ⟨hs', h.le, h.sz⟩
def sp_Reader_expect (a : Ad) : Sp := fun vs H Q E => ∃ (B : Hp) (r dx : Addr) (x z : Str) (i : Nat), vs = [.ref r, .str z] ∧ tl z ≠ [] ∧ RdAt a r dx x i B H ∧
  (atS x z i = true → ∀ H', RdAt a r dx x (i + (tl z).length) B H' → Q .non H') ∧
  (atS x z i = false → ∀ d H', Hs B [(d, .xd [("at", .int (i : Int))]), (r, rdO a dx x i)] H' → E (.ref a.MisreadError) (some d) H')
theorem ok_Reader_expect (T : Txt w K mg a) : FnOk P w K mg base (CX P w) 3 a.Reader_expect a.fd_Reader_expect ["self", "sign"] (sp_Reader_expect a) := by
  have G_Reader_skip := ok_Reader_skip (P := P) (w := w) (base := base) T
  have G_MisreadError_init := ok_MisreadError_init (P := P) (w := w) (base := base) T
  refine T.fn_Reader_expect.okX sc_Reader_expect (fun vs H Q E h => ?_) (fun cdv A outer s H vs Q E hr h => ?_)
  · obtain ⟨_, _, _, _, _, _, rfl, _⟩ := h
    rfl
  · obtain ⟨B, r, dx, x, z, i, rfl, hn, h, k1, k2⟩ := h
    have c1 := T.cl_Reader
    have n2 := T.na_Reader_at
    have hs := h.hs
    have hi := h.le
    have hz := h.sz
    refine ⟨_, (pss_one (ps_if (pt_not (pt_val (pe_meth (pv 0) T.cl_Reader T.me_Reader_skip G_Reader_skip (hr.mono (by first | decide | omega)) T.bi_Reader_skip .nil pass0 (pa_cons (pv 1) pa_nil))))
  (pss_one (ps_raiseQ rfl (takes_of rfl rfl rfl rfl) (pmk_oex T.ox_MisreadError T.iC_MisreadError T.tI_MisreadError G_MisreadError_init (hr.mono (by first | decide | omega)) T.bi_MisreadError_init .nil pass0 rfl T.mg_MisreadError (pa_cons (pe_fldK (K := K) (pv 0)) pa_nil))))
  pss_nil)), ?_⟩
    walk_at "ss"
    refine w_skip h hn (fun hb H1 h1 => ?_) (fun hb H1 h1 => ?_)
    · refine ⟨_, rfl, iteF ?_⟩
      walk_at "ss"
      exact k1 hb _ h1
    · refine ⟨_, rfl, iteT ?_⟩
      clear hs
      have hs := h1.hs
      walk_at "ss"
      refine w_mkX hs ⟨i, rfl, by omega⟩ fun d H2 hs2 => ?_
      exact k2 hb d H2 hs2
theorem fld_some {x : List Nat} {i j : Nat} (hj : j < 5) (h : at_ x (tl (fldS j)) i = true) (no : ∀ k, k < j → at_ x (tl (fldS k)) i = false) : rFld x i = some j := by
  unfold rFld
  match j, hj, h, no with
  | 0, _, h, no => simp only [List.find?_cons, h]
  | 1, _, h, no => simp only [List.find?_cons, h, no 0 (by decide)]
  | 2, _, h, no => simp only [List.find?_cons, h, no 0 (by decide), no 1 (by decide)]
  | 3, _, h, no => simp only [List.find?_cons, h, no 0 (by decide), no 1 (by decide), no 2 (by decide)]
  | 4, _, h, no => simp only [List.find?_cons, h, no 0 (by decide), no 1 (by decide), no 2 (by decide), no 3 (by decide)]
theorem fld_none {x : List Nat} {i : Nat} (no : ∀ k, k < 5 → at_ x (tl (fldS k)) i = false) : rFld x i = none := by
  unfold rFld
  simp only [List.find?_cons, List.find?_nil, no 0 (by decide), no 1 (by decide), no 2 (by decide), no 3 (by decide), no 4 (by decide)]
def sp_Reader_field (a : Ad) : Sp := fun vs H Q E => ∃ (B : Hp) (r dx : Addr) (x : Str) (i : Nat), vs = [.ref r] ∧ RdAt a r dx x i B H ∧
  (∀ f, rFld (tl x) i = some f → ∀ H', RdAt a r dx x (i + (tl (fldS f)).length) B H' → Q (.str (fldS f)) H') ∧
  (rFld (tl x) i = none → ∀ d H', Hs B [(d, .xd [("at", .int (i : Int))]), (r, rdO a dx x i)] H' → E (.ref a.MisreadError) (some d) H')
theorem ok_Reader_field (T : Txt w K mg a) : FnOk P w K mg base (CX P w) 3 a.Reader_field a.fd_Reader_field ["self"] (sp_Reader_field a) := by
  have G_Reader_skip := ok_Reader_skip (P := P) (w := w) (base := base) T
  have G_MisreadError_init := ok_MisreadError_init (P := P) (w := w) (base := base) T
  refine T.fn_Reader_field.okX sc_Reader_field (fun vs H Q E h => ?_) (fun cdv A outer s H vs Q E hr h => ?_)
  · obtain ⟨_, _, _, _, _, rfl, _⟩ := h
    rfl
  · obtain ⟨B, r, dx, x, i, rfl, h, k1, k2⟩ := h
    have c1 := T.cl_Reader
    have n2 := T.na_Reader_at
    have hi := h.le
    have hz := h.sz
    refine ⟨_, (pss_cons (ps_for (passes_of rfl) rfl (pi_kkeys (K := K) (pe_glob (v := .ref a.K_FIELD_PLACES) rfl T.mg_FIELD_PLACES rfl)) (pg_name (i := 1) sc_Reader_field.nd rfl (Or.inl rfl))
  (pss_one (ps_if (pt_val (pe_meth (pv 0) T.cl_Reader T.me_Reader_skip G_Reader_skip (hr.mono (by first | decide | omega)) T.bi_Reader_skip .nil pass0 (pa_cons (pv 1) pa_nil)))
  (pss_one (ps_ret (pv 1)))
  pss_nil)))
  (pss_one (ps_raiseQ rfl (takes_of rfl rfl rfl rfl) (pmk_oex T.ox_MisreadError T.iC_MisreadError T.tI_MisreadError G_MisreadError_init (hr.mono (by first | decide | omega)) T.bi_MisreadError_init .nil pass0 rfl T.mg_MisreadError (pa_cons (pe_fldK (K := K) (pv 0)) pa_nil))))), ?_⟩
    walk_at "ss"
    refine w_forKK ?_
    walk_at "ss"
    refine w_kkR T.ky_FIELD_PLACES ?_
    refine for_kk (fun j σ H' => ∃ v1 : Option V, σ = [some (.ref r), v1] ∧ RdAt a r dx x i B H' ∧ ∀ k, k < j → at_ (tl x) (tl (fldS k)) i = false) ⟨_, rfl, h, fun k hk => by omega⟩ ?_ ?_
    · clear h
      rintro j z σ H1 hz1 ⟨v1, rfl, h, no⟩
      have hj : j < 5 := by
        have := (List.getElem?_eq_some_iff.mp hz1).1
        exact this
      have ez : z = fldS j := by
        match j, hj, hz1 with
        | 0, _, hz1 => cases hz1; rfl
        | 1, _, hz1 => cases hz1; rfl
        | 2, _, hz1 => cases hz1; rfl
        | 3, _, hz1 => cases hz1; rfl
        | 4, _, hz1 => cases hz1; rfl
      subst ez
      have hs := h.hs
      walk_at "ss"
      refine w_skip h fld_ne (fun hb H2 h2 => ?_) (fun hb H2 h2 => ?_)
      · refine ⟨_, rfl, iteT ?_⟩
        walk_at "ss"
        exact k1 j (fld_some hj hb no) H2 h2
      · refine ⟨_, rfl, iteF ?_⟩
        walk_at "ss"
        refine ⟨_, rfl, h2, fun k hk => ?_⟩
        by_cases hkj : k < j
        · exact no k hkj
        · obtain rfl : k = j := by omega
          exact hb
    · rintro σ H1 ⟨v1, rfl, h1, no⟩
      clear h
      have hs := h1.hs
      walk_at "ss"
      refine w_mkX hs ⟨i, rfl, by omega⟩ fun d H2 hs2 => ?_
      exact k2 (fld_none no) d H2 hs2
theorem dig_stop {l : List Nat} {k : Nat} (h2 : k ≤ 2) (hl : k ≤ l.length) (hd : ∀ c ∈ l.take k, isDg c = true) (hs : k = 2 ∨ k = l.length ∨ ∃ c, l[k]? = some c ∧ isDg c = false) : digW l = l.take k := by
  unfold digW
  match k, h2 with
  | 0, _ =>
    cases l with
    | nil => rfl
    | cons c l =>
      rcases hs with h | h | ⟨c', e, h⟩
      · cases h
      · cases h
      · cases e
        show (c :: l.take 1).takeWhile isDg = []
        simp [h]
  | 1, _ =>
    match l, hl with
    | [c], _ =>
      have := hd c (by simp)
      show [c].takeWhile isDg = [c]
      simp [this]
    | c :: c2 :: l, _ =>
      have h1 := hd c (by simp)
      rcases hs with h | h | ⟨c', e, h⟩
      · cases h
      · cases h
      · cases e
        show (c :: c2 :: l.take 0).takeWhile isDg = [c]
        simp [h1, h]
  | 2, _ =>
    match l, hl with
    | c :: c2 :: l, _ =>
      have h1 := hd c (by simp)
      have h2 := hd c2 (by simp)
      show (c :: c2 :: l.take 0).takeWhile isDg = c :: c2 :: l.take 0
      simp [h1, h2]
theorem dg_in (c : Nat) : decide (c ∈ ("0123456789" : Str).cps.toList) = isDg c := by
  have e : ("0123456789" : Str).cps.toList = [48, 49, 50, 51, 52, 53, 54, 55, 56, 57] := by decide +kernel
  rw [e]
  unfold isDg
  by_cases h : 48 ≤ c ∧ c ≤ 57
  · rw [decide_eq_true h.1, decide_eq_true h.2, decide_eq_true]
    · rfl
    · simp only [List.mem_cons, List.not_mem_nil, or_false]
      omega
  · rw [decide_eq_false]
    · by_cases h1 : 48 ≤ c
      · rw [decide_eq_true h1, decide_eq_false (fun z => h ⟨h1, z⟩)]
        rfl
      · rw [decide_eq_false h1]
        rfl
    · simp only [List.mem_cons, List.not_mem_nil, or_false]
      omega
theorem badW_num {y : Str} (hd : NumText.AllDigits (tl y)) (hl : (tl y).length ≤ 2) : numM y 99 = if badW (tl y) = true then none else some ((NumText.digitsVal (tl y) : Nat) : Int) := by
  by_cases hb : badW (tl y) = true
  · rw [if_pos hb]
    refine numM_none fun n n0 n1 e => ?_
    subst e
    obtain ⟨h1, h2, h3⟩ := nS_digits n0
    unfold badW at hb
    simp only [Bool.or_eq_true, decide_eq_true_eq, Bool.and_eq_true] at hb
    rcases hb with hb | ⟨hb, hb2⟩
    · exact h2 (List.length_eq_zero_iff.mp hb)
    · have := h3 hb2
      subst this
      have e0 : tl (nS 0) = [48] := by decide +kernel
      rw [e0] at hb
      cases hb
  · rw [if_neg hb]
    unfold badW at hb
    simp only [Bool.or_eq_true, decide_eq_true_eq, Bool.and_eq_true, not_or, not_and] at hb
    obtain ⟨b0, b2⟩ := hb
    have hne : tl y ≠ [] := fun z => b0 (by rw [z]; rfl)
    have h0 : (tl y).head? = some 48 → tl y = [48] := fun z => by
      have h1 : (tl y).length ≠ 2 := fun w => b2 w z
      match h : tl y, hne, hl, h1, z with
      | [c], _, _, _, z => cases z; rfl
      | [c, e], _, _, h1, _ => exact absurd rfl h1
      | _ :: _ :: _ :: _, _, hl, _, _ => simp at hl
    have hle : ((NumText.digitsVal (tl y) : Nat) : Int) ≤ 99 := by
      match h : tl y, hd, hl with
      | [], _, _ => exact by decide
      | [c], hd, _ =>
        have := hd c (by simp)
        show ((0 * 10 + (c - 48) : Nat) : Int) ≤ 99
        omega
      | [c, e], hd, _ =>
        have h1 := hd c (by simp)
        have h2 := hd e (by simp)
        show (((0 * 10 + (c - 48)) * 10 + (e - 48) : Nat) : Int) ≤ 99
        omega
      | _ :: _ :: _ :: _, _, hl => simp at hl
    have e := (numM_digits hd hne h0 99).2
    rw [if_pos hle] at e
    exact e
def sp_Reader_number (a : Ad) : Sp := fun vs H Q E => ∃ (B : Hp) (r dx : Addr) (x : Str) (i : Nat), vs = [.ref r] ∧ RdAt a r dx x i B H ∧
  (∀ n l, rNum (tl x) i = .ok n l → ∀ H', RdAt a r dx x l B H' → Q (.int n) H') ∧
  (∀ l, rNum (tl x) i = .bad l → ∀ d H' j, Hs B [(d, .xd [("at", .int (l : Int))]), (r, rdO a dx x j)] H' → E (.ref a.MisreadError) (some d) H')
theorem ok_Reader_number (T : Txt w K mg a) : FnOk P w K mg base (CX P w) 3 a.Reader_number a.fd_Reader_number ["self"] (sp_Reader_number a) := by
  have G_number_of := ok_number_of (P := P) (w := w) (base := base) T
  have G_MisreadError_init := ok_MisreadError_init (P := P) (w := w) (base := base) T
  refine T.fn_Reader_number.okX sc_Reader_number (fun vs H Q E h => ?_) (fun cdv A outer s H vs Q E hr h => ?_)
  · obtain ⟨_, _, _, _, _, rfl, _⟩ := h
    rfl
  · obtain ⟨B, r, dx, x, i, rfl, ⟨hs, hi, hz⟩, k1, k2⟩ := h
    have c1 := T.cl_Reader
    have n1 := T.na_Reader_text
    have n2 := T.na_Reader_at
    have hlx := len_tl x
    refine ⟨_, (pss_cons (ps_set (i := 1) sc_Reader_number.nd rfl (Or.inl rfl) (pe_fldK (K := K) (pv 0)))
  (C8.pss_cut (ps_while (passes_of rfl) (PW.pt (pw_and (pt_cmpR op_lt (pe_fldK (K := K) (pv 0)) (pe_callB (call_minQ rfl) (by rfl) T.mg_min (by decide +kernel) (pa_cons (pe_op op_add (pv 1) (pe_glob (v := .int 2) rfl (Exists.choose_spec T.mg_MOST_DIGITS) ⟨_, rfl⟩)) (pa_cons (pe_callB call_len_str (by rfl) T.mg_len PySem.boot_len (pa_cons (pe_fldK (K := K) (pv 0)) pa_nil)) pa_nil))) (nomark _)) (pw_and1 (pt_cmpR op_inS (pe_ix ix_str (pe_fldK (K := K) (pv 0)) (pe_fldK (K := K) (pv 0)) (fun _ _ => rfl)) (pe_glob (v := .str "0123456789") rfl (Exists.choose_spec T.mg_DIGITS) ⟨_, rfl⟩) (by rfl)))))
  (pss_one (ps_fldaugK (K := K) (pv 0) pe_int in_add)))
  (pss_cons (ps_set (i := 2) sc_Reader_number.nd rfl (Or.inl rfl) (pe_call G_number_of (hr.mono (by first | decide | omega)) rfl T.mg_number_of T.kp_number_of T.bi_number_of .nil pass0 (pa_cons (pe_slice sl_str (pe_fldK (K := K) (pv 0)) (po_some (pv 1)) (po_some (pe_fldK (K := K) (pv 0)))) (pa_cons (pe_glob (v := .int 99) rfl (Exists.choose_spec T.mg_MOST_WRITTEN) ⟨_, rfl⟩) pa_nil))))
  (pss_cons (ps_if (pt_cmpR op_isNQ (pv 2) pe_non (nomark _))
  (pss_one (ps_raiseQ rfl (takes_of rfl rfl rfl rfl) (pmk_oex T.ox_MisreadError T.iC_MisreadError T.tI_MisreadError G_MisreadError_init (hr.mono (by first | decide | omega)) T.bi_MisreadError_init .nil pass0 rfl T.mg_MisreadError (pa_cons (pv 1) pa_nil))))
  pss_nil)
  (pss_one (ps_ret (pv 2))))))), ?_⟩
    walk_at "ss"
    refine w_cut (fun σ H' => ∃ k : Nat, σ = [some (.ref r), some (.int (i : Int)), none] ∧ Hs B [(r, rdO a dx x (i + k))] H' ∧ i + k ≤ x.length ∧ k ≤ 2 ∧ digW ((tl x).drop i) = ((tl x).drop i).take k) ?_ ?_
    · refine w_while (fun m σ H' => ∃ k : Nat, m + k = 2 ∧ σ = [some (.ref r), some (.int (i : Int)), none] ∧ Hs B [(r, rdO a dx x (i + k))] H' ∧ i + k ≤ x.length ∧ ∀ c ∈ ((tl x).drop i).take k, isDg c = true) 2 ⟨0, rfl, rfl, hs, hi, fun c hc => by cases hc⟩ ?_
      clear hs
      rintro m σ H1 ⟨k, hm, rfl, hs, hk, hd⟩
      have fin : (k = 2 ∨ k = ((tl x).drop i).length ∨ ∃ c, ((tl x).drop i)[k]? = some c ∧ isDg c = false) → digW ((tl x).drop i) = ((tl x).drop i).take k := fun h => dig_stop (by omega) (by rw [List.length_drop]; omega) hd h
      walk_at "ss"
      refine ⟨x, rfl, sz (by omega), ?_⟩
      walk_at "ss"
      refine ifd (fun hlt => ?_) (fun hlt => ?_)
      · have hlt2 : i + k < x.length ∧ k < 2 := by
          split at hlt <;> omega
        obtain ⟨c, hc⟩ : ∃ c, (tl x)[i + k]? = some c := ⟨_, List.getElem?_eq_getElem (by omega)⟩
        have hc2 : ((tl x).drop i)[k]? = some c := by rw [List.getElem?_drop]; exact hc
        walk_at "ss"
        refine w_ixS (by omega) rfl hc ?_
        walk_at "ss"
        refine ⟨c, _, rfl, rfl, ?_⟩
        rw [dg_in]
        refine ⟨_, rfl, ?_⟩
        cases hg : isDg c with
        | true =>
          refine iteT (w_lpb ?_)
          walk_at "ss"
          rename_i H2 hs2
          refine ⟨m - 1, by omega, k + 1, by omega, rfl, hs2, by omega, fun e he => ?_⟩
          rw [List.take_add_one, hc2] at he
          rcases List.mem_append.mp he with he | he
          · exact hd e he
          · have : e = c := by simpa using he
            rw [this]
            exact hg
        | false =>
          refine iteF ?_
          exact ⟨k, rfl, hs, hk, by omega, fin (.inr (.inr ⟨c, hc2, hg⟩))⟩
      · refine iteF ?_
        refine ⟨k, rfl, hs, hk, by omega, fin ?_⟩
        rw [List.length_drop]
        split at hlt
        · exact .inr (.inl (by omega))
        · exact .inl (by omega)
    · clear hs
      rintro σ H1 ⟨k, rfl, hs, hk, hk2, hw⟩
      walk_at "ss"
      refine w_slS (by omega) ?_
      have ey : tl (cutS x (some (i : Int)) (some ((i + k : Nat) : Int))) = digW ((tl x).drop i) := by rw [tl_cut, hw]
      generalize cutS x (some (i : Int)) (some ((i + k : Nat) : Int)) = y at ey ⊢
      have hyl := digW_le ((tl x).drop i)
      have hyd := digW_all ((tl x).drop i)
      have hwl : (digW ((tl x).drop i)).length = k := by
        rw [hw, List.length_take, List.length_drop]
        omega
      rw [← ey] at hyl hyd
      have hly := len_tl y
      walk_at "ss"
      refine ⟨y, 99, rfl, by omega, by decide, by decide, ?_⟩
      rw [badW_num hyd hyl.1, ey]
      by_cases hb : badW (digW ((tl x).drop i)) = true
      · rw [if_pos hb]
        show gName 2 V.non _ _ _
        walk_at "ss"
        refine ifd (fun _ => ?_) (fun z => absurd rfl z)
        walk_at "ss"
        refine w_mkX hs ⟨i, rfl, by omega⟩ fun d H2 hs2 => ?_
        exact k2 i (by unfold rNum; rw [if_pos hb]) d H2 _ hs2
      · rw [if_neg hb]
        show gName 2 (V.int _) _ _ _
        walk_at "ss"
        refine ifd (fun z => by cases z) (fun _ => ?_)
        walk_at "ss"
        refine k1 _ _ (by unfold rNum; rw [if_neg hb]) H1 ⟨?_, ?_, hz⟩
        · rw [hwl]
          exact hs
        · rw [hwl]
          exact hk
def sp_Reader_end (a : Ad) : Sp := fun vs H Q E => ∃ (B : Hp) (r dx : Addr) (x : Str) (i : Nat), vs = [.ref r] ∧ RdAt a r dx x i B H ∧
  (x.length ≤ i → Q .non H) ∧ (i < x.length → ∀ d H', Hs B [(d, .xd [("at", .int (i : Int))]), (r, rdO a dx x i)] H' → E (.ref a.MisreadError) (some d) H')
theorem ok_Reader_end (T : Txt w K mg a) : FnOk P w K mg base (CX P w) 3 a.Reader_end a.fd_Reader_end ["self"] (sp_Reader_end a) := by
  have G_MisreadError_init := ok_MisreadError_init (P := P) (w := w) (base := base) T
  refine T.fn_Reader_end.okX sc_Reader_end (fun vs H Q E h => ?_) (fun cdv A outer s H vs Q E hr h => ?_)
  · obtain ⟨_, _, _, _, _, rfl, _⟩ := h
    rfl
  · obtain ⟨B, r, dx, x, i, rfl, ⟨hs, hi, hz⟩, k1, k2⟩ := h
    have c1 := T.cl_Reader
    have n1 := T.na_Reader_text
    have n2 := T.na_Reader_at
    refine ⟨_, (pss_one (ps_if (pt_cmpR op_lt (pe_fldK (K := K) (pv 0)) (pe_callB call_len_str (by rfl) T.mg_len PySem.boot_len (pa_cons (pe_fldK (K := K) (pv 0)) pa_nil)) (nomark _))
  (pss_one (ps_raiseQ rfl (takes_of rfl rfl rfl rfl) (pmk_oex T.ox_MisreadError T.iC_MisreadError T.tI_MisreadError G_MisreadError_init (hr.mono (by first | decide | omega)) T.bi_MisreadError_init .nil pass0 rfl T.mg_MisreadError (pa_cons (pe_fldK (K := K) (pv 0)) pa_nil))))
  pss_nil)), ?_⟩
    walk_at "ss"
    refine ⟨x, rfl, sz (by omega), ?_⟩
    walk_at "ss"
    refine ifd (fun hlt => ?_) (fun hlt => ?_)
    · walk_at "ss"
      refine w_mkX hs ⟨i, rfl, by omega⟩ fun d H2 hs2 => ?_
      exact k2 (by omega) d H2 hs2
    · walk_at "ss"
      exact k1 (by omega)
def sp_check_depth (a : Ad) : Sp := fun vs H Q E => ∃ (B : Hp) (r dx : Addr) (x : Str) (i : Nat) (n : Int), vs = [.ref r, .int n] ∧ RdAt a r dx x i B H ∧
  (n ≤ 20 → Q .non H) ∧ (20 < n → ∀ d H', Hs B [(d, .xd [("at", .int (i : Int))]), (r, rdO a dx x i)] H' → E (.ref a.MisreadError) (some d) H')
theorem ok_check_depth (T : Txt w K mg a) : FnOk P w K mg base (CX P w) 3 a.check_depth a.fd_check_depth ["reader", "around"] (sp_check_depth a) := by
  have G_MisreadError_init := ok_MisreadError_init (P := P) (w := w) (base := base) T
  refine T.fn_check_depth.okX sc_check_depth (fun vs H Q E h => ?_) (fun cdv A outer s H vs Q E hr h => ?_)
  · obtain ⟨_, _, _, _, _, _, rfl, _⟩ := h
    rfl
  · obtain ⟨B, r, dx, x, i, n, rfl, ⟨hs, hi, hz⟩, k1, k2⟩ := h
    have c1 := T.cl_Reader
    have n2 := T.na_Reader_at
    refine ⟨_, (pss_one (ps_if (pt_cmpR op_gt (pv 1) (pe_glob (v := .int 20) rfl (Exists.choose_spec T.mg_MOST_AROUND) ⟨_, rfl⟩) (nomark _))
  (pss_one (ps_raiseQ rfl (takes_of rfl rfl rfl rfl) (pmk_oex T.ox_MisreadError T.iC_MisreadError T.tI_MisreadError G_MisreadError_init (hr.mono (by first | decide | omega)) T.bi_MisreadError_init .nil pass0 rfl T.mg_MisreadError (pa_cons (pe_fldK (K := K) (pv 0)) pa_nil))))
  pss_nil)), ?_⟩
    walk_at "ss"
    refine ifd (fun hlt => ?_) (fun hlt => ?_)
    · walk_at "ss"
      refine w_mkX hs ⟨i, rfl, by omega⟩ fun d H2 hs2 => ?_
      exact k2 (by omega) d H2 hs2
    · walk_at "ss"
      exact k1 (by omega)
end
local macro_rules | `(tactic| walk_at "v") => `(tactic| first | exact v0 | exact v1 | exact v2 | exact v3 | exact v4 | exact v5 | exact v6 | exact v7 | exact v8)
local macro_rules | `(tactic| walk_at "vs") => `(tactic| first | exact st0 | exact st1 | exact st2 | exact st3 | exact st4 | exact st5 | exact st6 | exact st7 | exact st8)
local macro_rules | `(tactic| walk_at "s") => `(tactic| first
  | with_reducible refine w_dget ?_
  | ((with_reducible refine' w_dgetZ ?h ?nd ?hk ?hv ?_); (case h => walk_at "g"); (case nd => walk_at "nd"); (case hk => walk_at "k"); (case hv => walk_at "v"))
  | ((with_reducible refine' w_dputZ ?hs ?h ?nd ?hk ?hv ?hu ?hl ?_); (case hs => assumption); (case h => walk_at "p"); (case nd => walk_at "nd"); (case hk => walk_at "k"); (case hv => walk_at "v"); (case hu => walk_at "vs"); (case hl => decide); intro _ _)
  | with_reducible refine w_gsub ?_
  | with_reducible refine w_setD ?_
  | with_reducible refine w_disp ?_
  | ((with_reducible refine' w_newP ?hs ?_); (case hs => assumption); intro _ _ _)
  | with_reducible refine w_pcons ?_
  | with_reducible refine w_pnil ?_)

local macro_rules | `(tactic| walk_at "s") => `(tactic| first
  | with_reducible refine w_nget ?_
  | with_reducible refine w_nin ?_
  | with_reducible refine w_nnot ?_
  | with_reducible refine w_nput ?_
  | with_reducible refine w_ndel ?_
  | with_reducible refine w_npop ?_
  | ((with_reducible refine' w_nnew ?hs ?_); (case hs => assumption); intro _ _ _))

local macro_rules | `(tactic| walk_at "s") => `(tactic| first
  | with_reducible refine w_m0 ?_
  | with_reducible refine w_m1 ?_
  | with_reducible refine w_m0b ?_
  | with_reducible refine w_m1b ?_
  | with_reducible refine w_kget ?_
  | with_reducible refine w_nS ?_)

section
variable {P : Program} [IsP P] {w : World} {K : PySem.W.Frag} {mg : Str → Option Value} {base : Heap} {a : Ad}
/-! ## the reader, with what else is owned -/
structure RdR (a : Ad) (r dx : Addr) (x : Str) (i : Nat) (B : Hp) (R : List (Addr × HO)) (H : Hp) : Prop where
  hs : Hs B ((r, rdO a dx x i) :: R) H
  le : i ≤ x.length
  sz : x.length ≤ 20000
section
variable {B H : Hp} {r dx : Addr} {x z : Str} {i : Nat} {Q : VK} {E : XK} {R : List (Addr × HO)}
theorem RdR.fr (h : RdR a r dx x i B R H) : ∃ B', RdAt a r dx x i B' H ∧ (∀ j H', RdAt a r dx x j B' H' → RdR a r dx x j B R H') ∧ ∀ d j o H', Hs B' [(d, o), (r, rdO a dx x j)] H' → Hs B ((d, o) :: (r, rdO a dx x j) :: R) H' := by
  obtain ⟨B', _, h1, back⟩ := h.hs.frame1
  exact ⟨B', ⟨h1, h.le, h.sz⟩, fun j H' h2 => ⟨back _ _ h2.hs, h2.le, h2.sz⟩, fun d j o H' h2 => back _ _ h2⟩
theorem w_skipR (h : RdR a r dx x i B R H) (hn : tl z ≠ []) (q1 : atS x z i = true → ∀ H', RdR a r dx x (i + (tl z).length) B R H' → Q (.bl true) H') (q2 : atS x z i = false → ∀ H', RdR a r dx x i B R H' → Q (.bl false) H') : sp_Reader_skip a [.ref r, .str z] H Q E := by
  obtain ⟨B', h1, b1, _⟩ := h.fr
  exact w_skip h1 hn (fun e H' h2 => q1 e H' (b1 _ _ h2)) (fun e H' h2 => q2 e H' (b1 _ _ h2))
theorem w_expectR (h : RdR a r dx x i B R H) (hn : tl z ≠ []) (q1 : atS x z i = true → ∀ H', RdR a r dx x (i + (tl z).length) B R H' → Q .non H')
    (q2 : atS x z i = false → ∀ d H', Hs B ((d, .xd [("at", .int (i : Int))]) :: (r, rdO a dx x i) :: R) H' → E (.ref a.MisreadError) (some d) H') : sp_Reader_expect a [.ref r, .str z] H Q E := by
  obtain ⟨B', h1, b1, b2⟩ := h.fr
  exact ⟨B', r, dx, x, z, i, rfl, hn, h1, fun e H' h2 => q1 e H' (b1 _ _ h2), fun e d H' h2 => q2 e d H' (b2 _ _ _ _ h2)⟩
theorem w_fieldR (h : RdR a r dx x i B R H) (q1 : ∀ f, rFld (tl x) i = some f → ∀ H', RdR a r dx x (i + (tl (fldS f)).length) B R H' → Q (.str (fldS f)) H')
    (q2 : rFld (tl x) i = none → ∀ d H', Hs B ((d, .xd [("at", .int (i : Int))]) :: (r, rdO a dx x i) :: R) H' → E (.ref a.MisreadError) (some d) H') : sp_Reader_field a [.ref r] H Q E := by
  obtain ⟨B', h1, b1, b2⟩ := h.fr
  exact ⟨B', r, dx, x, i, rfl, h1, fun f e H' h2 => q1 f e H' (b1 _ _ h2), fun e d H' h2 => q2 e d H' (b2 _ _ _ _ h2)⟩
theorem w_numberR (h : RdR a r dx x i B R H) (q1 : ∀ n l, rNum (tl x) i = .ok n l → ∀ H', RdR a r dx x l B R H' → Q (.int n) H')
    (q2 : ∀ l, rNum (tl x) i = .bad l → ∀ d H' j, Hs B ((d, .xd [("at", .int (l : Int))]) :: (r, rdO a dx x j) :: R) H' → E (.ref a.MisreadError) (some d) H') : sp_Reader_number a [.ref r] H Q E := by
  obtain ⟨B', h1, b1, b2⟩ := h.fr
  exact ⟨B', r, dx, x, i, rfl, h1, fun n l e H' h2 => q1 n l e H' (b1 _ _ h2), fun l e d H' j h2 => q2 l e d H' j (b2 _ _ _ _ h2)⟩
theorem w_depthR {n : Int} (h : RdR a r dx x i B R H) (q1 : n ≤ 20 → Q .non H)
    (q2 : 20 < n → ∀ d H', Hs B ((d, .xd [("at", .int (i : Int))]) :: (r, rdO a dx x i) :: R) H' → E (.ref a.MisreadError) (some d) H') : sp_check_depth a [.ref r, .int n] H Q E := by
  obtain ⟨B', h1, b1, b2⟩ := h.fr
  exact ⟨B', r, dx, x, i, n, rfl, h1, q1, fun e d H' h2 => q2 e d H' (b2 _ _ _ _ h2)⟩
end
/-! ## a leaf -/
def sp_read_leaf (a : Ad) : Sp := fun vs H Q E => ∃ (B : Hp) (R : List (Addr × HO)) (r dx : Addr) (x : Str) (i : Nat) (p : Bool), vs = [.ref r, .str (lfN p), .str (lfS p)] ∧ RdR a r dx x i B R H ∧ RdEnd a TrAt r dx x B R Q E (rLeaf (tl x) p i)
theorem ok_read_leaf (T : Txt w K mg a) : FnOk P w K mg base (CX P w) 4 a.read_leaf a.fd_read_leaf ["reader", "name", "sign"] (sp_read_leaf a) := by
  have G_Reader_field := ok_Reader_field (P := P) (w := w) (base := base) T
  have G_Reader_expect := ok_Reader_expect (P := P) (w := w) (base := base) T
  have G_Reader_number := ok_Reader_number (P := P) (w := w) (base := base) T
  refine T.fn_read_leaf.okX sc_read_leaf (fun vs H Q E h => ?_) (fun cdv A outer s H vs Q E hr h => ?_)
  · obtain ⟨_, _, _, _, _, _, _, rfl, _⟩ := h
    rfl
  · obtain ⟨B, R, r, dx, x, i, p, rfl, h, k⟩ := h
    refine ⟨_, (pss_cons (ps_set (i := 3) sc_read_leaf.nd rfl (Or.inl rfl) (pe_meth0 (pv 0) T.cl_Reader T.me_Reader_field G_Reader_field (hr.mono (by first | decide | omega)) T.bi_Reader_field .nil (passes_call (takes_of rfl rfl rfl rfl) fun _ _ _ _ h => h)))
  (pss_cons (ps_expr (pe_meth (pv 0) T.cl_Reader T.me_Reader_expect G_Reader_expect (hr.mono (by first | decide | omega)) T.bi_Reader_expect .nil (passes_call (takes_of rfl rfl rfl rfl) fun _ _ _ _ h => h) (pa_cons (pv 2) pa_nil)))
  (pss_one (ps_ret (pe_tup (pa_cons (pv 1) (pa_cons (pv 3) (pa_cons (pe_meth0 (pv 0) T.cl_Reader T.me_Reader_number G_Reader_number (hr.mono (by first | decide | omega)) T.bi_Reader_number .nil (passes_call (takes_of rfl rfl rfl rfl) fun _ _ _ _ h => h)) pa_nil)))))))), ?_⟩
    unfold rLeaf at k
    have hs := h.hs
    walk_at "ss"
    refine w_fieldR h (fun f ef H1 h1 => ?_) (fun ef d H1 h1 => ?_)
    · rw [ef] at k
      dsimp only at k
      clear hs
      have hs := h1.hs
      walk_at "ss"
      refine w_expectR h1 lfS_ne (fun es H2 h2 => ?_) (fun es d H2 h2 => ?_)
      · rw [if_pos (show at_ (tl x) (tl (lfS p)) (i + (tl (fldS f)).length) = true from es)] at k
        clear hs
        have hs := h2.hs
        walk_at "ss"
        refine w_numberR h2 (fun n l en H3 h3 => ?_) (fun l en d H3 j h3 => ?_)
        · rw [en] at k
          clear hs
          have hs := h3.hs
          walk_at "ss"
          rename_i p5 H5 hs5
          obtain ⟨B5, s5, g5, hs6⟩ := frz_hs hs5
          exact k B5 _ _ s5 hs6 ⟨p5, rfl, g5⟩
        · rw [en] at k
          exact k B d j H3 (Same.refl _) h3
      · rw [if_neg (by rw [show at_ (tl x) (tl (lfS p)) (i + (tl (fldS f)).length) = false from es]; decide)] at k
        exact k B d _ H2 (Same.refl _) h2
    · rw [ef] at k
      exact k B d _ H1 (Same.refl _) h1
/-! ## parts in brackets -/
def LsAt (H : Hp) (ts : List Tr) (v : V) : Prop := ∃ (l : Addr) (us : List V), v = .ref l ∧ H l = some (.lst us) ∧ TrsAt H ts us
def sp_rd (a : Ad) (d : Nat) (p : Bool) : Sp := fun vs H Q E => ∃ (B : Hp) (R : List (Addr × HO)) (r dx : Addr) (x : Str) (i : Nat), vs = [.ref r, .int (21 - (d : Int))] ∧ RdR a r dx x i B R H ∧ RdEnd a TrAt r dx x B R Q E (rd (tl x) d p i)
def sp_read_parts (a : Ad) (f : Addr) (d : Nat) (p : Bool) : Sp := fun vs H Q E => ∃ (B : Hp) (R : List (Addr × HO)) (r dx : Addr) (x : Str) (i : Nat), vs = [.ref r, .int (21 - (d : Int)), .ref f] ∧ RdR a r dx x i B R H ∧ RdEnd a LsAt r dx x B R Q E (rRow (tl x) (rd (tl x) d p) i)
def cur (x : List Nat) (g : Nat → Res Tr) (n : Nat) (acc : List Tr) (i : Nat) : Res (List Tr) :=
  if at_ x [41] i = true then .ok acc (i + 1) else if acc = [] then rPart x g n [] i else if at_ x [44, 32] i = true then rPart x g n acc (i + 2) else .bad i
theorem cur_next {x : List Nat} {g : Nat → Res Tr} {n : Nat} {acc : List Tr} {i l : Nat} {t : Tr} (h : g i = .ok t l) : rPart x g (n + 1) acc i = cur x g n (acc ++ [t]) l := by
  unfold cur
  rw [if_neg (show ¬ (acc ++ [t] = []) by simp)]
  unfold rPart
  rw [h]
  cases n <;> rfl
theorem lit_par : tl ("(" : Str) = [40] ∧ tl (")" : Str) = [41] ∧ tl (", " : Str) = [44, 32] := by decide +kernel
theorem ok_read_parts (T : Txt w K mg a) {k : Nat} {f_read : Addr} {fd : FuncData} {d : Nat} {p : Bool} (hk : 3 ≤ k) (G_read : FnOk P w K mg base (CX P w) k f_read fd ["reader", "around"] (sp_rd a d p)) (kp_read : PySem.W.keepIn K (.ref f_read) = true) (bi_read : Binds K fd ["reader", "around"] []) :
    FnOk P w K mg base (CX P w) (k + 1) a.read_parts a.fd_read_parts ["reader", "around", "read"] (sp_read_parts a f_read d p) := by
  have G_Reader_skip := ok_Reader_skip (P := P) (w := w) (base := base) T
  have G_Reader_expect := ok_Reader_expect (P := P) (w := w) (base := base) T
  obtain ⟨l40, l41, l44⟩ := lit_par
  refine T.fn_read_parts.okX sc_read_parts (fun vs H Q E h => ?_) (fun cdv A outer s H vs Q E hr h => ?_)
  · obtain ⟨_, _, _, _, _, _, rfl, _⟩ := h
    rfl
  · obtain ⟨B, R, r, dx, x, i, rfl, h, kk⟩ := h
    refine ⟨_, (pss_cons (ps_expr (pe_meth (pv 0) T.cl_Reader T.me_Reader_expect G_Reader_expect (hr.mono (by first | decide | omega)) T.bi_Reader_expect .nil (passes_call (takes_of rfl rfl rfl rfl) fun _ _ _ _ h => h) (pa_cons pe_str pa_nil)))
  (pss_cons (ps_set (i := 3) sc_read_parts.nd rfl (Or.inl rfl) (pe_lst pa_nil))
  (pss_cons (ps_while (passes_of rfl) (pt_not (pt_val (pe_meth (pv 0) T.cl_Reader T.me_Reader_skip G_Reader_skip (hr.mono (by first | decide | omega)) T.bi_Reader_skip .nil pass0 (pa_cons pe_str pa_nil))))
  (C8.pss_cut (ps_if (pt_truthK (K := K) (pv 3))
  (pss_one (ps_expr (pe_meth (pv 0) T.cl_Reader T.me_Reader_expect G_Reader_expect (hr.mono (by first | decide | omega)) T.bi_Reader_expect .nil (passes_call (takes_of rfl rfl rfl rfl) fun _ _ _ _ h => h) (pa_cons (pe_glob (v := .str ", ") rfl (Exists.choose_spec T.mg_SEPARATOR) ⟨_, rfl⟩) pa_nil))))
  pss_nil)
  (pss_one (ps_expr (pe_bmK (K := K) PySem.F.plainAttrs_list PySem.F.slot_list_append PySem.F.type_list_append mt_append (pv 3) (pa_cons (pe_callL (i := 2) (f := f_read) G_read (hr.mono (by first | decide | omega)) rfl (by first | exact Or.inl rfl | exact Or.inr (Or.inl rfl) | exact Or.inr (Or.inr rfl)) kp_read bi_read .nil (passes_call (takes_of rfl rfl rfl rfl) fun _ _ _ _ h => h) (pa_cons (pv 0) (pa_cons (pv 1) pa_nil))) pa_nil))))))
  (pss_one (ps_ret (pv 3)))))), ?_⟩
    have hlx := len_tl x
    have hzx := h.sz
    unfold rRow at kk
    have hs := h.hs
    walk_at "ss"
    refine w_expectR h (by rw [l40]; simp) (fun e0 H1 h1 => ?_) (fun e0 d H1 h1 => ?_)
    · have e0 : at_ (tl x) [40] i = true := by rw [← l40]; exact e0
      rw [if_pos e0] at kk
      rw [l40] at h1
      clear hs h
      have hs := h1.hs
      walk_at "ss"
      rename_i l H2 hs2
      have hfree : ∀ B2 H', Same B B2 → Hs B2 ((l, .lst ([] : List V)) :: (r, rdO a dx x (i + 1)) :: R) H' → True := fun _ _ _ _ => trivial
      refine w_while (fun m σ H' => ∃ (B2 : Hp) (acc : List Tr) (us : List V) (j : Nat), σ = [some (.ref r), some (.int (21 - (d : Int))), some (.ref f_read), some (.ref l)] ∧ Same B B2 ∧ Hs B2 ((l, .lst us) :: (r, rdO a dx x j) :: R) H' ∧ TrsAt B2 acc us ∧ j ≤ x.length ∧ us.length ≤ j ∧ x.length < m + j ∧ (acc = [] ↔ us = []) ∧ RdEnd a LsAt r dx x B R Q E (cur (tl x) (rd (tl x) d p) m acc j)) x.length ⟨B, [], [], i + 1, rfl, Same.refl _, hs2, rfl, h1.le, Nat.zero_le _, by omega, ⟨fun _ => rfl, fun _ => rfl⟩, ?_⟩ ?_
      · unfold cur
        rw [if_pos (rfl : ([] : List Tr) = [])]
        exact kk
      · clear hs hs2 h1 kk hfree
        rintro m σ H3 ⟨B2, acc, us, j, rfl, sB, hs3, hts, hj, huj, hmj, hnil, kk⟩
        have hR : RdR a r dx x j B2 ((l, .lst us) :: R) H3 := ⟨hs3.m1, hj, hzx⟩
        walk_at "ss"
        refine w_skipR hR (by rw [l41]; simp) (fun e1 H4 h4 => ?_) (fun e1 H4 h4 => ?_)
        · have e1 : at_ (tl x) [41] j = true := by rw [← l41]; exact e1
          rw [l41] at h4
          refine ⟨_, rfl, ?_⟩
          refine iteF ?_
          have hs4 := h4.hs.m1
          obtain ⟨B5, s5, g5, hs5⟩ := frz_hs hs4
          unfold cur at kk
          rw [if_pos e1] at kk
          clear hs3 hR
          walk_at "ss"
          exact kk B5 _ _ (sB.trans s5) hs5 ⟨l, us, rfl, g5, hts.same s5⟩
        · have e1 : at_ (tl x) [41] j = false := by rw [← l41]; exact e1
          refine ⟨_, rfl, ?_⟩
          refine iteT (w_lpb ?_)
          unfold cur at kk
          rw [if_neg (by rw [e1]; decide)] at kk
          have hs4 := h4.hs.m1
          clear hs3 hR
          refine w_cut (fun σ' H' => ∃ j2, σ' = [some (.ref r), some (.int (21 - (d : Int))), some (.ref f_read), some (.ref l)] ∧ j ≤ j2 ∧ j2 ≤ x.length ∧ Hs B2 ((l, .lst us) :: (r, rdO a dx x j2) :: R) H' ∧ RdEnd a LsAt r dx x B R Q E (rPart (tl x) (rd (tl x) d p) m acc j2)) ?_ ?_
          · walk_at "ss"
            refine w_truL (SqL.of hs4.g0) ?_
            by_cases ha : acc = []
            · rw [if_pos ha] at kk
              rw [hnil.mp ha]
              refine iteF ?_
              walk_at "ss"
              rw [hnil.mp ha] at hs4
              rw [ha]
              exact ⟨j, rfl, Nat.le_refl _, hj, hs4, kk⟩
            · rw [if_neg ha] at kk
              have hne : us ≠ [] := fun z => ha (hnil.mpr z)
              rw [show us.isEmpty = false from List.isEmpty_eq_false_iff.mpr hne]
              refine iteT ?_
              walk_at "ss"
              refine w_expectR h4 (by rw [l44]; simp) (fun e2 H5 h5 => ?_) (fun e2 d2 H5 h5 => ?_)
              · have e2 : at_ (tl x) [44, 32] j = true := by rw [← l44]; exact e2
                rw [if_pos e2] at kk
                rw [l44] at h5
                clear hs4
                have hs5 := h5.hs.m1
                walk_at "ss"
                exact ⟨j + 2, rfl, by omega, h5.le, hs5, kk⟩
              · have e2 : at_ (tl x) [44, 32] j = false := by rw [← l44]; exact e2
                rw [if_neg (by rw [e2]; decide)] at kk
                exact kk B2 d2 j H5 sB h5.d2
          · clear hs4 h4
            rintro σ' H5 ⟨j2, rfl, hj2, hj3, hs5, kk⟩
            have hs5r := hs5.m1
            have hm : 0 < m := by omega
            obtain ⟨m, rfl⟩ : ∃ q, m = q + 1 := ⟨m - 1, by omega⟩
            walk_at "ss"
            refine ⟨rfl, ?_⟩
            walk_at "ss"
            refine ⟨B2, (l, .lst us) :: R, r, dx, x, j2, rfl, ⟨hs5r, hj3, hzx⟩, ?_⟩
            obtain ⟨g1, _⟩ := rd_good (tl x) d p j2 (by omega)
            cases hrd : rd (tl x) d p j2 with
            | bad b =>
              intro B6 d6 j6 H6 s6 h6
              unfold rPart at kk
              rw [hrd] at kk
              exact kk B6 d6 j6 H6 (sB.trans s6) h6.d2
            | ok t b =>
              rw [cur_next hrd] at kk
              rw [hrd] at g1
              obtain ⟨g1, g2, _⟩ := g1
              intro B6 v H6 s6 h6 hv
              clear hs5 hs5r
              have hs6 := h6.m1
              walk_at "ss"
              rename_i H7 hs7
              refine ⟨m, by omega, B6, acc ++ [t], us ++ [v], b, rfl, sB.trans s6, hs7, TrsAt.snoc hv (hts.same s6), by omega, ?_, by omega, ⟨fun z => ?_, fun z => ?_⟩, kk⟩
              · rw [List.length_append]
                show us.length + 1 ≤ b
                omega
              · simp at z
              · simp at z
    · have e0 : at_ (tl x) [40] i = false := by rw [← l40]; exact e0
      rw [if_neg (by rw [e0]; decide)] at kk
      exact kk B d _ H1 (Same.refl _) h1
end
local macro_rules | `(tactic| walk_at "v") => `(tactic| first | exact v0 | exact v1 | exact v2 | exact v3 | exact v4 | exact v5 | exact v6 | exact v7 | exact v8)
local macro_rules | `(tactic| walk_at "vs") => `(tactic| first | exact st0 | exact st1 | exact st2 | exact st3 | exact st4 | exact st5 | exact st6 | exact st7 | exact st8)
local macro_rules | `(tactic| walk_at "s") => `(tactic| first
  | with_reducible refine w_dget ?_
  | ((with_reducible refine' w_dgetZ ?h ?nd ?hk ?hv ?_); (case h => walk_at "g"); (case nd => walk_at "nd"); (case hk => walk_at "k"); (case hv => walk_at "v"))
  | ((with_reducible refine' w_dputZ ?hs ?h ?nd ?hk ?hv ?hu ?hl ?_); (case hs => assumption); (case h => walk_at "p"); (case nd => walk_at "nd"); (case hk => walk_at "k"); (case hv => walk_at "v"); (case hu => walk_at "vs"); (case hl => decide); intro _ _)
  | with_reducible refine w_gsub ?_
  | with_reducible refine w_setD ?_
  | with_reducible refine w_disp ?_
  | ((with_reducible refine' w_newP ?hs ?_); (case hs => assumption); intro _ _ _)
  | with_reducible refine w_pcons ?_
  | with_reducible refine w_pnil ?_)

local macro_rules | `(tactic| walk_at "s") => `(tactic| first
  | with_reducible refine w_nget ?_
  | with_reducible refine w_nin ?_
  | with_reducible refine w_nnot ?_
  | with_reducible refine w_nput ?_
  | with_reducible refine w_ndel ?_
  | with_reducible refine w_npop ?_
  | ((with_reducible refine' w_nnew ?hs ?_); (case hs => assumption); intro _ _ _))

local macro_rules | `(tactic| walk_at "s") => `(tactic| first
  | with_reducible refine w_m0 ?_
  | with_reducible refine w_m1 ?_
  | with_reducible refine w_m0b ?_
  | with_reducible refine w_m1b ?_
  | with_reducible refine w_kget ?_
  | with_reducible refine w_nS ?_)

section
variable {P : Program} [IsP P] {w : World} {K : PySem.W.Frag} {mg : Str → Option Value} {base : Heap} {a : Ad}
/-! ## tests and policies read -/
theorem w_ixd {H : Hp} {Q : VK} {p : Addr} {z : Str} {v : V} (h : KDct K w p z v) (q : Q v H) : rIxD K w (.ref p) (.str z) H Q := ⟨p, z, v, rfl, rfl, h, q⟩
theorem fn_FX {CX : CXT} {k : Nat} {f : Addr} {fd : FuncData} {ps : List Str} : FnOk P w K mg base CX k f fd ps spF := ⟨fun _ _ _ _ h => h.elim, fun _ _ _ _ _ _ _ _ _ _ _ _ _ h => h.elim⟩
theorem lit_sg : tl ("!" : Str) = [33] ∧ tl ("&" : Str) = [38] ∧ tl ("|" : Str) = [124] ∧ tl ("[" : Str) = [91] ∧ tl ("]" : Str) = [93] ∧ tl ("*" : Str) = [42] ∧ tl ("+" : Str) = [43] ∧ tl (";" : Str) = [59] := by decide +kernel
theorem around_eq (d : Nat) : (21 - ((d + 1 : Nat) : Int)) + 1 = 21 - (d : Int) := by omega
theorem RdEnd.map {α β : Type} {At : Hp → α → V → Prop} {At2 : Hp → β → V → Prop} {f : α → β} {r dx : Addr} {x : Str} {B : Hp} {R : List (Addr × HO)} {Q Q2 : VK} {E : XK} {res : Res α} (h : RdEnd a At2 r dx x B R Q E (res.map f))
    (q : ∀ t l, res = .ok t l → (∀ B2 v H', Same B B2 → Hs B2 ((r, rdO a dx x l) :: R) H' → At2 B2 (f t) v → Q v H') → ∀ B2 v H', Same B B2 → Hs B2 ((r, rdO a dx x l) :: R) H' → At B2 t v → Q2 v H') : RdEnd a At r dx x B R Q2 E res := by
  cases res with
  | bad l => exact h
  | ok t l => exact q t l rfl h
theorem ok_read_test (T : Txt w K mg a) : ∀ d : Nat, FnOk P w K mg base (CX P w) (2 * d + 5) a.read_test a.fd_read_test ["reader", "around"] (sp_rd a d false) := by
  have G_Reader_skip := ok_Reader_skip (P := P) (w := w) (base := base) T
  have G_check_depth := ok_check_depth (P := P) (w := w) (base := base) T
  have G_read_leaf := ok_read_leaf (P := P) (w := w) (base := base) T
  obtain ⟨l33, l38, l124, _⟩ := lit_sg
  intro d
  induction d with
  | zero =>
    have G_read_test : FnOk P w K mg base (CX P w) 0 a.read_test a.fd_read_test ["reader", "around"] spF := fn_FX
    have G_read_parts : FnOk P w K mg base (CX P w) 0 a.read_parts a.fd_read_parts ["reader", "around", "read"] spF := fn_FX
    refine T.fn_read_test.okX sc_read_test (fun vs H Q E h => ?_) (fun cdv A outer s H vs Q E hr h => ?_)
    · obtain ⟨_, _, _, _, _, _, rfl, _⟩ := h
      rfl
    · obtain ⟨B, R, r, dx, x, i, rfl, h, kk⟩ := h
      refine ⟨_, (pss_cons (ps_expr (pe_call G_check_depth (hr.mono (by first | decide | omega)) rfl T.mg_check_depth T.kp_check_depth T.bi_check_depth .nil (passes_call (takes_of rfl rfl rfl rfl) fun _ _ _ _ h => h) (pa_cons (pv 0) (pa_cons (pv 1) pa_nil))))
  (pss_cons (ps_if (pt_val (pe_meth (pv 0) T.cl_Reader T.me_Reader_skip G_Reader_skip (hr.mono (by first | decide | omega)) T.bi_Reader_skip .nil pass0 (pa_cons pe_str pa_nil)))
  (pss_one (ps_ret (pe_tup (pa_cons pe_str (pa_cons (pe_call G_read_test (hr.mono (by first | decide | omega)) rfl T.mg_read_test T.kp_read_test T.bi_read_test .nil (passes_call (takes_of rfl rfl rfl rfl) fun _ _ _ _ h => h) (pa_cons (pv 0) (pa_cons (pe_op op_add (pv 1) pe_int) pa_nil))) pa_nil)))))
  pss_nil)
  (pss_cons (ps_for (passes_of rfl) rfl (pi_kkeys (K := K) (pe_glob (v := .ref a.K_TEST_SIGNS) rfl T.mg_TEST_SIGNS rfl)) (pg_name (i := 2) sc_read_test.nd rfl (Or.inl rfl))
  (pss_one (ps_if (pt_val (pe_meth (pv 0) T.cl_Reader T.me_Reader_skip G_Reader_skip (hr.mono (by first | decide | omega)) T.bi_Reader_skip .nil pass0 (pa_cons (pe_ix (ix_kdictK (K := K) (w := w)) (pe_glob (v := .ref a.K_TEST_SIGNS) rfl T.mg_TEST_SIGNS rfl) (pv 2) (fun _ _ => rfl)) pa_nil)))
  (pss_one (ps_ret (pe_tup (pa_cons (pv 2) (pa_cons (pe_call G_read_parts (hr.mono (by first | decide | omega)) rfl T.mg_read_parts T.kp_read_parts T.bi_read_parts .nil (passes_call (takes_of rfl rfl rfl rfl) fun _ _ _ _ h => h) (pa_cons (pv 0) (pa_cons (pe_op op_add (pv 1) pe_int) (pa_cons (pe_glob (v := .ref a.read_test) rfl T.mg_read_test rfl) pa_nil)))) pa_nil)))))
  pss_nil)))
  (pss_one (ps_ret (pe_call G_read_leaf (hr.mono (by first | decide | omega)) rfl T.mg_read_leaf T.kp_read_leaf T.bi_read_leaf .nil (passes_call (takes_of rfl rfl rfl rfl) fun _ _ _ _ h => h) (pa_cons (pv 0) (pa_cons pe_str (pa_cons (pe_glob (v := .str " = ") rfl (Exists.choose_spec T.mg_SIGN_OF_IS) ⟨_, rfl⟩) pa_nil))))))))), ?_⟩
      have hs := h.hs
      walk_at "ss"
      refine w_depthR h (fun z => absurd z (by decide)) (fun _ d2 H2 h2 => ?_)
      exact kk B d2 i H2 (Same.refl _) h2
  | succ d ih =>
    have G_read_test := ih
    have G_read_parts := ok_read_parts (P := P) (w := w) (base := base) T (by omega) ih T.kp_read_test T.bi_read_test
    refine T.fn_read_test.okX sc_read_test (fun vs H Q E h => ?_) (fun cdv A outer s H vs Q E hr h => ?_)
    · obtain ⟨_, _, _, _, _, _, rfl, _⟩ := h
      rfl
    · obtain ⟨B, R, r, dx, x, i, rfl, h, kk⟩ := h
      refine ⟨_, (pss_cons (ps_expr (pe_call G_check_depth (hr.mono (by first | decide | omega)) rfl T.mg_check_depth T.kp_check_depth T.bi_check_depth .nil (passes_call (takes_of rfl rfl rfl rfl) fun _ _ _ _ h => h) (pa_cons (pv 0) (pa_cons (pv 1) pa_nil))))
  (pss_cons (ps_if (pt_val (pe_meth (pv 0) T.cl_Reader T.me_Reader_skip G_Reader_skip (hr.mono (by first | decide | omega)) T.bi_Reader_skip .nil pass0 (pa_cons pe_str pa_nil)))
  (pss_one (ps_ret (pe_tup (pa_cons pe_str (pa_cons (pe_call G_read_test (hr.mono (by first | decide | omega)) rfl T.mg_read_test T.kp_read_test T.bi_read_test .nil (passes_call (takes_of rfl rfl rfl rfl) fun _ _ _ _ h => h) (pa_cons (pv 0) (pa_cons (pe_op op_add (pv 1) pe_int) pa_nil))) pa_nil)))))
  pss_nil)
  (pss_cons (ps_for (passes_of rfl) rfl (pi_kkeys (K := K) (pe_glob (v := .ref a.K_TEST_SIGNS) rfl T.mg_TEST_SIGNS rfl)) (pg_name (i := 2) sc_read_test.nd rfl (Or.inl rfl))
  (pss_one (ps_if (pt_val (pe_meth (pv 0) T.cl_Reader T.me_Reader_skip G_Reader_skip (hr.mono (by first | decide | omega)) T.bi_Reader_skip .nil pass0 (pa_cons (pe_ix (ix_kdictK (K := K) (w := w)) (pe_glob (v := .ref a.K_TEST_SIGNS) rfl T.mg_TEST_SIGNS rfl) (pv 2) (fun _ _ => rfl)) pa_nil)))
  (pss_one (ps_ret (pe_tup (pa_cons (pv 2) (pa_cons (pe_call G_read_parts (hr.mono (by first | decide | omega)) rfl T.mg_read_parts T.kp_read_parts T.bi_read_parts .nil (passes_call (takes_of rfl rfl rfl rfl) fun _ _ _ _ h => h) (pa_cons (pv 0) (pa_cons (pe_op op_add (pv 1) pe_int) (pa_cons (pe_glob (v := .ref a.read_test) rfl T.mg_read_test rfl) pa_nil)))) pa_nil)))))
  pss_nil)))
  (pss_one (ps_ret (pe_call G_read_leaf (hr.mono (by first | decide | omega)) rfl T.mg_read_leaf T.kp_read_leaf T.bi_read_leaf .nil (passes_call (takes_of rfl rfl rfl rfl) fun _ _ _ _ h => h) (pa_cons (pv 0) (pa_cons pe_str (pa_cons (pe_glob (v := .str " = ") rfl (Exists.choose_spec T.mg_SIGN_OF_IS) ⟨_, rfl⟩) pa_nil))))))))), ?_⟩
      unfold rd at kk
      have hs := h.hs
      have hd0 : 21 - ((d + 1 : Nat) : Int) ≤ 20 := by omega
      have hae := around_eq d
      generalize 21 - ((d + 1 : Nat) : Int) = ar at hd0 hae ⊢
      walk_at "ss"
      refine w_depthR h (fun _ => ?_) (fun z => absurd z (by omega))
      walk_at "ss"
      refine w_skipR h (by rw [l33]; simp) (fun e1 H1 h1 => ?_) (fun e1 H1 h1 => ?_)
      · have e1 : at_ (tl x) [33] i = true := by rw [← l33]; exact e1
        rw [if_pos e1] at kk
        rw [l33] at h1
        clear hs h
        have hs := h1.hs
        refine ⟨_, rfl, iteT ?_⟩
        walk_at "ss"
        refine ⟨B, R, r, dx, x, i + 1, by rw [hae]; rfl, h1, ?_⟩
        refine kk.map fun t l et kk B2 v H2 s2 h2 hv => ?_
        clear hs h1
        walk_at "ss"
        rename_i p5 H5 hs5
        obtain ⟨B5, s5, g5, hs6⟩ := frz_hs hs5
        exact kk B5 _ _ (s2.trans s5) hs6 ⟨p5, v, rfl, g5, hv.same s5⟩
      · have e1 : at_ (tl x) [33] i = false := by rw [← l33]; exact e1
        rw [if_neg (by rw [e1]; decide)] at kk
        clear hs h
        have hs := h1.hs
        refine ⟨_, rfl, iteF ?_⟩
        walk_at "ss"
        refine w_forKK ?_
        walk_at "ss"
        refine w_kkR T.ky_TEST_SIGNS ?_
        have sg : ∀ j z, (["all", "any"] : List Str)[j]? = some z → ∃ k : Bool, z = rwN false k ∧ KDct K w a.K_TEST_SIGNS z (.str (rwS false k)) ∧ j = (if k then 1 else 0) := by
          intro j z hz
          match j, hz with
          | 0, hz => cases hz; exact ⟨false, rfl, T.kd_TEST_SIGNS_all, rfl⟩
          | 1, hz => cases hz; exact ⟨true, rfl, T.kd_TEST_SIGNS_any, rfl⟩
        refine for_kk (fun j σ H' => ∃ v2 : Option V, σ = [some (.ref r), some (.int ar), v2] ∧ RdR a r dx x i B R H' ∧ (0 < j → at_ (tl x) [38] i = false) ∧ (1 < j → at_ (tl x) [124] i = false)) ⟨_, rfl, h1, fun z => absurd z (by decide), fun z => absurd z (by decide)⟩ ?_ ?_
        · clear hs h1
          rintro j z σ H3 hz ⟨v2, rfl, h3, n1, n2⟩
          obtain ⟨k, rfl, hkd, rfl⟩ := sg j z hz
          have hs := h3.hs
          have hc : tl (rwS false k) = [if k then 124 else 38] := by cases k <;> assumption
          walk_at "ss"
          refine w_ixd hkd ?_
          walk_at "ss"
          refine w_skipR h3 (by rw [hc]; simp) (fun e2 H4 h4 => ?_) (fun e2 H4 h4 => ?_)
          · have e2 : at_ (tl x) [if k then 124 else 38] i = true := by rw [← hc]; exact e2
            have kk2 : RdEnd a TrAt r dx x B R Q E ((rRow (tl x) (rd (tl x) d false) (i + 1)).map (.rw false k)) := by
              cases k with
              | false =>
                rw [if_pos (show at_ (tl x) [38] i = true from e2)] at kk
                exact kk
              | true =>
                rw [if_neg (by rw [n1 (by decide)]; decide), if_pos (show at_ (tl x) [124] i = true from e2)] at kk
                exact kk
            rw [hc] at h4
            clear hs h3 kk
            have hs := h4.hs
            refine ⟨_, rfl, iteT ?_⟩
            walk_at "ss"
            refine ⟨B, R, r, dx, x, i + 1, by rw [hae]; rfl, h4, ?_⟩
            refine kk2.map fun t l et kk B2 v H2 s2 h2 hv => ?_
            obtain ⟨lr, us, rfl, hl, hts⟩ := hv
            clear hs h4
            walk_at "ss"
            rename_i p5 H5 hs5
            obtain ⟨B5, s5, g5, hs6⟩ := frz_hs hs5
            exact kk B5 _ _ (s2.trans s5) hs6 ⟨p5, lr, us, rfl, g5, s5 _ _ hl, hts.same s5⟩
          · have e2 : at_ (tl x) [if k then 124 else 38] i = false := by rw [← hc]; exact e2
            refine ⟨_, rfl, iteF ?_⟩
            walk_at "ss"
            refine ⟨_, rfl, h4, fun _ => ?_, fun z => ?_⟩
            · cases k with
              | false => exact e2
              | true => exact n1 (by decide)
            · cases k with
              | false => exact absurd z (by decide)
              | true => exact e2
        · clear hs h1
          rintro σ H3 ⟨v2, rfl, h3, n1, n2⟩
          have n1 := n1 (by decide)
          have n2 := n2 (by decide)
          rw [if_neg (by rw [n1]; decide), if_neg (by rw [n2]; decide)] at kk
          have hs := h3.hs
          walk_at "ss"
          exact ⟨B, R, r, dx, x, i, false, rfl, h3, kk⟩
theorem ok_read_part (T : Txt w K mg a) : ∀ d : Nat, FnOk P w K mg base (CX P w) (2 * d + 6) a.read_part a.fd_read_part ["reader", "around"] (sp_rd a d true) := by
  have G_Reader_skip := ok_Reader_skip (P := P) (w := w) (base := base) T
  have G_check_depth := ok_check_depth (P := P) (w := w) (base := base) T
  have G_read_leaf := ok_read_leaf (P := P) (w := w) (base := base) T
  have G_Reader_expect := ok_Reader_expect (P := P) (w := w) (base := base) T
  obtain ⟨_, _, _, l91, l93, l42, l43, l59⟩ := lit_sg
  intro d
  induction d with
  | zero =>
    have G_read_test : FnOk P w K mg base (CX P w) 0 a.read_test a.fd_read_test ["reader", "around"] spF := fn_FX
    have G_read_part : FnOk P w K mg base (CX P w) 0 a.read_part a.fd_read_part ["reader", "around"] spF := fn_FX
    have G_read_parts : FnOk P w K mg base (CX P w) 0 a.read_parts a.fd_read_parts ["reader", "around", "read"] spF := fn_FX
    refine T.fn_read_part.okX sc_read_part (fun vs H Q E h => ?_) (fun cdv A outer s H vs Q E hr h => ?_)
    · obtain ⟨_, _, _, _, _, _, rfl, _⟩ := h
      rfl
    · obtain ⟨B, R, r, dx, x, i, rfl, h, kk⟩ := h
      refine ⟨_, (pss_cons (ps_expr (pe_call G_check_depth (hr.mono (by first | decide | omega)) rfl T.mg_check_depth T.kp_check_depth T.bi_check_depth .nil (passes_call (takes_of rfl rfl rfl rfl) fun _ _ _ _ h => h) (pa_cons (pv 0) (pa_cons (pv 1) pa_nil))))
  (pss_cons (ps_if (pt_val (pe_meth (pv 0) T.cl_Reader T.me_Reader_skip G_Reader_skip (hr.mono (by first | decide | omega)) T.bi_Reader_skip .nil pass0 (pa_cons pe_str pa_nil)))
  (pss_cons (ps_set (i := 2) sc_read_part.nd rfl (Or.inl rfl) (pe_call G_read_test (hr.mono (by first | decide | omega)) rfl T.mg_read_test T.kp_read_test T.bi_read_test .nil (passes_call (takes_of rfl rfl rfl rfl) fun _ _ _ _ h => h) (pa_cons (pv 0) (pa_cons (pe_op op_add (pv 1) pe_int) pa_nil))))
  (pss_cons (ps_expr (pe_meth (pv 0) T.cl_Reader T.me_Reader_expect G_Reader_expect (hr.mono (by first | decide | omega)) T.bi_Reader_expect .nil (passes_call (takes_of rfl rfl rfl rfl) fun _ _ _ _ h => h) (pa_cons pe_str pa_nil)))
  (pss_one (ps_ret (pe_tup (pa_cons pe_str (pa_cons (pv 2) pa_nil)))))))
  pss_nil)
  (pss_cons (ps_if (pt_val (pe_meth (pv 0) T.cl_Reader T.me_Reader_skip G_Reader_skip (hr.mono (by first | decide | omega)) T.bi_Reader_skip .nil pass0 (pa_cons pe_str pa_nil)))
  (pss_one (ps_ret (pe_tup (pa_cons pe_str (pa_cons (pe_call G_read_part (hr.mono (by first | decide | omega)) rfl T.mg_read_part T.kp_read_part T.bi_read_part .nil (passes_call (takes_of rfl rfl rfl rfl) fun _ _ _ _ h => h) (pa_cons (pv 0) (pa_cons (pe_op op_add (pv 1) pe_int) pa_nil))) pa_nil)))))
  pss_nil)
  (pss_cons (ps_for (passes_of rfl) rfl (pi_kkeys (K := K) (pe_glob (v := .ref a.K_POLICY_SIGNS) rfl T.mg_POLICY_SIGNS rfl)) (pg_name (i := 3) sc_read_part.nd rfl (Or.inl rfl))
  (pss_one (ps_if (pt_val (pe_meth (pv 0) T.cl_Reader T.me_Reader_skip G_Reader_skip (hr.mono (by first | decide | omega)) T.bi_Reader_skip .nil pass0 (pa_cons (pe_ix (ix_kdictK (K := K) (w := w)) (pe_glob (v := .ref a.K_POLICY_SIGNS) rfl T.mg_POLICY_SIGNS rfl) (pv 3) (fun _ _ => rfl)) pa_nil)))
  (pss_one (ps_ret (pe_tup (pa_cons (pv 3) (pa_cons (pe_call G_read_parts (hr.mono (by first | decide | omega)) rfl T.mg_read_parts T.kp_read_parts T.bi_read_parts .nil (passes_call (takes_of rfl rfl rfl rfl) fun _ _ _ _ h => h) (pa_cons (pv 0) (pa_cons (pe_op op_add (pv 1) pe_int) (pa_cons (pe_glob (v := .ref a.read_part) rfl T.mg_read_part rfl) pa_nil)))) pa_nil)))))
  pss_nil)))
  (pss_one (ps_ret (pe_call G_read_leaf (hr.mono (by first | decide | omega)) rfl T.mg_read_leaf T.kp_read_leaf T.bi_read_leaf .nil (passes_call (takes_of rfl rfl rfl rfl) fun _ _ _ _ h => h) (pa_cons (pv 0) (pa_cons pe_str (pa_cons (pe_glob (v := .str " := ") rfl (Exists.choose_spec T.mg_SIGN_OF_SET) ⟨_, rfl⟩) pa_nil)))))))))), ?_⟩
      have hs := h.hs
      walk_at "ss"
      refine w_depthR h (fun z => absurd z (by decide)) (fun _ d2 H2 h2 => ?_)
      exact kk B d2 i H2 (Same.refl _) h2
  | succ d ih =>
    have G_read_test := ok_read_test (P := P) (w := w) (base := base) T d
    have G_read_part := ih
    have G_read_parts := ok_read_parts (P := P) (w := w) (base := base) T (by omega) ih T.kp_read_part T.bi_read_part
    refine T.fn_read_part.okX sc_read_part (fun vs H Q E h => ?_) (fun cdv A outer s H vs Q E hr h => ?_)
    · obtain ⟨_, _, _, _, _, _, rfl, _⟩ := h
      rfl
    · obtain ⟨B, R, r, dx, x, i, rfl, h, kk⟩ := h
      refine ⟨_, (pss_cons (ps_expr (pe_call G_check_depth (hr.mono (by first | decide | omega)) rfl T.mg_check_depth T.kp_check_depth T.bi_check_depth .nil (passes_call (takes_of rfl rfl rfl rfl) fun _ _ _ _ h => h) (pa_cons (pv 0) (pa_cons (pv 1) pa_nil))))
  (pss_cons (ps_if (pt_val (pe_meth (pv 0) T.cl_Reader T.me_Reader_skip G_Reader_skip (hr.mono (by first | decide | omega)) T.bi_Reader_skip .nil pass0 (pa_cons pe_str pa_nil)))
  (pss_cons (ps_set (i := 2) sc_read_part.nd rfl (Or.inl rfl) (pe_call G_read_test (hr.mono (by first | decide | omega)) rfl T.mg_read_test T.kp_read_test T.bi_read_test .nil (passes_call (takes_of rfl rfl rfl rfl) fun _ _ _ _ h => h) (pa_cons (pv 0) (pa_cons (pe_op op_add (pv 1) pe_int) pa_nil))))
  (pss_cons (ps_expr (pe_meth (pv 0) T.cl_Reader T.me_Reader_expect G_Reader_expect (hr.mono (by first | decide | omega)) T.bi_Reader_expect .nil (passes_call (takes_of rfl rfl rfl rfl) fun _ _ _ _ h => h) (pa_cons pe_str pa_nil)))
  (pss_one (ps_ret (pe_tup (pa_cons pe_str (pa_cons (pv 2) pa_nil)))))))
  pss_nil)
  (pss_cons (ps_if (pt_val (pe_meth (pv 0) T.cl_Reader T.me_Reader_skip G_Reader_skip (hr.mono (by first | decide | omega)) T.bi_Reader_skip .nil pass0 (pa_cons pe_str pa_nil)))
  (pss_one (ps_ret (pe_tup (pa_cons pe_str (pa_cons (pe_call G_read_part (hr.mono (by first | decide | omega)) rfl T.mg_read_part T.kp_read_part T.bi_read_part .nil (passes_call (takes_of rfl rfl rfl rfl) fun _ _ _ _ h => h) (pa_cons (pv 0) (pa_cons (pe_op op_add (pv 1) pe_int) pa_nil))) pa_nil)))))
  pss_nil)
  (pss_cons (ps_for (passes_of rfl) rfl (pi_kkeys (K := K) (pe_glob (v := .ref a.K_POLICY_SIGNS) rfl T.mg_POLICY_SIGNS rfl)) (pg_name (i := 3) sc_read_part.nd rfl (Or.inl rfl))
  (pss_one (ps_if (pt_val (pe_meth (pv 0) T.cl_Reader T.me_Reader_skip G_Reader_skip (hr.mono (by first | decide | omega)) T.bi_Reader_skip .nil pass0 (pa_cons (pe_ix (ix_kdictK (K := K) (w := w)) (pe_glob (v := .ref a.K_POLICY_SIGNS) rfl T.mg_POLICY_SIGNS rfl) (pv 3) (fun _ _ => rfl)) pa_nil)))
  (pss_one (ps_ret (pe_tup (pa_cons (pv 3) (pa_cons (pe_call G_read_parts (hr.mono (by first | decide | omega)) rfl T.mg_read_parts T.kp_read_parts T.bi_read_parts .nil (passes_call (takes_of rfl rfl rfl rfl) fun _ _ _ _ h => h) (pa_cons (pv 0) (pa_cons (pe_op op_add (pv 1) pe_int) (pa_cons (pe_glob (v := .ref a.read_part) rfl T.mg_read_part rfl) pa_nil)))) pa_nil)))))
  pss_nil)))
  (pss_one (ps_ret (pe_call G_read_leaf (hr.mono (by first | decide | omega)) rfl T.mg_read_leaf T.kp_read_leaf T.bi_read_leaf .nil (passes_call (takes_of rfl rfl rfl rfl) fun _ _ _ _ h => h) (pa_cons (pv 0) (pa_cons pe_str (pa_cons (pe_glob (v := .str " := ") rfl (Exists.choose_spec T.mg_SIGN_OF_SET) ⟨_, rfl⟩) pa_nil)))))))))), ?_⟩
      unfold rd at kk
      have hs := h.hs
      have hd0 : 21 - ((d + 1 : Nat) : Int) ≤ 20 := by omega
      have hae := around_eq d
      generalize 21 - ((d + 1 : Nat) : Int) = ar at hd0 hae ⊢
      walk_at "ss"
      refine w_depthR h (fun _ => ?_) (fun z => absurd z (by omega))
      walk_at "ss"
      refine w_skipR h (by rw [l91]; simp) (fun e1 H1 h1 => ?_) (fun e1 H1 h1 => ?_)
      · have e1 : at_ (tl x) [91] i = true := by rw [← l91]; exact e1
        rw [if_pos e1] at kk
        rw [l91] at h1
        clear hs h
        have hs := h1.hs
        refine ⟨_, rfl, iteT ?_⟩
        walk_at "ss"
        refine ⟨B, R, r, dx, x, i + 1, by rw [hae]; rfl, h1, ?_⟩
        obtain ⟨g1, _⟩ := rd_good (tl x) d false (i + 1) (by rw [← len_tl x]; exact h1.le)
        cases hrd : rd (tl x) d false (i + 1) with
        | bad l =>
          rw [hrd] at kk
          exact kk
        | ok t l =>
          rw [hrd] at kk g1
          obtain ⟨_, g2, _⟩ := g1
          rw [← len_tl x] at g2
          unfold rEnd at kk
          dsimp only at kk
          intro B2 v H2 s2 h2 hv
          have hr2 : RdR a r dx x l B2 R H2 := ⟨h2, g2, h1.sz⟩
          clear hs h1
          walk_at "ss"
          refine w_expectR hr2 (by rw [l93]; simp) (fun e2 H3 h3 => ?_) (fun e2 d2 H3 h3 => ?_)
          · have e2 : at_ (tl x) [93] l = true := by rw [← l93]; exact e2
            rw [if_pos e2] at kk
            rw [l93] at h3
            clear h2 hr2
            have hs := h3.hs
            walk_at "ss"
            rename_i p5 H5 hs5
            obtain ⟨B5, s5, g5, hs6⟩ := frz_hs hs5
            exact kk B5 _ _ (s2.trans s5) hs6 ⟨p5, v, rfl, g5, hv.same s5⟩
          · have e2 : at_ (tl x) [93] l = false := by rw [← l93]; exact e2
            rw [if_neg (by rw [e2]; decide)] at kk
            exact kk B2 d2 l H3 s2 h3
      · have e1 : at_ (tl x) [91] i = false := by rw [← l91]; exact e1
        rw [if_neg (by rw [e1]; decide)] at kk
        clear hs h
        have hs := h1.hs
        refine ⟨_, rfl, iteF ?_⟩
        walk_at "ss"
        refine w_skipR h1 (by rw [l42]; simp) (fun e1 H2 h2 => ?_) (fun e1 H2 h2 => ?_)
        · have e1 : at_ (tl x) [42] i = true := by rw [← l42]; exact e1
          rw [if_pos e1] at kk
          rw [l42] at h2
          clear hs h1
          have hs := h2.hs
          refine ⟨_, rfl, iteT ?_⟩
          walk_at "ss"
          refine ⟨B, R, r, dx, x, i + 1, by rw [hae]; rfl, h2, ?_⟩
          refine kk.map fun t l et kk B2 v H2 s2 h2 hv => ?_
          clear hs
          walk_at "ss"
          rename_i p5 H5 hs5
          obtain ⟨B5, s5, g5, hs6⟩ := frz_hs hs5
          exact kk B5 _ _ (s2.trans s5) hs6 ⟨p5, v, rfl, g5, hv.same s5⟩
        have e1 : at_ (tl x) [42] i = false := by rw [← l42]; exact e1
        rw [if_neg (by rw [e1]; decide)] at kk
        clear hs h1
        have h1 := h2
        clear h2
        have hs := h1.hs
        refine ⟨_, rfl, iteF ?_⟩
        walk_at "ss"
        refine w_forKK ?_
        walk_at "ss"
        refine w_kkR T.ky_POLICY_SIGNS ?_
        have sg : ∀ j z, (["sum", "seq"] : List Str)[j]? = some z → ∃ k : Bool, z = rwN true k ∧ KDct K w a.K_POLICY_SIGNS z (.str (rwS true k)) ∧ j = (if k then 1 else 0) := by
          intro j z hz
          match j, hz with
          | 0, hz => cases hz; exact ⟨false, rfl, T.kd_POLICY_SIGNS_sum, rfl⟩
          | 1, hz => cases hz; exact ⟨true, rfl, T.kd_POLICY_SIGNS_seq, rfl⟩
        refine for_kk (fun j σ H' => ∃ v2 : Option V, σ = [some (.ref r), some (.int ar), none, v2] ∧ RdR a r dx x i B R H' ∧ (0 < j → at_ (tl x) [43] i = false) ∧ (1 < j → at_ (tl x) [59] i = false)) ⟨_, rfl, h1, fun z => absurd z (by decide), fun z => absurd z (by decide)⟩ ?_ ?_
        · clear hs h1
          rintro j z σ H3 hz ⟨v2, rfl, h3, n1, n2⟩
          obtain ⟨k, rfl, hkd, rfl⟩ := sg j z hz
          have hs := h3.hs
          have hc : tl (rwS true k) = [if k then 59 else 43] := by cases k <;> assumption
          walk_at "ss"
          refine w_ixd hkd ?_
          walk_at "ss"
          refine w_skipR h3 (by rw [hc]; simp) (fun e2 H4 h4 => ?_) (fun e2 H4 h4 => ?_)
          · have e2 : at_ (tl x) [if k then 59 else 43] i = true := by rw [← hc]; exact e2
            have kk2 : RdEnd a TrAt r dx x B R Q E ((rRow (tl x) (rd (tl x) d true) (i + 1)).map (.rw true k)) := by
              cases k with
              | false =>
                rw [if_pos (show at_ (tl x) [43] i = true from e2)] at kk
                exact kk
              | true =>
                rw [if_neg (by rw [n1 (by decide)]; decide), if_pos (show at_ (tl x) [59] i = true from e2)] at kk
                exact kk
            rw [hc] at h4
            clear hs h3 kk
            have hs := h4.hs
            refine ⟨_, rfl, iteT ?_⟩
            walk_at "ss"
            refine ⟨B, R, r, dx, x, i + 1, by rw [hae]; rfl, h4, ?_⟩
            refine kk2.map fun t l et kk B2 v H2 s2 h2 hv => ?_
            obtain ⟨lr, us, rfl, hl, hts⟩ := hv
            clear hs h4
            walk_at "ss"
            rename_i p5 H5 hs5
            obtain ⟨B5, s5, g5, hs6⟩ := frz_hs hs5
            exact kk B5 _ _ (s2.trans s5) hs6 ⟨p5, lr, us, rfl, g5, s5 _ _ hl, hts.same s5⟩
          · have e2 : at_ (tl x) [if k then 59 else 43] i = false := by rw [← hc]; exact e2
            refine ⟨_, rfl, iteF ?_⟩
            walk_at "ss"
            refine ⟨_, rfl, h4, fun _ => ?_, fun z => ?_⟩
            · cases k with
              | false => exact e2
              | true => exact n1 (by decide)
            · cases k with
              | false => exact absurd z (by decide)
              | true => exact e2
        · clear hs h1
          rintro σ H3 ⟨v2, rfl, h3, n1, n2⟩
          have n1 := n1 (by decide)
          have n2 := n2 (by decide)
          rw [if_neg (by rw [n1]; decide), if_neg (by rw [n2]; decide)] at kk
          have hs := h3.hs
          walk_at "ss"
          exact ⟨B, R, r, dx, x, i, true, rfl, h3, kk⟩
end
local macro_rules | `(tactic| walk_at "v") => `(tactic| first | exact v0 | exact v1 | exact v2 | exact v3 | exact v4 | exact v5 | exact v6 | exact v7 | exact v8)
local macro_rules | `(tactic| walk_at "vs") => `(tactic| first | exact st0 | exact st1 | exact st2 | exact st3 | exact st4 | exact st5 | exact st6 | exact st7 | exact st8)
local macro_rules | `(tactic| walk_at "s") => `(tactic| first
  | with_reducible refine w_dget ?_
  | ((with_reducible refine' w_dgetZ ?h ?nd ?hk ?hv ?_); (case h => walk_at "g"); (case nd => walk_at "nd"); (case hk => walk_at "k"); (case hv => walk_at "v"))
  | ((with_reducible refine' w_dputZ ?hs ?h ?nd ?hk ?hv ?hu ?hl ?_); (case hs => assumption); (case h => walk_at "p"); (case nd => walk_at "nd"); (case hk => walk_at "k"); (case hv => walk_at "v"); (case hu => walk_at "vs"); (case hl => decide); intro _ _)
  | with_reducible refine w_gsub ?_
  | with_reducible refine w_setD ?_
  | with_reducible refine w_disp ?_
  | ((with_reducible refine' w_newP ?hs ?_); (case hs => assumption); intro _ _ _)
  | with_reducible refine w_pcons ?_
  | with_reducible refine w_pnil ?_)

local macro_rules | `(tactic| walk_at "s") => `(tactic| first
  | with_reducible refine w_nget ?_
  | with_reducible refine w_nin ?_
  | with_reducible refine w_nnot ?_
  | with_reducible refine w_nput ?_
  | with_reducible refine w_ndel ?_
  | with_reducible refine w_npop ?_
  | ((with_reducible refine' w_nnew ?hs ?_); (case hs => assumption); intro _ _ _))

local macro_rules | `(tactic| walk_at "s") => `(tactic| first
  | with_reducible refine w_m0 ?_
  | with_reducible refine w_m1 ?_
  | with_reducible refine w_m0b ?_
  | with_reducible refine w_m1b ?_
  | with_reducible refine w_kget ?_
  | with_reducible refine w_nS ?_)

section
variable {P : Program} [IsP P] {w : World} {K : PySem.W.Frag} {mg : Str → Option Value} {base : Heap} {a : Ad}
/-! ## what the program tells of a text -/
theorem w_callS {σ : L2.St} {H : Hp} {Q : VK} {sp : Sp} {E : L2.St → XK} {ts : TA} (q : ts σ H fun vs H1 => sp vs H1 Q (E σ)) : tCallS sp E ts σ H Q := q
def TdAt (H : Hp) (v : V) : Res Tr → Prop
  | .ok t _ => TrAt H t v
  | .bad l => v = .int (l : Int)
def sp_read_policy (a : Ad) : Sp := fun vs H Q E => ∃ (B : Hp) (R : List (Addr × HO)) (x : Str), vs = [.str x] ∧ Hs B R H ∧ x.length ≤ 20000 ∧
  (∀ t l, rTop (tl x) = .ok t l → ∀ B2 v H', Same B B2 → Hs B2 R H' → TrAt B2 t v → Q v H') ∧
  (∀ l, rTop (tl x) = .bad l → ∀ B2 d H', Same B B2 → Hs B2 ((d, .xd [("at", .int (l : Int))]) :: R) H' → E (.ref a.MisreadError) (some d) H')
theorem ok_read_policy (T : Txt w K mg a) : FnOk P w K mg base (CX P w) 50 a.read_policy a.fd_read_policy ["text"] (sp_read_policy a) := by
  have G_Reader_init := ok_Reader_init (P := P) (w := w) (base := base) T
  have G_Reader_end := ok_Reader_end (P := P) (w := w) (base := base) T
  have G_read_part := ok_read_part (P := P) (w := w) (base := base) T 21
  refine T.fn_read_policy.okX sc_read_policy (fun vs H Q E h => ?_) (fun cdv A outer s H vs Q E hr h => ?_)
  · obtain ⟨_, _, _, rfl, _⟩ := h
    rfl
  · obtain ⟨B, R, x, rfl, hs, hx, k1, k2⟩ := h
    refine ⟨_, (pss_cons (ps_set (i := 1) sc_read_policy.nd rfl (Or.inl rfl) (pe_make T.mk_Reader G_Reader_init (hr.mono (by first | decide | omega)) rfl T.mg_Reader T.bi_Reader_init .nil pass0 (pa_cons (pv 0) pa_nil)))
  (pss_cons (ps_set (i := 2) sc_read_policy.nd rfl (Or.inl rfl) (pe_call G_read_part (hr.mono (by first | decide | omega)) rfl T.mg_read_part T.kp_read_part T.bi_read_part .nil (passes_call (takes_of rfl rfl rfl rfl) fun _ _ _ _ h => h) (pa_cons (pv 1) (pa_cons pe_int pa_nil))))
  (pss_cons (ps_expr (pe_meth0 (pv 1) T.cl_Reader T.me_Reader_end G_Reader_end (hr.mono (by first | decide | omega)) T.bi_Reader_end .nil (passes_call (takes_of rfl rfl rfl rfl) fun _ _ _ _ h => h)))
  (pss_one (ps_ret (pv 2)))))), ?_⟩
    have c1 := T.cl_Reader
    walk_at "ss"
    refine w_mkr hs fun r dx H1 hs1 => ?_
    obtain ⟨B', _, h1, back⟩ := hs1.frame1
    refine ⟨B', r, dx, x, rfl, h1, fun H2 h2 => ⟨rfl, ?_⟩⟩
    have hs2 : Hs B ((r, rdO a dx x 0) :: R) H2 := back _ _ h2
    clear hs hs1 h1 back h2
    walk_at "ss"
    refine ⟨B, R, r, dx, x, 0, rfl, ⟨hs2, Nat.zero_le _, hx⟩, ?_⟩
    obtain ⟨g1, _⟩ := rd_good (tl x) 21 true 0 (Nat.zero_le _)
    unfold rTop at k1 k2
    cases hrd : rd (tl x) 21 true 0 with
    | bad l =>
      rw [hrd] at k2
      intro B2 d j H3 s2 hs3
      exact k2 l rfl B2 d H3 s2 hs3.d1
    | ok t l =>
      rw [hrd] at k1 k2 g1
      dsimp only at k1 k2
      obtain ⟨_, g2, _⟩ := g1
      rw [← len_tl x] at g2 k1 k2
      intro B2 v H3 s2 hs3 hv
      clear hs2
      walk_at "ss"
      obtain ⟨B3, h3, _, back⟩ := (show RdR a r dx x l B2 R H3 from ⟨hs3, g2, hx⟩).fr
      refine ⟨B3, r, dx, x, l, rfl, h3, fun hl => ?_, fun hl d H4 hs4 => ?_⟩
      · walk_at "ss"
        rw [if_neg (by omega)] at k1
        exact k1 t l rfl B2 v H3 s2 hs3.tl hv
      · rw [if_pos hl] at k2
        exact k2 l rfl B2 d H4 s2 (back _ _ _ _ hs4).d1
def sp__law_told : Sp := fun vs H Q _ => ∃ (B : Hp) (R : List (Addr × HO)) (x : Str), vs = [.str x] ∧ Hs B R H ∧ x.length ≤ 20000 ∧ ∀ B2 v H', Same B B2 → Hs B2 R H' → TdAt B2 v (rTop (tl x)) → Q v H'
theorem ok__law_told (T : Txt w K mg a) : FnOk P w K mg base CX0 51 a._law_told a.fd__law_told ["text"] sp__law_told := by
  have G_read_policy := ok_read_policy (P := P) (w := w) (base := base) T
  refine T.fn__law_told.ok sc__law_told (fun vs H Q E h => ?_) (fun cdv A outer s H vs Q E hr h => ?_)
  · obtain ⟨_, _, _, rfl, _⟩ := h
    rfl
  · obtain ⟨B, R, x, rfl, hs, hx, k⟩ := h
    refine ⟨_, (pss_one (ps_try_as (i := 1) rfl rfl sc__law_told.nd rfl rfl ⟨rfl, by decide, .inl T.mg_MisreadError⟩ takes0 (fun W pn xe tk _ => by exact (pss_one (ps_ret (pe_callS G_read_policy (hr.mono (by first | decide | omega)) rfl T.mg_read_policy T.kp_read_policy T.bi_read_policy (fun σ => passAt tk σ) (pa_cons (pv 0) pa_nil))))) (fun a1 oe cls dd pn hz hf => by exact (pss_one (ps_ret (pe_ifExp (pt_val (pe_callB (call_isX hz hf) (by rfl) T.mg_isinstance (by decide +kernel) (pa_cons (pv 1) (pa_cons (pe_glob (v := .ref a.BridgeError) rfl T.mg_BridgeError rfl) pa_nil)))) (pe_xf T.xf_MisreadError T.no_MisreadError_at hz hf (pv 1)) pe_non)))))), ?_⟩
    walk_at "ss"
    refine w_callS ?_
    walk_at "ss"
    refine ⟨B, R, x, rfl, hs, hx, fun t l e B2 v H1 s1 h1 hv => ?_, fun l e B2 d H1 s1 hs1 => ?_⟩
    · rw [e] at k
      exact k B2 v H1 s1 h1 hv
    · rw [e] at k
      clear hs
      refine w_was T.te_MisreadError fun e he => ?_
      walk_at "ss"
      refine w_isX hs1.g0 T.xc_MisreadError T.is_MisreadError_BridgeError ?_
      walk_at "ss"
      exact k B2 _ H1 s1 hs1.tl rfl
end
local macro_rules | `(tactic| walk_at "v") => `(tactic| first | exact v0 | exact v1 | exact v2 | exact v3 | exact v4 | exact v5 | exact v6 | exact v7 | exact v8)
local macro_rules | `(tactic| walk_at "vs") => `(tactic| first | exact st0 | exact st1 | exact st2 | exact st3 | exact st4 | exact st5 | exact st6 | exact st7 | exact st8)
local macro_rules | `(tactic| walk_at "s") => `(tactic| first
  | with_reducible refine w_dget ?_
  | ((with_reducible refine' w_dgetZ ?h ?nd ?hk ?hv ?_); (case h => walk_at "g"); (case nd => walk_at "nd"); (case hk => walk_at "k"); (case hv => walk_at "v"))
  | ((with_reducible refine' w_dputZ ?hs ?h ?nd ?hk ?hv ?hu ?hl ?_); (case hs => assumption); (case h => walk_at "p"); (case nd => walk_at "nd"); (case hk => walk_at "k"); (case hv => walk_at "v"); (case hu => walk_at "vs"); (case hl => decide); intro _ _)
  | with_reducible refine w_gsub ?_
  | with_reducible refine w_setD ?_
  | with_reducible refine w_disp ?_
  | ((with_reducible refine' w_newP ?hs ?_); (case hs => assumption); intro _ _ _)
  | with_reducible refine w_pcons ?_
  | with_reducible refine w_pnil ?_)

local macro_rules | `(tactic| walk_at "s") => `(tactic| first
  | with_reducible refine w_nget ?_
  | with_reducible refine w_nin ?_
  | with_reducible refine w_nnot ?_
  | with_reducible refine w_nput ?_
  | with_reducible refine w_ndel ?_
  | with_reducible refine w_npop ?_
  | ((with_reducible refine' w_nnew ?hs ?_); (case hs => assumption); intro _ _ _))

local macro_rules | `(tactic| walk_at "s") => `(tactic| first
  | with_reducible refine w_m0 ?_
  | with_reducible refine w_m1 ?_
  | with_reducible refine w_m0b ?_
  | with_reducible refine w_m1b ?_
  | with_reducible refine w_kget ?_
  | with_reducible refine w_nS ?_)

section
variable {P : Program} [IsP P] {w : World} {K : PySem.W.Frag} {mg : Str → Option Value} {base : Heap} {a : Ad}
/-! ## the law's reader: numbers, leaves -/
def PrAt {α : Type} (At : Hp → α → V → Prop) (H : Hp) (p : V) : Res α → Prop
  | .ok t l => ∃ (b : Addr) (v : V), p = .ref b ∧ H b = some (.tup [v, .int (l : Int)]) ∧ At H t v
  | .bad l => ∃ (b : Addr) (v : V), p = .ref b ∧ H b = some (.tup [v, .int (-1 - (l : Int))])
theorem cut_at (x s : Str) (i : Nat) {j : Int} (e : j = ((i + (tl s).length : Nat) : Int)) : decide (cutS x (some (i : Int)) (some j) = s) = atS x s i := by
  subst e
  unfold atS at_
  rw [pre_take]
  have h := tl_cut x i (tl s).length
  by_cases hh : ((tl x).drop i).take (tl s).length = tl s
  · rw [decide_eq_true hh, decide_eq_true]
    exact ext_tl (h.trans hh)
  · rw [decide_eq_false hh, decide_eq_false]
    intro z
    exact hh (by rw [← h, z])
def IntAt (_ : Hp) (n : Int) (v : V) : Prop := v = .int n
def sp__law_number : Sp := fun vs H Q _ => ∃ (x : Str) (i : Nat), vs = [.str x, .int (i : Int)] ∧ i ≤ x.length ∧ x.length ≤ 20000 ∧ ∀ v H', Same H H' → PrAt IntAt H' v (rNum (tl x) i) → Q v H'
theorem ok__law_number (T : Txt w K mg a) : FnOk P w K mg base CX0 1 a._law_number a.fd__law_number ["text", "at"] sp__law_number := by
  refine T.fn__law_number.ok sc__law_number (fun vs H Q E h => ?_) (fun cdv A outer s H vs Q E hr h => ?_)
  · obtain ⟨_, _, rfl, _⟩ := h
    rfl
  · obtain ⟨x, i, rfl, hi, hz, kk⟩ := h
    have hlx := len_tl x
    refine ⟨_, (pss_cons (ps_set (i := 2) sc__law_number.nd rfl (Or.inl rfl) (pv 1))
  (C8.pss_cut (ps_while PassesOwn.never (PW.pt (pw_and (pt_cmpR op_lt (pv 2) (pe_callB call_len_str (by rfl) T.mg_len PySem.boot_len (pa_cons (pv 0) pa_nil)) (nomark _)) (pw_and (pt_cmpR op_lt (pv 2) (pe_op op_add (pv 1) pe_int) (nomark _)) (pw_and1 (pt_cmpR op_inS (pe_ix ix_str (pv 0) (pv 2) (fun _ _ => rfl)) pe_str (by rfl))))))
  (pss_one (ps_set (i := 2) sc__law_number.nd rfl (Or.inl rfl) (pe_op op_add (pv 2) pe_int))))
  (pss_cons (ps_if (PW.pt (pw_or (pt_cmpR op_eq (pv 2) (pv 1) (nomark _)) (pw_or1 (PW.pt (pw_and (pt_cmpR op_eq (pv 2) (pe_op op_add (pv 1) pe_int) (nomark _)) (pw_and1 (pt_cmpR op_eq (pe_ix ix_str (pv 0) (pv 1) (fun _ _ => rfl)) pe_str (nomark _))))))))
  (pss_one (ps_ret (pe_tup (pa_cons pe_int (pa_cons (pe_op op_sub (pe_un un_neg pe_int) (pv 1)) pa_nil)))))
  pss_nil)
  (pss_one (ps_ret (pe_tup (pa_cons (pe_callTy call_int_str (by rfl) T.mg_int (by decide +kernel) (pa_cons (pe_slice sl_str (pv 0) (po_some (pv 1)) (po_some (pv 2))) pa_nil)) (pa_cons (pv 2) pa_nil)))))))), ?_⟩
    have hs := Hs.start H
    walk_at "ss"
    refine w_cut (fun σ H' => ∃ k : Nat, σ = [some (.str x), some (.int (i : Int)), some (.int ((i + k : Nat) : Int))] ∧ H' = H ∧ i + k ≤ x.length ∧ k ≤ 2 ∧ digW ((tl x).drop i) = ((tl x).drop i).take k) ?_ ?_
    · refine w_while (fun m σ H' => ∃ k : Nat, m + k = 2 ∧ σ = [some (.str x), some (.int (i : Int)), some (.int ((i + k : Nat) : Int))] ∧ H' = H ∧ i + k ≤ x.length ∧ ∀ c ∈ ((tl x).drop i).take k, isDg c = true) 2 ⟨0, rfl, rfl, rfl, hi, fun c hc => by cases hc⟩ ?_
      rintro m σ H1 ⟨k, hm, rfl, rfl, hk, hd⟩
      have fin : (k = 2 ∨ k = ((tl x).drop i).length ∨ ∃ c, ((tl x).drop i)[k]? = some c ∧ isDg c = false) → digW ((tl x).drop i) = ((tl x).drop i).take k := fun h => dig_stop (by omega) (by rw [List.length_drop]; omega) hd h
      walk_at "ss"
      refine ⟨x, rfl, sz (by omega), ?_⟩
      walk_at "ss"
      refine ifd (fun h1 => ?_) (fun h1 => ?_)
      · walk_at "ss"
        refine ifd (fun h2 => ?_) (fun h2 => ?_)
        · obtain ⟨c, hc⟩ : ∃ c, (tl x)[i + k]? = some c := ⟨_, List.getElem?_eq_getElem (by omega)⟩
          have hc2 : ((tl x).drop i)[k]? = some c := by rw [List.getElem?_drop]; exact hc
          walk_at "ss"
          refine w_ixS (by omega) rfl hc ?_
          walk_at "ss"
          refine ⟨c, _, rfl, rfl, ?_⟩
          rw [dg_in]
          refine ⟨_, rfl, ?_⟩
          cases hg : isDg c with
          | true =>
            refine iteT (w_lpb ?_)
            walk_at "ss"
            refine ⟨m - 1, by omega, k + 1, by omega, rfl, rfl, by omega, fun e he => ?_⟩
            rw [List.take_add_one, hc2] at he
            rcases List.mem_append.mp he with he | he
            · exact hd e he
            · have : e = c := by simpa using he
              rw [this]
              exact hg
          | false =>
            refine iteF ?_
            exact ⟨k, rfl, rfl, hk, by omega, fin (.inr (.inr ⟨c, hc2, hg⟩))⟩
        · refine iteF ?_
          exact ⟨k, rfl, rfl, hk, by omega, fin (.inl (by omega))⟩
      · refine iteF ?_
        exact ⟨k, rfl, rfl, hk, by omega, fin (.inr (.inl (by rw [List.length_drop]; omega)))⟩
    · rintro σ H1 ⟨k, rfl, rfl, hk, hk2, hw⟩
      have hwl : (digW ((tl x).drop i)).length = k := by
        rw [hw, List.length_take, List.length_drop]
        omega
      have hyd := digW_all ((tl x).drop i)
      walk_at "ss"
      have bad : badW (digW ((tl x).drop i)) = true → ∀ p H2, Same H1 H2 → H2 p = some (.tup [.int 0, .int (-1 - (i : Int))]) → Q (.ref p) H2 := fun hb p H2 s2 hp => kk _ _ s2 (by
        unfold rNum
        rw [if_pos hb]
        exact ⟨p, _, rfl, hp⟩)
      have good : badW (digW ((tl x).drop i)) = false → ∀ p H2, Same H1 H2 → H2 p = some (.tup [.int (NumText.digitsVal (digW ((tl x).drop i)) : Nat), .int ((i + k : Nat) : Int)]) → Q (.ref p) H2 := fun hb p H2 s2 hp => kk _ _ s2 (by
        unfold rNum
        rw [hb, if_neg (by decide), hwl]
        exact ⟨p, _, rfl, hp, rfl⟩)
      refine ifd (fun h1 => ?_) (fun h1 => ?_)
      · walk_at "ss"
        rename_i p H2 hs2
        refine bad ?_ p H2 hs2.same hs2.g0
        unfold badW
        rw [hwl, decide_eq_true (show k = 0 by omega)]
        rfl
      · have hk0 : 0 < k := by omega
        obtain ⟨c, hc⟩ : ∃ c, (tl x)[i]? = some c := ⟨_, List.getElem?_eq_getElem (by omega)⟩
        have hhd : (digW ((tl x).drop i)).head? = some c := by
          rw [hw, List.head?_eq_getElem?, List.getElem?_take, if_pos hk0, List.getElem?_drop]
          exact hc
        have ey : tl (cutS x (some (i : Int)) (some ((i + k : Nat) : Int))) = digW ((tl x).drop i) := by rw [tl_cut, hw]
        walk_at "ss"
        refine ifd (fun h2 => ?_) (fun h2 => ?_)
        · have hk2 : k = 2 := by omega
          walk_at "ss"
          refine w_ixS (by omega) rfl hc ?_
          walk_at "ss"
          by_cases h48 : c = 48
          · subst h48
            rw [show decide ((⟨#[48]⟩ : Str) = "0") = true from by decide +kernel]
            refine iteT ?_
            walk_at "ss"
            rename_i p H2 hs2
            refine bad ?_ p H2 hs2.same hs2.g0
            unfold badW
            rw [hwl, hhd, hk2]
            rfl
          · rw [show decide ((⟨#[c]⟩ : Str) = "0") = false from decide_eq_false fun z => h48 (by
              have e0 : tl ("0" : Str) = [48] := by decide +kernel
              have := congrArg tl z
              rw [e0] at this
              exact (List.cons.inj this).1)]
            refine iteF ?_
            have hb : badW (digW ((tl x).drop i)) = false := by
              unfold badW
              rw [hwl, hhd, hk2]
              simp [h48]
            walk_at "ss"
            refine w_slS (by omega) ?_
            generalize cutS x (some (i : Int)) (some ((i + k : Nat) : Int)) = y at ey ⊢
            rw [← ey] at hyd
            have hyl := len_tl y
            rw [ey, hwl] at hyl
            walk_at "ss"
            refine ⟨y, _, rfl, intText_digits hyd (fun z => by
              have z2 := congrArg List.length (ey.symm.trans z)
              rw [hwl] at z2
              exact absurd z2 (Nat.pos_iff_ne_zero.mp hk0)) (by omega), by omega, ?_⟩
            rw [show NumText.digitsVal y.cps.toList = NumText.digitsVal (digW ((tl x).drop i)) from congrArg NumText.digitsVal ey]
            walk_at "ss"
            rename_i p H2 hs2
            exact good hb p H2 hs2.same hs2.g0
        · refine iteF ?_
          have hb : badW (digW ((tl x).drop i)) = false := by
            unfold badW
            rw [hwl, decide_eq_false (show ¬ k = 0 by omega), decide_eq_false (show ¬ k = 2 by omega)]
            rfl
          walk_at "ss"
          refine w_slS (by omega) ?_
          generalize cutS x (some (i : Int)) (some ((i + k : Nat) : Int)) = y at ey ⊢
          rw [← ey] at hyd
          have hyl := len_tl y
          rw [ey, hwl] at hyl
          walk_at "ss"
          refine ⟨y, _, rfl, intText_digits hyd (fun z => by
              have z2 := congrArg List.length (ey.symm.trans z)
              rw [hwl] at z2
              exact absurd z2 (Nat.pos_iff_ne_zero.mp hk0)) (by omega), by omega, ?_⟩
          rw [show NumText.digitsVal y.cps.toList = NumText.digitsVal (digW ((tl x).drop i)) from congrArg NumText.digitsVal ey]
          walk_at "ss"
          rename_i p H2 hs2
          exact good hb p H2 hs2.same hs2.g0
theorem w_forLS' {K : PySem.W.Frag} {σ : L2.St} {H : Hp} {D : Ends} {tl : TE} {g : TG} {tb : TS} (q : tl σ H fun v H1 => tFor (iList K (tC v)) g tb D σ H1) : tFor (iList K tl) g tb D σ H := q
/-- a field and its number -/
def rNamed (x : List Nat) (p : Bool) (i : Nat) : Res (Nat × Int) := match rFld x i with
  | none => .bad i
  | some f => if at_ x (tl (lfS p)) (i + (tl (fldS f)).length) = true then (rNum x (i + (tl (fldS f)).length + (tl (lfS p)).length)).map (Prod.mk f) else .bad (i + (tl (fldS f)).length)
theorem leaf_named (x : List Nat) (p : Bool) (i : Nat) : rLeaf x p i = (rNamed x p i).map fun q => .lf p q.1 q.2 := by
  unfold rLeaf rNamed
  cases rFld x i with
  | none => rfl
  | some f =>
    dsimp only
    by_cases h : at_ x (tl (lfS p)) (i + (tl (fldS f)).length) = true
    · rw [if_pos h, if_pos h]
      cases rNum x (i + (tl (fldS f)).length + (tl (lfS p)).length) <;> rfl
    · rw [if_neg h, if_neg h]
      rfl
def NmAt (H : Hp) (q : Nat × Int) (v : V) : Prop := ∃ b : Addr, v = .ref b ∧ H b = some (.tup [.str (fldS q.1), .int q.2])
/-- None, or some pair -/
def Two (H : Hp) (v : V) : Prop := v = .non ∨ ∃ (b : Addr) (u u2 : V), v = .ref b ∧ H b = some (.tup [u, u2])
def NrAt (H : Hp) (p : V) : Res (Nat × Int) → Prop
  | .ok t l => ∃ (b : Addr) (v : V), p = .ref b ∧ H b = some (.tup [v, .int (l : Int)]) ∧ NmAt H t v
  | .bad l => ∃ (b : Addr) (v : V), p = .ref b ∧ H b = some (.tup [v, .int (-1 - (l : Int))]) ∧ Two H v
def sp__law_named : Sp := fun vs H Q _ => ∃ (x : Str) (i : Nat) (p : Bool), vs = [.str x, .int (i : Int), .str (lfS p)] ∧ i ≤ x.length ∧ x.length ≤ 20000 ∧ ∀ v H', Same H H' → NrAt H' v (rNamed (tl x) p i) → Q v H'
theorem ok__law_named (T : Txt w K mg a) : FnOk P w K mg base CX0 2 a._law_named a.fd__law_named ["text", "at", "sign"] sp__law_named := by
  have G__law_number := ok__law_number (P := P) (w := w) (base := base) T
  refine T.fn__law_named.ok sc__law_named (fun vs H Q E h => ?_) (fun cdv A outer s H vs Q E hr h => ?_)
  · obtain ⟨_, _, _, rfl, _⟩ := h
    rfl
  · obtain ⟨x, i, p, rfl, hi, hz, kk⟩ := h
    have hlx := len_tl x
    refine ⟨_, (pss_cons (ps_for PassesOwn.never rfl (pi_listK (K := K) (pe_lst (pa_cons pe_str (pa_cons pe_str (pa_cons pe_str (pa_cons pe_str (pa_cons pe_str pa_nil))))))) (pg_name (i := 3) sc__law_named.nd rfl (Or.inl rfl))
  (pss_one (ps_if (pt_cmpR op_eq (pe_slice sl_str (pv 0) (po_some (pv 1)) (po_some (pe_op op_add (pv 1) (pe_callB call_len_str (by rfl) T.mg_len PySem.boot_len (pa_cons (pv 3) pa_nil))))) (pv 3) (nomark _))
  (pss_cons (ps_set (i := 1) sc__law_named.nd rfl (Or.inl rfl) (pe_op op_add (pv 1) (pe_callB call_len_str (by rfl) T.mg_len PySem.boot_len (pa_cons (pv 3) pa_nil))))
  (pss_cons (ps_if (pt_cmpR op_ne (pe_slice sl_str (pv 0) (po_some (pv 1)) (po_some (pe_op op_add (pv 1) (pe_callB call_len_str (by rfl) T.mg_len PySem.boot_len (pa_cons (pv 2) pa_nil))))) (pv 2) (nomark _))
  (pss_one (ps_ret (pe_tup (pa_cons pe_non (pa_cons (pe_op op_sub (pe_un un_neg pe_int) (pv 1)) pa_nil)))))
  pss_nil)
  (pss_cons (ps_asg (pe_call G__law_number (hr.mono (by first | decide | omega)) rfl T.mg__law_number T.kp__law_number T.bi__law_number .nil pass0 (pa_cons (pv 0) (pa_cons (pe_op op_add (pv 1) (pe_callB call_len_str (by rfl) T.mg_len PySem.boot_len (pa_cons (pv 2) pa_nil))) pa_nil))) (pg_tupK (K := K) rfl (pgs_cons (pg_name (i := 4) sc__law_named.nd rfl (Or.inl rfl)) (pgs_cons (pg_name (i := 5) sc__law_named.nd rfl (Or.inl rfl)) pgs_nil))))
  (pss_one (ps_ret (pe_tup (pa_cons (pe_tup (pa_cons (pv 3) (pa_cons (pv 4) pa_nil))) (pa_cons (pv 5) pa_nil))))))))
  pss_nil)))
  (pss_one (ps_ret (pe_tup (pa_cons pe_non (pa_cons (pe_op op_sub (pe_un un_neg pe_int) (pv 1)) pa_nil)))))), ?_⟩
    have hs := Hs.start H
    walk_at "ss"
    refine w_forLS' ?_
    walk_at "ss"
    rename_i lr H1 hs1
    obtain ⟨B1, s1, g1, hs2⟩ := frz_hs hs1
    clear hs hs1
    have hq : SqL K H1 lr ([0, 1, 2, 3, 4].map fun f => V.str (fldS f)) := SqL.of (hs2.same _ _ g1)
    have ladd : ∀ (n : Nat) (z : Str), (n : Int) + (z.length : Int) = ((n + (tl z).length : Nat) : Int) := fun n z => by
      rw [← len_tl z]
      omega
    have hsz : ∀ z : Str, z ∈ [fldS 0, fldS 1, fldS 2, fldS 3, fldS 4, lfS true, lfS false] → z.length ≤ 10 := by decide +kernel
    have hsf : ∀ f, f < 5 → (fldS f).length ≤ 10 := fun f hf => hsz _ (by
      match f, hf with
      | 0, _ => simp
      | 1, _ => simp
      | 2, _ => simp
      | 3, _ => simp
      | 4, _ => simp)
    have hsp : (lfS p).length ≤ 10 := hsz _ (by cases p <;> simp)
    refine w_forL hq (fun j σ H' => ∃ v3 : Option V, σ = [some (.str x), some (.int (i : Int)), some (.str (lfS p)), v3, none, none] ∧ Same B1 H' ∧ ∀ k, k < j → at_ (tl x) (tl (fldS k)) i = false) (fun Q q => q) ⟨_, rfl, hs2.same, fun k hk => by omega⟩ (fun j σ H' _ ⟨_, _, sm, _⟩ => SqL.of (sm _ _ g1)) ?_ ?_
    · clear hs2 hq
      rintro j z σ H2 hz2 ⟨v3, rfl, sm, no⟩
      have hj : j < 5 := (List.getElem?_eq_some_iff.mp hz2).1
      obtain rfl : z = V.str (fldS j) := by
        match j, hj, hz2 with
        | 0, _, hz2 => cases hz2; rfl
        | 1, _, hz2 => cases hz2; rfl
        | 2, _, hz2 => cases hz2; rfl
        | 3, _, hz2 => cases hz2; rfl
        | 4, _, hz2 => cases hz2; rfl
      have hs := Hs.of_same sm
      have hjl := hsf j hj
      walk_at "ss"
      refine ⟨_, rfl, sz (by omega), ?_⟩
      walk_at "ss"
      refine w_slS (by omega) ?_
      walk_at "ss"
      rw [cut_at x (fldS j) i (ladd i (fldS j))]
      cases hb : atS x (fldS j) i with
      | false =>
        refine iteF ?_
        walk_at "ss"
        refine ⟨_, rfl, sm, fun k hk => ?_⟩
        by_cases hkj : k < j
        · exact no k hkj
        · obtain rfl : k = j := by omega
          exact hb
      | true =>
        refine iteT ?_
        have hrf : rFld (tl x) i = some j := fld_some hj hb no
        unfold rNamed at kk
        rw [hrf] at kk
        dsimp only at kk
        have hi2 := at_le hb fld_ne
        walk_at "ss"
        refine ⟨_, rfl, sz (by omega), ?_⟩
        refine w_I0 ?_
        show gName 1 (V.int ((i : Int) + ((fldS j).length : Int))) _ _ _
        rw [ladd i (fldS j)]
        generalize hi1 : i + (tl (fldS j)).length = i1 at hi2 kk ⊢
        walk_at "ss"
        refine ⟨_, rfl, sz (by omega), ?_⟩
        walk_at "ss"
        refine w_slS (by omega) ?_
        walk_at "ss"
        refine w_ne rfl ?_
        rw [show decide (V.str (cutS x (some (i1 : Int)) (some ((i1 : Int) + ((lfS p).length : Int)))) = V.str (lfS p)) = decide (cutS x (some (i1 : Int)) (some ((i1 : Int) + ((lfS p).length : Int))) = lfS p) from by simp only [V.str.injEq], cut_at x (lfS p) i1 (ladd i1 (lfS p))]
        refine ⟨_, rfl, ?_⟩
        cases hb2 : atS x (lfS p) i1 with
        | false =>
          refine iteT ?_
          rw [if_neg (by rw [show at_ (tl x) (tl (lfS p)) i1 = false from hb2]; decide)] at kk
          walk_at "ss"
          rename_i p5 H5 hs5
          exact kk _ H5 (s1.trans hs5.same) ⟨p5, _, rfl, hs5.g0, .inl rfl⟩
        | true =>
          refine iteF ?_
          have hi3 := at_le hb2 lfS_ne
          rw [if_pos (show at_ (tl x) (tl (lfS p)) i1 = true from hb2)] at kk
          walk_at "ss"
          refine ⟨_, rfl, sz (by omega), ?_⟩
          have el := ladd i1 (lfS p)
          generalize hi4 : i1 + (tl (lfS p)).length = i2 at hi3 kk el
          walk_at "ss"
          refine ⟨x, i2, by rw [el]; rfl, by omega, hz, fun v H3 s3 hv => ?_⟩
          cases hn : rNum (tl x) i2 with
          | ok n l =>
            rw [hn] at hv kk
            obtain ⟨b, u, rfl, hb5, hu5⟩ := hv
            cases hu5
            have hs3 := hs.keep s3
            clear hs
            walk_at "ss"
            rename_i p4 H4 hs4 p5 H5 hs5
            exact kk _ H5 (s1.trans hs5.same) ⟨p5, _, rfl, hs5.g0, p4, rfl, hs5.g1⟩
          | bad l =>
            rw [hn] at hv kk
            obtain ⟨b, u, rfl, hb5⟩ := hv
            have hs3 := hs.keep s3
            clear hs
            walk_at "ss"
            rename_i p4 H4 hs4 p5 H5 hs5
            exact kk _ H5 (s1.trans hs5.same) ⟨p5, _, rfl, hs5.g0, .inr ⟨p4, _, _, rfl, hs5.g1⟩⟩
    · rintro σ H2 ⟨v3, rfl, sm, no⟩
      have hrf : rFld (tl x) i = none := fld_none no
      unfold rNamed at kk
      rw [hrf] at kk
      clear hs2
      have hs := Hs.of_same sm
      walk_at "ss"
      rename_i p5 H5 hs5
      exact kk _ H5 (s1.trans hs5.same) ⟨p5, _, rfl, hs5.g0, .inl rfl⟩
end
local macro_rules | `(tactic| walk_at "v") => `(tactic| first | exact v0 | exact v1 | exact v2 | exact v3 | exact v4 | exact v5 | exact v6 | exact v7 | exact v8)
local macro_rules | `(tactic| walk_at "vs") => `(tactic| first | exact st0 | exact st1 | exact st2 | exact st3 | exact st4 | exact st5 | exact st6 | exact st7 | exact st8)
local macro_rules | `(tactic| walk_at "s") => `(tactic| first
  | with_reducible refine w_dget ?_
  | ((with_reducible refine' w_dgetZ ?h ?nd ?hk ?hv ?_); (case h => walk_at "g"); (case nd => walk_at "nd"); (case hk => walk_at "k"); (case hv => walk_at "v"))
  | ((with_reducible refine' w_dputZ ?hs ?h ?nd ?hk ?hv ?hu ?hl ?_); (case hs => assumption); (case h => walk_at "p"); (case nd => walk_at "nd"); (case hk => walk_at "k"); (case hv => walk_at "v"); (case hu => walk_at "vs"); (case hl => decide); intro _ _)
  | with_reducible refine w_gsub ?_
  | with_reducible refine w_setD ?_
  | with_reducible refine w_disp ?_
  | ((with_reducible refine' w_newP ?hs ?_); (case hs => assumption); intro _ _ _)
  | with_reducible refine w_pcons ?_
  | with_reducible refine w_pnil ?_)

local macro_rules | `(tactic| walk_at "s") => `(tactic| first
  | with_reducible refine w_nget ?_
  | with_reducible refine w_nin ?_
  | with_reducible refine w_nnot ?_
  | with_reducible refine w_nput ?_
  | with_reducible refine w_ndel ?_
  | with_reducible refine w_npop ?_
  | ((with_reducible refine' w_nnew ?hs ?_); (case hs => assumption); intro _ _ _))

local macro_rules | `(tactic| walk_at "s") => `(tactic| first
  | with_reducible refine w_m0 ?_
  | with_reducible refine w_m1 ?_
  | with_reducible refine w_m0b ?_
  | with_reducible refine w_m1b ?_
  | with_reducible refine w_kget ?_
  | with_reducible refine w_nS ?_)

section
variable {P : Program} [IsP P] {w : World} {K : PySem.W.Frag} {mg : Str → Option Value} {base : Heap} {a : Ad}
/-! ## the law's reader: rows, tests, policies -/
theorem PrAt.mono {α : Type} {At At2 : Hp → α → V → Prop} {H H' : Hp} {p : V} {res : Res α} (e : Same H H') (h : PrAt At H p res) (m : ∀ t l v, res = .ok t l → At H t v → At2 H' t v) : PrAt At2 H' p res := by
  cases res with
  | ok t l =>
    obtain ⟨b, v, h1, h2, h3⟩ := h
    exact ⟨b, v, h1, e _ _ h2, m t l v rfl h3⟩
  | bad l =>
    obtain ⟨b, v, h1, h2⟩ := h
    exact ⟨b, v, h1, e _ _ h2⟩
theorem LsAt.same {H H' : Hp} (e : Same H H') {ts : List Tr} {v : V} (h : LsAt H ts v) : LsAt H' ts v := by
  obtain ⟨l, us, h1, h2, h3⟩ := h
  exact ⟨l, us, h1, e _ _ h2, h3.same e⟩
def sp_lrd (d : Nat) (p : Bool) : Sp := fun vs H Q _ => ∃ (B : Hp) (R : List (Addr × HO)) (x : Str) (i : Nat), vs = [.str x, .int (i : Int), .int (21 - (d : Int))] ∧ Hs B R H ∧ R.all (fun e => noTup e.2) = true ∧ i ≤ x.length ∧ x.length ≤ 20000 ∧ ∀ B2 v H', Same B B2 → Hs B2 R H' → PrAt TrAt B2 v (rd (tl x) d p i) → Q v H'
def sp_lrow (d : Nat) (p : Bool) : Sp := fun vs H Q _ => ∃ (B : Hp) (R : List (Addr × HO)) (x : Str) (i : Nat), vs = [.str x, .int (i : Int), .int (21 - (d : Int)), .bl (!p)] ∧ Hs B R H ∧ R.all (fun e => noTup e.2) = true ∧ i ≤ x.length ∧ x.length ≤ 20000 ∧ ∀ B2 v H', Same B B2 → Hs B2 R H' → PrAt LsAt B2 v (rRow (tl x) (rd (tl x) d p) i) → Q v H'
theorem fin2 {B H : Hp} {R : List (Addr × HO)} {p q : Addr} {o o2 : HO} (hs : Hs B ((p, o) :: (q, o2) :: R) H) : ∃ B2, Same B B2 ∧ Hs B2 R H ∧ B2 p = some o ∧ B2 q = some o2 := by
  obtain ⟨B1, s1, g1, h1⟩ := frz_hs hs
  obtain ⟨B2, s2, g2, h2⟩ := frz_hs h1
  exact ⟨B2, s1.trans s2, h2, s2 _ _ g1, g2⟩
theorem one_len : (tl ("(" : Str)).length = 1 ∧ (tl (")" : Str)).length = 1 ∧ (tl (", " : Str)).length = 2 ∧ (tl ("!" : Str)).length = 1 ∧ (tl ("&" : Str)).length = 1 ∧ (tl ("|" : Str)).length = 1 ∧ (tl ("[" : Str)).length = 1 ∧ (tl ("]" : Str)).length = 1 ∧ (tl ("*" : Str)).length = 1 ∧ (tl ("+" : Str)).length = 1 ∧ (tl (";" : Str)).length = 1 := by decide +kernel
/-- what stands at a place is a sign or not -/
theorem w_neCut {H : Hp} {Q : VK} {x s : Str} {i : Nat} {j : Int} (e : j = ((i + (tl s).length : Nat) : Int)) (q : Q (.bl (!atS x s i)) H) : rNe (.str (cutS x (some (i : Int)) (some j))) (.str s) H Q := by
  refine w_ne rfl ?_
  rw [show decide (V.str (cutS x (some (i : Int)) (some j)) = V.str s) = decide (cutS x (some (i : Int)) (some j) = s) from by simp only [V.str.injEq], cut_at x s i e]
  exact q
theorem w_eqCut {H : Hp} {Q : VK} {x s : Str} {i : Nat} {j : Int} (e : j = ((i + (tl s).length : Nat) : Int)) (q : Q (.bl (atS x s i)) H) : rEq (.str (cutS x (some (i : Int)) (some j))) (.str s) H Q := by
  refine w_eqSt ?_
  rw [cut_at x s i e]
  exact q
theorem w_two {sp1 sp2 : Sp} {p : Bool} {d : Nat} {x : Str} {j : Nat} {σ : L2.St} {B H : Hp} {L : List (Addr × HO)} {R : VK} (e : (if p then sp2 else sp1) = sp_lrd d p) (h0 : σ[0]? = some (some (.str x))) (h1 : σ[1]? = some (some (.int (j : Int)))) (h2 : σ[2]? = some (some (.int (21 - (d : Int))))) (hs : Hs B L H) (hL : L.all (fun e => noTup e.2) = true) (hj : j ≤ x.length) (hz : x.length ≤ 20000)
    (q : ∀ B2 v H', Same B B2 → Hs B2 L H' → PrAt TrAt B2 v (rd (tl x) d p j) → R v H') : if (!p) = true then tCall sp1 [] E0 (tCons (tVar 0) (tCons (tVar 1) (tCons (tVar 2) tNil))) σ H R else tCall sp2 [] E0 (tCons (tVar 0) (tCons (tVar 1) (tCons (tVar 2) tNil))) σ H R := by
  cases p with
  | false =>
    have e : sp1 = sp_lrd d false := e
    subst e
    exact ⟨_, h0, _, h1, _, h2, B, L, x, j, rfl, hs, hL, hj, hz, q⟩
  | true =>
    have e : sp2 = sp_lrd d true := e
    subst e
    exact ⟨_, h0, _, h1, _, h2, B, L, x, j, rfl, hs, hL, hj, hz, q⟩
theorem ok_lrow (T : Txt w K mg a) {k d : Nat} {p : Bool} {k1 k2 : Nat} {sp1 sp2 : Sp} (h1 : k1 ≤ k) (h2 : k2 ≤ k) (G__law_test_at : FnOk P w K mg base CX0 k1 a._law_test_at a.fd__law_test_at ["text", "at", "deep"] sp1) (G__law_policy_at : FnOk P w K mg base CX0 k2 a._law_policy_at a.fd__law_policy_at ["text", "at", "deep"] sp2) (e : (if p then sp2 else sp1) = sp_lrd d p) :
    FnOk P w K mg base CX0 (k + 1) a._law_row a.fd__law_row ["text", "at", "deep", "tests"] (sp_lrow d p) := by
  obtain ⟨l40, l41, l44⟩ := lit_par
  obtain ⟨n40, n41, n44, _⟩ := one_len
  refine T.fn__law_row.ok sc__law_row (fun vs H Q E h => ?_) (fun cdv A outer s H vs Q E hr h => ?_)
  · obtain ⟨_, _, _, _, rfl, _⟩ := h
    rfl
  · obtain ⟨B0, R, x, i, rfl, hs, hR, hi, hz, kk⟩ := h
    have hlx := len_tl x
    refine ⟨_, (pss_cons (ps_set (i := 4) sc__law_row.nd rfl (Or.inl rfl) (pe_lst pa_nil))
  (pss_cons (ps_if (pt_cmpR op_ne (pe_slice sl_str (pv 0) (po_some (pv 1)) (po_some (pe_op op_add (pv 1) pe_int))) pe_str (nomark _))
  (pss_one (ps_ret (pe_tup (pa_cons pe_non (pa_cons (pe_op op_sub (pe_un un_neg pe_int) (pv 1)) pa_nil)))))
  pss_nil)
  (pss_cons (ps_set (i := 1) sc__law_row.nd rfl (Or.inl rfl) (pe_op op_add (pv 1) pe_int))
  (pss_cons (ps_if (pt_cmpR op_eq (pe_slice sl_str (pv 0) (po_some (pv 1)) (po_some (pe_op op_add (pv 1) pe_int))) pe_str (nomark _))
  (pss_one (ps_ret (pe_tup (pa_cons (pv 4) (pa_cons (pe_op op_add (pv 1) pe_int) pa_nil)))))
  pss_nil)
  (C8.pss_cut (ps_for PassesOwn.never rfl (pi_range1 rfl T.mg_range (pa_cons (pe_callB call_len_str (by rfl) T.mg_len PySem.boot_len (pa_cons (pv 0) pa_nil)) pa_nil)) (pg_name (i := 5) sc__law_row.nd rfl (Or.inl rfl))
  (pss_cons (ps_asg (pe_ifExp (pt_val (pv 3)) (pe_call G__law_test_at (hr.mono (by first | decide | omega)) rfl T.mg__law_test_at T.kp__law_test_at T.bi__law_test_at .nil pass0 (pa_cons (pv 0) (pa_cons (pv 1) (pa_cons (pv 2) pa_nil)))) (pe_call G__law_policy_at (hr.mono (by first | decide | omega)) rfl T.mg__law_policy_at T.kp__law_policy_at T.bi__law_policy_at .nil pass0 (pa_cons (pv 0) (pa_cons (pv 1) (pa_cons (pv 2) pa_nil))))) (pg_tupK (K := K) rfl (pgs_cons (pg_name (i := 6) sc__law_row.nd rfl (Or.inl rfl)) (pgs_cons (pg_name (i := 1) sc__law_row.nd rfl (Or.inl rfl)) pgs_nil))))
  (pss_cons (ps_if (pt_cmpR op_lt (pv 1) pe_int (nomark _))
  (pss_one (ps_ret (pe_tup (pa_cons pe_non (pa_cons (pv 1) pa_nil)))))
  pss_nil)
  (pss_cons (ps_expr (pe_bmK (K := K) PySem.F.plainAttrs_list PySem.F.slot_list_append PySem.F.type_list_append mt_append (pv 4) (pa_cons (pv 6) pa_nil)))
  (pss_cons (ps_if (pt_cmpR op_ne (pe_slice sl_str (pv 0) (po_some (pv 1)) (po_some (pe_op op_add (pv 1) pe_int))) pe_str (nomark _))
  (pss_one ps_break)
  pss_nil)
  (pss_one (ps_set (i := 1) sc__law_row.nd rfl (Or.inl rfl) (pe_op op_add (pv 1) pe_int))))))))
  (pss_cons (ps_if (pt_cmpR op_ne (pe_slice sl_str (pv 0) (po_some (pv 1)) (po_some (pe_op op_add (pv 1) pe_int))) pe_str (nomark _))
  (pss_one (ps_ret (pe_tup (pa_cons pe_non (pa_cons (pe_op op_sub (pe_un un_neg pe_int) (pv 1)) pa_nil)))))
  pss_nil)
  (pss_one (ps_ret (pe_tup (pa_cons (pv 4) (pa_cons (pe_op op_add (pv 1) pe_int) pa_nil))))))))))), ?_⟩
    unfold rRow at kk
    walk_at "ss"
    rename_i lr H1 hs1
    clear hs
    refine w_slS (by omega) ?_
    walk_at "ss"
    refine w_neCut (by rw [n40] <;> omega) ?_
    refine ⟨_, rfl, ?_⟩
    cases hb : atS x "(" i with
    | false =>
      have e0 : at_ (tl x) [40] i = false := by rw [← l40]; exact hb
      rw [if_neg (by rw [e0]; decide)] at kk
      refine iteT ?_
      walk_at "ss"
      rename_i p5 H5 hs5
      obtain ⟨B2, s2, h2, g5, _⟩ := fin2 hs5
      exact kk B2 _ H5 s2 h2 ⟨p5, _, rfl, g5⟩
    | true =>
      have e0 : at_ (tl x) [40] i = true := by rw [← l40]; exact hb
      rw [if_pos e0] at kk
      have hi1 := (at_one e0).1
      refine iteF ?_
      walk_at "ss"
      rw [show ((i : Int) + 1) = ((i + 1 : Nat) : Int) from rfl]
      generalize hi1e : i + 1 = i1 at kk hi1 ⊢
      refine w_slS (by omega) ?_
      walk_at "ss"
      rw [cut_at x ")" i1 (by rw [n41] <;> omega)]
      rw [show i + 2 = i1 + 1 by omega] at kk
      cases hb1 : atS x ")" i1 with
      | true =>
        have e1 : at_ (tl x) [41] i1 = true := by rw [← l41]; exact hb1
        rw [if_pos e1] at kk
        refine iteT ?_
        walk_at "ss"
        rename_i p5 H5 hs5
        obtain ⟨B2, s2, h2, g5, g6⟩ := fin2 hs5
        exact kk B2 _ H5 s2 h2 ⟨p5, .ref lr, rfl, g5, lr, [], rfl, g6, rfl⟩
      | false =>
        have e1 : at_ (tl x) [41] i1 = false := by rw [← l41]; exact hb1
        rw [if_neg (by rw [e1]; decide)] at kk
        refine iteF ?_
        walk_at "ss"
        refine w_cut (fun σ' H' => ∃ (B : Hp) (acc : List Tr) (us : List V) (l : Nat) (v5 v6 : Option V), σ' = [some (.str x), some (.int (l : Int)), some (.int (21 - (d : Int))), some (.bl (!p)), some (.ref lr), v5, v6] ∧ Same B0 B ∧ Hs B ((lr, .lst us) :: R) H' ∧ TrsAt B acc us ∧ l ≤ x.length ∧ ∀ B2 v H', Same B0 B2 → Hs B2 R H' → PrAt LsAt B2 v (if at_ (tl x) [41] l = true then Res.ok acc (l + 1) else .bad l) → Q v H') ?_ ?_
        · refine w_for1 ?_
          walk_at "ss"
          refine ⟨x, rfl, sz (by omega), ?_⟩
          walk_at "ss"
          refine w_forR (n := (x.length : Int)) (by omega) (fun k σ' H' => ∃ (B : Hp) (acc : List Tr) (us : List V) (j : Nat) (v5 v6 : Option V), σ' = [some (.str x), some (.int (j : Int)), some (.int (21 - (d : Int))), some (.bl (!p)), some (.ref lr), v5, v6] ∧ Same B0 B ∧ Hs B ((lr, .lst us) :: R) H' ∧ TrsAt B acc us ∧ us.length ≤ j ∧ j ≤ x.length ∧ k + 1 ≤ j ∧ ∀ B2 v H', Same B0 B2 → Hs B2 R H' → PrAt LsAt B2 v (rPart (tl x) (rd (tl x) d p) (x.length - k) acc j) → Q v H') (fun Q q => q) (by omega) ⟨B0, [], [], i1, _, _, rfl, Same.refl _, hs1, rfl, Nat.zero_le _, by omega, by omega, by rw [Nat.sub_zero, hlx]; exact kk⟩ ?_ ?_
          · clear hs1 kk
            rintro k σ' H2 hk ⟨B, acc, us, j, v5, v6, rfl, sB, hs, hts, huj, hj, hkj, kk⟩
            obtain ⟨n, hn⟩ : ∃ n, x.length - k = n + 1 := ⟨x.length - k - 1, by omega⟩
            rw [hn] at kk
            walk_at "ss"
            refine w_two e rfl rfl rfl hs (by rw [List.all_cons, hR]; rfl) hj hz fun B3 v H3 s3 hs3 hv => ?_
            clear hs
            obtain ⟨g1, _⟩ := rd_good (tl x) d p j (by omega)
            cases hrd : rd (tl x) d p j with
            | bad b =>
              rw [hrd] at hv
              obtain ⟨q, u, rfl, hq⟩ := hv
              unfold rPart at kk
              rw [hrd] at kk
              have hq3 := hs3.same _ _ hq
              walk_at "ss"
              refine ifd (fun hlt => ?_) (fun hlt => absurd (show -1 - (b : Int) < 0 by omega) hlt)
              walk_at "ss"
              rename_i p5 H5 hs5
              obtain ⟨B2, s2, h2, g5, _⟩ := fin2 hs5
              exact kk B2 _ H5 (sB.trans (s3.trans s2)) h2 ⟨p5, _, rfl, g5⟩
            | ok t b =>
              rw [cur_next hrd] at kk
              rw [hrd] at hv g1
              obtain ⟨g1, g2, _⟩ := g1
              obtain ⟨q, u, rfl, hq, hu⟩ := hv
              have hq3 := hs3.same _ _ hq
              have hts3 := TrsAt.snoc hu (hts.same s3)
              walk_at "ss"
              refine ifd (fun hlt => absurd hlt (by omega)) (fun _ => ?_)
              walk_at "ss"
              rename_i H4 hs4
              clear hs3
              refine w_slS (by omega) ?_
              walk_at "ss"
              refine w_neCut (by rw [n44] <;> omega) ?_
              refine ⟨_, rfl, ?_⟩
              cases hb2 : atS x ", " b with
              | false =>
                have e2 : at_ (tl x) [44, 32] b = false := by rw [← l44]; exact hb2
                refine iteT ?_
                walk_at "ss"
                refine ⟨B3, acc ++ [t], us ++ [u], b, _, _, rfl, sB.trans s3, hs4, hts3, by omega, fun B2 v H' s h hv => kk B2 v H' s h ?_⟩
                unfold cur
                by_cases e3 : at_ (tl x) [41] b = true
                · rw [if_pos e3] at hv ⊢
                  exact hv
                · rw [if_neg e3] at hv ⊢
                  rw [if_neg (show ¬ (acc ++ [t] = []) by simp), if_neg (by rw [e2]; decide)]
                  exact hv
              | true =>
                have e2 : at_ (tl x) [44, 32] b = true := by rw [← l44]; exact hb2
                have hb3 := at_le e2 (by simp)
                have hb3 : b + 2 ≤ (tl x).length := hb3
                have e3 : at_ (tl x) [41] b = false := at_no (c := 41) (d := 44) (at_split e2) (by decide)
                refine iteF ?_
                walk_at "ss"
                refine ⟨B3, acc ++ [t], us ++ [u], b + 2, _, _, rfl, sB.trans s3, hs4, hts3, ?_, by omega, by omega, fun B2 v H' s h hv => kk B2 v H' s h ?_⟩
                · rw [List.length_append]
                  show us.length + 1 ≤ b + 2
                  omega
                · unfold cur
                  rw [if_neg (by rw [e3]; decide), if_neg (show ¬ (acc ++ [t] = []) by simp), if_pos e2]
                  rw [show x.length - (k + 1) = n by omega] at hv
                  exact hv
          · rintro σ' H2 ⟨B, acc, us, j, v5, v6, rfl, sB, hs, hts, huj, hj, hkj, kk⟩
            exact absurd hkj (by omega)
        · clear hs1 kk
          rintro σ' H2 ⟨B, acc, us, l, v5, v6, rfl, sB, hs, hts, hl, kk⟩
          walk_at "ss"
          refine w_slS (by omega) ?_
          walk_at "ss"
          refine w_neCut (by rw [n41] <;> omega) ?_
          refine ⟨_, rfl, ?_⟩
          cases hb2 : atS x ")" l with
          | false =>
            have e2 : at_ (tl x) [41] l = false := by rw [← l41]; exact hb2
            rw [if_neg (by rw [e2]; decide)] at kk
            refine iteT ?_
            walk_at "ss"
            rename_i p5 H5 hs5
            obtain ⟨B2, s2, h2, g5, _⟩ := fin2 hs5
            exact kk B2 _ H5 (sB.trans s2) h2 ⟨p5, _, rfl, g5⟩
          | true =>
            have e2 : at_ (tl x) [41] l = true := by rw [← l41]; exact hb2
            rw [if_pos e2] at kk
            refine iteF ?_
            walk_at "ss"
            rename_i p5 H5 hs5
            obtain ⟨B2, s2, h2, g5, g6⟩ := fin2 hs5
            exact kk B2 _ H5 (sB.trans s2) h2 ⟨p5, _, rfl, g5, lr, us, rfl, g6, hts.same s2⟩
end
local macro_rules | `(tactic| walk_at "v") => `(tactic| first | exact v0 | exact v1 | exact v2 | exact v3 | exact v4 | exact v5 | exact v6 | exact v7 | exact v8)
local macro_rules | `(tactic| walk_at "vs") => `(tactic| first | exact st0 | exact st1 | exact st2 | exact st3 | exact st4 | exact st5 | exact st6 | exact st7 | exact st8)
local macro_rules | `(tactic| walk_at "s") => `(tactic| first
  | with_reducible refine w_dget ?_
  | ((with_reducible refine' w_dgetZ ?h ?nd ?hk ?hv ?_); (case h => walk_at "g"); (case nd => walk_at "nd"); (case hk => walk_at "k"); (case hv => walk_at "v"))
  | ((with_reducible refine' w_dputZ ?hs ?h ?nd ?hk ?hv ?hu ?hl ?_); (case hs => assumption); (case h => walk_at "p"); (case nd => walk_at "nd"); (case hk => walk_at "k"); (case hv => walk_at "v"); (case hu => walk_at "vs"); (case hl => decide); intro _ _)
  | with_reducible refine w_gsub ?_
  | with_reducible refine w_setD ?_
  | with_reducible refine w_disp ?_
  | ((with_reducible refine' w_newP ?hs ?_); (case hs => assumption); intro _ _ _)
  | with_reducible refine w_pcons ?_
  | with_reducible refine w_pnil ?_)

local macro_rules | `(tactic| walk_at "s") => `(tactic| first
  | with_reducible refine w_nget ?_
  | with_reducible refine w_nin ?_
  | with_reducible refine w_nnot ?_
  | with_reducible refine w_nput ?_
  | with_reducible refine w_ndel ?_
  | with_reducible refine w_npop ?_
  | ((with_reducible refine' w_nnew ?hs ?_); (case hs => assumption); intro _ _ _))

local macro_rules | `(tactic| walk_at "s") => `(tactic| first
  | with_reducible refine w_m0 ?_
  | with_reducible refine w_m1 ?_
  | with_reducible refine w_m0b ?_
  | with_reducible refine w_m1b ?_
  | with_reducible refine w_kget ?_
  | with_reducible refine w_nS ?_)

section
variable {P : Program} [IsP P] {w : World} {K : PySem.W.Frag} {mg : Str → Option Value} {base : Heap} {a : Ad}
theorem inV_two (y s t : Str) : inV (.str y) [.str s, .str t] = (decide (y = s) || decide (y = t)) := by
  have e : ∀ u : Str, eqV (.str u) (.str y) = decide (y = u) := fun u => by
    show (u == y) = _
    by_cases h : y = u
    · rw [h]
      simp
    · rw [decide_eq_false h]
      exact beq_eq_false_iff_ne.mpr fun z => h z.symm
  show (eqV (.str s) (.str y) || (eqV (.str t) (.str y) || false)) = _
  rw [e, e, Bool.or_false]
theorem NrAt.tups {H H' : Hp} (e : ∀ p xs, H p = some (.tup xs) → H' p = some (.tup xs)) {p : V} {res : Res (Nat × Int)} (h : NrAt H p res) : NrAt H' p res := by
  cases res with
  | ok t l =>
    obtain ⟨b, v, h1, h2, c, h3, h4⟩ := h
    exact ⟨b, v, h1, e _ _ h2, c, h3, e _ _ h4⟩
  | bad l =>
    obtain ⟨b, v, h1, h2, h3⟩ := h
    refine ⟨b, v, h1, e _ _ h2, ?_⟩
    rcases h3 with h3 | ⟨c, u, u2, h3, h4⟩
    · exact .inl h3
    · exact .inr ⟨c, u, u2, h3, e _ _ h4⟩
theorem w_named {B H : Hp} {R : List (Addr × HO)} {x : Str} {i : Nat} {p : Bool} {Q : VK} {E : XK} (hs : Hs B R H) (hR : R.all (fun e => noTup e.2) = true) (hi : i ≤ x.length) (hz : x.length ≤ 20000) (q : ∀ B2 v H', Same B B2 → Hs B2 R H' → NrAt B2 v (rNamed (tl x) p i) → Q v H') : sp__law_named [.str x, .int (i : Int), .str (lfS p)] H Q E := by
  refine ⟨x, i, p, rfl, hi, hz, fun v H' sm hv => ?_⟩
  obtain ⟨B2, s2, h2, tu⟩ := (hs.keep sm).allinT hR
  exact q B2 v H' s2 h2 (hv.tups tu)
theorem w_cat12 {B H : Hp} {L : List (Addr × HO)} {Q : VK} {p b : Addr} {v0 u1 u2 : V} (hs : Hs B L H) (ha : H p = some (.tup [v0])) (hb : H b = some (.tup [u1, u2])) (q : ∀ t H', Hs B ((t, .tup [v0, u1, u2]) :: L) H' → Q (.ref t) H') : rCatA K (.ref p) (.ref b) H Q :=
  ⟨p, b, _, _, rfl, rfl, SqT.of ha, SqT.of hb, (by show 3 ≤ sizeLine; rw [sizeLine_eq]; decide), (fun z => nomatch z), (fun _ z => nomatch z), fun _ _ t ht => q t _ (hs.new ht)⟩
theorem fin3 {B H : Hp} {R : List (Addr × HO)} {p q r : Addr} {o o2 o3 : HO} (hs : Hs B ((p, o) :: (q, o2) :: (r, o3) :: R) H) : ∃ B2, Same B B2 ∧ Hs B2 R H ∧ B2 p = some o ∧ B2 q = some o2 := by
  obtain ⟨B1, s1, h1, g1, g2⟩ := fin2 hs
  obtain ⟨B2, s2, g3, h2⟩ := frz_hs h1
  exact ⟨B2, s1.trans s2, h2, s2 _ _ g1, s2 _ _ g2⟩
theorem ok_ltest (T : Txt w K mg a) : ∀ d : Nat, FnOk P w K mg base CX0 (2 * d + 4) a._law_test_at a.fd__law_test_at ["text", "at", "deep"] (sp_lrd d false) := by
  have G__law_named := ok__law_named (P := P) (w := w) (base := base) T
  obtain ⟨l33, l38, l124, _⟩ := lit_sg
  obtain ⟨_, _, _, n33, n38, n124, _⟩ := one_len
  intro d
  induction d with
  | zero =>
    have G__law_test_at : FnOk P w K mg base CX0 0 a._law_test_at a.fd__law_test_at ["text", "at", "deep"] spF := fn_F
    have G__law_row : FnOk P w K mg base CX0 0 a._law_row a.fd__law_row ["text", "at", "deep", "tests"] spF := fn_F
    refine T.fn__law_test_at.ok sc__law_test_at (fun vs H Q E h => ?_) (fun cdv A outer s H vs Q E hr h => ?_)
    · obtain ⟨_, _, _, _, rfl, _⟩ := h
      rfl
    · obtain ⟨B, R, x, i, rfl, hs, hR, hi, hz, kk⟩ := h
      refine ⟨_, (pss_cons (ps_if (pt_cmpR op_gt (pv 2) pe_int (nomark _))
  (pss_one (ps_ret (pe_tup (pa_cons pe_non (pa_cons (pe_op op_sub (pe_un un_neg pe_int) (pv 1)) pa_nil)))))
  pss_nil)
  (pss_cons (ps_set (i := 3) sc__law_test_at.nd rfl (Or.inl rfl) (pe_slice sl_str (pv 0) (po_some (pv 1)) (po_some (pe_op op_add (pv 1) pe_int))))
  (pss_cons (ps_if (pt_cmpR op_eq (pv 3) pe_str (nomark _))
  (pss_cons (ps_asg (pe_call G__law_test_at (hr.mono (by first | decide | omega)) rfl T.mg__law_test_at T.kp__law_test_at T.bi__law_test_at .nil pass0 (pa_cons (pv 0) (pa_cons (pe_op op_add (pv 1) pe_int) (pa_cons (pe_op op_add (pv 2) pe_int) pa_nil)))) (pg_tupK (K := K) rfl (pgs_cons (pg_name (i := 4) sc__law_test_at.nd rfl (Or.inl rfl)) (pgs_cons (pg_name (i := 5) sc__law_test_at.nd rfl (Or.inl rfl)) pgs_nil))))
  (pss_one (ps_ret (pe_tup (pa_cons (pe_tup (pa_cons pe_str (pa_cons (pv 4) pa_nil))) (pa_cons (pv 5) pa_nil))))))
  pss_nil)
  (pss_cons (ps_if (pt_cmpR (op_inK (K := K)) (pv 3) (pe_tup (pa_cons pe_str (pa_cons pe_str pa_nil))) (by rfl))
  (pss_cons (ps_asg (pe_call G__law_row (hr.mono (by first | decide | omega)) rfl T.mg__law_row T.kp__law_row T.bi__law_row .nil pass0 (pa_cons (pv 0) (pa_cons (pe_op op_add (pv 1) pe_int) (pa_cons (pe_op op_add (pv 2) pe_int) (pa_cons pe_bl pa_nil))))) (pg_tupK (K := K) rfl (pgs_cons (pg_name (i := 6) sc__law_test_at.nd rfl (Or.inl rfl)) (pgs_cons (pg_name (i := 5) sc__law_test_at.nd rfl (Or.inl rfl)) pgs_nil))))
  (pss_one (ps_ret (pe_tup (pa_cons (pe_tup (pa_cons (pe_ifExp (pt_cmpR op_eq (pv 3) pe_str (nomark _)) pe_str pe_str) (pa_cons (pv 6) pa_nil))) (pa_cons (pv 5) pa_nil))))))
  pss_nil)
  (pss_cons (ps_asg (pe_call G__law_named (hr.mono (by first | decide | omega)) rfl T.mg__law_named T.kp__law_named T.bi__law_named .nil pass0 (pa_cons (pv 0) (pa_cons (pv 1) (pa_cons pe_str pa_nil)))) (pg_tupK (K := K) rfl (pgs_cons (pg_name (i := 7) sc__law_test_at.nd rfl (Or.inl rfl)) (pgs_cons (pg_name (i := 5) sc__law_test_at.nd rfl (Or.inl rfl)) pgs_nil))))
  (pss_one (ps_ret (pe_tup (pa_cons (pe_op (op_catAK (K := K)) (pe_tup (pa_cons pe_str pa_nil)) (pe_ifExp (pt_cmpR op_notNQ (pv 7) pe_non (nomark _)) (pv 7) (pe_tup (pa_cons pe_str (pa_cons pe_int pa_nil))))) (pa_cons (pv 5) pa_nil)))))))))), ?_⟩
      walk_at "ss"
      refine ifd (fun _ => ?_) (fun z => absurd (by decide) z)
      walk_at "ss"
      rename_i p5 H5 hs5
      obtain ⟨B2, s2, g5, h2⟩ := frz_hs hs5
      exact kk B2 _ H5 s2 h2 ⟨p5, _, rfl, g5⟩
  | succ d ih =>
    have G__law_test_at := ih
    have G__law_row := ok_lrow (P := P) (w := w) (base := base) T (k := 2 * d + 4) (d := d) (p := false) (k2 := 0) (sp2 := spF) (by omega) (by omega) ih fn_F rfl
    refine T.fn__law_test_at.ok sc__law_test_at (fun vs H Q E h => ?_) (fun cdv A outer s H vs Q E hr h => ?_)
    · obtain ⟨_, _, _, _, rfl, _⟩ := h
      rfl
    · obtain ⟨B, R, x, i, rfl, hs, hR, hi, hz, kk⟩ := h
      have hlx := len_tl x
      refine ⟨_, (pss_cons (ps_if (pt_cmpR op_gt (pv 2) pe_int (nomark _))
  (pss_one (ps_ret (pe_tup (pa_cons pe_non (pa_cons (pe_op op_sub (pe_un un_neg pe_int) (pv 1)) pa_nil)))))
  pss_nil)
  (pss_cons (ps_set (i := 3) sc__law_test_at.nd rfl (Or.inl rfl) (pe_slice sl_str (pv 0) (po_some (pv 1)) (po_some (pe_op op_add (pv 1) pe_int))))
  (pss_cons (ps_if (pt_cmpR op_eq (pv 3) pe_str (nomark _))
  (pss_cons (ps_asg (pe_call G__law_test_at (hr.mono (by first | decide | omega)) rfl T.mg__law_test_at T.kp__law_test_at T.bi__law_test_at .nil pass0 (pa_cons (pv 0) (pa_cons (pe_op op_add (pv 1) pe_int) (pa_cons (pe_op op_add (pv 2) pe_int) pa_nil)))) (pg_tupK (K := K) rfl (pgs_cons (pg_name (i := 4) sc__law_test_at.nd rfl (Or.inl rfl)) (pgs_cons (pg_name (i := 5) sc__law_test_at.nd rfl (Or.inl rfl)) pgs_nil))))
  (pss_one (ps_ret (pe_tup (pa_cons (pe_tup (pa_cons pe_str (pa_cons (pv 4) pa_nil))) (pa_cons (pv 5) pa_nil))))))
  pss_nil)
  (pss_cons (ps_if (pt_cmpR (op_inK (K := K)) (pv 3) (pe_tup (pa_cons pe_str (pa_cons pe_str pa_nil))) (by rfl))
  (pss_cons (ps_asg (pe_call G__law_row (hr.mono (by first | decide | omega)) rfl T.mg__law_row T.kp__law_row T.bi__law_row .nil pass0 (pa_cons (pv 0) (pa_cons (pe_op op_add (pv 1) pe_int) (pa_cons (pe_op op_add (pv 2) pe_int) (pa_cons pe_bl pa_nil))))) (pg_tupK (K := K) rfl (pgs_cons (pg_name (i := 6) sc__law_test_at.nd rfl (Or.inl rfl)) (pgs_cons (pg_name (i := 5) sc__law_test_at.nd rfl (Or.inl rfl)) pgs_nil))))
  (pss_one (ps_ret (pe_tup (pa_cons (pe_tup (pa_cons (pe_ifExp (pt_cmpR op_eq (pv 3) pe_str (nomark _)) pe_str pe_str) (pa_cons (pv 6) pa_nil))) (pa_cons (pv 5) pa_nil))))))
  pss_nil)
  (pss_cons (ps_asg (pe_call G__law_named (hr.mono (by first | decide | omega)) rfl T.mg__law_named T.kp__law_named T.bi__law_named .nil pass0 (pa_cons (pv 0) (pa_cons (pv 1) (pa_cons pe_str pa_nil)))) (pg_tupK (K := K) rfl (pgs_cons (pg_name (i := 7) sc__law_test_at.nd rfl (Or.inl rfl)) (pgs_cons (pg_name (i := 5) sc__law_test_at.nd rfl (Or.inl rfl)) pgs_nil))))
  (pss_one (ps_ret (pe_tup (pa_cons (pe_op (op_catAK (K := K)) (pe_tup (pa_cons pe_str pa_nil)) (pe_ifExp (pt_cmpR op_notNQ (pv 7) pe_non (nomark _)) (pv 7) (pe_tup (pa_cons pe_str (pa_cons pe_int pa_nil))))) (pa_cons (pv 5) pa_nil)))))))))), ?_⟩
      unfold rd at kk
      have hd0 : ¬ 20 < 21 - ((d + 1 : Nat) : Int) := by omega
      have hae := around_eq d
      generalize 21 - ((d + 1 : Nat) : Int) = ar at hd0 hae ⊢
      walk_at "ss"
      refine ifd (fun z => absurd z hd0) (fun _ => ?_)
      walk_at "ss"
      refine w_slS (by omega) ?_
      have c33 := cut_at x "!" i (j := (i : Int) + 1) (by rw [n33] <;> omega)
      have c38 := cut_at x "&" i (j := (i : Int) + 1) (by rw [n38] <;> omega)
      have c124 := cut_at x "|" i (j := (i : Int) + 1) (by rw [n124] <;> omega)
      generalize cutS x (some (i : Int)) (some ((i : Int) + 1)) = y at c33 c38 c124 ⊢
      rw [show atS x "!" i = at_ (tl x) [33] i by unfold atS; rw [l33]] at c33
      rw [show atS x "&" i = at_ (tl x) [38] i by unfold atS; rw [l38]] at c38
      rw [show atS x "|" i = at_ (tl x) [124] i by unfold atS; rw [l124]] at c124
      walk_at "ss"
      rw [c33]
      cases h33 : at_ (tl x) [33] i with
      | true =>
        rw [if_pos h33] at kk
        have hi1 := (at_one h33).1
        refine iteT ?_
        walk_at "ss"
        refine ⟨B, R, x, i + 1, by rw [hae]; rfl, hs, hR, by omega, hz, fun B2 v H2 s2 hs2 hv => ?_⟩
        clear hs
        cases hrd : rd (tl x) d false (i + 1) with
        | ok t l =>
          rw [hrd] at hv kk
          obtain ⟨q, u, rfl, hq, hu⟩ := hv
          have hq2 := hs2.same _ _ hq
          walk_at "ss"
          rename_i p4 H4 hs4 p5 H5 hs5
          obtain ⟨B3, s3, h3, g5, g4⟩ := fin2 hs5
          exact kk B3 _ H5 (s2.trans s3) h3 ⟨p5, .ref p4, rfl, g5, p4, u, rfl, g4, hu.same s3⟩
        | bad l =>
          rw [hrd] at hv kk
          obtain ⟨q, u, rfl, hq⟩ := hv
          have hq2 := hs2.same _ _ hq
          walk_at "ss"
          rename_i p4 H4 hs4 p5 H5 hs5
          obtain ⟨B3, s3, h3, g5, g4⟩ := fin2 hs5
          exact kk B3 _ H5 (s2.trans s3) h3 ⟨p5, .ref p4, rfl, g5⟩
      | false =>
        rw [if_neg (by rw [h33]; decide)] at kk
        refine iteF ?_
        walk_at "ss"
        rename_i p0 H1 hs1
        refine w_inT (SqT.of hs1.g0) rfl rfl ?_
        rw [inV_two, c38, c124, if_neg (by decide)]
        refine ⟨_, rfl, ?_⟩
        obtain ⟨B1, s1, _, hs2⟩ := frz_hs hs1
        clear hs hs1
        cases h38 : at_ (tl x) [38] i with
        | true =>
          rw [h38] at c38
          rw [if_pos h38] at kk
          have hi1 := (at_one h38).1
          refine iteT ?_
          walk_at "ss"
          refine ⟨B1, R, x, i + 1, by rw [hae]; rfl, hs2, hR, by omega, hz, fun B2 v H2 s2 hs3 hv => ?_⟩
          clear hs2
          cases hrd : rRow (tl x) (rd (tl x) d false) (i + 1) with
          | ok t l =>
            rw [hrd] at hv kk
            obtain ⟨q, u, rfl, hq, lr, us, rfl, hlr, hts⟩ := hv
            have hq2 := hs3.same _ _ hq
            walk_at "ss"
            rw [c38]
            walk_at "ss"
            rename_i p4 H4 hs4 p5 H5 hs5
            obtain ⟨B3, s3, h3, g5, g4⟩ := fin2 hs5
            exact kk B3 _ H5 (s1.trans (s2.trans s3)) h3 ⟨p5, .ref p4, rfl, g5, p4, lr, us, rfl, g4, s3 _ _ hlr, hts.same s3⟩
          | bad l =>
            rw [hrd] at hv kk
            obtain ⟨q, u, rfl, hq⟩ := hv
            have hq2 := hs3.same _ _ hq
            walk_at "ss"
            rw [c38]
            walk_at "ss"
            rename_i p4 H4 hs4 p5 H5 hs5
            obtain ⟨B3, s3, h3, g5, g4⟩ := fin2 hs5
            exact kk B3 _ H5 (s1.trans (s2.trans s3)) h3 ⟨p5, .ref p4, rfl, g5⟩
        | false =>
          rw [h38] at c38
          rw [if_neg (by rw [h38]; decide)] at kk
          cases h124 : at_ (tl x) [124] i with
          | true =>
            rw [if_pos h124] at kk
            have hi1 := (at_one h124).1
            refine iteT ?_
            walk_at "ss"
            refine ⟨B1, R, x, i + 1, by rw [hae]; rfl, hs2, hR, by omega, hz, fun B2 v H2 s2 hs3 hv => ?_⟩
            clear hs2
            cases hrd : rRow (tl x) (rd (tl x) d false) (i + 1) with
            | ok t l =>
              rw [hrd] at hv kk
              obtain ⟨q, u, rfl, hq, lr, us, rfl, hlr, hts⟩ := hv
              have hq2 := hs3.same _ _ hq
              walk_at "ss"
              rw [c38]
              walk_at "ss"
              rename_i p4 H4 hs4 p5 H5 hs5
              obtain ⟨B3, s3, h3, g5, g4⟩ := fin2 hs5
              exact kk B3 _ H5 (s1.trans (s2.trans s3)) h3 ⟨p5, .ref p4, rfl, g5, p4, lr, us, rfl, g4, s3 _ _ hlr, hts.same s3⟩
            | bad l =>
              rw [hrd] at hv kk
              obtain ⟨q, u, rfl, hq⟩ := hv
              have hq2 := hs3.same _ _ hq
              walk_at "ss"
              rw [c38]
              walk_at "ss"
              rename_i p4 H4 hs4 p5 H5 hs5
              obtain ⟨B3, s3, h3, g5, g4⟩ := fin2 hs5
              exact kk B3 _ H5 (s1.trans (s2.trans s3)) h3 ⟨p5, .ref p4, rfl, g5⟩
          | false =>
            rw [if_neg (by rw [h124]; decide), leaf_named] at kk
            refine iteF ?_
            walk_at "ss"
            refine w_named (p := false) hs2 hR hi hz fun B2 v H2 s2 hs3 hv => ?_
            clear hs2
            cases hrd : rNamed (tl x) false i with
            | ok t l =>
              rw [hrd] at hv kk
              obtain ⟨q, u, rfl, hq, b, rfl, hb⟩ := hv
              have hq2 := hs3.same _ _ hq
              have hb2 := hs3.same _ _ hb
              walk_at "ss"
              rename_i p3 H3 hs4
              have hb3 := hs4.same _ _ (show B2 b = _ from hb)
              refine ifn (fun _ => ?_) (fun z => by cases z)
              walk_at "ss"
              refine w_cat12 hs4 hs4.g0 hb3 fun p4 H4 hs5 => ?_
              clear hs3 hs4
              walk_at "ss"
              rename_i p5 H5 hs6
              obtain ⟨B3, s3, h3, g5, g4⟩ := fin3 hs6
              exact kk B3 _ H5 (s1.trans (s2.trans s3)) h3 ⟨p5, .ref p4, rfl, g5, p4, rfl, g4⟩
            | bad l =>
              rw [hrd] at hv kk
              obtain ⟨q, u, rfl, hq, h2⟩ := hv
              have hq2 := hs3.same _ _ hq
              rcases h2 with rfl | ⟨b, u1, u2, rfl, hb⟩
              · walk_at "ss"
                rename_i p3 H3 hs4
                refine ifn (fun z => absurd rfl z) (fun _ => ?_)
                walk_at "ss"
                rename_i p4 H4 hs5
                refine w_cat12 hs5 hs5.g1 hs5.g0 fun p6 H6 hs6 => ?_
                clear hs3 hs4 hs5
                walk_at "ss"
                rename_i p5 H5 hs7
                obtain ⟨B3, s3, h3, g5, g4⟩ := fin3 hs7
                obtain ⟨B4, s4, _, h4⟩ := frz_hs h3
                exact kk B4 _ H5 (s1.trans (s2.trans (s3.trans s4))) h4 ⟨p5, .ref p6, rfl, s4 _ _ g5⟩
              · walk_at "ss"
                rename_i p3 H3 hs4
                have hb3 := hs4.same _ _ hb
                refine ifn (fun _ => ?_) (fun z => by cases z)
                walk_at "ss"
                refine w_cat12 hs4 hs4.g0 hb3 fun p4 H4 hs5 => ?_
                clear hs3 hs4
                walk_at "ss"
                rename_i p5 H5 hs6
                obtain ⟨B3, s3, h3, g5, g4⟩ := fin3 hs6
                exact kk B3 _ H5 (s1.trans (s2.trans s3)) h3 ⟨p5, .ref p4, rfl, g5⟩
end
local macro_rules | `(tactic| walk_at "v") => `(tactic| first | exact v0 | exact v1 | exact v2 | exact v3 | exact v4 | exact v5 | exact v6 | exact v7 | exact v8)
local macro_rules | `(tactic| walk_at "vs") => `(tactic| first | exact st0 | exact st1 | exact st2 | exact st3 | exact st4 | exact st5 | exact st6 | exact st7 | exact st8)
local macro_rules | `(tactic| walk_at "s") => `(tactic| first
  | with_reducible refine w_dget ?_
  | ((with_reducible refine' w_dgetZ ?h ?nd ?hk ?hv ?_); (case h => walk_at "g"); (case nd => walk_at "nd"); (case hk => walk_at "k"); (case hv => walk_at "v"))
  | ((with_reducible refine' w_dputZ ?hs ?h ?nd ?hk ?hv ?hu ?hl ?_); (case hs => assumption); (case h => walk_at "p"); (case nd => walk_at "nd"); (case hk => walk_at "k"); (case hv => walk_at "v"); (case hu => walk_at "vs"); (case hl => decide); intro _ _)
  | with_reducible refine w_gsub ?_
  | with_reducible refine w_setD ?_
  | with_reducible refine w_disp ?_
  | ((with_reducible refine' w_newP ?hs ?_); (case hs => assumption); intro _ _ _)
  | with_reducible refine w_pcons ?_
  | with_reducible refine w_pnil ?_)

local macro_rules | `(tactic| walk_at "s") => `(tactic| first
  | with_reducible refine w_nget ?_
  | with_reducible refine w_nin ?_
  | with_reducible refine w_nnot ?_
  | with_reducible refine w_nput ?_
  | with_reducible refine w_ndel ?_
  | with_reducible refine w_npop ?_
  | ((with_reducible refine' w_nnew ?hs ?_); (case hs => assumption); intro _ _ _))

local macro_rules | `(tactic| walk_at "s") => `(tactic| first
  | with_reducible refine w_m0 ?_
  | with_reducible refine w_m1 ?_
  | with_reducible refine w_m0b ?_
  | with_reducible refine w_m1b ?_
  | with_reducible refine w_kget ?_
  | with_reducible refine w_nS ?_)

section
variable {P : Program} [IsP P] {w : World} {K : PySem.W.Frag} {mg : Str → Option Value} {base : Heap} {a : Ad}
theorem ok_lpol (T : Txt w K mg a) : ∀ d : Nat, FnOk P w K mg base CX0 (2 * d + 5) a._law_policy_at a.fd__law_policy_at ["text", "at", "deep"] (sp_lrd d true) := by
  have G__law_named := ok__law_named (P := P) (w := w) (base := base) T
  obtain ⟨_, _, _, l91, l93, l42, l43, l59⟩ := lit_sg
  obtain ⟨_, _, _, _, _, _, n91, n93, n42, n43, n59⟩ := one_len
  intro d
  induction d with
  | zero =>
    have G__law_policy_at : FnOk P w K mg base CX0 0 a._law_policy_at a.fd__law_policy_at ["text", "at", "deep"] spF := fn_F
    have G__law_test_at : FnOk P w K mg base CX0 0 a._law_test_at a.fd__law_test_at ["text", "at", "deep"] spF := fn_F
    have G__law_row : FnOk P w K mg base CX0 0 a._law_row a.fd__law_row ["text", "at", "deep", "tests"] spF := fn_F
    refine T.fn__law_policy_at.ok sc__law_policy_at (fun vs H Q E h => ?_) (fun cdv A outer s H vs Q E hr h => ?_)
    · obtain ⟨_, _, _, _, rfl, _⟩ := h
      rfl
    · obtain ⟨B, R, x, i, rfl, hs, hR, hi, hz, kk⟩ := h
      refine ⟨_, (pss_cons (ps_if (pt_cmpR op_gt (pv 2) pe_int (nomark _))
  (pss_one (ps_ret (pe_tup (pa_cons pe_non (pa_cons (pe_op op_sub (pe_un un_neg pe_int) (pv 1)) pa_nil)))))
  pss_nil)
  (pss_cons (ps_set (i := 3) sc__law_policy_at.nd rfl (Or.inl rfl) (pe_slice sl_str (pv 0) (po_some (pv 1)) (po_some (pe_op op_add (pv 1) pe_int))))
  (pss_cons (ps_if (pt_cmpR op_eq (pv 3) pe_str (nomark _))
  (pss_cons (ps_asg (pe_call G__law_test_at (hr.mono (by first | decide | omega)) rfl T.mg__law_test_at T.kp__law_test_at T.bi__law_test_at .nil pass0 (pa_cons (pv 0) (pa_cons (pe_op op_add (pv 1) pe_int) (pa_cons (pe_op op_add (pv 2) pe_int) pa_nil)))) (pg_tupK (K := K) rfl (pgs_cons (pg_name (i := 4) sc__law_policy_at.nd rfl (Or.inl rfl)) (pgs_cons (pg_name (i := 5) sc__law_policy_at.nd rfl (Or.inl rfl)) pgs_nil))))
  (pss_cons (ps_if (PW.pt (pw_and (pt_cmpR op_ge (pv 5) pe_int (nomark _)) (pw_and1 (pt_cmpR op_ne (pe_slice sl_str (pv 0) (po_some (pv 5)) (po_some (pe_op op_add (pv 5) pe_int))) pe_str (nomark _)))))
  (pss_one (ps_ret (pe_tup (pa_cons pe_non (pa_cons (pe_op op_sub (pe_un un_neg pe_int) (pv 5)) pa_nil)))))
  pss_nil)
  (pss_one (ps_ret (pe_tup (pa_cons (pe_tup (pa_cons pe_str (pa_cons (pv 4) pa_nil))) (pa_cons (pe_op op_add (pv 5) (pe_callTy call_intQ (by rfl) T.mg_int (by decide +kernel) (pa_cons (pe_cmpR op_ge (pv 5) pe_int (nomark _)) pa_nil))) pa_nil)))))))
  pss_nil)
  (pss_cons (ps_if (pt_cmpR op_eq (pv 3) pe_str (nomark _))
  (pss_cons (ps_asg (pe_call G__law_policy_at (hr.mono (by first | decide | omega)) rfl T.mg__law_policy_at T.kp__law_policy_at T.bi__law_policy_at .nil pass0 (pa_cons (pv 0) (pa_cons (pe_op op_add (pv 1) pe_int) (pa_cons (pe_op op_add (pv 2) pe_int) pa_nil)))) (pg_tupK (K := K) rfl (pgs_cons (pg_name (i := 6) sc__law_policy_at.nd rfl (Or.inl rfl)) (pgs_cons (pg_name (i := 5) sc__law_policy_at.nd rfl (Or.inl rfl)) pgs_nil))))
  (pss_one (ps_ret (pe_tup (pa_cons (pe_tup (pa_cons pe_str (pa_cons (pv 6) pa_nil))) (pa_cons (pv 5) pa_nil))))))
  pss_nil)
  (pss_cons (ps_if (pt_cmpR (op_inK (K := K)) (pv 3) (pe_tup (pa_cons pe_str (pa_cons pe_str pa_nil))) (by rfl))
  (pss_cons (ps_asg (pe_call G__law_row (hr.mono (by first | decide | omega)) rfl T.mg__law_row T.kp__law_row T.bi__law_row .nil pass0 (pa_cons (pv 0) (pa_cons (pe_op op_add (pv 1) pe_int) (pa_cons (pe_op op_add (pv 2) pe_int) (pa_cons pe_bl pa_nil))))) (pg_tupK (K := K) rfl (pgs_cons (pg_name (i := 7) sc__law_policy_at.nd rfl (Or.inl rfl)) (pgs_cons (pg_name (i := 5) sc__law_policy_at.nd rfl (Or.inl rfl)) pgs_nil))))
  (pss_one (ps_ret (pe_tup (pa_cons (pe_tup (pa_cons (pe_ifExp (pt_cmpR op_eq (pv 3) pe_str (nomark _)) pe_str pe_str) (pa_cons (pv 7) pa_nil))) (pa_cons (pv 5) pa_nil))))))
  pss_nil)
  (pss_cons (ps_asg (pe_call G__law_named (hr.mono (by first | decide | omega)) rfl T.mg__law_named T.kp__law_named T.bi__law_named .nil pass0 (pa_cons (pv 0) (pa_cons (pv 1) (pa_cons pe_str pa_nil)))) (pg_tupK (K := K) rfl (pgs_cons (pg_name (i := 8) sc__law_policy_at.nd rfl (Or.inl rfl)) (pgs_cons (pg_name (i := 5) sc__law_policy_at.nd rfl (Or.inl rfl)) pgs_nil))))
  (pss_one (ps_ret (pe_tup (pa_cons (pe_op (op_catAK (K := K)) (pe_tup (pa_cons pe_str pa_nil)) (pe_ifExp (pt_cmpR op_notNQ (pv 8) pe_non (nomark _)) (pv 8) (pe_tup (pa_cons pe_str (pa_cons pe_int pa_nil))))) (pa_cons (pv 5) pa_nil))))))))))), ?_⟩
      walk_at "ss"
      refine ifd (fun _ => ?_) (fun z => absurd (by decide) z)
      walk_at "ss"
      rename_i p5 H5 hs5
      obtain ⟨B2, s2, g5, h2⟩ := frz_hs hs5
      exact kk B2 _ H5 s2 h2 ⟨p5, _, rfl, g5⟩
  | succ d ih =>
    have G__law_test_at := ok_ltest (P := P) (w := w) (base := base) T d
    have G__law_policy_at := ih
    have G__law_row := ok_lrow (P := P) (w := w) (base := base) T (k := 2 * d + 5) (d := d) (p := true) (k1 := 0) (sp1 := spF) (by omega) (by omega) fn_F ih rfl
    refine T.fn__law_policy_at.ok sc__law_policy_at (fun vs H Q E h => ?_) (fun cdv A outer s H vs Q E hr h => ?_)
    · obtain ⟨_, _, _, _, rfl, _⟩ := h
      rfl
    · obtain ⟨B, R, x, i, rfl, hs, hR, hi, hz, kk⟩ := h
      have hlx := len_tl x
      refine ⟨_, (pss_cons (ps_if (pt_cmpR op_gt (pv 2) pe_int (nomark _))
  (pss_one (ps_ret (pe_tup (pa_cons pe_non (pa_cons (pe_op op_sub (pe_un un_neg pe_int) (pv 1)) pa_nil)))))
  pss_nil)
  (pss_cons (ps_set (i := 3) sc__law_policy_at.nd rfl (Or.inl rfl) (pe_slice sl_str (pv 0) (po_some (pv 1)) (po_some (pe_op op_add (pv 1) pe_int))))
  (pss_cons (ps_if (pt_cmpR op_eq (pv 3) pe_str (nomark _))
  (pss_cons (ps_asg (pe_call G__law_test_at (hr.mono (by first | decide | omega)) rfl T.mg__law_test_at T.kp__law_test_at T.bi__law_test_at .nil pass0 (pa_cons (pv 0) (pa_cons (pe_op op_add (pv 1) pe_int) (pa_cons (pe_op op_add (pv 2) pe_int) pa_nil)))) (pg_tupK (K := K) rfl (pgs_cons (pg_name (i := 4) sc__law_policy_at.nd rfl (Or.inl rfl)) (pgs_cons (pg_name (i := 5) sc__law_policy_at.nd rfl (Or.inl rfl)) pgs_nil))))
  (pss_cons (ps_if (PW.pt (pw_and (pt_cmpR op_ge (pv 5) pe_int (nomark _)) (pw_and1 (pt_cmpR op_ne (pe_slice sl_str (pv 0) (po_some (pv 5)) (po_some (pe_op op_add (pv 5) pe_int))) pe_str (nomark _)))))
  (pss_one (ps_ret (pe_tup (pa_cons pe_non (pa_cons (pe_op op_sub (pe_un un_neg pe_int) (pv 5)) pa_nil)))))
  pss_nil)
  (pss_one (ps_ret (pe_tup (pa_cons (pe_tup (pa_cons pe_str (pa_cons (pv 4) pa_nil))) (pa_cons (pe_op op_add (pv 5) (pe_callTy call_intQ (by rfl) T.mg_int (by decide +kernel) (pa_cons (pe_cmpR op_ge (pv 5) pe_int (nomark _)) pa_nil))) pa_nil)))))))
  pss_nil)
  (pss_cons (ps_if (pt_cmpR op_eq (pv 3) pe_str (nomark _))
  (pss_cons (ps_asg (pe_call G__law_policy_at (hr.mono (by first | decide | omega)) rfl T.mg__law_policy_at T.kp__law_policy_at T.bi__law_policy_at .nil pass0 (pa_cons (pv 0) (pa_cons (pe_op op_add (pv 1) pe_int) (pa_cons (pe_op op_add (pv 2) pe_int) pa_nil)))) (pg_tupK (K := K) rfl (pgs_cons (pg_name (i := 6) sc__law_policy_at.nd rfl (Or.inl rfl)) (pgs_cons (pg_name (i := 5) sc__law_policy_at.nd rfl (Or.inl rfl)) pgs_nil))))
  (pss_one (ps_ret (pe_tup (pa_cons (pe_tup (pa_cons pe_str (pa_cons (pv 6) pa_nil))) (pa_cons (pv 5) pa_nil))))))
  pss_nil)
  (pss_cons (ps_if (pt_cmpR (op_inK (K := K)) (pv 3) (pe_tup (pa_cons pe_str (pa_cons pe_str pa_nil))) (by rfl))
  (pss_cons (ps_asg (pe_call G__law_row (hr.mono (by first | decide | omega)) rfl T.mg__law_row T.kp__law_row T.bi__law_row .nil pass0 (pa_cons (pv 0) (pa_cons (pe_op op_add (pv 1) pe_int) (pa_cons (pe_op op_add (pv 2) pe_int) (pa_cons pe_bl pa_nil))))) (pg_tupK (K := K) rfl (pgs_cons (pg_name (i := 7) sc__law_policy_at.nd rfl (Or.inl rfl)) (pgs_cons (pg_name (i := 5) sc__law_policy_at.nd rfl (Or.inl rfl)) pgs_nil))))
  (pss_one (ps_ret (pe_tup (pa_cons (pe_tup (pa_cons (pe_ifExp (pt_cmpR op_eq (pv 3) pe_str (nomark _)) pe_str pe_str) (pa_cons (pv 7) pa_nil))) (pa_cons (pv 5) pa_nil))))))
  pss_nil)
  (pss_cons (ps_asg (pe_call G__law_named (hr.mono (by first | decide | omega)) rfl T.mg__law_named T.kp__law_named T.bi__law_named .nil pass0 (pa_cons (pv 0) (pa_cons (pv 1) (pa_cons pe_str pa_nil)))) (pg_tupK (K := K) rfl (pgs_cons (pg_name (i := 8) sc__law_policy_at.nd rfl (Or.inl rfl)) (pgs_cons (pg_name (i := 5) sc__law_policy_at.nd rfl (Or.inl rfl)) pgs_nil))))
  (pss_one (ps_ret (pe_tup (pa_cons (pe_op (op_catAK (K := K)) (pe_tup (pa_cons pe_str pa_nil)) (pe_ifExp (pt_cmpR op_notNQ (pv 8) pe_non (nomark _)) (pv 8) (pe_tup (pa_cons pe_str (pa_cons pe_int pa_nil))))) (pa_cons (pv 5) pa_nil))))))))))), ?_⟩
      unfold rd at kk
      have hd0 : ¬ 20 < 21 - ((d + 1 : Nat) : Int) := by omega
      have hae := around_eq d
      generalize 21 - ((d + 1 : Nat) : Int) = ar at hd0 hae ⊢
      walk_at "ss"
      refine ifd (fun z => absurd z hd0) (fun _ => ?_)
      walk_at "ss"
      refine w_slS (by omega) ?_
      have c91 := cut_at x "[" i (j := (i : Int) + 1) (by rw [n91] <;> omega)
      have c42 := cut_at x "*" i (j := (i : Int) + 1) (by rw [n42] <;> omega)
      have c43 := cut_at x "+" i (j := (i : Int) + 1) (by rw [n43] <;> omega)
      have c59 := cut_at x ";" i (j := (i : Int) + 1) (by rw [n59] <;> omega)
      generalize cutS x (some (i : Int)) (some ((i : Int) + 1)) = y at c91 c42 c43 c59 ⊢
      rw [show atS x "[" i = at_ (tl x) [91] i by unfold atS; rw [l91]] at c91
      rw [show atS x "*" i = at_ (tl x) [42] i by unfold atS; rw [l42]] at c42
      rw [show atS x "+" i = at_ (tl x) [43] i by unfold atS; rw [l43]] at c43
      rw [show atS x ";" i = at_ (tl x) [59] i by unfold atS; rw [l59]] at c59
      walk_at "ss"
      rw [c91]
      cases h91 : at_ (tl x) [91] i with
      | true =>
        rw [if_pos h91] at kk
        have hi1 := (at_one h91).1
        refine iteT ?_
        walk_at "ss"
        refine ⟨B, R, x, i + 1, by rw [hae]; rfl, hs, hR, by omega, hz, fun B2 v H2 s2 hs2 hv => ?_⟩
        clear hs
        obtain ⟨g1, _⟩ := rd_good (tl x) d false (i + 1) hi1
        cases hrd : rd (tl x) d false (i + 1) with
        | ok t l =>
          rw [hrd] at hv kk g1
          obtain ⟨_, g2, _⟩ := g1
          obtain ⟨q, u, rfl, hq, hu⟩ := hv
          have hq2 := hs2.same _ _ hq
          unfold rEnd at kk
          dsimp only at kk
          walk_at "ss"
          refine ifd (fun _ => ?_) (fun z => absurd (by omega) z)
          walk_at "ss"
          refine w_slS (by omega) ?_
          walk_at "ss"
          refine w_neCut (by rw [n93] <;> omega) ?_
          refine ⟨_, rfl, ?_⟩
          cases h93 : atS x "]" l with
          | false =>
            have e3 : at_ (tl x) [93] l = false := by rw [← l93]; exact h93
            rw [if_neg (by rw [e3]; decide)] at kk
            refine iteT ?_
            walk_at "ss"
            rename_i p5 H5 hs5
            obtain ⟨B3, s3, g5, h3⟩ := frz_hs hs5
            exact kk B3 _ H5 (s2.trans s3) h3 ⟨p5, _, rfl, g5⟩
          | true =>
            have e3 : at_ (tl x) [93] l = true := by rw [← l93]; exact h93
            rw [if_pos e3] at kk
            refine iteF ?_
            walk_at "ss"
            rename_i p4 H4 hs4
            refine w_intB ?_
            rw [if_pos (decide_eq_true (show (l : Int) ≥ 0 by omega))]
            walk_at "ss"
            rename_i p5 H5 hs5
            obtain ⟨B3, s3, h3, g5, g4⟩ := fin2 hs5
            exact kk B3 _ H5 (s2.trans s3) h3 ⟨p5, .ref p4, rfl, g5, p4, u, rfl, g4, hu.same s3⟩
        | bad l =>
          rw [hrd] at hv kk
          obtain ⟨q, u, rfl, hq⟩ := hv
          have hq2 := hs2.same _ _ hq
          walk_at "ss"
          refine ifd (fun z => absurd z (by omega)) (fun z => ?_)
          refine iteF ?_
          walk_at "ss"
          rename_i p4 H4 hs4
          refine w_intB ?_
          rw [if_neg (show ¬ decide (-1 - (l : Int) ≥ 0) = true by simp only [decide_eq_true_eq]; omega)]
          walk_at "ss"
          rename_i p5 H5 hs5
          obtain ⟨B3, s3, h3, g5, g4⟩ := fin2 hs5
          exact kk B3 _ H5 (s2.trans s3) h3 ⟨p5, .ref p4, rfl, by rw [g5, Int.add_zero]⟩
      | false =>
       rw [if_neg (by rw [h91]; decide)] at kk
       refine iteF ?_
       walk_at "ss"
       rw [c42]
       cases h42 : at_ (tl x) [42] i with
       | true =>
        rw [if_pos h42] at kk
        have hi1 := (at_one h42).1
        refine iteT ?_
        walk_at "ss"
        refine ⟨B, R, x, i + 1, by rw [hae]; rfl, hs, hR, by omega, hz, fun B2 v H2 s2 hs2 hv => ?_⟩
        clear hs
        cases hrd : rd (tl x) d true (i + 1) with
        | ok t l =>
          rw [hrd] at hv kk
          obtain ⟨q, u, rfl, hq, hu⟩ := hv
          have hq2 := hs2.same _ _ hq
          walk_at "ss"
          rename_i p4 H4 hs4 p5 H5 hs5
          obtain ⟨B3, s3, h3, g5, g4⟩ := fin2 hs5
          exact kk B3 _ H5 (s2.trans s3) h3 ⟨p5, .ref p4, rfl, g5, p4, u, rfl, g4, hu.same s3⟩
        | bad l =>
          rw [hrd] at hv kk
          obtain ⟨q, u, rfl, hq⟩ := hv
          have hq2 := hs2.same _ _ hq
          walk_at "ss"
          rename_i p4 H4 hs4 p5 H5 hs5
          obtain ⟨B3, s3, h3, g5, g4⟩ := fin2 hs5
          exact kk B3 _ H5 (s2.trans s3) h3 ⟨p5, .ref p4, rfl, g5⟩
       | false =>
        rw [if_neg (by rw [h42]; decide)] at kk
        refine iteF ?_
        walk_at "ss"
        rename_i p0 H1 hs1
        refine w_inT (SqT.of hs1.g0) rfl rfl ?_
        rw [inV_two, c43, c59, if_neg (by decide)]
        refine ⟨_, rfl, ?_⟩
        obtain ⟨B1, s1, _, hs2⟩ := frz_hs hs1
        clear hs hs1
        cases h43 : at_ (tl x) [43] i with
        | true =>
          rw [h43] at c43
          rw [if_pos h43] at kk
          have hi1 := (at_one h43).1
          refine iteT ?_
          walk_at "ss"
          refine ⟨B1, R, x, i + 1, by rw [hae]; rfl, hs2, hR, by omega, hz, fun B2 v H2 s2 hs3 hv => ?_⟩
          clear hs2
          cases hrd : rRow (tl x) (rd (tl x) d true) (i + 1) with
          | ok t l =>
            rw [hrd] at hv kk
            obtain ⟨q, u, rfl, hq, lr, us, rfl, hlr, hts⟩ := hv
            have hq2 := hs3.same _ _ hq
            walk_at "ss"
            rw [c43]
            walk_at "ss"
            rename_i p4 H4 hs4 p5 H5 hs5
            obtain ⟨B3, s3, h3, g5, g4⟩ := fin2 hs5
            exact kk B3 _ H5 (s1.trans (s2.trans s3)) h3 ⟨p5, .ref p4, rfl, g5, p4, lr, us, rfl, g4, s3 _ _ hlr, hts.same s3⟩
          | bad l =>
            rw [hrd] at hv kk
            obtain ⟨q, u, rfl, hq⟩ := hv
            have hq2 := hs3.same _ _ hq
            walk_at "ss"
            rw [c43]
            walk_at "ss"
            rename_i p4 H4 hs4 p5 H5 hs5
            obtain ⟨B3, s3, h3, g5, g4⟩ := fin2 hs5
            exact kk B3 _ H5 (s1.trans (s2.trans s3)) h3 ⟨p5, .ref p4, rfl, g5⟩
        | false =>
          rw [h43] at c43
          rw [if_neg (by rw [h43]; decide)] at kk
          cases h59 : at_ (tl x) [59] i with
          | true =>
            rw [if_pos h59] at kk
            have hi1 := (at_one h59).1
            refine iteT ?_
            walk_at "ss"
            refine ⟨B1, R, x, i + 1, by rw [hae]; rfl, hs2, hR, by omega, hz, fun B2 v H2 s2 hs3 hv => ?_⟩
            clear hs2
            cases hrd : rRow (tl x) (rd (tl x) d true) (i + 1) with
            | ok t l =>
              rw [hrd] at hv kk
              obtain ⟨q, u, rfl, hq, lr, us, rfl, hlr, hts⟩ := hv
              have hq2 := hs3.same _ _ hq
              walk_at "ss"
              rw [c43]
              walk_at "ss"
              rename_i p4 H4 hs4 p5 H5 hs5
              obtain ⟨B3, s3, h3, g5, g4⟩ := fin2 hs5
              exact kk B3 _ H5 (s1.trans (s2.trans s3)) h3 ⟨p5, .ref p4, rfl, g5, p4, lr, us, rfl, g4, s3 _ _ hlr, hts.same s3⟩
            | bad l =>
              rw [hrd] at hv kk
              obtain ⟨q, u, rfl, hq⟩ := hv
              have hq2 := hs3.same _ _ hq
              walk_at "ss"
              rw [c43]
              walk_at "ss"
              rename_i p4 H4 hs4 p5 H5 hs5
              obtain ⟨B3, s3, h3, g5, g4⟩ := fin2 hs5
              exact kk B3 _ H5 (s1.trans (s2.trans s3)) h3 ⟨p5, .ref p4, rfl, g5⟩
          | false =>
            rw [if_neg (by rw [h59]; decide), leaf_named] at kk
            refine iteF ?_
            walk_at "ss"
            refine w_named (p := true) hs2 hR hi hz fun B2 v H2 s2 hs3 hv => ?_
            clear hs2
            cases hrd : rNamed (tl x) true i with
            | ok t l =>
              rw [hrd] at hv kk
              obtain ⟨q, u, rfl, hq, b, rfl, hb⟩ := hv
              have hq2 := hs3.same _ _ hq
              have hb2 := hs3.same _ _ hb
              walk_at "ss"
              rename_i p3 H3 hs4
              have hb3 := hs4.same _ _ (show B2 b = _ from hb)
              refine ifn (fun _ => ?_) (fun z => by cases z)
              walk_at "ss"
              refine w_cat12 hs4 hs4.g0 hb3 fun p4 H4 hs5 => ?_
              clear hs3 hs4
              walk_at "ss"
              rename_i p5 H5 hs6
              obtain ⟨B3, s3, h3, g5, g4⟩ := fin3 hs6
              exact kk B3 _ H5 (s1.trans (s2.trans s3)) h3 ⟨p5, .ref p4, rfl, g5, p4, rfl, g4⟩
            | bad l =>
              rw [hrd] at hv kk
              obtain ⟨q, u, rfl, hq, h2⟩ := hv
              have hq2 := hs3.same _ _ hq
              rcases h2 with rfl | ⟨b, u1, u2, rfl, hb⟩
              · walk_at "ss"
                rename_i p3 H3 hs4
                refine ifn (fun z => absurd rfl z) (fun _ => ?_)
                walk_at "ss"
                rename_i p4 H4 hs5
                refine w_cat12 hs5 hs5.g1 hs5.g0 fun p6 H6 hs6 => ?_
                clear hs3 hs4 hs5
                walk_at "ss"
                rename_i p5 H5 hs7
                obtain ⟨B3, s3, h3, g5, g4⟩ := fin3 hs7
                obtain ⟨B4, s4, _, h4⟩ := frz_hs h3
                exact kk B4 _ H5 (s1.trans (s2.trans (s3.trans s4))) h4 ⟨p5, .ref p6, rfl, s4 _ _ g5⟩
              · walk_at "ss"
                rename_i p3 H3 hs4
                have hb3 := hs4.same _ _ hb
                refine ifn (fun _ => ?_) (fun z => by cases z)
                walk_at "ss"
                refine w_cat12 hs4 hs4.g0 hb3 fun p4 H4 hs5 => ?_
                clear hs3 hs4
                walk_at "ss"
                rename_i p5 H5 hs6
                obtain ⟨B3, s3, h3, g5, g4⟩ := fin3 hs6
                exact kk B3 _ H5 (s1.trans (s2.trans s3)) h3 ⟨p5, .ref p4, rfl, g5⟩
def sp__law_due : Sp := fun vs H Q _ => ∃ (B : Hp) (R : List (Addr × HO)) (x : Str), vs = [.str x] ∧ Hs B R H ∧ R.all (fun e => noTup e.2) = true ∧ x.length ≤ 20000 ∧ ∀ B2 v H', Same B B2 → Hs B2 R H' → TdAt B2 v (rTop (tl x)) → Q v H'
theorem ok__law_due (T : Txt w K mg a) : FnOk P w K mg base CX0 50 a._law_due a.fd__law_due ["text"] sp__law_due := by
  have G__law_policy_at := ok_lpol (P := P) (w := w) (base := base) T 21
  refine T.fn__law_due.ok sc__law_due (fun vs H Q E h => ?_) (fun cdv A outer s H vs Q E hr h => ?_)
  · obtain ⟨_, _, _, rfl, _⟩ := h
    rfl
  · obtain ⟨B, R, x, rfl, hs, hR, hz, kk⟩ := h
    have hlx := len_tl x
    refine ⟨_, (pss_cons (ps_asg (pe_call G__law_policy_at (hr.mono (by first | decide | omega)) rfl T.mg__law_policy_at T.kp__law_policy_at T.bi__law_policy_at .nil pass0 (pa_cons (pv 0) (pa_cons pe_int (pa_cons pe_int pa_nil)))) (pg_tupK (K := K) rfl (pgs_cons (pg_name (i := 1) sc__law_due.nd rfl (Or.inl rfl)) (pgs_cons (pg_name (i := 2) sc__law_due.nd rfl (Or.inl rfl)) pgs_nil))))
  (pss_cons (ps_if (pt_cmpR op_lt (pv 2) pe_int (nomark _))
  (pss_one (ps_ret (pe_op op_sub (pe_un un_neg pe_int) (pv 2))))
  pss_nil)
  (pss_one (ps_ret (pe_ifExp (pt_cmpR op_eq (pv 2) (pe_callB call_len_str (by rfl) T.mg_len PySem.boot_len (pa_cons (pv 0) pa_nil)) (nomark _)) (pv 1) (pv 2)))))), ?_⟩
    walk_at "ss"
    refine ⟨B, R, x, 0, rfl, hs, hR, Nat.zero_le _, hz, fun B2 v H2 s2 hs2 hv => ?_⟩
    clear hs
    obtain ⟨g1, _⟩ := rd_good (tl x) 21 true 0 (Nat.zero_le _)
    unfold rTop at kk
    cases hrd : rd (tl x) 21 true 0 with
    | bad l =>
      rw [hrd] at hv kk
      obtain ⟨q, u, rfl, hq⟩ := hv
      have hq2 := hs2.same _ _ hq
      walk_at "ss"
      refine ifd (fun _ => ?_) (fun z => absurd (by omega) z)
      walk_at "ss"
      exact kk B2 _ H2 s2 hs2 (by show V.int _ = V.int _; congr 1; omega)
    | ok t l =>
      rw [hrd] at hv kk g1
      dsimp only at kk
      obtain ⟨_, g2, _⟩ := g1
      obtain ⟨q, u, rfl, hq, hu⟩ := hv
      have hq2 := hs2.same _ _ hq
      walk_at "ss"
      refine ifd (fun z => absurd z (by omega)) (fun _ => ?_)
      walk_at "ss"
      refine ⟨x, rfl, sz (by omega), ?_⟩
      walk_at "ss"
      refine ifd (fun he => ?_) (fun he => ?_)
      · walk_at "ss"
        rw [if_neg (by omega)] at kk
        exact kk B2 _ H2 s2 hs2 hu
      · walk_at "ss"
        rw [if_pos (by omega)] at kk
        exact kk B2 _ H2 s2 hs2 rfl
end
local macro_rules | `(tactic| walk_at "v") => `(tactic| first | exact v0 | exact v1 | exact v2 | exact v3 | exact v4 | exact v5 | exact v6 | exact v7 | exact v8)
local macro_rules | `(tactic| walk_at "vs") => `(tactic| first | exact st0 | exact st1 | exact st2 | exact st3 | exact st4 | exact st5 | exact st6 | exact st7 | exact st8)
local macro_rules | `(tactic| walk_at "s") => `(tactic| first
  | with_reducible refine w_dget ?_
  | ((with_reducible refine' w_dgetZ ?h ?nd ?hk ?hv ?_); (case h => walk_at "g"); (case nd => walk_at "nd"); (case hk => walk_at "k"); (case hv => walk_at "v"))
  | ((with_reducible refine' w_dputZ ?hs ?h ?nd ?hk ?hv ?hu ?hl ?_); (case hs => assumption); (case h => walk_at "p"); (case nd => walk_at "nd"); (case hk => walk_at "k"); (case hv => walk_at "v"); (case hu => walk_at "vs"); (case hl => decide); intro _ _)
  | with_reducible refine w_gsub ?_
  | with_reducible refine w_setD ?_
  | with_reducible refine w_disp ?_
  | ((with_reducible refine' w_newP ?hs ?_); (case hs => assumption); intro _ _ _)
  | with_reducible refine w_pcons ?_
  | with_reducible refine w_pnil ?_)

local macro_rules | `(tactic| walk_at "s") => `(tactic| first
  | with_reducible refine w_nget ?_
  | with_reducible refine w_nin ?_
  | with_reducible refine w_nnot ?_
  | with_reducible refine w_nput ?_
  | with_reducible refine w_ndel ?_
  | with_reducible refine w_npop ?_
  | ((with_reducible refine' w_nnew ?hs ?_); (case hs => assumption); intro _ _ _))

local macro_rules | `(tactic| walk_at "s") => `(tactic| first
  | with_reducible refine w_m0 ?_
  | with_reducible refine w_m1 ?_
  | with_reducible refine w_m0b ?_
  | with_reducible refine w_m1b ?_
  | with_reducible refine w_kget ?_
  | with_reducible refine w_nS ?_)

section
variable {P : Program} [IsP P] {w : World} {K : PySem.W.Frag} {mg : Str → Option Value} {base : Heap} {a : Ad}
/-! ## the texts shown -/
def showS (t : Tr) : Str := ⟨(showL t).toArray⟩
theorem tl_showS (t : Tr) : tl (showS t) = showL t := rfl
theorem len_showS (t : Tr) : (showS t).length = (showL t).length := by rw [len_tl]; rfl
theorem fn_void {CX : CXT} {k : Nat} {f : Addr} {fd : FuncData} {ps : List Str} {sp : Sp} (h : ∀ vs H Q E, ¬ sp vs H Q E) : FnOk P w K mg base CX k f fd ps sp := ⟨fun vs H Q E z => (h vs H Q E z).elim, fun _ _ _ _ _ _ vs Q E _ _ _ _ z => (h vs _ Q E z).elim⟩
def sp_show (p : Bool) (d : Nat) : Sp := fun vs H Q _ => ∃ (t : Tr) (v : V), vs = [v] ∧ TrAt H t v ∧ wf t p ∧ dep t < d ∧ (showL t).length ≤ 20000 ∧ ∀ H', Same H H' → Q (.str (showS t)) H'
theorem lit_len : ∀ z ∈ (["!", "[", "]", "*", "(", ")", ", ", " = ", " := ", "&(", "|(", "+(", ";("] : List Str), z.length ≤ 10 := by decide +kernel
theorem fld_len {f : Nat} (hf : f < 5) : (tl (fldS f)).length ≤ 6 := by
  obtain ⟨h0, h1, h2, h3, h4, _⟩ := tl_flds
  match f, hf with
  | 0, _ => rw [h0]; decide
  | 1, _ => rw [h1]; decide
  | 2, _ => rw [h2]; decide
  | 3, _ => rw [h3]; decide
  | 4, _ => rw [h4]; decide
theorem join_sum : ∀ ts : List Tr, ((ts.map showS).map (·.length)).sum + ts.length * 2 ≤ (joinL [44, 32] (showLs ts)).length + 2
  | [] => Nat.zero_le _
  | [t] => by
    show (showS t).length + 0 + (0 + 1) * 2 ≤ (showL t).length + 2
    rw [len_showS]
    omega
  | t :: u :: ts => by
    have ih := join_sum (u :: ts)
    show (showS t).length + (((u :: ts).map showS).map (·.length)).sum + ((u :: ts).length + 1) * 2 ≤ (showL t ++ ([44, 32] ++ joinL [44, 32] (showLs (u :: ts)))).length + 2
    rw [List.length_append, List.length_append, len_showS]
    show (showL t).length + (((u :: ts).map showS).map (·.length)).sum + ((u :: ts).length + 1) * 2 ≤ (showL t).length + (2 + (joinL [44, 32] (showLs (u :: ts))).length) + 2
    omega
theorem tl_joinS (ts : List Tr) : tl (Txt.join ", " (ts.map showS)) = joinL [44, 32] (showLs ts) := by
  rw [join_eq, tl_join, lit_par.2.2, showLs_map, List.map_map]
  rfl
/-- rows: the parts' texts -/
theorem lc_show {σ : L2.St} {H : Hp} {Q : VK} {tl te : TE} {j : Nat} {vs : List Nat} {l : Addr} {us : List V} {ts : List Tr} (hl : H l = some (.lst us)) (hts : TrsAt H ts us) (hz : ts.length ≤ 20000)
    (htl : ∀ Q : VK, Q (.ref l) H → tl σ H Q) (hw : ∀ v, wipe ((wipe σ vs).set j (some v)) vs = wipe σ vs)
    (he : ∀ (t : Tr) (u : V) (H' : Hp) (Q' : VK), t ∈ ts → TrAt H' t u → (∀ H3, Same H' H3 → Q' (.str (showS t)) H3) → te ((wipe σ vs).set j (some u)) H' Q')
    (hq : ∀ D H', Hs H [(D, .lst ((ts.map showS).map V.str))] H' → Q (.ref D) H') : tLc (iList K tl) (gName j) tYes te vs σ H Q := by
  have hr := hts.row
  refine w_lcRow (fun _ v y => v = V.str y) (fun _ _ _ _ _ h => h) (SqL.of hl) (by rw [hr.1]; omega) (ts.map showS) (by rw [List.length_map, hr.1]) htl hw (fun i u y H' Q' hu hy sm k' => ?_) (fun D acc H' hs hacc => ?_)
  · obtain ⟨t, ht, hat⟩ := hr.get hu
    rw [List.getElem?_map, ht] at hy
    cases hy
    exact he t u H' Q' (List.mem_of_getElem? ht) (hat.same sm) fun H3 s3 => k' _ _ s3 rfl
  · rw [rows_str hacc] at hs
    exact hq D H' hs
def sp_in_brackets (K : PySem.W.Frag) : Sp := fun vs H Q _ => ∃ (s : Str) (l : Addr) (ts : List Tr), vs = [.str s, .ref l] ∧ SqL K H l ((ts.map showS).map V.str) ∧ s.length ≤ 10 ∧ (joinL [44, 32] (showLs ts)).length ≤ 20000 ∧ Q (.str ⟨(tl s ++ (40 :: (joinL [44, 32] (showLs ts) ++ [41]))).toArray⟩) H
theorem ok_in_brackets (T : Txt w K mg a) : FnOk P w K mg base CX0 1 a.in_brackets a.fd_in_brackets ["sign", "texts"] (sp_in_brackets K) := by
  refine T.fn_in_brackets.ok sc_in_brackets (fun vs H Q E h => ?_) (fun cdv A outer s H vs Q E hr h => ?_)
  · obtain ⟨_, _, _, rfl, _⟩ := h
    rfl
  · obtain ⟨z, l, ts, rfl, hl, hz, hj, k⟩ := h
    refine ⟨_, (pss_cons (ps_set (i := 2) sc_in_brackets.nd rfl (Or.inl rfl) (pe_join (pe_glob (v := .str ", ") rfl (Exists.choose_spec T.mg_SEPARATOR) ⟨_, rfl⟩) (pv 1)))
  (pss_one (ps_ret (pe_joined (.cons (pe_fmt (pv 0)) (.cons pe_str (.cons (pe_fmt (pv 2)) (.cons pe_str .nil)))))))), ?_⟩
    have hs := Hs.start H
    have h1 := join_sum ts
    walk_at "ss"
    refine ⟨", ", l, ts.map showS, rfl, rfl, .inl hl, ?_, ?_⟩
    · rw [len_tl, lit_par.2.2, List.length_map]
      show _ + ts.length * 2 ≤ _
      omega
    have hlj := tl_joinS ts
    generalize Txt.join ", " (ts.map showS) = y at hlj ⊢
    have hyl := len_tl y
    rw [hlj] at hyl
    have e1 := lit_len "(" (by simp)
    have e2 := lit_len ")" (by simp)
    have e0 : (Str.empty : Str).length = 0 := rfl
    walk_at "ss"
    refine w_fmtS (sz (by omega)) ?_
    refine w_js1 (by rw [Str.length_append]; exact sz (by omega)) ?_
    walk_at "ss"
    refine w_js1 (by rw [Str.length_append, Str.length_append]; exact sz (by omega)) ?_
    walk_at "ss"
    refine w_fmtS (sz (by omega)) ?_
    refine w_js1 (by rw [Str.length_append, Str.length_append, Str.length_append]; exact sz (by omega)) ?_
    walk_at "ss"
    refine w_js1 (by rw [Str.length_append, Str.length_append, Str.length_append, Str.length_append]; exact sz (by omega)) ?_
    walk_at "ss"
    have e : Str.empty ++ z ++ "(" ++ y ++ ")" = (⟨(tl z ++ (40 :: (joinL [44, 32] (showLs ts) ++ [41]))).toArray⟩ : Str) := ext_tl (by
      rw [tl_append, tl_append, tl_append, tl_append, lit_par.1, lit_par.2.1, hlj]
      show ((([] ++ tl z) ++ [40]) ++ joinL [44, 32] (showLs ts)) ++ [41] = tl z ++ (40 :: (joinL [44, 32] (showLs ts) ++ [41]))
      simp)
    show Q (.str (Str.empty ++ z ++ "(" ++ y ++ ")")) H
    rw [e]
    exact k
theorem kd_test (T : Txt w K mg a) (k : Bool) : KDct K w a.K_TEST_SIGNS (rwN false k) (.str (rwS false k)) := by
  cases k
  · exact T.kd_TEST_SIGNS_all
  · exact T.kd_TEST_SIGNS_any
theorem kd_pol (T : Txt w K mg a) (k : Bool) : KDct K w a.K_POLICY_SIGNS (rwN true k) (.str (rwS true k)) := by
  cases k
  · exact T.kd_POLICY_SIGNS_sum
  · exact T.kd_POLICY_SIGNS_seq
theorem rw_ne : ∀ p k : Bool, rwN p k ≠ "is" ∧ rwN p k ≠ "not" ∧ rwN p k ≠ "test" ∧ rwN p k ≠ "set" ∧ rwN p k ≠ "star" ∧ (rwS p k).length = 1 := by decide +kernel
theorem show_row {p k : Bool} {ts : List Tr} : (⟨(tl (rwS p k) ++ (40 :: (joinL [44, 32] (showLs ts) ++ [41]))).toArray⟩ : Str) = showS (.rw p k ts) := by
  unfold showS
  simp only [showL]
theorem row_len {p k : Bool} {ts : List Tr} : (showL (.rw p k ts)).length = (joinL [44, 32] (showLs ts)).length + 3 := by
  have := (rw_ne p k).2.2.2.2.2
  rw [len_tl] at this
  simp only [showL, List.length_append, List.length_cons, List.length_nil, this]
  omega
theorem part_len : ∀ {ts : List Tr} {t : Tr}, t ∈ ts → (showL t).length ≤ (joinL [44, 32] (showLs ts)).length
  | [u], t, h => by
    rw [List.mem_singleton.mp h]
    exact Nat.le_refl _
  | u :: v :: ts, t, h => by
    show _ ≤ (showL u ++ ([44, 32] ++ joinL [44, 32] (showLs (v :: ts)))).length
    rw [List.length_append, List.length_append]
    rcases List.mem_cons.mp h with rfl | h
    · omega
    · have := part_len h
      omega
theorem join_many : ∀ ts : List Tr, ts.length ≤ 1 + (joinL [44, 32] (showLs ts)).length
  | [] => Nat.zero_le _
  | [t] => Nat.le_add_right 1 _
  | t :: u :: ts => by
    have ih := join_many (u :: ts)
    show ts.length + 1 + 1 ≤ 1 + (showL t ++ ([44, 32] ++ joinL [44, 32] (showLs (u :: ts)))).length
    rw [List.length_append, List.length_append]
    show ts.length + 1 + 1 ≤ 1 + ((showL t).length + (2 + (joinL [44, 32] (showLs (u :: ts))).length))
    rw [List.length_cons] at ih
    omega
theorem leaf_eq {p : Bool} {f : Nat} {n : Int} : Str.empty ++ fldS f ++ lfS p ++ nS n = showS (.lf p f n) := ext_tl (by
  rw [tl_append, tl_append, tl_append, tl_showS]
  show (([] ++ tl (fldS f)) ++ tl (lfS p)) ++ tl (nS n) = _
  simp only [showL, List.nil_append, List.append_assoc])
theorem ok_show_test (T : Txt w K mg a) : ∀ d : Nat, FnOk P w K mg base CX0 (d + 1) a.show_test a.fd_show_test ["test"] (sp_show false d) := by
  have G_in_brackets := ok_in_brackets (P := P) (w := w) (base := base) T
  intro d
  induction d with
  | zero => exact fn_void fun vs H Q E ⟨_, _, _, _, _, h, _⟩ => absurd h (Nat.not_lt_zero _)
  | succ d ih =>
    have G_show_test := ih
    refine T.fn_show_test.ok sc_show_test (fun vs H Q E h => ?_) (fun cdv A outer s H vs Q E hr h => ?_)
    · obtain ⟨_, _, rfl, _⟩ := h
      rfl
    · obtain ⟨t, v, rfl, hat, hwf, hd, hl, k⟩ := h
      refine ⟨_, (pss_cons (ps_set (i := 1) sc_show_test.nd rfl (Or.inl rfl) (pe_ix (ix_tupK (K := K)) (pv 0) pe_int (fun _ _ => rfl)))
  (pss_cons (ps_if (pt_cmpR op_eq (pv 1) pe_str (nomark _))
  (pss_one (ps_ret (pe_joined (.cons (pe_fmt (pe_ix (ix_tupK (K := K)) (pv 0) pe_int (fun _ _ => rfl))) (.cons (pe_fmt (pe_glob (v := .str " = ") rfl (Exists.choose_spec T.mg_SIGN_OF_IS) ⟨_, rfl⟩)) (.cons (pe_fmt (pe_ix (ix_tupK (K := K)) (pv 0) pe_int (fun _ _ => rfl))) .nil))))))
  pss_nil)
  (pss_cons (ps_if (pt_cmpR op_eq (pv 1) pe_str (nomark _))
  (pss_one (ps_ret (pe_joined (.cons pe_str (.cons (pe_fmt (pe_call G_show_test (hr.mono (by first | decide | omega)) rfl T.mg_show_test T.kp_show_test T.bi_show_test .nil pass0 (pa_cons (pe_ix (ix_tupK (K := K)) (pv 0) pe_int (fun _ _ => rfl)) pa_nil))) .nil)))))
  pss_nil)
  (pss_one (ps_ret (pe_call G_in_brackets (hr.mono (by first | decide | omega)) rfl T.mg_in_brackets T.kp_in_brackets T.bi_in_brackets .nil pass0 (pa_cons (pe_ix (ix_kdictK (K := K) (w := w)) (pe_glob (v := .ref a.K_TEST_SIGNS) rfl T.mg_TEST_SIGNS rfl) (pv 1) (fun _ _ => rfl)) (pa_cons (pe_lc (own := [("part", 2)]) (g := (gName 2)) (tt := tYes) rfl sc_show_test.nd (pi_listK (K := K) (pe_ix (ix_tupK (K := K)) (pv 0) pe_int (fun _ _ => rfl))) (blkOk_by (own := [("part", 2)]) (N := N_show_test) (sc := defScope s_show_test) (by decide +kernel)) (fun _ _ _ _ _ => by exact (pg_name (i := 2) sc_show_test.nd rfl (Or.inl rfl))) (fun _ _ _ _ _ => pts_nil) (fun _ _ _ _ _ => by exact (pe_call G_show_test (hr.mono (by first | decide | omega)) rfl T.mg_show_test T.kp_show_test T.bi_show_test .nil pass0 (pa_cons (pv 2) pa_nil)))) pa_nil)))))))), ?_⟩
      have hs := Hs.start H
      cases t with
      | lf q f n =>
        obtain ⟨rfl, hf, n0, n1⟩ := hwf
        obtain ⟨p, rfl, hp⟩ := hat
        walk_at "ss"
        rw [show decide (lfN false = "is") = true from by decide +kernel]
        refine iteT ?_
        have e1 := fld_len hf
        rw [← len_tl] at e1
        have e2 := lit_len " = " (by simp)
        have e3 := nS_ten n0 (by omega)
        have e0 : (Str.empty : Str).length = 0 := rfl
        walk_at "ss"
        refine w_fmtS (sz (by omega)) ?_
        refine w_js1 (by rw [Str.length_append]; exact sz (by omega)) ?_
        walk_at "ss"
        refine w_fmtS (sz (by omega)) ?_
        refine w_js1 (by rw [Str.length_append, Str.length_append]; exact sz (by omega)) ?_
        walk_at "ss"
        refine w_fmtI (by omega) ?_
        refine w_js1 (by rw [Str.length_append, Str.length_append, Str.length_append]; exact sz (by show _ + (nS n).length ≤ _; omega)) ?_
        walk_at "ss"
        show Q (.str (Str.empty ++ fldS f ++ lfS false ++ nS n)) H
        rw [leaf_eq]
        exact k H (Same.refl _)
      | no t =>
        obtain ⟨_, hwf⟩ := hwf
        obtain ⟨p, u, rfl, hp, hu⟩ := hat
        simp only [dep] at hd
        simp only [showL, List.length_cons] at hl
        walk_at "ss"
        rw [decide_eq_false (by decide +kernel : ¬ ("not" : Str) = "is")]
        refine iteF ?_
        walk_at "ss"
        rw [show decide (("not" : Str) = "not") = true from by decide +kernel]
        refine iteT ?_
        walk_at "ss"
        refine w_js1 (sz (by have := lit_len "!" (by simp); rw [Str.length_append]; have e0 : (Str.empty : Str).length = 0 := rfl; omega)) ?_
        walk_at "ss"
        refine ⟨t, u, rfl, hu, hwf, by omega, by omega, fun H2 s2 => ?_⟩
        refine w_fmtS (sz (by rw [len_showS]; omega)) ?_
        refine w_js1 (sz (by have := lit_len "!" (by simp); rw [Str.length_append, Str.length_append, len_showS]; have e0 : (Str.empty : Str).length = 0 := rfl; omega)) ?_
        walk_at "ss"
        have e : Str.empty ++ "!" ++ showS t = showS (.no t) := ext_tl (by
          rw [tl_append, tl_append, tl_showS, tl_showS, lit_sg.1]
          simp only [showL]
          rfl)
        show Q (.str (Str.empty ++ "!" ++ showS t)) H2
        rw [e]
        exact k H2 s2
      | te t => exact absurd hwf.1 (by decide)
      | st t => exact absurd hwf.1 (by decide)
      | rw q kk ts =>
        obtain ⟨rfl, hwf⟩ := hwf
        obtain ⟨p, l, us, rfl, hp, hlu, hts⟩ := hat
        obtain ⟨n1, n2, _, _, _, n6⟩ := rw_ne false kk
        have hd2 : ∀ t ∈ ts, dep t ≤ deps ts := deps_le.mp (Nat.le_refl _)
        simp only [dep] at hd
        rw [row_len] at hl
        have hm := join_many ts
        walk_at "ss"
        rw [decide_eq_false n1]
        refine iteF ?_
        walk_at "ss"
        rw [decide_eq_false n2]
        refine iteF ?_
        walk_at "ss"
        refine w_ixd (kd_test T kk) ?_
        walk_at "ss"
        refine lc_show (ts := ts) hlu hts (by omega) (fun Q q => ?_) (fun _ => rfl) (fun t u H' Q' ht hu hQ => ?_) fun D H2 hs2 => ?_
        · walk_at "ss"
          exact q
        · have := part_len ht
          have := hd2 t ht
          walk_at "ss"
          exact ⟨t, u, rfl, hu, wfs_all.mp hwf t ht, by omega, by omega, hQ⟩
        · walk_at "ss"
          refine ⟨_, D, ts, rfl, SqL.of hs2.g0, by omega, by omega, ?_⟩
          rw [show_row]
          exact k H2 hs2.same
theorem ok_show_policy (T : Txt w K mg a) : ∀ d : Nat, FnOk P w K mg base CX0 (d + 2) a.show_policy a.fd_show_policy ["policy"] (sp_show true d) := by
  have G_in_brackets := ok_in_brackets (P := P) (w := w) (base := base) T
  intro d
  induction d with
  | zero => exact fn_void fun vs H Q E ⟨_, _, _, _, _, h, _⟩ => absurd h (Nat.not_lt_zero _)
  | succ d ih =>
    have G_show_test := ok_show_test (P := P) (w := w) (base := base) T d
    have G_show_policy := ih
    refine T.fn_show_policy.ok sc_show_policy (fun vs H Q E h => ?_) (fun cdv A outer s H vs Q E hr h => ?_)
    · obtain ⟨_, _, rfl, _⟩ := h
      rfl
    · obtain ⟨t, v, rfl, hat, hwf, hd, hl, k⟩ := h
      refine ⟨_, (pss_cons (ps_set (i := 1) sc_show_policy.nd rfl (Or.inl rfl) (pe_ix (ix_tupK (K := K)) (pv 0) pe_int (fun _ _ => rfl)))
  (pss_cons (ps_if (pt_cmpR op_eq (pv 1) pe_str (nomark _))
  (pss_one (ps_ret (pe_joined (.cons pe_str (.cons (pe_fmt (pe_call G_show_test (hr.mono (by first | decide | omega)) rfl T.mg_show_test T.kp_show_test T.bi_show_test .nil pass0 (pa_cons (pe_ix (ix_tupK (K := K)) (pv 0) pe_int (fun _ _ => rfl)) pa_nil))) (.cons pe_str .nil))))))
  pss_nil)
  (pss_cons (ps_if (pt_cmpR op_eq (pv 1) pe_str (nomark _))
  (pss_one (ps_ret (pe_joined (.cons (pe_fmt (pe_ix (ix_tupK (K := K)) (pv 0) pe_int (fun _ _ => rfl))) (.cons (pe_fmt (pe_glob (v := .str " := ") rfl (Exists.choose_spec T.mg_SIGN_OF_SET) ⟨_, rfl⟩)) (.cons (pe_fmt (pe_ix (ix_tupK (K := K)) (pv 0) pe_int (fun _ _ => rfl))) .nil))))))
  pss_nil)
  (pss_cons (ps_if (pt_cmpR op_eq (pv 1) pe_str (nomark _))
  (pss_one (ps_ret (pe_joined (.cons pe_str (.cons (pe_fmt (pe_call G_show_policy (hr.mono (by first | decide | omega)) rfl T.mg_show_policy T.kp_show_policy T.bi_show_policy .nil pass0 (pa_cons (pe_ix (ix_tupK (K := K)) (pv 0) pe_int (fun _ _ => rfl)) pa_nil))) .nil)))))
  pss_nil)
  (pss_one (ps_ret (pe_call G_in_brackets (hr.mono (by first | decide | omega)) rfl T.mg_in_brackets T.kp_in_brackets T.bi_in_brackets .nil pass0 (pa_cons (pe_ix (ix_kdictK (K := K) (w := w)) (pe_glob (v := .ref a.K_POLICY_SIGNS) rfl T.mg_POLICY_SIGNS rfl) (pv 1) (fun _ _ => rfl)) (pa_cons (pe_lc (own := [("part", 2)]) (g := (gName 2)) (tt := tYes) rfl sc_show_policy.nd (pi_listK (K := K) (pe_ix (ix_tupK (K := K)) (pv 0) pe_int (fun _ _ => rfl))) (blkOk_by (own := [("part", 2)]) (N := N_show_policy) (sc := defScope s_show_policy) (by decide +kernel)) (fun _ _ _ _ _ => by exact (pg_name (i := 2) sc_show_policy.nd rfl (Or.inl rfl))) (fun _ _ _ _ _ => pts_nil) (fun _ _ _ _ _ => by exact (pe_call G_show_policy (hr.mono (by first | decide | omega)) rfl T.mg_show_policy T.kp_show_policy T.bi_show_policy .nil pass0 (pa_cons (pv 2) pa_nil)))) pa_nil))))))))), ?_⟩
      have hs := Hs.start H
      cases t with
      | lf q f n =>
        obtain ⟨rfl, hf, n0, n1⟩ := hwf
        obtain ⟨p, rfl, hp⟩ := hat
        walk_at "ss"
        rw [show decide ((lfN true : Str) = "test") = false from by decide +kernel]
        refine iteF ?_
        walk_at "ss"
        rw [show decide (lfN true = "set") = true from by decide +kernel]
        refine iteT ?_
        have e1 := fld_len hf
        rw [← len_tl] at e1
        have e2 := lit_len " := " (by simp)
        have e3 := nS_ten n0 (by omega)
        have e0 : (Str.empty : Str).length = 0 := rfl
        walk_at "ss"
        refine w_fmtS (sz (by omega)) ?_
        refine w_js1 (by rw [Str.length_append]; exact sz (by omega)) ?_
        walk_at "ss"
        refine w_fmtS (sz (by omega)) ?_
        refine w_js1 (by rw [Str.length_append, Str.length_append]; exact sz (by omega)) ?_
        walk_at "ss"
        refine w_fmtI (by omega) ?_
        refine w_js1 (by rw [Str.length_append, Str.length_append, Str.length_append]; exact sz (by show _ + (nS n).length ≤ _; omega)) ?_
        walk_at "ss"
        show Q (.str (Str.empty ++ fldS f ++ lfS true ++ nS n)) H
        rw [leaf_eq]
        exact k H (Same.refl _)
      | te t =>
        obtain ⟨_, hwf⟩ := hwf
        obtain ⟨p, u, rfl, hp, hu⟩ := hat
        simp only [dep] at hd
        simp only [showL, List.length_cons, List.length_append, List.length_nil] at hl
        have e0 : (Str.empty : Str).length = 0 := rfl
        have e1 := lit_len "[" (by simp)
        have e2 := lit_len "]" (by simp)
        walk_at "ss"
        rw [show decide (("test" : Str) = "test") = true from by decide +kernel]
        refine iteT ?_
        walk_at "ss"
        refine w_js1 (sz (by rw [Str.length_append]; omega)) ?_
        walk_at "ss"
        refine ⟨t, u, rfl, hu, hwf, by omega, by omega, fun H2 s2 => ?_⟩
        refine w_fmtS (sz (by rw [len_showS]; omega)) ?_
        refine w_js1 (sz (by rw [Str.length_append, Str.length_append, len_showS]; omega)) ?_
        walk_at "ss"
        refine w_js1 (sz (by rw [Str.length_append, Str.length_append, Str.length_append, len_showS]; omega)) ?_
        walk_at "ss"
        have e : Str.empty ++ "[" ++ showS t ++ "]" = showS (.te t) := ext_tl (by
          rw [tl_append, tl_append, tl_append, tl_showS, tl_showS, lit_sg.2.2.2.1, lit_sg.2.2.2.2.1]
          simp only [showL]
          rfl)
        show Q (.str (Str.empty ++ "[" ++ showS t ++ "]")) H2
        rw [e]
        exact k H2 s2
      | no t => exact absurd hwf.1 (by decide)
      | st t =>
        obtain ⟨_, hwf⟩ := hwf
        obtain ⟨p, u, rfl, hp, hu⟩ := hat
        simp only [dep] at hd
        simp only [showL, List.length_cons] at hl
        have e0 : (Str.empty : Str).length = 0 := rfl
        have e1 := lit_len "*" (by simp)
        walk_at "ss"
        rw [show decide (("star" : Str) = "test") = false from by decide +kernel]
        refine iteF ?_
        walk_at "ss"
        rw [show decide (("star" : Str) = "set") = false from by decide +kernel]
        refine iteF ?_
        walk_at "ss"
        rw [show decide (("star" : Str) = "star") = true from by decide +kernel]
        refine iteT ?_
        walk_at "ss"
        refine w_js1 (sz (by rw [Str.length_append]; omega)) ?_
        walk_at "ss"
        refine ⟨t, u, rfl, hu, hwf, by omega, by omega, fun H2 s2 => ?_⟩
        refine w_fmtS (sz (by rw [len_showS]; omega)) ?_
        refine w_js1 (sz (by rw [Str.length_append, Str.length_append, len_showS]; omega)) ?_
        walk_at "ss"
        have e : Str.empty ++ "*" ++ showS t = showS (.st t) := ext_tl (by
          rw [tl_append, tl_append, tl_showS, tl_showS, lit_sg.2.2.2.2.2.1]
          simp only [showL]
          rfl)
        show Q (.str (Str.empty ++ "*" ++ showS t)) H2
        rw [e]
        exact k H2 s2
      | rw q kk ts =>
        obtain ⟨rfl, hwf⟩ := hwf
        obtain ⟨p, l, us, rfl, hp, hlu, hts⟩ := hat
        obtain ⟨_, _, n1, n2, n3, n6⟩ := rw_ne true kk
        have hd2 : ∀ t ∈ ts, dep t ≤ deps ts := deps_le.mp (Nat.le_refl _)
        simp only [dep] at hd
        rw [row_len] at hl
        have hm := join_many ts
        walk_at "ss"
        rw [decide_eq_false n1]
        refine iteF ?_
        walk_at "ss"
        rw [decide_eq_false n2]
        refine iteF ?_
        walk_at "ss"
        rw [decide_eq_false n3]
        refine iteF ?_
        walk_at "ss"
        refine w_ixd (kd_pol T kk) ?_
        walk_at "ss"
        refine lc_show (ts := ts) hlu hts (by omega) (fun Q q => ?_) (fun _ => rfl) (fun t u H' Q' ht hu hQ => ?_) fun D H2 hs2 => ?_
        · walk_at "ss"
          exact q
        · have := part_len ht
          have := hd2 t ht
          walk_at "ss"
          exact ⟨t, u, rfl, hu, wfs_all.mp hwf t ht, by omega, by omega, hQ⟩
        · walk_at "ss"
          refine ⟨_, D, ts, rfl, SqL.of hs2.g0, by omega, by omega, ?_⟩
          rw [show_row]
          exact k H2 hs2.same
end
local macro_rules | `(tactic| walk_at "v") => `(tactic| first | exact v0 | exact v1 | exact v2 | exact v3 | exact v4 | exact v5 | exact v6 | exact v7 | exact v8)
local macro_rules | `(tactic| walk_at "vs") => `(tactic| first | exact st0 | exact st1 | exact st2 | exact st3 | exact st4 | exact st5 | exact st6 | exact st7 | exact st8)
local macro_rules | `(tactic| walk_at "s") => `(tactic| first
  | with_reducible refine w_dget ?_
  | ((with_reducible refine' w_dgetZ ?h ?nd ?hk ?hv ?_); (case h => walk_at "g"); (case nd => walk_at "nd"); (case hk => walk_at "k"); (case hv => walk_at "v"))
  | ((with_reducible refine' w_dputZ ?hs ?h ?nd ?hk ?hv ?hu ?hl ?_); (case hs => assumption); (case h => walk_at "p"); (case nd => walk_at "nd"); (case hk => walk_at "k"); (case hv => walk_at "v"); (case hu => walk_at "vs"); (case hl => decide); intro _ _)
  | with_reducible refine w_gsub ?_
  | with_reducible refine w_setD ?_
  | with_reducible refine w_disp ?_
  | ((with_reducible refine' w_newP ?hs ?_); (case hs => assumption); intro _ _ _)
  | with_reducible refine w_pcons ?_
  | with_reducible refine w_pnil ?_)

local macro_rules | `(tactic| walk_at "s") => `(tactic| first
  | with_reducible refine w_nget ?_
  | with_reducible refine w_nin ?_
  | with_reducible refine w_nnot ?_
  | with_reducible refine w_nput ?_
  | with_reducible refine w_ndel ?_
  | with_reducible refine w_npop ?_
  | ((with_reducible refine' w_nnew ?hs ?_); (case hs => assumption); intro _ _ _))

local macro_rules | `(tactic| walk_at "s") => `(tactic| first
  | with_reducible refine w_m0 ?_
  | with_reducible refine w_m1 ?_
  | with_reducible refine w_m0b ?_
  | with_reducible refine w_m1b ?_
  | with_reducible refine w_kget ?_
  | with_reducible refine w_nS ?_)

section
variable {P : Program} [IsP P] {w : World} {K : PySem.W.Frag} {mg : Str → Option Value} {base : Heap} {a : Ad}
/-! ## the law's texts -/
theorem leaf_eq2 {p : Bool} {f : Nat} {n : Int} : fldS f ++ lfS p ++ nS n = showS (.lf p f n) := ext_tl (by
  rw [tl_append, tl_append, tl_showS]
  simp only [showL, List.append_assoc])
theorem row_eq2 {p k : Bool} {ts : List Tr} {h : Str} (e : tl h = tl (rwS p k) ++ [40]) : h ++ Txt.join ", " (ts.map showS) ++ ")" = showS (.rw p k ts) := ext_tl (by
  rw [tl_append, tl_append, tl_joinS, tl_showS, e, lit_par.2.1]
  simp only [showL, List.append_assoc, List.cons_append, List.nil_append])
theorem heads : tl ("&(" : Str) = tl (rwS false false) ++ [40] ∧ tl ("|(" : Str) = tl (rwS false true) ++ [40] ∧ tl ("+(" : Str) = tl (rwS true false) ++ [40] ∧ tl (";(" : Str) = tl (rwS true true) ++ [40] := by decide +kernel
theorem ok__law_show_test (T : Txt w K mg a) : ∀ d : Nat, FnOk P w K mg base CX0 (d + 1) a._law_show_test a.fd__law_show_test ["test"] (sp_show false d) := by
  intro d
  induction d with
  | zero => exact fn_void fun vs H Q E ⟨_, _, _, _, _, h, _⟩ => absurd h (Nat.not_lt_zero _)
  | succ d ih =>
    have G__law_show_test := ih
    refine T.fn__law_show_test.ok sc__law_show_test (fun vs H Q E h => ?_) (fun cdv A outer s H vs Q E hr h => ?_)
    · obtain ⟨_, _, rfl, _⟩ := h
      rfl
    · obtain ⟨t, v, rfl, hat, hwf, hd, hl, k⟩ := h
      refine ⟨_, (pss_cons (ps_if (pt_cmpR op_eq (pe_ix (ix_tupK (K := K)) (pv 0) pe_int (fun _ _ => rfl)) pe_str (nomark _))
  (pss_one (ps_ret (pe_op op_addS (pe_op op_addS (pe_ix (ix_tupK (K := K)) (pv 0) pe_int (fun _ _ => rfl)) pe_str) (pe_callTy call_strQ (by rfl) T.mg_str (by decide +kernel) (pa_cons (pe_ix (ix_tupK (K := K)) (pv 0) pe_int (fun _ _ => rfl)) pa_nil)))))
  pss_nil)
  (pss_cons (ps_if (pt_cmpR op_eq (pe_ix (ix_tupK (K := K)) (pv 0) pe_int (fun _ _ => rfl)) pe_str (nomark _))
  (pss_one (ps_ret (pe_op op_addS pe_str (pe_call G__law_show_test (hr.mono (by first | decide | omega)) rfl T.mg__law_show_test T.kp__law_show_test T.bi__law_show_test .nil pass0 (pa_cons (pe_ix (ix_tupK (K := K)) (pv 0) pe_int (fun _ _ => rfl)) pa_nil)))))
  pss_nil)
  (pss_one (ps_ret (pe_op op_addS (pe_op op_addS (pe_ifExp (pt_cmpR op_eq (pe_ix (ix_tupK (K := K)) (pv 0) pe_int (fun _ _ => rfl)) pe_str (nomark _)) pe_str pe_str) (pe_join pe_str (pe_lc (own := [("part", 1)]) (g := (gName 1)) (tt := tYes) rfl sc__law_show_test.nd (pi_listK (K := K) (pe_ix (ix_tupK (K := K)) (pv 0) pe_int (fun _ _ => rfl))) (blkOk_by (own := [("part", 1)]) (N := N__law_show_test) (sc := defScope s__law_show_test) (by decide +kernel)) (fun _ _ _ _ _ => by exact (pg_name (i := 1) sc__law_show_test.nd rfl (Or.inl rfl))) (fun _ _ _ _ _ => pts_nil) (fun _ _ _ _ _ => by exact (pe_call G__law_show_test (hr.mono (by first | decide | omega)) rfl T.mg__law_show_test T.kp__law_show_test T.bi__law_show_test .nil pass0 (pa_cons (pv 1) pa_nil)))))) pe_str))))), ?_⟩
      have hs := Hs.start H
      cases t with
      | lf q f n =>
        obtain ⟨rfl, hf, n0, n1⟩ := hwf
        obtain ⟨p, rfl, hp⟩ := hat
        walk_at "ss"
        rw [show decide (lfN false = "is") = true from by decide +kernel]
        refine iteT ?_
        have e1 := fld_len hf
        rw [← len_tl] at e1
        have e2 := lit_len " = " (by simp)
        have e3 := nS_ten n0 (by omega)
        walk_at "ss"
        refine w_addS (sz (by omega)) ?_
        walk_at "ss"
        refine ⟨by omega, ?_⟩
        refine w_addS (sz (by rw [Str.length_append]; omega)) ?_
        show Q (.str (fldS f ++ lfS false ++ nS n)) H
        rw [leaf_eq2]
        exact k H (Same.refl _)
      | no t =>
        obtain ⟨_, hwf⟩ := hwf
        obtain ⟨p, u, rfl, hp, hu⟩ := hat
        simp only [dep] at hd
        simp only [showL, List.length_cons] at hl
        have e1 := lit_len "!" (by simp)
        walk_at "ss"
        rw [show decide (("not" : Str) = "is") = false from by decide +kernel]
        refine iteF ?_
        walk_at "ss"
        rw [show decide (("not" : Str) = "not") = true from by decide +kernel]
        refine iteT ?_
        walk_at "ss"
        refine ⟨t, u, rfl, hu, hwf, by omega, by omega, fun H2 s2 => ?_⟩
        refine w_addS (sz (by rw [len_showS]; omega)) ?_
        have e : "!" ++ showS t = showS (.no t) := ext_tl (by
          rw [tl_append, tl_showS, tl_showS, lit_sg.1]
          simp only [showL]
          rfl)
        show Q (.str ("!" ++ showS t)) H2
        rw [e]
        exact k H2 s2
      | te t => exact absurd hwf.1 (by decide)
      | st t => exact absurd hwf.1 (by decide)
      | rw q kk ts =>
        obtain ⟨rfl, hwf⟩ := hwf
        obtain ⟨p, l, us, rfl, hp, hlu, hts⟩ := hat
        obtain ⟨n1, n2, _, _, _, n6⟩ := rw_ne false kk
        have hd2 : ∀ t ∈ ts, dep t ≤ deps ts := deps_le.mp (Nat.le_refl _)
        simp only [dep] at hd
        rw [row_len] at hl
        have hm := join_many ts
        have h1 := join_sum ts
        walk_at "ss"
        rw [decide_eq_false n1]
        refine iteF ?_
        walk_at "ss"
        rw [decide_eq_false n2]
        refine iteF ?_
        walk_at "ss"
        cases kk with
        | false =>
          rw [show decide (rwN false false = "all") = true from by decide +kernel]
          refine iteT ?_
          walk_at "ss"
          refine lc_show (ts := ts) hlu hts (by omega) (fun Q q => ?_) (fun _ => rfl) (fun t u H' Q' ht hu hQ => ?_) fun D H2 hs2 => ?_
          · walk_at "ss"
            exact q
          · have := part_len ht
            have := hd2 t ht
            walk_at "ss"
            exact ⟨t, u, rfl, hu, wfs_all.mp hwf t ht, by omega, by omega, hQ⟩
          · refine ⟨", ", D, ts.map showS, rfl, rfl, .inl (SqL.of hs2.g0), ?_, ?_⟩
            · rw [len_tl, lit_par.2.2, List.length_map]
              show _ + ts.length * 2 ≤ _
              omega
            have hj := tl_joinS ts
            have hy := len_tl (Txt.join ", " (ts.map showS))
            rw [hj] at hy
            have e1 := lit_len "&(" (by simp)
            have e2 := lit_len ")" (by simp)
            refine w_addS (sz (by omega)) ?_
            walk_at "ss"
            refine w_addS (sz (by rw [Str.length_append]; omega)) ?_
            show Q (.str ("&(" ++ Txt.join ", " (ts.map showS) ++ ")")) H2
            rw [row_eq2 heads.1]
            exact k H2 hs2.same
        | true =>
          rw [show decide (rwN false true = "all") = false from by decide +kernel]
          refine iteF ?_
          walk_at "ss"
          refine lc_show (ts := ts) hlu hts (by omega) (fun Q q => ?_) (fun _ => rfl) (fun t u H' Q' ht hu hQ => ?_) fun D H2 hs2 => ?_
          · walk_at "ss"
            exact q
          · have := part_len ht
            have := hd2 t ht
            walk_at "ss"
            exact ⟨t, u, rfl, hu, wfs_all.mp hwf t ht, by omega, by omega, hQ⟩
          · refine ⟨", ", D, ts.map showS, rfl, rfl, .inl (SqL.of hs2.g0), ?_, ?_⟩
            · rw [len_tl, lit_par.2.2, List.length_map]
              show _ + ts.length * 2 ≤ _
              omega
            have hj := tl_joinS ts
            have hy := len_tl (Txt.join ", " (ts.map showS))
            rw [hj] at hy
            have e1 := lit_len "|(" (by simp)
            have e2 := lit_len ")" (by simp)
            refine w_addS (sz (by omega)) ?_
            walk_at "ss"
            refine w_addS (sz (by rw [Str.length_append]; omega)) ?_
            show Q (.str ("|(" ++ Txt.join ", " (ts.map showS) ++ ")")) H2
            rw [row_eq2 heads.2.1]
            exact k H2 hs2.same
theorem ok__law_show (T : Txt w K mg a) : ∀ d : Nat, FnOk P w K mg base CX0 (d + 2) a._law_show a.fd__law_show ["policy"] (sp_show true d) := by
  intro d
  induction d with
  | zero => exact fn_void fun vs H Q E ⟨_, _, _, _, _, h, _⟩ => absurd h (Nat.not_lt_zero _)
  | succ d ih =>
    have G__law_show_test := ok__law_show_test (P := P) (w := w) (base := base) T d
    have G__law_show := ih
    refine T.fn__law_show.ok sc__law_show (fun vs H Q E h => ?_) (fun cdv A outer s H vs Q E hr h => ?_)
    · obtain ⟨_, _, rfl, _⟩ := h
      rfl
    · obtain ⟨t, v, rfl, hat, hwf, hd, hl, k⟩ := h
      refine ⟨_, (pss_cons (ps_if (pt_cmpR op_eq (pe_ix (ix_tupK (K := K)) (pv 0) pe_int (fun _ _ => rfl)) pe_str (nomark _))
  (pss_one (ps_ret (pe_op op_addS (pe_op op_addS pe_str (pe_call G__law_show_test (hr.mono (by first | decide | omega)) rfl T.mg__law_show_test T.kp__law_show_test T.bi__law_show_test .nil pass0 (pa_cons (pe_ix (ix_tupK (K := K)) (pv 0) pe_int (fun _ _ => rfl)) pa_nil))) pe_str)))
  pss_nil)
  (pss_cons (ps_if (pt_cmpR op_eq (pe_ix (ix_tupK (K := K)) (pv 0) pe_int (fun _ _ => rfl)) pe_str (nomark _))
  (pss_one (ps_ret (pe_op op_addS (pe_op op_addS (pe_ix (ix_tupK (K := K)) (pv 0) pe_int (fun _ _ => rfl)) pe_str) (pe_callTy call_strQ (by rfl) T.mg_str (by decide +kernel) (pa_cons (pe_ix (ix_tupK (K := K)) (pv 0) pe_int (fun _ _ => rfl)) pa_nil)))))
  pss_nil)
  (pss_cons (ps_if (pt_cmpR op_eq (pe_ix (ix_tupK (K := K)) (pv 0) pe_int (fun _ _ => rfl)) pe_str (nomark _))
  (pss_one (ps_ret (pe_op op_addS pe_str (pe_call G__law_show (hr.mono (by first | decide | omega)) rfl T.mg__law_show T.kp__law_show T.bi__law_show .nil pass0 (pa_cons (pe_ix (ix_tupK (K := K)) (pv 0) pe_int (fun _ _ => rfl)) pa_nil)))))
  pss_nil)
  (pss_one (ps_ret (pe_op op_addS (pe_op op_addS (pe_ifExp (pt_cmpR op_eq (pe_ix (ix_tupK (K := K)) (pv 0) pe_int (fun _ _ => rfl)) pe_str (nomark _)) pe_str pe_str) (pe_join pe_str (pe_lc (own := [("part", 1)]) (g := (gName 1)) (tt := tYes) rfl sc__law_show.nd (pi_listK (K := K) (pe_ix (ix_tupK (K := K)) (pv 0) pe_int (fun _ _ => rfl))) (blkOk_by (own := [("part", 1)]) (N := N__law_show) (sc := defScope s__law_show) (by decide +kernel)) (fun _ _ _ _ _ => by exact (pg_name (i := 1) sc__law_show.nd rfl (Or.inl rfl))) (fun _ _ _ _ _ => pts_nil) (fun _ _ _ _ _ => by exact (pe_call G__law_show (hr.mono (by first | decide | omega)) rfl T.mg__law_show T.kp__law_show T.bi__law_show .nil pass0 (pa_cons (pv 1) pa_nil)))))) pe_str)))))), ?_⟩
      have hs := Hs.start H
      cases t with
      | lf q f n =>
        obtain ⟨rfl, hf, n0, n1⟩ := hwf
        obtain ⟨p, rfl, hp⟩ := hat
        walk_at "ss"
        rw [show decide (lfN true = "test") = false from by decide +kernel]
        refine iteF ?_
        walk_at "ss"
        rw [show decide (lfN true = "set") = true from by decide +kernel]
        refine iteT ?_
        have e1 := fld_len hf
        rw [← len_tl] at e1
        have e2 := lit_len " := " (by simp)
        have e3 := nS_ten n0 (by omega)
        walk_at "ss"
        refine w_addS (sz (by omega)) ?_
        walk_at "ss"
        refine ⟨by omega, ?_⟩
        refine w_addS (sz (by rw [Str.length_append]; omega)) ?_
        show Q (.str (fldS f ++ lfS true ++ nS n)) H
        rw [leaf_eq2]
        exact k H (Same.refl _)
      | no t => exact absurd hwf.1 (by decide)
      | te t =>
        obtain ⟨_, hwf⟩ := hwf
        obtain ⟨p, u, rfl, hp, hu⟩ := hat
        simp only [dep] at hd
        simp only [showL, List.length_cons, List.length_append, List.length_nil] at hl
        have e1 := lit_len "[" (by simp)
        have e2 := lit_len "]" (by simp)
        walk_at "ss"
        rw [show decide (("test" : Str) = "test") = true from by decide +kernel]
        refine iteT ?_
        walk_at "ss"
        refine ⟨t, u, rfl, hu, hwf, by omega, by omega, fun H2 s2 => ?_⟩
        refine w_addS (sz (by rw [len_showS]; omega)) ?_
        walk_at "ss"
        refine w_addS (sz (by rw [Str.length_append, len_showS]; omega)) ?_
        have e : "[" ++ showS t ++ "]" = showS (.te t) := ext_tl (by
          rw [tl_append, tl_append, tl_showS, tl_showS, lit_sg.2.2.2.1, lit_sg.2.2.2.2.1]
          simp only [showL]
          rfl)
        show Q (.str ("[" ++ showS t ++ "]")) H2
        rw [e]
        exact k H2 s2
      | st t =>
        obtain ⟨_, hwf⟩ := hwf
        obtain ⟨p, u, rfl, hp, hu⟩ := hat
        simp only [dep] at hd
        simp only [showL, List.length_cons] at hl
        have e1 := lit_len "*" (by simp)
        walk_at "ss"
        rw [show decide (("star" : Str) = "test") = false from by decide +kernel]
        refine iteF ?_
        walk_at "ss"
        rw [show decide (("star" : Str) = "set") = false from by decide +kernel]
        refine iteF ?_
        walk_at "ss"
        rw [show decide (("star" : Str) = "star") = true from by decide +kernel]
        refine iteT ?_
        walk_at "ss"
        refine ⟨t, u, rfl, hu, hwf, by omega, by omega, fun H2 s2 => ?_⟩
        refine w_addS (sz (by rw [len_showS]; omega)) ?_
        have e : "*" ++ showS t = showS (.st t) := ext_tl (by
          rw [tl_append, tl_showS, tl_showS, lit_sg.2.2.2.2.2.1]
          simp only [showL]
          rfl)
        show Q (.str ("*" ++ showS t)) H2
        rw [e]
        exact k H2 s2
      | rw q kk ts =>
        obtain ⟨rfl, hwf⟩ := hwf
        obtain ⟨p, l, us, rfl, hp, hlu, hts⟩ := hat
        obtain ⟨_, _, n1, n2, n3, n6⟩ := rw_ne true kk
        have hd2 : ∀ t ∈ ts, dep t ≤ deps ts := deps_le.mp (Nat.le_refl _)
        simp only [dep] at hd
        rw [row_len] at hl
        have hm := join_many ts
        have h1 := join_sum ts
        walk_at "ss"
        rw [decide_eq_false n1]
        refine iteF ?_
        walk_at "ss"
        rw [decide_eq_false n2]
        refine iteF ?_
        walk_at "ss"
        rw [decide_eq_false n3]
        refine iteF ?_
        walk_at "ss"
        cases kk with
        | false =>
          rw [show decide (rwN true false = "sum") = true from by decide +kernel]
          refine iteT ?_
          walk_at "ss"
          refine lc_show (ts := ts) hlu hts (by omega) (fun Q q => ?_) (fun _ => rfl) (fun t u H' Q' ht hu hQ => ?_) fun D H2 hs2 => ?_
          · walk_at "ss"
            exact q
          · have := part_len ht
            have := hd2 t ht
            walk_at "ss"
            exact ⟨t, u, rfl, hu, wfs_all.mp hwf t ht, by omega, by omega, hQ⟩
          · refine ⟨", ", D, ts.map showS, rfl, rfl, .inl (SqL.of hs2.g0), ?_, ?_⟩
            · rw [len_tl, lit_par.2.2, List.length_map]
              show _ + ts.length * 2 ≤ _
              omega
            have hj := tl_joinS ts
            have hy := len_tl (Txt.join ", " (ts.map showS))
            rw [hj] at hy
            have e1 := lit_len "+(" (by simp)
            have e2 := lit_len ")" (by simp)
            refine w_addS (sz (by omega)) ?_
            walk_at "ss"
            refine w_addS (sz (by rw [Str.length_append]; omega)) ?_
            show Q (.str ("+(" ++ Txt.join ", " (ts.map showS) ++ ")")) H2
            rw [row_eq2 heads.2.2.1]
            exact k H2 hs2.same
        | true =>
          rw [show decide (rwN true true = "sum") = false from by decide +kernel]
          refine iteF ?_
          walk_at "ss"
          refine lc_show (ts := ts) hlu hts (by omega) (fun Q q => ?_) (fun _ => rfl) (fun t u H' Q' ht hu hQ => ?_) fun D H2 hs2 => ?_
          · walk_at "ss"
            exact q
          · have := part_len ht
            have := hd2 t ht
            walk_at "ss"
            exact ⟨t, u, rfl, hu, wfs_all.mp hwf t ht, by omega, by omega, hQ⟩
          · refine ⟨", ", D, ts.map showS, rfl, rfl, .inl (SqL.of hs2.g0), ?_, ?_⟩
            · rw [len_tl, lit_par.2.2, List.length_map]
              show _ + ts.length * 2 ≤ _
              omega
            have hj := tl_joinS ts
            have hy := len_tl (Txt.join ", " (ts.map showS))
            rw [hj] at hy
            have e1 := lit_len ";(" (by simp)
            have e2 := lit_len ")" (by simp)
            refine w_addS (sz (by omega)) ?_
            walk_at "ss"
            refine w_addS (sz (by rw [Str.length_append]; omega)) ?_
            show Q (.str (";(" ++ Txt.join ", " (ts.map showS) ++ ")")) H2
            rw [row_eq2 heads.2.2.2]
            exact k H2 hs2.same
end
local macro_rules | `(tactic| walk_at "v") => `(tactic| first | exact v0 | exact v1 | exact v2 | exact v3 | exact v4 | exact v5 | exact v6 | exact v7 | exact v8)
local macro_rules | `(tactic| walk_at "vs") => `(tactic| first | exact st0 | exact st1 | exact st2 | exact st3 | exact st4 | exact st5 | exact st6 | exact st7 | exact st8)
local macro_rules | `(tactic| walk_at "s") => `(tactic| first
  | with_reducible refine w_dget ?_
  | ((with_reducible refine' w_dgetZ ?h ?nd ?hk ?hv ?_); (case h => walk_at "g"); (case nd => walk_at "nd"); (case hk => walk_at "k"); (case hv => walk_at "v"))
  | ((with_reducible refine' w_dputZ ?hs ?h ?nd ?hk ?hv ?hu ?hl ?_); (case hs => assumption); (case h => walk_at "p"); (case nd => walk_at "nd"); (case hk => walk_at "k"); (case hv => walk_at "v"); (case hu => walk_at "vs"); (case hl => decide); intro _ _)
  | with_reducible refine w_gsub ?_
  | with_reducible refine w_setD ?_
  | with_reducible refine w_disp ?_
  | ((with_reducible refine' w_newP ?hs ?_); (case hs => assumption); intro _ _ _)
  | with_reducible refine w_pcons ?_
  | with_reducible refine w_pnil ?_)

local macro_rules | `(tactic| walk_at "s") => `(tactic| first
  | with_reducible refine w_nget ?_
  | with_reducible refine w_nin ?_
  | with_reducible refine w_nnot ?_
  | with_reducible refine w_nput ?_
  | with_reducible refine w_ndel ?_
  | with_reducible refine w_npop ?_
  | ((with_reducible refine' w_nnew ?hs ?_); (case hs => assumption); intro _ _ _))

section
variable {P : Program} [IsP P] {w : World} {K : PySem.W.Frag} {mg : Str → Option Value} {base : Heap} {a : Ad}
/-! ### the draws of the law -/
/-- what a state may be -/
def Good (m : Int) (cells : List Int) : Prop := 0 ≤ m ∧ m < 2147483648 ∧ cells.length ≤ 1000
abbrev sto (c : Addr) (m : Int) : HO := .lst [.ref c, .int m]
abbrev clo (cells : List Int) : HO := .lst (cells.map V.int)
def sp__law_state (K : PySem.W.Frag) : Sp := fun vs H Q _ => ∃ (x : Addr) (ns : List Int), vs = [.ref x] ∧ SqL K H x (ns.map V.int) ∧ ns.length ≤ 1000 ∧ ∀ s c m cells H', Hs H [(s, sto c m), (c, clo cells)] H' → Good m cells → Q (.ref s) H'
def sp__law_draw : Sp := fun vs H Q _ => ∃ (B : Hp) (s c : Addr) (m many : Int) (cells : List Int), vs = [.ref s, .int many] ∧ Hs B [(s, sto c m), (c, clo cells)] H ∧ Good m cells ∧ many < 1000000000 ∧
  ∀ r m' cells' H', Hs B [(s, sto c m'), (c, clo cells')] H' → Good m' cells' → (many < 1 → r = 0) → (1 ≤ many → 0 ≤ r ∧ r < many) → Q (.int r) H'
theorem abs_map (ns : List Int) (i : Nat) {x : V} (h : (ns.map V.int)[i]? = some x) : ∃ n, ns[i]? = some n ∧ x = .int n := by
  rw [List.getElem?_map] at h
  cases e : ns[i]? with
  | none =>
    rw [e] at h
    cases h
  | some n =>
    rw [e] at h
    exact ⟨n, rfl, (Option.some.inj h).symm⟩
theorem ok__law_state (T : Txt w K mg a) : FnOk P w K mg base CX0 1 a._law_state a.fd__law_state ["script"] (sp__law_state K) := by
  refine T.fn__law_state.ok sc__law_state (fun vs H Q E h => ?_) (fun cdv A outer s H vs Q E hr h => ?_)
  · obtain ⟨_, _, rfl, _⟩ := h
    rfl
  · obtain ⟨x, ns, rfl, hx, hl, k⟩ := h
    refine ⟨_, (pss_cons (ps_set (i := 1) sc__law_state.nd rfl (Or.inl rfl) pe_int)
  (pss_cons (ps_for PassesOwn.never rfl (pi_listK (K := K) (pv 0)) (pg_name (i := 2) sc__law_state.nd rfl (Or.inl rfl))
  (pss_one (ps_set (i := 1) sc__law_state.nd rfl (Or.inl rfl) (pe_op op_mod (pe_callTy call_intQ (by rfl) T.mg_int (by decide +kernel) (pa_cons (pe_op op_add (pe_op op_mul (pv 1) pe_int) (pv 2)) pa_nil)) pe_int))))
  (pss_one (ps_ret (pe_lst (pa_cons (pe_lc (own := [("cell", 2)]) (g := (gName 2)) (tt := tYes) rfl sc__law_state.nd (pi_listK (K := K) (pv 0)) (blkOk_by (own := [("cell", 2)]) (N := N__law_state) (sc := defScope s__law_state) (by decide +kernel)) (fun _ _ _ _ _ => by exact (pg_name (i := 2) sc__law_state.nd rfl (Or.inl rfl))) (fun _ _ _ _ _ => pts_nil) (fun _ _ _ _ _ => by exact (pe_callB call_absQ (by rfl) T.mg_abs (by decide +kernel) (pa_cons (pv 2) pa_nil)))) (pa_cons (pe_op op_add (pv 1) pe_int) pa_nil))))))), ?_⟩
    have hs : Hs H [] H := Hs.start H
    walk_at "ss"
    refine w_forL hx (fun i σ H' => ∃ (m : Int) (v : Option V), σ = [some (.ref x), some (.int m), v] ∧ 0 ≤ m ∧ m < 1000003 ∧ Hs H [] H') (fun Q q => ⟨_, rfl, q⟩) ⟨11, none, rfl, by omega, by omega, hs⟩ (fun i σ H' _ ⟨_, _, _, _, _, hs⟩ => hs.sql hx) ?_ ?_
    · rintro i y σ H' hi ⟨m, v, rfl, h0, h1, hs⟩
      obtain ⟨n, _, rfl⟩ := abs_map ns i hi
      walk_at "ss"
      refine ⟨(m * 37 + n) % 1000003, _, rfl, ?_, ?_, hs⟩
      · exact Int.emod_nonneg _ (by decide)
      · exact Int.emod_lt_of_pos _ (by decide)
    · rintro σ H' ⟨m, v, rfl, h0, h1, hs⟩
      walk_at "ss"
      have hx1 : SqL K H' x (ns.map V.int) := Hs.sql (by assumption) hx
      refine w_lc hx1 (fun D i H2 => ∃ acc : List Int, acc.length = i ∧ Hs H [(D, clo acc)] H2) (fun Q q => ⟨_, rfl, q⟩) (fun D hD => ⟨[], rfl, Hs.new (by assumption) hD⟩) (fun D i H2 _ ⟨_, _, hs⟩ => hs.sql hx) ?_ ?_
      · rintro D i y H2 hi ⟨acc, ha, hs⟩
        obtain ⟨n, _, rfl⟩ := abs_map ns i hi
        have hin : i < ns.length := by
          have := (List.getElem?_eq_some_iff.mp hi).1
          rwa [List.length_map] at this
        walk_at "ss"
        refine ⟨rfl, ?_⟩
        walk_at "ss"
        try (with_reducible refine iteT ?_)
        walk_at "ss"
        refine ⟨_, hs.g0, ?_, acc ++ [if n < 0 then -n else n], ?_, ?_⟩
        · refine szl ?_
          rw [List.length_map]
          omega
        · rw [List.length_append, ha]
          rfl
        · have := hs.p0 (.lst ((acc.map V.int) ++ [V.int (if n < 0 then -n else n)]))
          unfold clo
          rw [List.map_append]
          exact this
      · rintro D H2 ⟨acc, ha, hs⟩
        rw [List.length_map] at ha
        walk_at "ss"
        refine k _ D (m + 1) acc _ (by assumption) ⟨by omega, by omega, by omega⟩
theorem ok__law_draw (T : Txt w K mg a) : FnOk P w K mg base CX0 1 a._law_draw a.fd__law_draw ["state", "many"] sp__law_draw := by
  refine T.fn__law_draw.ok sc__law_draw (fun vs H Q E h => ?_) (fun cdv A outer s H vs Q E hr h => ?_)
  · obtain ⟨_, _, _, _, _, _, rfl, _⟩ := h
    rfl
  · obtain ⟨B, s, c, m, many, cells, rfl, hs, ⟨hm0, hm1, hl⟩, hmany, k⟩ := h
    refine ⟨_, (pss_cons (ps_if (pt_cmpR op_lt (pv 1) pe_int (nomark _))
  (pss_one (ps_ret pe_int))
  pss_nil)
  (pss_cons (ps_set (i := 2) sc__law_draw.nd rfl (Or.inl rfl) (pe_ix (ix_listK (K := K)) (pv 0) pe_int (fun _ _ => rfl)))
  (pss_cons (ps_for PassesOwn.never rfl (pi_range1 rfl T.mg_range (pa_cons (pe_callB (call_lenK (K := K)) (by rfl) T.mg_len PySem.boot_len (pa_cons (pv 2) pa_nil)) pa_nil)) (pg_name (i := 3) sc__law_draw.nd rfl (Or.inl rfl))
  (pss_one (ps_if (PW.pt (pw_and (pt_cmpR op_eq (pe_ix (ix_listK (K := K)) (pv 2) pe_int (fun _ _ => rfl)) pe_int (nomark _)) (pw_and1 (pt_cmpR op_gt (pe_callB (call_lenK (K := K)) (by rfl) T.mg_len PySem.boot_len (pa_cons (pv 2) pa_nil)) pe_int (nomark _)))))
  (pss_one (ps_expr (pe_bmK (K := K) PySem.F.plainAttrs_list PySem.F.slot_list_pop PySem.F.type_list_pop mt_popAt (pv 2) (pa_cons pe_int pa_nil))))
  pss_nil)))
  (pss_cons (ps_if (PW.pt (pw_and (pt_cmpR op_gt (pe_callB (call_lenK (K := K)) (by rfl) T.mg_len PySem.boot_len (pa_cons (pv 2) pa_nil)) pe_int (nomark _)) (pw_and1 (pt_cmpR op_gt (pe_ix (ix_listK (K := K)) (pv 2) pe_int (fun _ _ => rfl)) pe_int (nomark _)))))
  (pss_cons (ps_set (i := 4) sc__law_draw.nd rfl (Or.inl rfl) (pe_ix (ix_listK (K := K)) (pv 2) pe_int (fun _ _ => rfl)))
  (pss_cons (ps_asg (pe_op op_fdivW (pv 4) (pv 1)) (pg_sub (pv 2) pe_int set_list))
  (pss_one (ps_ret (pe_op op_mod (pe_callTy call_intQ (by rfl) T.mg_int (by decide +kernel) (pa_cons (pv 4) pa_nil)) (pv 1))))))
  pss_nil)
  (pss_cons (ps_set (i := 5) sc__law_draw.nd rfl (Or.inl rfl) (pe_op op_mod (pe_callTy call_intQ (by rfl) T.mg_int (by decide +kernel) (pa_cons (pe_op op_add (pe_op op_mul (pe_ix (ix_listK (K := K)) (pv 0) pe_int (fun _ _ => rfl)) pe_int) pe_int) pa_nil)) pe_int))
  (pss_cons (ps_asg (pv 5) (pg_sub (pv 0) pe_int set_list))
  (pss_one (ps_ret (pe_op op_mod (pe_callTy call_intQ (by rfl) T.mg_int (by decide +kernel) (pa_cons (pe_op op_fdivW (pv 5) pe_int) pa_nil)) (pv 1)))))))))), ?_⟩
    walk_at "ss"
    refine ifd (fun h => ?_) (fun h => ?_)
    · walk_at "ss"
      exact k 0 m cells _ hs ⟨hm0, hm1, hl⟩ (fun _ => rfl) (fun q => by omega)
    walk_at "ss"
    refine w_for1 ?_
    walk_at "ss"
    rw [List.length_map]
    refine w_forR (n := (cells.length : Int)) (by omega) (fun i σ H' => ∃ (cs : List Int) (v3 : Option V), σ = [some (.ref s), some (.int many), some (.ref c), v3, none, none] ∧ cs.length ≤ 1000 ∧ (0 < cells.length → cs ≠ []) ∧ Hs B [(s, sto c m), (c, clo cs)] H') (fun Q' q => q) (by omega) ⟨cells, none, rfl, hl, fun h => List.length_pos_iff.mp h, hs⟩ ?_ ?_
    · clear hs
      rintro i σ H' hi ⟨cs, v3, rfl, hl2, hne, hs⟩
      have hpos : 0 < cells.length := by omega
      cases cs with
      | nil => exact absurd rfl (hne hpos)
      | cons z cs =>
        rw [List.length_cons] at hl2
        walk_at "ss"
        refine ifd (fun hz => ?_) (fun hz => ?_)
        · walk_at "ss"
          refine ifd (fun h2 => ?_) (fun h2 => ?_)
          · walk_at "ss"
            refine w_popAt (k := 0) hs (by walk_at "p") rfl rfl (by walk_at "z") fun H2 hs2 => ?_
            refine ⟨cs, _, rfl, by omega, fun _ z => ?_, hs2⟩
            subst z
            simp at h2
          · walk_at "ss"
            exact ⟨z :: cs, _, rfl, by rw [List.length_cons]; omega, (fun _ z => by cases z), hs⟩
        · refine iteF ?_
          walk_at "ss"
          exact ⟨z :: cs, _, rfl, by rw [List.length_cons]; omega, (fun _ z => by cases z), hs⟩
    · clear hs
      rintro σ H' ⟨cs, v3, rfl, hl2, hne, hs⟩
      cases cs with
      | nil =>
        walk_at "ss"
        show if decide ((0 : Int) < ((0 : Nat) : Int)) = true then _ else _
        refine iteF ?_
        try (with_reducible refine iteF ?_)
        walk_at "ss"
        rename_i H2 hs2
        clear hs
        have e1 : 0 ≤ (m * 48271 + 12345) % 2147483647 := Int.emod_nonneg _ (by decide)
        have e2 : (m * 48271 + 12345) % 2147483647 < 2147483647 := Int.emod_lt_of_pos _ (by decide)
        generalize (m * 48271 + 12345) % 2147483647 = mm at e1 e2 hs2 ⊢
        refine w_I ⟨by decide, by decide⟩ ?_
        walk_at "ss"
        refine k _ mm [] _ hs2 ⟨e1, by omega, hl2⟩ (fun q => by omega) fun q => ⟨Int.emod_nonneg _ (by omega), Int.emod_lt_of_pos _ (by omega)⟩
      | cons z cs =>
        have hl3 : cs.length + 1 ≤ 1000 := by rw [List.length_cons] at hl2; exact hl2
        walk_at "ss"
        refine ifd (fun _ => ?_) (fun q => absurd (show (0 : Int) < _ from by simp only [List.map_cons, List.length_cons]; omega) q)
        walk_at "ss"
        refine ifd (fun hz => ?_) (fun hz => ?_)
        · walk_at "ss"
          refine w_I ⟨by omega, ?_⟩ ?_
          · refine PySem.Flt.log2_lt_of (by decide) (Nat.lt_of_lt_of_le (show many.natAbs < 2 ^ 30 by omega) (Nat.pow_le_pow_right (by decide) (by decide)))
          walk_at "ss"
          rename_i H2 hs2
          refine k _ m ((z / many) :: cs) _ hs2 ⟨hm0, hm1, by rw [List.length_cons]; omega⟩ (fun q => by omega) fun q => ⟨Int.emod_nonneg _ (by omega), Int.emod_lt_of_pos _ (by omega)⟩
        · walk_at "ss"
          rename_i H2 hs2
          clear hs
          have e1 : 0 ≤ (m * 48271 + 12345) % 2147483647 := Int.emod_nonneg _ (by decide)
          have e2 : (m * 48271 + 12345) % 2147483647 < 2147483647 := Int.emod_lt_of_pos _ (by decide)
          generalize (m * 48271 + 12345) % 2147483647 = mm at e1 e2 hs2 ⊢
          refine w_I ⟨by decide, by decide⟩ ?_
          walk_at "ss"
          refine k _ mm (z :: cs) _ hs2 ⟨e1, by omega, hl2⟩ (fun q => by omega) fun q => ⟨Int.emod_nonneg _ (by omega), Int.emod_lt_of_pos _ (by omega)⟩
theorem w_draw {B H : Hp} {Q : VK} {E : XK} {s c : Addr} {m many : Int} {cells : List Int} {R : List (Addr × HO)} (hs : Hs B ((s, sto c m) :: (c, clo cells) :: R) H) (g : Good m cells) (hm : many < 1000000000)
    (q : ∀ r m' cells' H', Hs B ((s, sto c m') :: (c, clo cells') :: R) H' → Good m' cells' → (many < 1 → r = 0) → (1 ≤ many → 0 ≤ r ∧ r < many) → Q (.int r) H') : sp__law_draw [.ref s, .int many] H Q E := by
  obtain ⟨B', _, h1, back⟩ := hs.frame2
  exact ⟨B', s, c, m, many, cells, rfl, h1, g, hm, fun r m' cells' H' h2 => q r m' cells' H' (back _ _ h2)⟩
/-! ## trees drawn -/
def LT : Nat → Nat
  | 0 => 12
  | d + 1 => 3 * LT d + 9
theorem LT_le : ∀ d, 12 ≤ LT d
  | 0 => Nat.le_refl _
  | d + 1 => by
    have := LT_le d
    simp only [LT]
    omega
def sp__law_test (d : Nat) : Sp := fun vs H Q _ => ∃ (B : Hp) (R : List (Addr × HO)) (s c : Addr) (m : Int) (cells : List Int), vs = [.ref s, .int (d : Int)] ∧ Hs B ((s, sto c m) :: (c, clo cells) :: R) H ∧ Good m cells ∧
  ∀ B2 v t m' cells' H', Same B B2 → Hs B2 ((s, sto c m') :: (c, clo cells') :: R) H' → Good m' cells' → TrAt B2 t v → wf t false → (showL t).length ≤ LT d → dep t ≤ d → Q v H'
theorem five_flds {j : Nat} (h : j < 5) : ∃ f, f < 5 ∧ ([.str "port", .str "src", .str "dst", .str "kind", .str "switch"] : List V)[j]? = some (.str (fldS f)) := by
  match j, h with
  | 0, _ => exact ⟨1, by decide, rfl⟩
  | 1, _ => exact ⟨2, by decide, rfl⟩
  | 2, _ => exact ⟨3, by decide, rfl⟩
  | 3, _ => exact ⟨4, by decide, rfl⟩
  | 4, _ => exact ⟨0, by decide, rfl⟩
theorem four_nums {j : Nat} (a b c d : Int) (h : j < 4) (ha : 0 ≤ a ∧ a ≤ 6) (hb : 0 ≤ b ∧ b ≤ 6) (hc : 0 ≤ c ∧ c ≤ 6) (hd : 0 ≤ d ∧ d ≤ 6) : ∃ n : Int, 0 ≤ n ∧ n ≤ 6 ∧ ([.int a, .int b, .int c, .int d] : List V)[j]? = some (.int n) := by
  match j, h with
  | 0, _ => exact ⟨a, ha.1, ha.2, rfl⟩
  | 1, _ => exact ⟨b, hb.1, hb.2, rfl⟩
  | 2, _ => exact ⟨c, hc.1, hc.2, rfl⟩
  | 3, _ => exact ⟨d, hd.1, hd.2, rfl⟩
theorem lf_le {p : Bool} {f : Nat} {n : Int} (hf : f < 5) (h0 : 0 ≤ n) (h1 : n ≤ 6) : (showL (.lf p f n)).length ≤ 11 ∧ (p = false → (showL (.lf p f n)).length ≤ 10) := by
  obtain ⟨_, _, _, _, _, h5, h6⟩ := tl_flds
  have e1 := fld_len hf
  have e2 : (tl (nS n)).length = 1 := by
    obtain ⟨a, rfl⟩ := Int.eq_ofNat_of_zero_le h0
    rw [tl_nS, numL_lt (by omega)]
    rfl
  simp only [showL, List.length_append, e2]
  cases p with
  | false =>
    rw [h5]
    exact ⟨by show _ + (3 + 1) ≤ 11; omega, fun _ => by show _ + (3 + 1) ≤ 10; omega⟩
  | true =>
    rw [h6]
    exact ⟨by show _ + (4 + 1) ≤ 11; omega, fun z => by cases z⟩
theorem rows_len {n : Nat} : ∀ {ts : List Tr}, (∀ t ∈ ts, (showL t).length ≤ n) → (joinL [44, 32] (showLs ts)).length ≤ ts.length * (n + 2)
  | [], _ => Nat.zero_le _
  | [t], h => by
    have := h t (by simp)
    show (showL t).length ≤ 1 * (n + 2)
    omega
  | t :: u :: ts, h => by
    have h1 := h t (by simp)
    have ih := rows_len (ts := u :: ts) fun v hv => h v (List.mem_cons_of_mem _ hv)
    show (showL t ++ ([44, 32] ++ joinL [44, 32] (showLs (u :: ts)))).length ≤ (ts.length + 1 + 1) * (n + 2)
    rw [List.length_append, List.length_append, Nat.add_mul, Nat.one_mul]
    show (showL t).length + (2 + (joinL [44, 32] (showLs (u :: ts))).length) ≤ _
    rw [List.length_cons] at ih
    omega
theorem two_names (p : Bool) {j : Nat} (h : j < 2) : ∃ k : Bool, ([.str (rwN p false), .str (rwN p true)] : List V)[j]? = some (.str (rwN p k)) := by
  match j, h with
  | 0, _ => exact ⟨false, rfl⟩
  | 1, _ => exact ⟨true, rfl⟩
def spI {α : Type} (d : Nat) (F : Sp) (sp : Nat → Sp) : Sp := match d with
  | 0 => F
  | e + 1 => sp e
theorem ok_ltest_step (T : Txt w K mg a) (d : Nat) (G__law_test : FnOk P w K mg base CX0 (d + 1) a._law_test a.fd__law_test ["state", "deep"] (spI (α := Unit) d spF sp__law_test)) : FnOk P w K mg base CX0 (d + 2) a._law_test a.fd__law_test ["state", "deep"] (sp__law_test d) := by
  have G__law_draw := ok__law_draw (P := P) (w := w) (base := base) T
  refine T.fn__law_test.ok sc__law_test (fun vs H Q E h => ?_) (fun cdv A outer s H vs Q E hr h => ?_)
  · obtain ⟨_, _, _, _, _, _, rfl, _⟩ := h
    rfl
  · obtain ⟨B, R, st, c, m, cells, rfl, hs, g, k⟩ := h
    refine ⟨_, (pss_cons (ps_set (i := 2) sc__law_test.nd rfl (Or.inl rfl) (pe_call G__law_draw (hr.mono (by first | decide | omega)) rfl T.mg__law_draw T.kp__law_draw T.bi__law_draw .nil pass0 (pa_cons (pv 0) (pa_cons pe_int pa_nil))))
  (pss_cons (ps_if (PW.pt (pw_or (pt_cmpR op_eq (pv 1) pe_int (nomark _)) (pw_or1 (pt_cmpR op_lt (pv 2) pe_int (nomark _)))))
  (pss_cons (ps_set (i := 3) sc__law_test.nd rfl (Or.inl rfl) (pe_ix (ix_listK (K := K)) (pe_lst (pa_cons pe_str (pa_cons pe_str (pa_cons pe_str (pa_cons pe_str (pa_cons pe_str pa_nil)))))) (pe_call G__law_draw (hr.mono (by first | decide | omega)) rfl T.mg__law_draw T.kp__law_draw T.bi__law_draw .nil pass0 (pa_cons (pv 0) (pa_cons pe_int pa_nil))) (fun _ _ => rfl)))
  (pss_cons (ps_if (pt_cmpR op_eq (pv 3) pe_str (nomark _))
  (pss_one (ps_ret (pe_tup (pa_cons pe_str (pa_cons (pv 3) (pa_cons (pe_op op_add pe_int (pe_call G__law_draw (hr.mono (by first | decide | omega)) rfl T.mg__law_draw T.kp__law_draw T.bi__law_draw .nil pass0 (pa_cons (pv 0) (pa_cons pe_int pa_nil)))) pa_nil))))))
  pss_nil)
  (pss_one (ps_ret (pe_tup (pa_cons pe_str (pa_cons (pv 3) (pa_cons (pe_ix (ix_listK (K := K)) (pe_lst (pa_cons pe_int (pa_cons pe_int (pa_cons pe_int (pa_cons pe_int pa_nil))))) (pe_call G__law_draw (hr.mono (by first | decide | omega)) rfl T.mg__law_draw T.kp__law_draw T.bi__law_draw .nil pass0 (pa_cons (pv 0) (pa_cons pe_int pa_nil))) (fun _ _ => rfl)) pa_nil))))))))
  pss_nil)
  (pss_cons (ps_if (pt_cmpR op_lt (pv 2) pe_int (nomark _))
  (pss_one (ps_ret (pe_tup (pa_cons pe_str (pa_cons (pe_call G__law_test (hr.mono (by first | decide | omega)) rfl T.mg__law_test T.kp__law_test T.bi__law_test .nil pass0 (pa_cons (pv 0) (pa_cons (pe_op op_sub (pv 1) pe_int) pa_nil))) pa_nil)))))
  pss_nil)
  (pss_cons (ps_setLc (i := 4) (own := [("k", 5)]) (g := (gName 5)) (tt := tYes) rfl sc__law_test.nd rfl rfl (sw_true rfl rfl rfl (by decide +kernel)) (pi_range1 rfl T.mg_range (pa_cons (pe_call G__law_draw (hr.mono (by first | decide | omega)) rfl T.mg__law_draw T.kp__law_draw T.bi__law_draw .nil pass0 (pa_cons (pv 0) (pa_cons pe_int pa_nil))) pa_nil)) (blkOk_by (own := [("k", 5)]) (N := N__law_test) (sc := defScope s__law_test) (by decide +kernel)) (fun _ _ _ _ _ => by exact (pg_name (i := 5) sc__law_test.nd rfl (Or.inl rfl))) (fun _ _ _ _ _ => pts_nil) (fun _ _ _ _ _ => by exact (pe_call G__law_test (hr.mono (by first | decide | omega)) rfl T.mg__law_test T.kp__law_test T.bi__law_test .nil pass0 (pa_cons (pv 0) (pa_cons (pe_op op_sub (pv 1) pe_int) pa_nil)))))
  (pss_one (ps_ret (pe_tup (pa_cons (pe_ix (ix_listK (K := K)) (pe_lst (pa_cons pe_str (pa_cons pe_str pa_nil))) (pe_op op_sub (pv 2) pe_int) (fun _ _ => rfl)) (pa_cons (pv 4) pa_nil))))))))), ?_⟩
    have hLT := LT_le d
    walk_at "ss"
    refine w_draw hs g (by decide) fun kd m1 c1 H1 hs1 g1 _ hkd => ?_
    obtain ⟨k0, k1⟩ := hkd (by decide)
    clear hs
    walk_at "ss"
    refine ifd (fun hd0 => ?_) (fun hd0 => ?_)
    · refine iteT ?_
      walk_at "ss"
      rename_i ll H2 hs2
      obtain ⟨B2, sB2, hll, hs3⟩ := frz_hs hs2
      clear hs2
      refine w_draw hs3 g1 (by decide) fun r m2 c2 H3 hs4 g2 _ hr2 => ?_
      obtain ⟨r0, r1⟩ := hr2 (by decide)
      obtain ⟨j, rfl⟩ : ∃ j : Nat, r = j := ⟨r.toNat, by omega⟩
      obtain ⟨f, hf5, hf⟩ := five_flds (show j < 5 by omega)
      clear hs3
      refine w_ixL (SqL.of (hs4.same _ _ hll)) (at_of rfl hf) ?_
      walk_at "ss"
      refine ifd (fun hsw => ?_) (fun hsw => ?_)
      · walk_at "ss"
        refine w_draw hs4 g2 (by decide) fun n m3 c3 H4 hs5 g3 _ hn => ?_
        obtain ⟨n0, n1⟩ := hn (by decide)
        clear hs4
        walk_at "ss"
        rename_i t H5 hs6
        obtain ⟨B3, sB3, ht, hs7⟩ := frz_hs hs6
        have hl := (lf_le (p := false) (f := f) (n := 1 + n) hf5 (by omega) (by omega)).2 rfl
        exact k B3 (.ref t) (.lf false f (1 + n)) m3 c3 H5 (sB2.trans sB3) hs7 g3 ⟨t, rfl, ht⟩ ⟨rfl, hf5, by omega, by omega⟩ (by omega) (Nat.zero_le _)
      · walk_at "ss"
        rename_i l2 H4 hs5
        obtain ⟨B3, sB3, hl2, hs6⟩ := frz_hs hs5
        clear hs4 hs5
        refine w_draw hs6 g2 (by decide) fun r m3 c3 H5 hs7 g3 _ hr3 => ?_
        obtain ⟨q0, q1⟩ := hr3 (by decide)
        obtain ⟨i, rfl⟩ : ∃ i : Nat, r = i := ⟨r.toNat, by omega⟩
        obtain ⟨n, n0, n1, hn⟩ := four_nums 0 1 2 6 (show i < 4 by omega) (by decide) (by decide) (by decide) (by decide)
        clear hs6
        refine w_ixL (SqL.of (hs7.same _ _ hl2)) (at_of rfl hn) ?_
        walk_at "ss"
        rename_i t H6 hs8
        obtain ⟨B4, sB4, ht, hs9⟩ := frz_hs hs8
        have hl := (lf_le (p := false) (f := f) (n := n) hf5 n0 n1).2 rfl
        exact k B4 (.ref t) (.lf false f n) m3 c3 H6 (sB2.trans (sB3.trans sB4)) hs9 g3 ⟨t, rfl, ht⟩ ⟨rfl, hf5, n0, by omega⟩ (by omega) (Nat.zero_le _)
    · walk_at "ss"
      refine ifd (fun hk4 => ?_) (fun hk4 => ?_)
      · walk_at "ss"
        rename_i ll H2 hs2
        obtain ⟨B2, sB2, hll, hs3⟩ := frz_hs hs2
        clear hs2
        refine w_draw hs3 g1 (by decide) fun r m2 c2 H3 hs4 g2 _ hr2 => ?_
        obtain ⟨r0, r1⟩ := hr2 (by decide)
        obtain ⟨j, rfl⟩ : ∃ j : Nat, r = j := ⟨r.toNat, by omega⟩
        obtain ⟨f, hf5, hf⟩ := five_flds (show j < 5 by omega)
        clear hs3
        refine w_ixL (SqL.of (hs4.same _ _ hll)) (at_of rfl hf) ?_
        walk_at "ss"
        refine ifd (fun hsw => ?_) (fun hsw => ?_)
        · walk_at "ss"
          refine w_draw hs4 g2 (by decide) fun n m3 c3 H4 hs5 g3 _ hn => ?_
          obtain ⟨n0, n1⟩ := hn (by decide)
          clear hs4
          walk_at "ss"
          rename_i t H5 hs6
          obtain ⟨B3, sB3, ht, hs7⟩ := frz_hs hs6
          have hl := (lf_le (p := false) (f := f) (n := 1 + n) hf5 (by omega) (by omega)).2 rfl
          exact k B3 (.ref t) (.lf false f (1 + n)) m3 c3 H5 (sB2.trans sB3) hs7 g3 ⟨t, rfl, ht⟩ ⟨rfl, hf5, by omega, by omega⟩ (by omega) (Nat.zero_le _)
        · walk_at "ss"
          rename_i l2 H4 hs5
          obtain ⟨B3, sB3, hl2, hs6⟩ := frz_hs hs5
          clear hs4 hs5
          refine w_draw hs6 g2 (by decide) fun r m3 c3 H5 hs7 g3 _ hr3 => ?_
          obtain ⟨q0, q1⟩ := hr3 (by decide)
          obtain ⟨i, rfl⟩ : ∃ i : Nat, r = i := ⟨r.toNat, by omega⟩
          obtain ⟨n, n0, n1, hn⟩ := four_nums 0 1 2 6 (show i < 4 by omega) (by decide) (by decide) (by decide) (by decide)
          clear hs6
          refine w_ixL (SqL.of (hs7.same _ _ hl2)) (at_of rfl hn) ?_
          walk_at "ss"
          rename_i t H6 hs8
          obtain ⟨B4, sB4, ht, hs9⟩ := frz_hs hs8
          have hl := (lf_le (p := false) (f := f) (n := n) hf5 n0 n1).2 rfl
          exact k B4 (.ref t) (.lf false f n) m3 c3 H6 (sB2.trans (sB3.trans sB4)) hs9 g3 ⟨t, rfl, ht⟩ ⟨rfl, hf5, n0, by omega⟩ (by omega) (Nat.zero_le _)
      · obtain ⟨e, rfl⟩ : ∃ e, d = e + 1 := ⟨d - 1, by omega⟩
        have G2 : spI (α := Unit) (e + 1) spF sp__law_test = sp__law_test e := rfl
        have hde : (((e + 1 : Nat) : Int)) - 1 = (e : Int) := by omega
        walk_at "ss"
        refine ifd (fun hk6 => ?_) (fun hk6 => ?_)
        · walk_at "ss"
          rw [G2]
          refine ⟨B, R, st, c, m1, c1, by rw [hde]; rfl, hs1, g1, fun B2 v t m2 c2 H2 sB hs2 g2 hv hw hl hdt => ?_⟩
          clear hs1
          walk_at "ss"
          rename_i t2 H5 hs6
          obtain ⟨B3, sB3, ht, hs7⟩ := frz_hs hs6
          refine k B3 (.ref t2) (.no t) m2 c2 H5 (sB.trans sB3) hs7 g2 ⟨t2, v, rfl, ht, hv.same sB3⟩ ⟨rfl, hw⟩ ?_ ?_
          · simp only [showL, List.length_cons, LT]
            omega
          · simp only [dep]
            omega
        · walk_at "ss"
          refine w_lcG ?_
          walk_at "ss"
          refine w_draw hs1 g1 (by decide) fun n m2 c2 H2 hs2 g2 _ hn => ?_
          obtain ⟨n0, n1⟩ := hn (by decide)
          clear hs1
          walk_at "ss"
          refine w_rngR n0 (by omega) fun D hD => ?_
          refine turns_range (Body := LcBody _ tYes _ _ _ D) (fun i H' => ∃ (B2 : Hp) (m' : Int) (cells' : List Int) (us : List V) (ts : List Tr), Same B B2 ∧ Hs B2 ((D, .lst us) :: (st, sto c m') :: (c, clo cells') :: R) H' ∧ Good m' cells' ∧ TrsAt B2 ts us ∧ ts.length = i ∧ wfs ts false ∧ (∀ t ∈ ts, (showL t).length ≤ LT e) ∧ ∀ t ∈ ts, dep t ≤ e)
            ⟨B, m2, c2, [], [], Same.refl _, hs2.new hD, g2, rfl, rfl, trivial, (fun _ z => nomatch z), (fun _ z => nomatch z)⟩ ?_ ?_
          · clear hs2 hD
            rintro i H' hi ⟨B2, m', cells', us, ts, sB, hs3, g3, hts, hlt, hws, hlen, hdep⟩
            walk_at "ss"
            refine ⟨rfl, ?_⟩
            have hs4 := hs3.m1.m2.m1
            walk_at "ss"
            rw [G2]
            refine ⟨B2, (D, .lst us) :: R, st, c, m', cells', by rw [hde]; rfl, hs4, g3, fun B3 v t m3 c3 H3 sB3 hs5 g4 hv hw hl hdt => ?_⟩
            have hs6 := hs5.m2
            have hul := hts.row.1
            refine ⟨us, hs6.g0, szl (by omega), B3, m3, c3, us ++ [v], ts ++ [t], sB.trans sB3, hs6.p0 _, g4, TrsAt.snoc hv (hts.same sB3), by rw [List.length_append, hlt]; rfl, wfs_all.mpr fun u hu => ?_, fun u hu => ?_, fun u hu => ?_⟩
            · rcases List.mem_append.mp hu with hu | hu
              · exact wfs_all.mp hws u hu
              · rw [List.mem_singleton.mp hu]
                exact hw
            · rcases List.mem_append.mp hu with hu | hu
              · exact hlen u hu
              · rw [List.mem_singleton.mp hu]
                exact hl
            · rcases List.mem_append.mp hu with hu | hu
              · exact hdep u hu
              · rw [List.mem_singleton.mp hu]
                exact hdt
          · clear hs2
            rintro H' ⟨B2, m', cells', us, ts, sB, hs3, g3, hts, hlt, hws, hlen, hdep⟩
            clear hD
            obtain ⟨B3, sB3, hD, hs4⟩ := frz_hs hs3
            clear hs3
            walk_at "ss"
            rename_i l2 H5 hs6
            obtain ⟨j, hj⟩ : ∃ j : Nat, kd - 6 = j := ⟨(kd - 6).toNat, by omega⟩
            obtain ⟨kk, hkk⟩ := two_names false (show j < 2 by omega)
            refine w_ixL (SqL.of hs6.g0) (at_of hj hkk) ?_
            walk_at "ss"
            rename_i t2 H7 hs7
            obtain ⟨B4, sB4, h4, g5, _⟩ := (show ∃ B4, Same B3 B4 ∧ Hs B4 _ H7 ∧ B4 t2 = _ ∧ B4 l2 = _ from by
              obtain ⟨B1, s1, g1, h1⟩ := frz_hs hs7
              obtain ⟨B2, s2, g2, h2⟩ := frz_hs h1
              exact ⟨B2, s1.trans s2, h2, s2 _ _ g1, g2⟩)
            have hr3 := rows_len hlen
            refine k B4 (.ref t2) (.rw false kk ts) m' cells' H7 (sB.trans (sB3.trans sB4)) h4 g3 ⟨t2, D, us, rfl, g5, sB4 _ _ hD, (hts.same sB3).same sB4⟩ ⟨rfl, hws⟩ ?_ ?_
            · rw [row_len]
              simp only [LT]
              have : ts.length * (LT e + 2) ≤ 3 * (LT e + 2) := Nat.mul_le_mul_right _ (by omega)
              omega
            · simp only [dep]
              have := deps_le.mpr hdep
              omega
theorem ok__law_test (T : Txt w K mg a) : ∀ d : Nat, FnOk P w K mg base CX0 (d + 2) a._law_test a.fd__law_test ["state", "deep"] (sp__law_test d)
  | 0 => ok_ltest_step T 0 fn_F
  | d + 1 => ok_ltest_step T (d + 1) (ok__law_test T d)
end
local macro_rules | `(tactic| walk_at "v") => `(tactic| first | exact v0 | exact v1 | exact v2 | exact v3 | exact v4 | exact v5 | exact v6 | exact v7 | exact v8)
local macro_rules | `(tactic| walk_at "vs") => `(tactic| first | exact st0 | exact st1 | exact st2 | exact st3 | exact st4 | exact st5 | exact st6 | exact st7 | exact st8)
local macro_rules | `(tactic| walk_at "s") => `(tactic| first
  | with_reducible refine w_dget ?_
  | ((with_reducible refine' w_dgetZ ?h ?nd ?hk ?hv ?_); (case h => walk_at "g"); (case nd => walk_at "nd"); (case hk => walk_at "k"); (case hv => walk_at "v"))
  | ((with_reducible refine' w_dputZ ?hs ?h ?nd ?hk ?hv ?hu ?hl ?_); (case hs => assumption); (case h => walk_at "p"); (case nd => walk_at "nd"); (case hk => walk_at "k"); (case hv => walk_at "v"); (case hu => walk_at "vs"); (case hl => decide); intro _ _)
  | with_reducible refine w_gsub ?_
  | with_reducible refine w_setD ?_
  | with_reducible refine w_disp ?_
  | ((with_reducible refine' w_newP ?hs ?_); (case hs => assumption); intro _ _ _)
  | with_reducible refine w_pcons ?_
  | with_reducible refine w_pnil ?_)

local macro_rules | `(tactic| walk_at "s") => `(tactic| first
  | with_reducible refine w_nget ?_
  | with_reducible refine w_nin ?_
  | with_reducible refine w_nnot ?_
  | with_reducible refine w_nput ?_
  | with_reducible refine w_ndel ?_
  | with_reducible refine w_npop ?_
  | ((with_reducible refine' w_nnew ?hs ?_); (case hs => assumption); intro _ _ _))

local macro_rules | `(tactic| walk_at "s") => `(tactic| first
  | with_reducible refine w_m0 ?_
  | with_reducible refine w_m1 ?_
  | with_reducible refine w_m0b ?_
  | with_reducible refine w_m1b ?_
  | with_reducible refine w_kget ?_
  | with_reducible refine w_nS ?_)

section
variable {P : Program} [IsP P] {w : World} {K : PySem.W.Frag} {mg : Str → Option Value} {base : Heap} {a : Ad}
/-! ## policies drawn -/
def LP : Nat → Nat
  | 0 => 50
  | d + 1 => 3 * LP d + 9
theorem LP_le : ∀ d, 50 ≤ LP d
  | 0 => Nat.le_refl _
  | d + 1 => by
    have := LP_le d
    simp only [LP]
    omega
abbrev fldsV : List V := [.str "port", .str "src", .str "dst", .str "kind", .str "switch"]
def sp__law_policy (d : Nat) : Sp := fun vs H Q _ => ∃ (B : Hp) (R : List (Addr × HO)) (s c fl : Addr) (m : Int) (cells : List Int), vs = [.ref s, .int (d : Int), .ref fl] ∧ Hs B ((s, sto c m) :: (c, clo cells) :: R) H ∧ Good m cells ∧ B fl = some (.lst fldsV) ∧
  ∀ B2 v t m' cells' H', Same B B2 → Hs B2 ((s, sto c m') :: (c, clo cells') :: R) H' → Good m' cells' → TrAt B2 t v → wf t true → (showL t).length ≤ LP d → dep t ≤ d + 2 → Q v H'
theorem ok_lpol_step (T : Txt w K mg a) (d : Nat) (G__law_policy : FnOk P w K mg base CX0 (d + 3) a._law_policy a.fd__law_policy ["state", "deep", "fields"] (spI (α := Unit) d spF sp__law_policy)) : FnOk P w K mg base CX0 (d + 4) a._law_policy a.fd__law_policy ["state", "deep", "fields"] (sp__law_policy d) := by
  have G__law_draw := ok__law_draw (P := P) (w := w) (base := base) T
  have G__law_test := ok__law_test (P := P) (w := w) (base := base) T 1
  refine T.fn__law_policy.ok sc__law_policy (fun vs H Q E h => ?_) (fun cdv A outer s H vs Q E hr h => ?_)
  · obtain ⟨_, _, _, _, _, _, _, rfl, _⟩ := h
    rfl
  · obtain ⟨B, R, st, c, fl, m, cells, rfl, hs, g, hfl, k⟩ := h
    refine ⟨_, (pss_cons (ps_set (i := 3) sc__law_policy.nd rfl (Or.inl rfl) (pe_call G__law_draw (hr.mono (by first | decide | omega)) rfl T.mg__law_draw T.kp__law_draw T.bi__law_draw .nil pass0 (pa_cons (pv 0) (pa_cons pe_int pa_nil))))
  (pss_cons (ps_if (PW.pt (pw_or (pt_cmpR op_eq (pv 1) pe_int (nomark _)) (pw_or1 (pt_cmpR op_lt (pv 3) pe_int (nomark _)))))
  (pss_cons (ps_if (pt_cmpR op_eq (pe_call G__law_draw (hr.mono (by first | decide | omega)) rfl T.mg__law_draw T.kp__law_draw T.bi__law_draw .nil pass0 (pa_cons (pv 0) (pa_cons pe_int pa_nil))) pe_int (nomark _))
  (pss_one (ps_ret (pe_tup (pa_cons pe_str (pa_cons (pe_call G__law_test (hr.mono (by first | decide | omega)) rfl T.mg__law_test T.kp__law_test T.bi__law_test .nil pass0 (pa_cons (pv 0) (pa_cons pe_int pa_nil))) pa_nil)))))
  pss_nil)
  (pss_cons (ps_set (i := 4) sc__law_policy.nd rfl (Or.inl rfl) (pe_ix (ix_listK (K := K)) (pv 2) (pe_call G__law_draw (hr.mono (by first | decide | omega)) rfl T.mg__law_draw T.kp__law_draw T.bi__law_draw .nil pass0 (pa_cons (pv 0) (pa_cons (pe_callB (call_lenK (K := K)) (by rfl) T.mg_len PySem.boot_len (pa_cons (pv 2) pa_nil)) pa_nil))) (fun _ _ => rfl)))
  (pss_one (ps_ret (pe_tup (pa_cons pe_str (pa_cons (pv 4) (pa_cons (pe_ifExp (pt_cmpR op_ne (pv 4) pe_str (nomark _)) (pe_ix (ix_listK (K := K)) (pe_lst (pa_cons pe_int (pa_cons pe_int (pa_cons pe_int (pa_cons pe_int pa_nil))))) (pe_call G__law_draw (hr.mono (by first | decide | omega)) rfl T.mg__law_draw T.kp__law_draw T.bi__law_draw .nil pass0 (pa_cons (pv 0) (pa_cons pe_int pa_nil))) (fun _ _ => rfl)) (pe_op op_add pe_int (pe_call G__law_draw (hr.mono (by first | decide | omega)) rfl T.mg__law_draw T.kp__law_draw T.bi__law_draw .nil pass0 (pa_cons (pv 0) (pa_cons pe_int pa_nil))))) pa_nil))))))))
  pss_nil)
  (pss_cons (ps_if (pt_cmpR op_eq (pv 3) pe_int (nomark _))
  (pss_one (ps_ret (pe_tup (pa_cons pe_str (pa_cons (pe_call G__law_policy (hr.mono (by first | decide | omega)) rfl T.mg__law_policy T.kp__law_policy T.bi__law_policy .nil pass0 (pa_cons (pv 0) (pa_cons (pe_op op_sub (pv 1) pe_int) (pa_cons (pv 2) pa_nil)))) pa_nil)))))
  pss_nil)
  (pss_cons (ps_setLc (i := 5) (own := [("k", 6)]) (g := (gName 6)) (tt := tYes) rfl sc__law_policy.nd rfl rfl (sw_true rfl rfl rfl (by decide +kernel)) (pi_range1 rfl T.mg_range (pa_cons (pe_call G__law_draw (hr.mono (by first | decide | omega)) rfl T.mg__law_draw T.kp__law_draw T.bi__law_draw .nil pass0 (pa_cons (pv 0) (pa_cons pe_int pa_nil))) pa_nil)) (blkOk_by (own := [("k", 6)]) (N := N__law_policy) (sc := defScope s__law_policy) (by decide +kernel)) (fun _ _ _ _ _ => by exact (pg_name (i := 6) sc__law_policy.nd rfl (Or.inl rfl))) (fun _ _ _ _ _ => pts_nil) (fun _ _ _ _ _ => by exact (pe_call G__law_policy (hr.mono (by first | decide | omega)) rfl T.mg__law_policy T.kp__law_policy T.bi__law_policy .nil pass0 (pa_cons (pv 0) (pa_cons (pe_op op_sub (pv 1) pe_int) (pa_cons (pv 2) pa_nil))))))
  (pss_one (ps_ret (pe_tup (pa_cons (pe_ix (ix_listK (K := K)) (pe_lst (pa_cons pe_str (pa_cons pe_str pa_nil))) (pe_op op_mod (pe_callTy call_intQ (by rfl) T.mg_int (by decide +kernel) (pa_cons (pv 3) pa_nil)) pe_int) (fun _ _ => rfl)) (pa_cons (pv 5) pa_nil))))))))), ?_⟩
    have hLP := LP_le d
    walk_at "ss"
    refine w_draw hs g (by decide) fun kd m1 c1 H1 hs1 g1 _ hkd => ?_
    obtain ⟨k0, k1⟩ := hkd (by decide)
    clear hs
    walk_at "ss"
    refine ifd (fun hd0 => ?_) (fun hd0 => ?_)
    · refine iteT ?_
      walk_at "ss"
      refine w_draw hs1 g1 (by decide) fun r m2 c2 H2 hs2 g2 _ _ => ?_
      clear hs1
      walk_at "ss"
      refine ifd (fun hr0 => ?_) (fun hr0 => ?_)
      · walk_at "ss"
        refine ⟨B, R, st, c, m2, c2, rfl, hs2, g2, fun B2 v t m3 c3 H3 sB hs3 g3 hv hw hl hdt => ?_⟩
        clear hs2
        walk_at "ss"
        rename_i t2 H5 hs6
        obtain ⟨B3, sB3, ht, hs7⟩ := frz_hs hs6
        have hl1 : LT 1 = 45 := rfl
        rw [hl1] at hl
        refine k B3 (.ref t2) (.te t) m3 c3 H5 (sB.trans sB3) hs7 g3 ⟨t2, v, rfl, ht, hv.same sB3⟩ ⟨rfl, hw⟩ ?_ ?_
        · simp only [showL, List.length_cons, List.length_append, List.length_nil]
          omega
        · simp only [dep]
          omega
      · walk_at "ss"
        have hfl2 := hs2.same _ _ hfl
        walk_at "ss"
        refine w_draw hs2 g2 (by decide) fun r m3 c3 H3 hs4 g3 _ hr2 => ?_
        obtain ⟨r0, r1⟩ := hr2 (by decide)
        obtain ⟨j, rfl⟩ : ∃ j : Nat, r = j := ⟨r.toNat, by omega⟩
        obtain ⟨f, hf5, hf⟩ := five_flds (show j < 5 from by have r1 : (j : Int) < 5 := r1; omega)
        clear hs2
        refine w_ixL (SqL.of (hs4.same _ _ hfl)) (at_of rfl hf) ?_
        walk_at "ss"
        refine w_ne rfl ?_
        refine ⟨_, rfl, ?_⟩
        by_cases hsw : V.str (fldS f) = V.str "switch"
        · rw [decide_eq_true hsw]
          refine iteF ?_
          walk_at "ss"
          refine w_draw hs4 g3 (by decide) fun n m4 c4 H4 hs5 g4 _ hn => ?_
          obtain ⟨n0, n1⟩ := hn (by decide)
          clear hs4
          walk_at "ss"
          rename_i t H5 hs6
          obtain ⟨B3, sB3, ht, hs7⟩ := frz_hs hs6
          have hl := (lf_le (p := true) (f := f) (n := 1 + n) hf5 (by omega) (by omega)).1
          exact k B3 (.ref t) (.lf true f (1 + n)) m4 c4 H5 sB3 hs7 g4 ⟨t, rfl, ht⟩ ⟨rfl, hf5, by omega, by omega⟩ (by omega) (Nat.zero_le _)
        · rw [decide_eq_false hsw]
          refine iteT ?_
          walk_at "ss"
          rename_i l2 H4 hs5
          obtain ⟨B3, sB3, hl2, hs6⟩ := frz_hs hs5
          clear hs4 hs5
          refine w_draw hs6 g3 (by decide) fun r m4 c4 H5 hs7 g4 _ hr3 => ?_
          obtain ⟨q0, q1⟩ := hr3 (by decide)
          obtain ⟨i, rfl⟩ : ∃ i : Nat, r = i := ⟨r.toNat, by omega⟩
          obtain ⟨n, n0, n1, hn⟩ := four_nums 1 2 0 6 (show i < 4 by omega) (by decide) (by decide) (by decide) (by decide)
          clear hs6
          refine w_ixL (SqL.of (hs7.same _ _ hl2)) (at_of rfl hn) ?_
          walk_at "ss"
          rename_i t H6 hs8
          obtain ⟨B4, sB4, ht, hs9⟩ := frz_hs hs8
          have hl := (lf_le (p := true) (f := f) (n := n) hf5 n0 n1).1
          exact k B4 (.ref t) (.lf true f n) m4 c4 H6 (sB3.trans sB4) hs9 g4 ⟨t, rfl, ht⟩ ⟨rfl, hf5, n0, by omega⟩ (by omega) (Nat.zero_le _)
    · walk_at "ss"
      refine ifd (fun hk4 => ?_) (fun hk4 => ?_)
      · walk_at "ss"
        refine w_draw hs1 g1 (by decide) fun r m2 c2 H2 hs2 g2 _ _ => ?_
        clear hs1
        walk_at "ss"
        refine ifd (fun hr0 => ?_) (fun hr0 => ?_)
        · walk_at "ss"
          refine ⟨B, R, st, c, m2, c2, rfl, hs2, g2, fun B2 v t m3 c3 H3 sB hs3 g3 hv hw hl hdt => ?_⟩
          clear hs2
          walk_at "ss"
          rename_i t2 H5 hs6
          obtain ⟨B3, sB3, ht, hs7⟩ := frz_hs hs6
          have hl1 : LT 1 = 45 := rfl
          rw [hl1] at hl
          refine k B3 (.ref t2) (.te t) m3 c3 H5 (sB.trans sB3) hs7 g3 ⟨t2, v, rfl, ht, hv.same sB3⟩ ⟨rfl, hw⟩ ?_ ?_
          · simp only [showL, List.length_cons, List.length_append, List.length_nil]
            omega
          · simp only [dep]
            omega
        · walk_at "ss"
          have hfl2 := hs2.same _ _ hfl
          walk_at "ss"
          refine w_draw hs2 g2 (by decide) fun r m3 c3 H3 hs4 g3 _ hr2 => ?_
          obtain ⟨r0, r1⟩ := hr2 (by decide)
          obtain ⟨j, rfl⟩ : ∃ j : Nat, r = j := ⟨r.toNat, by omega⟩
          obtain ⟨f, hf5, hf⟩ := five_flds (show j < 5 from by have r1 : (j : Int) < 5 := r1; omega)
          clear hs2
          refine w_ixL (SqL.of (hs4.same _ _ hfl)) (at_of rfl hf) ?_
          walk_at "ss"
          refine w_ne rfl ?_
          refine ⟨_, rfl, ?_⟩
          by_cases hsw : V.str (fldS f) = V.str "switch"
          · rw [decide_eq_true hsw]
            refine iteF ?_
            walk_at "ss"
            refine w_draw hs4 g3 (by decide) fun n m4 c4 H4 hs5 g4 _ hn => ?_
            obtain ⟨n0, n1⟩ := hn (by decide)
            clear hs4
            walk_at "ss"
            rename_i t H5 hs6
            obtain ⟨B3, sB3, ht, hs7⟩ := frz_hs hs6
            have hl := (lf_le (p := true) (f := f) (n := 1 + n) hf5 (by omega) (by omega)).1
            exact k B3 (.ref t) (.lf true f (1 + n)) m4 c4 H5 sB3 hs7 g4 ⟨t, rfl, ht⟩ ⟨rfl, hf5, by omega, by omega⟩ (by omega) (Nat.zero_le _)
          · rw [decide_eq_false hsw]
            refine iteT ?_
            walk_at "ss"
            rename_i l2 H4 hs5
            obtain ⟨B3, sB3, hl2, hs6⟩ := frz_hs hs5
            clear hs4 hs5
            refine w_draw hs6 g3 (by decide) fun r m4 c4 H5 hs7 g4 _ hr3 => ?_
            obtain ⟨q0, q1⟩ := hr3 (by decide)
            obtain ⟨i, rfl⟩ : ∃ i : Nat, r = i := ⟨r.toNat, by omega⟩
            obtain ⟨n, n0, n1, hn⟩ := four_nums 1 2 0 6 (show i < 4 by omega) (by decide) (by decide) (by decide) (by decide)
            clear hs6
            refine w_ixL (SqL.of (hs7.same _ _ hl2)) (at_of rfl hn) ?_
            walk_at "ss"
            rename_i t H6 hs8
            obtain ⟨B4, sB4, ht, hs9⟩ := frz_hs hs8
            have hl := (lf_le (p := true) (f := f) (n := n) hf5 n0 n1).1
            exact k B4 (.ref t) (.lf true f n) m4 c4 H6 (sB3.trans sB4) hs9 g4 ⟨t, rfl, ht⟩ ⟨rfl, hf5, n0, by omega⟩ (by omega) (Nat.zero_le _)
      · obtain ⟨e, rfl⟩ : ∃ e, d = e + 1 := ⟨d - 1, by omega⟩
        have G2 : spI (α := Unit) (e + 1) spF sp__law_policy = sp__law_policy e := rfl
        have hde : (((e + 1 : Nat) : Int)) - 1 = (e : Int) := by omega
        walk_at "ss"
        refine ifd (fun hk6 => ?_) (fun hk6 => ?_)
        · walk_at "ss"
          rw [G2]
          refine ⟨B, R, st, c, fl, m1, c1, by rw [hde]; rfl, hs1, g1, hfl, fun B2 v t m2 c2 H2 sB hs2 g2 hv hw hl hdt => ?_⟩
          clear hs1
          walk_at "ss"
          rename_i t2 H5 hs6
          obtain ⟨B3, sB3, ht, hs7⟩ := frz_hs hs6
          refine k B3 (.ref t2) (.st t) m2 c2 H5 (sB.trans sB3) hs7 g2 ⟨t2, v, rfl, ht, hv.same sB3⟩ ⟨rfl, hw⟩ ?_ ?_
          · simp only [showL, List.length_cons, LP]
            omega
          · simp only [dep]
            omega
        · walk_at "ss"
          refine w_lcG ?_
          walk_at "ss"
          refine w_draw hs1 g1 (by decide) fun n m2 c2 H2 hs2 g2 _ hn => ?_
          obtain ⟨n0, n1⟩ := hn (by decide)
          clear hs1
          walk_at "ss"
          refine w_rngR n0 (by omega) fun D hD => ?_
          refine turns_range (Body := LcBody _ tYes _ _ _ D) (fun i H' => ∃ (B2 : Hp) (m' : Int) (cells' : List Int) (us : List V) (ts : List Tr), Same B B2 ∧ Hs B2 ((D, .lst us) :: (st, sto c m') :: (c, clo cells') :: R) H' ∧ Good m' cells' ∧ TrsAt B2 ts us ∧ ts.length = i ∧ wfs ts true ∧ (∀ t ∈ ts, (showL t).length ≤ LP e) ∧ ∀ t ∈ ts, dep t ≤ e + 2)
            ⟨B, m2, c2, [], [], Same.refl _, hs2.new hD, g2, rfl, rfl, trivial, (fun _ z => nomatch z), (fun _ z => nomatch z)⟩ ?_ ?_
          · clear hs2 hD
            rintro i H' hi ⟨B2, m', cells', us, ts, sB, hs3, g3, hts, hlt, hws, hlen, hdep⟩
            walk_at "ss"
            refine ⟨rfl, ?_⟩
            have hs4 := hs3.m1.m2.m1
            walk_at "ss"
            rw [G2]
            refine ⟨B2, (D, .lst us) :: R, st, c, fl, m', cells', by rw [hde]; rfl, hs4, g3, sB _ _ hfl, fun B3 v t m3 c3 H3 sB3 hs5 g4 hv hw hl hdt => ?_⟩
            have hs6 := hs5.m2
            have hul := hts.row.1
            refine ⟨us, hs6.g0, szl (by omega), B3, m3, c3, us ++ [v], ts ++ [t], sB.trans sB3, hs6.p0 _, g4, TrsAt.snoc hv (hts.same sB3), by rw [List.length_append, hlt]; rfl, wfs_all.mpr fun u hu => ?_, fun u hu => ?_, fun u hu => ?_⟩
            · rcases List.mem_append.mp hu with hu | hu
              · exact wfs_all.mp hws u hu
              · rw [List.mem_singleton.mp hu]
                exact hw
            · rcases List.mem_append.mp hu with hu | hu
              · exact hlen u hu
              · rw [List.mem_singleton.mp hu]
                exact hl
            · rcases List.mem_append.mp hu with hu | hu
              · exact hdep u hu
              · rw [List.mem_singleton.mp hu]
                exact hdt
          · clear hs2
            rintro H' ⟨B2, m', cells', us, ts, sB, hs3, g3, hts, hlt, hws, hlen, hdep⟩
            clear hD
            obtain ⟨B3, sB3, hD, hs4⟩ := frz_hs hs3
            clear hs3
            walk_at "ss"
            rename_i l2 H5 hs6
            obtain ⟨j, hj⟩ : ∃ j : Nat, kd % 2 = j := ⟨(kd % 2).toNat, by omega⟩
            obtain ⟨kk, hkk⟩ := two_names true (show j < 2 by omega)
            refine w_ixL (SqL.of hs6.g0) (at_of hj hkk) ?_
            walk_at "ss"
            rename_i t2 H7 hs7
            obtain ⟨B4, sB4, h4, g5, _⟩ := (show ∃ B4, Same B3 B4 ∧ Hs B4 _ H7 ∧ B4 t2 = _ ∧ B4 l2 = _ from by
              obtain ⟨B1, s1, g1, h1⟩ := frz_hs hs7
              obtain ⟨B2, s2, g2, h2⟩ := frz_hs h1
              exact ⟨B2, s1.trans s2, h2, s2 _ _ g1, g2⟩)
            have hr3 := rows_len hlen
            refine k B4 (.ref t2) (.rw true kk ts) m' cells' H7 (sB.trans (sB3.trans sB4)) h4 g3 ⟨t2, D, us, rfl, g5, sB4 _ _ hD, (hts.same sB3).same sB4⟩ ⟨rfl, hws⟩ ?_ ?_
            · rw [row_len]
              simp only [LP]
              have : ts.length * (LP e + 2) ≤ 3 * (LP e + 2) := Nat.mul_le_mul_right _ (by omega)
              omega
            · simp only [dep]
              have := deps_le.mpr hdep
              omega
theorem ok__law_policy (T : Txt w K mg a) : ∀ d : Nat, FnOk P w K mg base CX0 (d + 4) a._law_policy a.fd__law_policy ["state", "deep", "fields"] (sp__law_policy d)
  | 0 => ok_lpol_step T 0 fn_F
  | d + 1 => ok_lpol_step T (d + 1) (ok__law_policy T d)
end
local macro_rules | `(tactic| walk_at "v") => `(tactic| first | exact v0 | exact v1 | exact v2 | exact v3 | exact v4 | exact v5 | exact v6 | exact v7 | exact v8)
local macro_rules | `(tactic| walk_at "vs") => `(tactic| first | exact st0 | exact st1 | exact st2 | exact st3 | exact st4 | exact st5 | exact st6 | exact st7 | exact st8)
local macro_rules | `(tactic| walk_at "s") => `(tactic| first
  | with_reducible refine w_dget ?_
  | ((with_reducible refine' w_dgetZ ?h ?nd ?hk ?hv ?_); (case h => walk_at "g"); (case nd => walk_at "nd"); (case hk => walk_at "k"); (case hv => walk_at "v"))
  | ((with_reducible refine' w_dputZ ?hs ?h ?nd ?hk ?hv ?hu ?hl ?_); (case hs => assumption); (case h => walk_at "p"); (case nd => walk_at "nd"); (case hk => walk_at "k"); (case hv => walk_at "v"); (case hu => walk_at "vs"); (case hl => decide); intro _ _)
  | with_reducible refine w_gsub ?_
  | with_reducible refine w_setD ?_
  | with_reducible refine w_disp ?_
  | ((with_reducible refine' w_newP ?hs ?_); (case hs => assumption); intro _ _ _)
  | with_reducible refine w_pcons ?_
  | with_reducible refine w_pnil ?_)

local macro_rules | `(tactic| walk_at "s") => `(tactic| first
  | with_reducible refine w_nget ?_
  | with_reducible refine w_nin ?_
  | with_reducible refine w_nnot ?_
  | with_reducible refine w_nput ?_
  | with_reducible refine w_ndel ?_
  | with_reducible refine w_npop ?_
  | ((with_reducible refine' w_nnew ?hs ?_); (case hs => assumption); intro _ _ _))

local macro_rules | `(tactic| walk_at "s") => `(tactic| first
  | with_reducible refine w_m0 ?_
  | with_reducible refine w_m1 ?_
  | with_reducible refine w_m0b ?_
  | with_reducible refine w_m1b ?_
  | with_reducible refine w_kget ?_
  | with_reducible refine w_nS ?_)

section
variable {P : Program} [IsP P] {w : World} {K : PySem.W.Frag} {mg : Str → Option Value} {base : Heap} {a : Ad}
/-! ## a policy deep within others -/
def sp__law_deep : Sp := fun vs H Q _ => ∃ (B : Hp) (R : List (Addr × HO)) (s c : Addr) (m : Int) (cells : List Int) (v : V) (t : Tr), vs = [.ref s, v] ∧ Hs B ((s, sto c m) :: (c, clo cells) :: R) H ∧ Good m cells ∧ TrAt B t v ∧ wf t true ∧ (showL t).length ≤ 4500 ∧ dep t ≤ 6 ∧
  ∀ B2 v t m' cells' H', Same B B2 → Hs B2 ((s, sto c m') :: (c, clo cells') :: R) H' → Good m' cells' → TrAt B2 t v → wf t true → (showL t).length ≤ 4600 → dep t ≤ 28 → Q v H'
theorem six_nums {j : Nat} (h : j < 6) : ∃ n : Nat, n ≤ 22 ∧ ([.int 0, .int 0, .int 3, .int 16, .int 19, .int 22] : List V)[j]? = some (.int (n : Int)) := by
  match j, h with
  | 0, _ => exact ⟨0, by decide, rfl⟩
  | 1, _ => exact ⟨0, by decide, rfl⟩
  | 2, _ => exact ⟨3, by decide, rfl⟩
  | 3, _ => exact ⟨16, by decide, rfl⟩
  | 4, _ => exact ⟨19, by decide, rfl⟩
  | 5, _ => exact ⟨22, by decide, rfl⟩
theorem ok__law_deep (T : Txt w K mg a) : FnOk P w K mg base CX0 2 a._law_deep a.fd__law_deep ["state", "policy"] sp__law_deep := by
  have G__law_draw := ok__law_draw (P := P) (w := w) (base := base) T
  refine T.fn__law_deep.ok sc__law_deep (fun vs H Q E h => ?_) (fun cdv A outer s H vs Q E hr h => ?_)
  · obtain ⟨_, _, _, _, _, _, _, _, rfl, _⟩ := h
    rfl
  · obtain ⟨B, R, st, c, m, cells, v, t, rfl, hs, g, hv, hw, hl, hd, k⟩ := h
    refine ⟨_, (pss_cons (ps_for PassesOwn.never rfl (pi_range1 rfl T.mg_range (pa_cons (pe_ix (ix_listK (K := K)) (pe_lst (pa_cons pe_int (pa_cons pe_int (pa_cons pe_int (pa_cons pe_int (pa_cons pe_int (pa_cons pe_int pa_nil))))))) (pe_call G__law_draw (hr.mono (by first | decide | omega)) rfl T.mg__law_draw T.kp__law_draw T.bi__law_draw .nil pass0 (pa_cons (pv 0) (pa_cons pe_int pa_nil))) (fun _ _ => rfl)) pa_nil)) (pg_name (i := 2) sc__law_deep.nd rfl (Or.inl rfl))
  (pss_one (ps_if (pt_cmpR op_eq (pe_call G__law_draw (hr.mono (by first | decide | omega)) rfl T.mg__law_draw T.kp__law_draw T.bi__law_draw .nil pass0 (pa_cons (pv 0) (pa_cons pe_int pa_nil))) pe_int (nomark _))
  (pss_one (ps_set (i := 1) sc__law_deep.nd rfl (Or.inl rfl) (pe_tup (pa_cons pe_str (pa_cons (pv 1) pa_nil)))))
  (pss_one (ps_set (i := 1) sc__law_deep.nd rfl (Or.inl rfl) (pe_tup (pa_cons (pe_ix (ix_listK (K := K)) (pe_lst (pa_cons pe_str (pa_cons pe_str pa_nil))) (pe_call G__law_draw (hr.mono (by first | decide | omega)) rfl T.mg__law_draw T.kp__law_draw T.bi__law_draw .nil pass0 (pa_cons (pv 0) (pa_cons pe_int pa_nil))) (fun _ _ => rfl)) (pa_cons (pe_lst (pa_cons (pv 1) pa_nil)) pa_nil))))))))
  (pss_one (ps_ret (pv 1)))), ?_⟩
    walk_at "ss"
    refine w_for1 ?_
    walk_at "ss"
    rename_i l1 H1 hs1
    obtain ⟨B1, sB1, hl1, hs2⟩ := frz_hs hs1
    clear hs hs1
    refine w_draw hs2 g (by decide) fun r m2 c2 H2 hs3 g2 _ hr2 => ?_
    obtain ⟨r0, r1⟩ := hr2 (by decide)
    obtain ⟨j, rfl⟩ : ∃ j : Nat, r = j := ⟨r.toNat, by omega⟩
    obtain ⟨n, hn, hj⟩ := six_nums (show j < 6 by omega)
    clear hs2
    refine w_ixL (SqL.of (hs3.same _ _ hl1)) (at_of rfl hj) ?_
    walk_at "ss"
    refine w_forR (n := (n : Int)) (by omega) (fun i σ' H' => ∃ (B2 : Hp) (m : Int) (cells : List Int) (v : V) (t : Tr) (v2 : Option V), σ' = [some (.ref st), some v, v2] ∧ Same B B2 ∧ Hs B2 ((st, sto c m) :: (c, clo cells) :: R) H' ∧ Good m cells ∧ TrAt B2 t v ∧ wf t true ∧ (showL t).length ≤ 4500 + 3 * i ∧ dep t ≤ 6 + i) (fun Q q => q) (by omega) ⟨B1, m2, c2, v, t, _, rfl, sB1, hs3, g2, hv.same sB1, hw, by omega, by omega⟩ ?_ ?_
    · clear hs3 hv hw hl hd
      rintro i σ' H3 hi ⟨B2, m, cells, v, t, v2, rfl, sB, hs, g, hv, hw, hl, hd⟩
      walk_at "ss"
      refine w_draw hs g (by decide) fun r m3 c3 H4 hs4 g3 _ _ => ?_
      clear hs
      walk_at "ss"
      refine ifd (fun hr0 => ?_) (fun hr0 => ?_)
      · walk_at "ss"
        rename_i t2 H5 hs5
        obtain ⟨B3, sB3, ht, hs6⟩ := frz_hs hs5
        refine ⟨B3, m3, c3, .ref t2, .st t, _, rfl, sB.trans sB3, hs6, g3, ⟨t2, v, rfl, ht, hv.same sB3⟩, ⟨rfl, hw⟩, ?_, ?_⟩
        · simp only [showL, List.length_cons]
          omega
        · simp only [dep]
          omega
      · walk_at "ss"
        rename_i l2 H5 hs5
        obtain ⟨B3, sB3, hl2, hs6⟩ := frz_hs hs5
        clear hs4 hs5
        refine w_draw hs6 g3 (by decide) fun r m4 c4 H6 hs7 g4 _ hr3 => ?_
        obtain ⟨q0, q1⟩ := hr3 (by decide)
        obtain ⟨j, rfl⟩ : ∃ j : Nat, r = j := ⟨r.toNat, by omega⟩
        obtain ⟨kk, hkk⟩ := two_names true (show j < 2 by omega)
        clear hs6
        refine w_ixL (SqL.of (hs7.same _ _ hl2)) (at_of rfl hkk) ?_
        walk_at "ss"
        rename_i l3 H7 hs8 t2 H8 hs9
        obtain ⟨B4, sB4, h4, g5, g6⟩ := fin2 hs9
        refine ⟨B4, m4, c4, .ref t2, .rw true kk [t], _, rfl, sB.trans (sB3.trans sB4), h4, g4, ⟨t2, l3, [v], rfl, g5, g6, v, [], rfl, (hv.same sB3).same sB4, rfl⟩, ⟨rfl, hw, trivial⟩, ?_, ?_⟩
        · rw [row_len]
          show (showL t).length + 3 ≤ _
          omega
        · simp only [dep, deps]
          omega
    · clear hs3
      rintro σ' H3 ⟨B2, m, cells, v, t, v2, rfl, sB, hs, g, hv, hw, hl, hd⟩
      have hn2 : ((n : Int)).toNat = n := by omega
      rw [hn2] at hl hd
      walk_at "ss"
      exact k B2 v t m cells H3 sB hs g hv hw (by omega) (by omega)
end
local macro_rules | `(tactic| walk_at "v") => `(tactic| first | exact v0 | exact v1 | exact v2 | exact v3 | exact v4 | exact v5 | exact v6 | exact v7 | exact v8)
local macro_rules | `(tactic| walk_at "vs") => `(tactic| first | exact st0 | exact st1 | exact st2 | exact st3 | exact st4 | exact st5 | exact st6 | exact st7 | exact st8)
local macro_rules | `(tactic| walk_at "s") => `(tactic| first
  | with_reducible refine w_dget ?_
  | ((with_reducible refine' w_dgetZ ?h ?nd ?hk ?hv ?_); (case h => walk_at "g"); (case nd => walk_at "nd"); (case hk => walk_at "k"); (case hv => walk_at "v"))
  | ((with_reducible refine' w_dputZ ?hs ?h ?nd ?hk ?hv ?hu ?hl ?_); (case hs => assumption); (case h => walk_at "p"); (case nd => walk_at "nd"); (case hk => walk_at "k"); (case hv => walk_at "v"); (case hu => walk_at "vs"); (case hl => decide); intro _ _)
  | with_reducible refine w_gsub ?_
  | with_reducible refine w_setD ?_
  | with_reducible refine w_disp ?_
  | ((with_reducible refine' w_newP ?hs ?_); (case hs => assumption); intro _ _ _)
  | with_reducible refine w_pcons ?_
  | with_reducible refine w_pnil ?_)

local macro_rules | `(tactic| walk_at "s") => `(tactic| first
  | with_reducible refine w_nget ?_
  | with_reducible refine w_nin ?_
  | with_reducible refine w_nnot ?_
  | with_reducible refine w_nput ?_
  | with_reducible refine w_ndel ?_
  | with_reducible refine w_npop ?_
  | ((with_reducible refine' w_nnew ?hs ?_); (case hs => assumption); intro _ _ _))

local macro_rules | `(tactic| walk_at "s") => `(tactic| first
  | with_reducible refine w_m0 ?_
  | with_reducible refine w_m1 ?_
  | with_reducible refine w_m0b ?_
  | with_reducible refine w_m1b ?_
  | with_reducible refine w_kget ?_
  | with_reducible refine w_nS ?_)

section
variable {P : Program} [IsP P] {w : World} {K : PySem.W.Frag} {mg : Str → Option Value} {base : Heap} {a : Ad}
/-! ## repr of deeper data -/
open PySem.Spec PyProof.Rows in
def rReprE (K : PySem.W.Frag) : List V → Hp → VK → Prop := fun xs H Q => ∃ (p : Addr) (d : PyData) (b : Nat), xs = [.ref p] ∧ Dp K H (.ref p) d ∧ Sh 62 b d ∧ b ≤ 2 ^ 20 ∧ Q (.str d.shown) H
open PySem.Spec PyProof.Rows in
theorem call_reprE {X : Cx} (hg : X.A.guards = some []) (hu : X.A.units + 64 < cLine) : CallR X (.builtin "repr") (rReprE X.K) := by
  rintro pins s σ H xs us Q I r ⟨p, d, b, rfl, hd, hs, hb, q⟩
  rw [Vals.ref1 r]
  obtain ⟨as, rd⟩ := Dp.reads I d (.ref p) (.ref p) hd rfl
  have hdep := hs.dep
  refine repr_of_reads' rd hs.sho (PyData.noDict_hsm (PyData.hasDict_of_canLay d hs.lay)) hg (by omega) (fun _ _ e => e) (fun h' u tk hk => ?_) (PyData.shown_fits_bulk (B := 13) (by decide) (by decide) hs.lvs (Nat.le_trans hs.blk hb))
  exact ⟨.str d.shown, H, I.kept (t' := tk) hk, ⟨_, rfl⟩, q⟩
theorem call_reprEK {X : Cx} {K : PySem.W.Frag} (hg : X.A.guards = some [] := by rfl) (hu : X.A.units + 64 < cLine := by assumption) (hK : X.K = K := by rfl) : CallR X (.builtin "repr") (rReprE K) := by
  subst hK
  exact call_reprE hg hu
theorem w_reprT {H : Hp} {Q : VK} {v : V} {t : Tr} (h : TrAt H t v) (hw : wf t true) (hd : dep t ≤ 30) (hl : (showL t).length ≤ 20000) (q : Q (.str (trD t).shown) H) : rReprE K [v] H Q := by
  have hv : ∃ p, v = .ref p := by
    cases t with
    | lf _ _ _ => obtain ⟨p, e, _⟩ := h; exact ⟨p, e⟩
    | no _ => obtain ⟨p, _, e, _⟩ := h; exact ⟨p, e⟩
    | te _ => obtain ⟨p, _, e, _⟩ := h; exact ⟨p, e⟩
    | st _ => obtain ⟨p, _, e, _⟩ := h; exact ⟨p, e⟩
    | rw _ _ _ => obtain ⟨p, _, _, e, _⟩ := h; exact ⟨p, e⟩
  obtain ⟨p, rfl⟩ := hv
  exact ⟨p, trD t, _, rfl, h.dp, (sh_tr hw).mono (by omega) (Nat.le_refl _), by omega, q⟩
/-! ## what is told, as data -/
def resD : Res Tr → PyData
  | .ok t _ => trD t
  | .bad l => .int (l : Int)
theorem TdAt.dp {H : Hp} {v : V} {res : Res Tr} (h : TdAt H v res) : Dp K H v (resD res) := by
  cases res with
  | ok t l => exact TrAt.dp h
  | bad l =>
    have h : v = .int (l : Int) := h
    subst h
    exact .int _
theorem TdAt.same {H H' : Hp} (e : Same H H') {v : V} {res : Res Tr} (h : TdAt H v res) : TdAt H' v res := by
  cases res with
  | ok t l => exact TrAt.same e h
  | bad l => exact h
theorem shp_top (x : List Nat) : SeqAt.shaped (resD (rTop x)) = true := by
  cases h : rTop x with
  | bad l => exact shp_int _
  | ok t l =>
    obtain ⟨_, h2, h3⟩ := top_good h
    exact shp_tr h2 (by omega)
theorem w_isInt {H : Hp} {Q : VK} {n : Int} (k : Q (.bl true) H) : rIsi K [.int n, .ty "int"] H Q :=
  ⟨_, _, _, _, true, rfl, .ty "int", .base (.int _), kit_ty (by decide +kernel), k⟩
theorem w_isIntT {H : Hp} {Q : VK} {n : Int} (k : Q (.bl false) H) : rIsi K [.int n, .ty "tuple"] H Q :=
  ⟨_, _, _, _, false, rfl, .ty "tuple", .base (.int _), kit_ty (by decide +kernel), k⟩
theorem w_neAny {H : Hp} {Q : VK} {u v : V} {d e : PyData} (h1 : Dp K H u d) (h2 : Dp K H v e) (s1 : SeqAt.shaped d = true) (s2 : SeqAt.shaped e = true) (q : ∀ b, Q (.bl b) H) : rNeD K u v H Q := ⟨d, e, h1, h2, s1, s2, q _⟩
theorem tr_tup {H : Hp} {v : V} {t : Tr} (h : TrAt H t v) : ∃ p xs, v = .ref p ∧ H p = some (.tup xs) := by
  cases t with
  | lf _ _ _ => obtain ⟨p, e, h⟩ := h; exact ⟨p, _, e, h⟩
  | no _ => obtain ⟨p, _, e, h, _⟩ := h; exact ⟨p, _, e, h⟩
  | te _ => obtain ⟨p, _, e, h, _⟩ := h; exact ⟨p, _, e, h⟩
  | st _ => obtain ⟨p, _, e, h, _⟩ := h; exact ⟨p, _, e, h⟩
  | rw _ _ _ => obtain ⟨p, _, _, e, h, _⟩ := h; exact ⟨p, _, e, h⟩
section
variable {B H : Hp} {R : List (Addr × HO)} {x : Str} {Q : VK} {E : XK}
theorem w_told (hs : Hs B R H) (hx : x.length ≤ 20000) (q : ∀ B2 v H', Same B B2 → Hs B2 R H' → TdAt B2 v (rTop (tl x)) → Q v H') : sp__law_told [.str x] H Q E := ⟨B, R, x, rfl, hs, hx, q⟩
theorem w_due (hs : Hs B R H) (hR : R.all (fun e => noTup e.2) = true) (hx : x.length ≤ 20000) (q : ∀ B2 v H', Same B B2 → Hs B2 R H' → TdAt B2 v (rTop (tl x)) → Q v H') : sp__law_due [.str x] H Q E := ⟨B, R, x, rfl, hs, hR, hx, q⟩
theorem w_show {p : Bool} {t : Tr} {v : V} (h : TrAt H t v) (hw : wf t p) (hd : dep t < 30) (hl : (showL t).length ≤ 20000) (q : ∀ H', Same H H' → Q (.str (showS t)) H') : sp_show p 30 [v] H Q E := ⟨t, v, rfl, h, hw, hd, hl, q⟩
end
def sp_law (K : PySem.W.Frag) : Sp := fun vs H Q _ => ∃ (x : Addr) (ns : List Int), vs = [.ref x] ∧ SqL K H x (ns.map V.int) ∧ ns.length ≤ 63 ∧ ∀ H', Q (.bl true) H'
theorem ok_law (T : Txt w K mg a) : LawRun P w K mg base 150 a.law a.fd_law ["script"] (sp_law K) := by
  have G__law_state := ok__law_state (P := P) (w := w) (base := base) T
  have G__law_draw := ok__law_draw (P := P) (w := w) (base := base) T
  have G__law_policy := ok__law_policy (P := P) (w := w) (base := base) T 4
  have G__law_test := ok__law_test (P := P) (w := w) (base := base) T 3
  have G__law_deep := ok__law_deep (P := P) (w := w) (base := base) T
  have G__law_show := ok__law_show (P := P) (w := w) (base := base) T 30
  have G_show_policy := ok_show_policy (P := P) (w := w) (base := base) T 30
  have G__law_show_test := ok__law_show_test (P := P) (w := w) (base := base) T 30
  have G_show_test := ok_show_test (P := P) (w := w) (base := base) T 30
  have G__law_told := ok__law_told (P := P) (w := w) (base := base) T
  have G__law_due := ok__law_due (P := P) (w := w) (base := base) T
  refine law_run (k := 149) T.fn_law sc_law (fun vs H Q E h => ?_) (fun cdv s H vs Q E hr h => ?_)
  · obtain ⟨_, _, rfl, _⟩ := h
    rfl
  · obtain ⟨x, ns, rfl, hx, hl, k⟩ := h
    have hu := hu_of hr
    refine ⟨_, (pss_cons (ps_set (i := 1) sc_law.nd rfl (Or.inl rfl) (pe_call G__law_state (hr.mono (by first | decide | omega)) rfl T.mg__law_state T.kp__law_state T.bi__law_state .nil pass0 (pa_cons (pv 0) pa_nil)))
  (pss_cons (ps_set (i := 2) sc_law.nd rfl (Or.inl rfl) (pe_call G__law_deep (hr.mono (by first | decide | omega)) rfl T.mg__law_deep T.kp__law_deep T.bi__law_deep .nil pass0 (pa_cons (pv 1) (pa_cons (pe_call G__law_policy (hr.mono (by first | decide | omega)) rfl T.mg__law_policy T.kp__law_policy T.bi__law_policy .nil pass0 (pa_cons (pv 1) (pa_cons pe_int (pa_cons (pe_lst (pa_cons pe_str (pa_cons pe_str (pa_cons pe_str (pa_cons pe_str (pa_cons pe_str pa_nil)))))) pa_nil)))) pa_nil))))
  (C8.pss_cut (ps_if (pt_cmpR op_eq (pe_call G__law_draw (hr.mono (by first | decide | omega)) rfl T.mg__law_draw T.kp__law_draw T.bi__law_draw .nil pass0 (pa_cons (pv 1) (pa_cons pe_int pa_nil))) pe_int (nomark _))
  (pss_one (ps_set (i := 2) sc_law.nd rfl (Or.inl rfl) (pe_tup (pa_cons pe_str (pa_cons (pe_lst (pa_cons (pe_tup (pa_cons pe_str (pa_cons pe_str (pa_cons pe_int pa_nil)))) (pa_cons (pe_tup (pa_cons pe_str (pa_cons (pe_tup (pa_cons pe_str (pa_cons pe_str (pa_cons pe_int pa_nil)))) pa_nil))) (pa_cons (pv 2) pa_nil)))) pa_nil)))))
  pss_nil)
  (pss_cons (ps_set (i := 3) sc_law.nd rfl (Or.inl rfl) (pe_callB (call_reprEK (K := K) rfl hr.units) (by rfl) T.mg_repr (by decide +kernel) (pa_cons (pv 2) pa_nil)))
  (pss_cons (ps_set (i := 4) sc_law.nd rfl (Or.inl rfl) (pe_call G__law_show (hr.mono (by first | decide | omega)) rfl T.mg__law_show T.kp__law_show T.bi__law_show .nil pass0 (pa_cons (pv 2) pa_nil)))
  (pss_cons (ps_if (PW.pt (pw_or (pt_cmpR op_ne (pe_call G_show_policy (hr.mono (by first | decide | omega)) rfl T.mg_show_policy T.kp_show_policy T.bi_show_policy .nil pass0 (pa_cons (pv 2) pa_nil)) (pv 4) (nomark _)) (pw_or (pt_cmpR (op_neDK (K := K) hr.units) (pe_call G__law_told (hr.mono (by first | decide | omega)) rfl T.mg__law_told T.kp__law_told T.bi__law_told .nil pass0 (pa_cons (pv 4) pa_nil)) (pe_call G__law_due (hr.mono (by first | decide | omega)) rfl T.mg__law_due T.kp__law_due T.bi__law_due .nil pass0 (pa_cons (pv 4) pa_nil)) (nomark _)) (pw_or1 (pt_cmpR op_ne (pe_callB (call_reprEK (K := K) rfl hr.units) (by rfl) T.mg_repr (by decide +kernel) (pa_cons (pv 2) pa_nil)) (pv 3) (nomark _))))))
  (pss_one (ps_ret pe_bl))
  pss_nil)
  (C8.pss_cut (ps_if (PW.pt (pw_and (pt_cmpR (op_neDK (K := K) hr.units) (pe_call G__law_due (hr.mono (by first | decide | omega)) rfl T.mg__law_due T.kp__law_due T.bi__law_due .nil pass0 (pa_cons (pv 4) pa_nil)) (pv 2) (nomark _)) (pw_and1 (pt_not (pt_val (pe_callB (call_isiK (K := K)) (by rfl) T.mg_isinstance (by decide +kernel) (pa_cons (pe_call G__law_due (hr.mono (by first | decide | omega)) rfl T.mg__law_due T.kp__law_due T.bi__law_due .nil pass0 (pa_cons (pv 4) pa_nil)) (pa_cons (pe_bltn (v := .ty "int") (by rfl) T.mg_int (by decide +kernel) rfl) pa_nil))))))))
  (pss_one (ps_ret pe_bl))
  pss_nil)
  (pss_cons (ps_set (i := 5) sc_law.nd rfl (Or.inl rfl) (pe_call G__law_test (hr.mono (by first | decide | omega)) rfl T.mg__law_test T.kp__law_test T.bi__law_test .nil pass0 (pa_cons (pv 1) (pa_cons pe_int pa_nil))))
  (pss_cons (ps_if (pt_cmpR op_ne (pe_call G_show_test (hr.mono (by first | decide | omega)) rfl T.mg_show_test T.kp_show_test T.bi_show_test .nil pass0 (pa_cons (pv 5) pa_nil)) (pe_call G__law_show_test (hr.mono (by first | decide | omega)) rfl T.mg__law_show_test T.kp__law_show_test T.bi__law_show_test .nil pass0 (pa_cons (pv 5) pa_nil)) (nomark _))
  (pss_one (ps_ret pe_bl))
  pss_nil)
  (pss_cons (ps_for PassesOwn.never rfl (pi_range1 rfl T.mg_range (pa_cons pe_int pa_nil)) (pg_name (i := 6) sc_law.nd rfl (Or.inl rfl))
  (pss_cons (ps_set (i := 7) sc_law.nd rfl (Or.inl rfl) (pe_call G__law_draw (hr.mono (by first | decide | omega)) rfl T.mg__law_draw T.kp__law_draw T.bi__law_draw .nil pass0 (pa_cons (pv 1) (pa_cons (pe_op op_add (pe_callB call_len_str (by rfl) T.mg_len PySem.boot_len (pa_cons (pv 4) pa_nil)) pe_int) pa_nil))))
  (pss_cons (ps_set (i := 8) sc_law.nd rfl (Or.inl rfl) pe_str)
  (pss_cons (ps_set (i := 9) sc_law.nd rfl (Or.inl rfl) (pe_ix ix_str (pv 8) (pe_call G__law_draw (hr.mono (by first | decide | omega)) rfl T.mg__law_draw T.kp__law_draw T.bi__law_draw .nil pass0 (pa_cons (pv 1) (pa_cons (pe_callB call_len_str (by rfl) T.mg_len PySem.boot_len (pa_cons (pv 8) pa_nil)) pa_nil))) (fun _ _ => rfl)))
  (pss_cons (ps_set (i := 10) sc_law.nd rfl (Or.inl rfl) (pe_lst (pa_cons (pe_op op_addS (pe_op op_addS (pe_slice sl_str (pv 4) po_none (po_some (pv 7))) (pv 9)) (pe_slice sl_str (pv 4) (po_some (pv 7)) po_none)) (pa_cons (pe_op op_addS (pe_slice sl_str (pv 4) po_none (po_some (pv 7))) (pe_slice sl_str (pv 4) (po_some (pe_op op_add (pv 7) pe_int)) po_none)) (pa_cons (pe_op op_addS (pe_op op_addS (pe_slice sl_str (pv 4) po_none (po_some (pv 7))) (pv 9)) (pe_slice sl_str (pv 4) (po_some (pe_op op_add (pv 7) pe_int)) po_none)) (pa_cons (pe_slice sl_str (pv 4) po_none (po_some (pv 7))) pa_nil))))))
  (pss_cons (ps_set (i := 11) sc_law.nd rfl (Or.inl rfl) (pe_ix (ix_listK (K := K)) (pv 10) (pe_call G__law_draw (hr.mono (by first | decide | omega)) rfl T.mg__law_draw T.kp__law_draw T.bi__law_draw .nil pass0 (pa_cons (pv 1) (pa_cons pe_int pa_nil))) (fun _ _ => rfl)))
  (pss_cons (ps_set (i := 12) sc_law.nd rfl (Or.inl rfl) (pe_call G__law_told (hr.mono (by first | decide | omega)) rfl T.mg__law_told T.kp__law_told T.bi__law_told .nil pass0 (pa_cons (pv 11) pa_nil)))
  (pss_cons (ps_if (pt_cmpR (op_neDK (K := K) hr.units) (pv 12) (pe_call G__law_due (hr.mono (by first | decide | omega)) rfl T.mg__law_due T.kp__law_due T.bi__law_due .nil pass0 (pa_cons (pv 11) pa_nil)) (nomark _))
  (pss_one (ps_ret pe_bl))
  pss_nil)
  (pss_one (ps_if (PW.pt (pw_and (pt_val (pe_callB (call_isiK (K := K)) (by rfl) T.mg_isinstance (by decide +kernel) (pa_cons (pv 12) (pa_cons (pe_bltn (v := .ty "tuple") (by rfl) T.mg_tuple (by decide +kernel) rfl) pa_nil)))) (pw_and1 (pt_cmpR op_ne (pe_call G__law_show (hr.mono (by first | decide | omega)) rfl T.mg__law_show T.kp__law_show T.bi__law_show .nil pass0 (pa_cons (pv 12) pa_nil)) (pv 11) (nomark _)))))
  (pss_one (ps_ret pe_bl))
  pss_nil))))))))))
  (pss_one (ps_ret pe_bl)))))))))))), ?_⟩
    walk_at "ss"
    refine ⟨x, ns, rfl, hx, by omega, fun st c m cells H1 hs1 g => ?_⟩
    walk_at "ss"
    rename_i lf H2 hs2
    obtain ⟨B2, sB2, hlf, hs3⟩ := frz_hs hs2
    clear hs1 hs2
    refine ⟨B2, [], st, c, lf, m, cells, rfl, hs3, g, hlf, fun B3 v t m3 c3 H3 sB3 hs4 g3 hv hw hl hd => ?_⟩
    clear hs3
    refine ⟨B3, [], st, c, m3, c3, v, t, rfl, hs4, g3, hv, hw, Nat.le_trans hl (by decide), hd, fun B4 v t m4 c4 H4 sB4 hs5 g4 hv hw hl hd => ?_⟩
    clear hs4 g3 g
    walk_at "ss"
    refine w_cut (fun σ' H' => ∃ (B : Hp) (m : Int) (cells : List Int) (v : V) (t : Tr), σ' = [some (.ref x), some (.ref st), some v, none, none, none, none, none, none, none, none, none, none] ∧ Hs B [(st, sto c m), (c, clo cells)] H' ∧ Good m cells ∧ TrAt B t v ∧ wf t true ∧ (showL t).length ≤ 4700 ∧ dep t ≤ 29) ?_ ?_
    · walk_at "ss"
      refine w_draw hs5 g4 (by decide) fun r m5 c5 H5 hs6 g5 _ _ => ?_
      clear hs5
      walk_at "ss"
      refine ifd (fun hr0 => ?_) (fun hr0 => ?_)
      · walk_at "ss"
        rename_i t1 F1 f1 t3 F2 f2 t2 F3 f3 l4 F4 f4 t5 F5 f5
        clear hs6 f1 f2 f3 f4
        obtain ⟨C1, s1, h1, q5, q4⟩ := fin2 f5
        obtain ⟨C2, s2, h2, q2, q3⟩ := fin2 h1
        obtain ⟨C3, s3, q1, h3⟩ := frz_hs h2
        have q5 := s3 _ _ (s2 _ _ q5)
        have q4 := s3 _ _ (s2 _ _ q4)
        have q2 := s3 _ _ q2
        have q3 := s3 _ _ q3
        have hv3 := ((hv.same s1).same s2).same s3
        refine ⟨C3, m5, c5, .ref t5, .rw true true [.lf true 1 99, .te (.lf false 0 0), t], rfl, h3, g5, ⟨t5, l4, _, rfl, q5, q4, _, _, rfl, ⟨t1, rfl, q1⟩, _, _, rfl, ⟨t2, _, rfl, q2, t3, rfl, q3⟩, _, _, rfl, hv3, rfl⟩, ⟨rfl, ⟨rfl, by decide, by decide, by decide⟩, ⟨rfl, rfl, by decide, by decide, by decide⟩, hw, trivial⟩, ?_, ?_⟩
        · rw [row_len]
          have z1 : (showL (.lf true 1 99)).length = 10 := by decide +kernel
          have z2 : (showL (.te (.lf false 0 0))).length = 12 := by decide +kernel
          show (showL (.lf true 1 99) ++ ([44, 32] ++ (showL (.te (.lf false 0 0)) ++ ([44, 32] ++ showL t)))).length + 3 ≤ 4700
          simp only [List.length_append, z1, z2]
          show 10 + (2 + (12 + (2 + (showL t).length))) + 3 ≤ 4700
          omega
        · simp only [dep, deps]
          omega
      · walk_at "ss"
        exact ⟨B4, m5, c5, v, t, rfl, hs6, g5, hv, hw, by omega, by omega⟩
    · clear hs5 g4 hv hw hl hd
      rintro σ' H5 ⟨B, m, cells, v, t, rfl, hs, g, hv, hw, hl, hd⟩
      have hR : ([(st, sto c m), (c, clo cells)] : List (Addr × HO)).all (fun e => noTup e.2) = true := rfl
      walk_at "ss"
      refine w_reprT (hv.same hs.same) hw (by omega) (by omega) ?_
      walk_at "ss"
      refine w_show (hv.same hs.same) hw (by omega) (by omega) fun H6 s6 => ?_
      replace hs := hs.keep s6
      clear s6
      have hx1 : (showS t).length ≤ 4700 := by rw [len_showS]; exact hl
      walk_at "ss"
      refine w_show (hv.same hs.same) hw (by omega) (by omega) fun H7 s7 => ?_
      replace hs := hs.keep s7
      clear s7
      walk_at "ss"
      refine w_ne rfl ?_
      rw [decide_eq_true rfl]
      refine ⟨_, rfl, iteF ?_⟩
      walk_at "ss"
      refine w_told hs (by omega) fun B1 u1 H8 s8 hs8 hu1 => ?_
      walk_at "ss"
      refine w_due hs8 hR (by omega) fun B2 u2 H9 s9 hs9 hu2 => ?_
      refine w_neRefl ((hu1.same s9).same hs9.same).dp (hu2.same hs9.same).dp (shp_top _) ?_
      refine ⟨_, rfl, iteF ?_⟩
      clear hs hs8
      replace hv := (hv.same s8).same s9
      clear hu1 hu2 s8 s9
      clear B1
      walk_at "ss"
      refine w_reprT (hv.same hs9.same) hw (by omega) (by omega) ?_
      walk_at "ss"
      refine w_ne rfl ?_
      rw [decide_eq_true rfl]
      refine ⟨_, rfl, iteF ?_⟩
      walk_at "ss"
      have shv : SeqAt.shaped (trD t) = true := shp_tr hw (by omega)
      refine w_cut (fun σ' H' => σ' = [some (.ref x), some (.ref st), some v, some (.str (trD t).shown), some (.str (showS t)), none, none, none, none, none, none, none, none] ∧ ∃ B, Hs B [(st, sto c m), (c, clo cells)] H') ?_ ?_
      · walk_at "ss"
        refine w_due hs9 hR (by omega) fun B3 u3 H10 s10 hs10 hu3 => ?_
        clear hs9
        replace hv := hv.same s10
        clear s10
        walk_at "ss"
        have hc := top_comp hw
        rw [tl_showS] at hu3
        rcases hc with ⟨b, hb⟩ | hb
        · rw [hb] at hu3
          have hu3 : u3 = .int (b : Int) := hu3
          subst hu3
          refine w_neAny (d := .int (b : Int)) (.int _) (hv.same hs10.same).dp (shp_int _) shv fun r => ?_
          refine ⟨_, rfl, ?_⟩
          cases r with
          | false =>
            refine iteF (iteF ?_)
            walk_at "ss"
            exact ⟨rfl, _, hs10⟩
          | true =>
            refine iteT ?_
            walk_at "ss"
            refine w_due hs10 hR (by omega) fun B4 u4 H11 s11 hs11 hu4 => ?_
            rw [tl_showS, hb] at hu4
            have hu4 : u4 = .int (b : Int) := hu4
            subst hu4
            clear hs10
            walk_at "ss"
            refine w_isInt ?_
            refine ⟨_, rfl, iteF ?_⟩
            walk_at "ss"
            exact ⟨rfl, _, hs11⟩
        · rw [hb] at hu3
          have hu3 : TrAt B3 t u3 := hu3
          refine w_neRefl (hu3.same hs10.same).dp (hv.same hs10.same).dp shv ?_
          refine ⟨_, rfl, iteF (iteF ?_)⟩
          walk_at "ss"
          exact ⟨rfl, _, hs10⟩
      · clear hs9 hv
        rintro σ' H10 ⟨rfl, B, hs⟩
        walk_at "ss"
        refine ⟨B, [], st, c, m, cells, rfl, hs, g, fun B3 v3 t3 m3 c3 H3 s3 hs3 g3 hv3 hw3 hl3 hd3 => ?_⟩
        clear hs
        have hl3 : (showL t3).length ≤ 441 := hl3
        walk_at "ss"
        refine w_show (hv3.same hs3.same) hw3 (by omega) (by omega) fun H4 s4 => ?_
        replace hs3 := hs3.keep s4
        clear s4
        walk_at "ss"
        refine w_show (hv3.same hs3.same) hw3 (by omega) (by omega) fun H5 s5 => ?_
        replace hs3 := hs3.keep s5
        clear s5
        refine w_ne rfl ?_
        rw [decide_eq_true rfl]
        refine ⟨_, rfl, iteF ?_⟩
        walk_at "ss"
        refine w_for1 ?_
        walk_at "ss"
        refine w_forR (n := 6) (by decide) (fun i σ' H' => ∃ (B : Hp) (m : Int) (cells : List Int) (v6 v7 v8 v9 v10 v11 v12 : Option V), σ' = [some (.ref x), some (.ref st), some v, some (.str (trD t).shown), some (.str (showS t)), some v3, v6, v7, v8, v9, v10, v11, v12] ∧ Hs B [(st, sto c m), (c, clo cells)] H' ∧ Good m cells) (fun Q q => q) (by decide) ⟨B3, m3, c3, _, _, _, _, _, _, _, rfl, hs3, g3⟩ ?_ ?_
        · clear hs3 g3
          rintro i σ' H6 hi ⟨B, m, cells, v6, v7, v8, v9, v10, v11, v12, rfl, hs, g⟩
          walk_at "ss"
          refine ⟨_, rfl, sz (by omega), ?_⟩
          walk_at "ss"
          refine w_draw hs g (by omega) fun r m2 c2 H7 hs2 g2 _ hr2 => ?_
          obtain ⟨r0, r1⟩ := hr2 (by omega)
          obtain ⟨j, rfl⟩ : ∃ j : Nat, r = j := ⟨r.toNat, by omega⟩
          clear hs g
          have hsl : (" !&|+;*()[],:=0127adhikprstwxz" : Str).length ≤ 100 ∧ 1 ≤ (" !&|+;*()[],:=0127adhikprstwxz" : Str).length := by decide +kernel
          walk_at "ss"
          generalize (" !&|+;*()[],:=0127adhikprstwxz" : Str) = sg at hsl ⊢
          have hgl := len_tl sg
          refine ⟨_, rfl, sz (by omega), ?_⟩
          walk_at "ss"
          refine w_draw hs2 g2 (by omega) fun r m3 c3 H8 hs3 g3 _ hr3 => ?_
          obtain ⟨q0, q1⟩ := hr3 (by omega)
          obtain ⟨n, rfl⟩ : ∃ n : Nat, r = n := ⟨r.toNat, by omega⟩
          obtain ⟨ch, hch⟩ : ∃ ch, (tl sg)[n]? = some ch := ⟨_, List.getElem?_eq_getElem (by omega)⟩
          clear hs2 g2
          refine w_ixS (by omega) rfl hch ?_
          walk_at "ss"
          have hc1 : (⟨#[ch]⟩ : Str).length = 1 := rfl
          generalize (⟨#[ch]⟩ : Str) = sn at hc1 ⊢
          have cl := fun lo hi => cutS_length (showS t) lo hi
          have c0 := cl none (some (j : Int))
          have c1 := cl (some (j : Int)) none
          have c2 := cl (some ((j : Int) + 1)) none
          refine w_slS (by omega) ?_
          walk_at "ss"
          refine w_addS (sz (by omega)) ?_
          walk_at "ss"
          refine w_slS (by omega) ?_
          refine w_addS (sz (by rw [Str.length_append]; omega)) ?_
          walk_at "ss"
          refine w_slS (by omega) ?_
          walk_at "ss"
          refine w_slS (by omega) ?_
          refine w_addS (sz (by omega)) ?_
          walk_at "ss"
          refine w_slS (by omega) ?_
          walk_at "ss"
          refine w_addS (sz (by omega)) ?_
          walk_at "ss"
          refine w_slS (by omega) ?_
          refine w_addS (sz (by rw [Str.length_append]; omega)) ?_
          walk_at "ss"
          refine w_slS (by omega) ?_
          walk_at "ss"
          rename_i lr H9 hs4
          obtain ⟨B4, s4, hlr, hs5⟩ := frz_hs hs4
          clear hs3 hs4
          refine w_draw hs5 g3 (by decide) fun r m4 c4 H10 hs6 g4 _ hr4 => ?_
          obtain ⟨p0, p1⟩ := hr4 (by decide)
          obtain ⟨e, rfl⟩ : ∃ e : Nat, r = e := ⟨r.toNat, by omega⟩
          clear hs5 g3
          obtain ⟨ct, hct, hcl⟩ : ∃ ct : Str, ([V.str (cutS (showS t) none (some (j : Int)) ++ sn ++ cutS (showS t) (some (j : Int)) none), V.str (cutS (showS t) none (some (j : Int)) ++ cutS (showS t) (some ((j : Int) + 1)) none), V.str (cutS (showS t) none (some (j : Int)) ++ sn ++ cutS (showS t) (some ((j : Int) + 1)) none), V.str (cutS (showS t) none (some (j : Int)))] : List V)[e]? = some (.str ct) ∧ ct.length ≤ 19000 := by
            match e, (show e < 4 by omega) with
            | 0, _ => exact ⟨_, rfl, by rw [Str.length_append, Str.length_append]; omega⟩
            | 1, _ => exact ⟨_, rfl, by rw [Str.length_append]; omega⟩
            | 2, _ => exact ⟨_, rfl, by rw [Str.length_append, Str.length_append]; omega⟩
            | 3, _ => exact ⟨_, rfl, by omega⟩
          refine w_ixL (SqL.of (hs6.same _ _ hlr)) (at_of rfl hct) ?_
          clear hct hlr
          have hR2 : ([(st, sto c m4), (c, clo c4)] : List (Addr × HO)).all (fun e => noTup e.2) = true := rfl
          walk_at "ss"
          refine w_told hs6 (by omega) fun B5 u5 H11 s5 hs7 hu5 => ?_
          clear hs6
          walk_at "ss"
          refine w_due hs7 hR2 (by omega) fun B6 u6 H12 s6 hs8 hu6 => ?_
          replace hu5 := hu5.same s6
          clear hs7
          refine w_neRefl (hu5.same hs8.same).dp (hu6.same hs8.same).dp (shp_top _) ?_
          refine ⟨_, rfl, iteF ?_⟩
          walk_at "ss"
          cases htop : rTop (tl ct) with
          | bad b =>
            rw [htop] at hu5
            have hu5 : u5 = .int (b : Int) := hu5
            subst hu5
            refine w_isIntT ?_
            refine ⟨_, rfl, iteF (iteF ?_)⟩
            walk_at "ss"
            exact ⟨B6, m4, c4, _, _, _, _, _, _, _, rfl, hs8, g4⟩
          | ok t2 b =>
            rw [htop] at hu5
            have hu5 : TrAt B6 t2 u5 := hu5
            obtain ⟨y1, y2, y3⟩ := top_good htop
            obtain ⟨p, xs, rfl, hp⟩ := tr_tup hu5
            have hl2 : (showL t2).length ≤ 19000 := by
              rw [y1, ← len_tl ct]
              exact hcl
            refine w_isTu (hs8.same _ _ hp) ?_
            refine ⟨_, rfl, iteT ?_⟩
            walk_at "ss"
            refine w_show (hu5.same hs8.same) y2 (by omega) (by omega) fun H13 s13 => ?_
            replace hs8 := hs8.keep s13
            clear s13
            walk_at "ss"
            refine w_ne rfl ?_
            rw [decide_eq_true (congrArg V.str (show showS t2 = ct from ext_tl (by rw [tl_showS, y1])))]
            refine ⟨_, rfl, iteF ?_⟩
            walk_at "ss"
            exact ⟨B6, m4, c4, _, _, _, _, _, _, _, rfl, hs8, g4⟩
        · clear hs3 g3
          rintro σ' H6 ⟨B, m, cells, v6, v7, v8, v9, v10, v11, v12, rfl, hs, g⟩
          walk_at "ss"
          exact k H6
end
theorem all_mk {l : PySem.W.OpenLaw} {w : World} {K : PySem.W.Frag} {h : Heap} {mg : Str → Option Value} {fa : Addr} (hl : l.prog = PySem.Challenge.pw_hangbridge_k44_texts_of_policies) (X : K.In h) (G : h.Ns mainGlobals mg) (hfa : mg "law" = some (.ref fa))
    {A_BridgeError A_MisreadError A_Reader A_MisreadError_init cc_MisreadError_init ca_MisreadError_init A_number_of A_in_brackets A_show_test A_show_policy A_Reader_init A_Reader_skip A_Reader_expect A_Reader_field A_Reader_number A_Reader_end A_read_leaf A_read_parts A_check_depth A_read_test A_read_part A_read_policy A__law_state A__law_draw A__law_test A__law_policy A__law_show_test A__law_show A__law_number A__law_named A__law_test_at A__law_policy_at A__law_row A__law_due A__law_told A__law_deep A_law A_FIELD_PLACES A_TEST_SIGNS A_POLICY_SIGNS : Addr} {od_MisreadError_init an_MisreadError_init cod_MisreadError_init cod2_MisreadError_init od_number_of an_number_of od_in_brackets an_in_brackets od_show_test an_show_test od_show_policy an_show_policy od_Reader_init an_Reader_init od_Reader_skip an_Reader_skip od_Reader_expect an_Reader_expect od_Reader_field an_Reader_field od_Reader_number an_Reader_number od_Reader_end an_Reader_end od_read_leaf an_read_leaf od_read_parts an_read_parts od_check_depth an_check_depth od_read_test an_read_test od_read_part an_read_part od_read_policy an_read_policy od__law_state an__law_state od__law_draw an__law_draw od__law_test an__law_test od__law_policy an__law_policy od__law_show_test an__law_show_test od__law_show an__law_show od__law_number an__law_number od__law_named an__law_named od__law_test_at an__law_test_at od__law_policy_at an__law_policy_at od__law_row an__law_row od__law_due an__law_due od__law_told an__law_told od__law_deep an__law_deep od_law an_law : Option Addr} {sl_MisreadError_init csl_MisreadError_init csl2_MisreadError_init sl_number_of sl_in_brackets sl_show_test sl_show_policy sl_Reader_init sl_Reader_skip sl_Reader_expect sl_Reader_field sl_Reader_number sl_Reader_end sl_read_leaf sl_read_parts sl_check_depth sl_read_test sl_read_part sl_read_policy sl__law_state sl__law_draw sl__law_test sl__law_policy sl__law_show_test sl__law_show sl__law_number sl__law_named sl__law_test_at sl__law_policy_at sl__law_row sl__law_due sl__law_told sl__law_deep sl_law : Array (Option Value)} {oc_MisreadError_init kV_MisreadError_init dc_MisreadError_init pm_MisreadError_init ct_MisreadError_init cl_MisreadError_init cl2_MisreadError_init oc_number_of kV_number_of dc_number_of pm_number_of cd_number_of ct_number_of oc_in_brackets kV_in_brackets dc_in_brackets pm_in_brackets cd_in_brackets ct_in_brackets oc_show_test kV_show_test dc_show_test pm_show_test cd_show_test ct_show_test oc_show_policy kV_show_policy dc_show_policy pm_show_policy cd_show_policy ct_show_policy oc_Reader_init kV_Reader_init dc_Reader_init pm_Reader_init cd_Reader_init ct_Reader_init oc_Reader_skip kV_Reader_skip dc_Reader_skip pm_Reader_skip cd_Reader_skip ct_Reader_skip oc_Reader_expect kV_Reader_expect dc_Reader_expect pm_Reader_expect cd_Reader_expect ct_Reader_expect oc_Reader_field kV_Reader_field dc_Reader_field pm_Reader_field cd_Reader_field ct_Reader_field oc_Reader_number kV_Reader_number dc_Reader_number pm_Reader_number cd_Reader_number ct_Reader_number oc_Reader_end kV_Reader_end dc_Reader_end pm_Reader_end cd_Reader_end ct_Reader_end oc_read_leaf kV_read_leaf dc_read_leaf pm_read_leaf cd_read_leaf ct_read_leaf oc_read_parts kV_read_parts dc_read_parts pm_read_parts cd_read_parts ct_read_parts oc_check_depth kV_check_depth dc_check_depth pm_check_depth cd_check_depth ct_check_depth oc_read_test kV_read_test dc_read_test pm_read_test cd_read_test ct_read_test oc_read_part kV_read_part dc_read_part pm_read_part cd_read_part ct_read_part oc_read_policy kV_read_policy dc_read_policy pm_read_policy cd_read_policy ct_read_policy oc__law_state kV__law_state dc__law_state pm__law_state cd__law_state ct__law_state oc__law_draw kV__law_draw dc__law_draw pm__law_draw cd__law_draw ct__law_draw oc__law_test kV__law_test dc__law_test pm__law_test cd__law_test ct__law_test oc__law_policy kV__law_policy dc__law_policy pm__law_policy cd__law_policy ct__law_policy oc__law_show_test kV__law_show_test dc__law_show_test pm__law_show_test cd__law_show_test ct__law_show_test oc__law_show kV__law_show dc__law_show pm__law_show cd__law_show ct__law_show oc__law_number kV__law_number dc__law_number pm__law_number cd__law_number ct__law_number oc__law_named kV__law_named dc__law_named pm__law_named cd__law_named ct__law_named oc__law_test_at kV__law_test_at dc__law_test_at pm__law_test_at cd__law_test_at ct__law_test_at oc__law_policy_at kV__law_policy_at dc__law_policy_at pm__law_policy_at cd__law_policy_at ct__law_policy_at oc__law_row kV__law_row dc__law_row pm__law_row cd__law_row ct__law_row oc__law_due kV__law_due dc__law_due pm__law_due cd__law_due ct__law_due oc__law_told kV__law_told dc__law_told pm__law_told cd__law_told ct__law_told oc__law_deep kV__law_deep dc__law_deep pm__law_deep cd__law_deep ct__law_deep oc_law kV_law dc_law pm_law cd_law ct_law : Value} {tq_FIELD_PLACES_switch tq_FIELD_PLACES_port tq_FIELD_PLACES_src tq_FIELD_PLACES_dst tq_FIELD_PLACES_kind tk_FIELD_PLACES_switch tk_FIELD_PLACES_port tk_FIELD_PLACES_src tk_FIELD_PLACES_dst tk_FIELD_PLACES_kind tk_MOST_WRITTEN tk_MOST_DIGITS tk_MOST_AROUND tk_DIGITS tk_SIGN_OF_IS tk_SIGN_OF_SET tk_SEPARATOR tq_TEST_SIGNS_all tq_TEST_SIGNS_any tk_TEST_SIGNS_all tk_TEST_SIGNS_any tq_POLICY_SIGNS_sum tq_POLICY_SIGNS_seq tk_POLICY_SIGNS_sum tk_POLICY_SIGNS_seq : Tok} {nm_MisreadError q_MisreadError : Str} {N_MisreadError : Addr} {bs_MisreadError : List Value} {sn_MisreadError : List Str} {sub_MisreadError : List Value} {ab_MisreadError : Bool} {col_MisreadError : Option Bool} {dd_MisreadError : Option Addr} {k0_MisreadError k1_MisreadError k2_MisreadError k3_MisreadError k5_MisreadError : Option Value} {vs_MisreadError_init : Array Value} {fi_MisreadError_init : Str} {tf_MisreadError_init : Tok} {cz_MisreadError_init : ClassData} {es_FIELD_PLACES : Array DictEntry} {n_FIELD_PLACES : Nat} {es_TEST_SIGNS : Array DictEntry} {n_TEST_SIGNS : Nat} {es_POLICY_SIGNS : Array DictEntry} {n_POLICY_SIGNS : Nat}
        (h_cBridgeError : PySem.W.nsIn K mainGlobals "BridgeError" = some (some (.ref A_BridgeError)))
    (h_rdBridgeError : PySem.W.readsIn K A_BridgeError (.type "type") = true)
    (h_gaBridgeError : PySem.W.specialIn K (.ref A_BridgeError) "__getattribute__" = some (some (.builtin "type.__getattribute__")))
    (h_cvBridgeError : PySem.W.findCls K (.ref A_BridgeError) (.type "type") "__init__" = some (.val (.builtin "ValueError.__init__")))
    (h_cMisreadError : PySem.W.nsIn K mainGlobals "MisreadError" = some (some (.ref A_MisreadError)))
    (h_lkMisreadError : K.lookup A_MisreadError = some (excClassObj nm_MisreadError q_MisreadError A_MisreadError N_MisreadError bs_MisreadError [.ref A_BridgeError, .type "ValueError", .type "Exception", .type "BaseException", .type "object"] true sn_MisreadError sub_MisreadError ab_MisreadError col_MisreadError dd_MisreadError k0_MisreadError k1_MisreadError k2_MisreadError k3_MisreadError k5_MisreadError "ValueError.__new__"))
    (h_saMisreadError : PySem.W.findIn K (.ref A_MisreadError) "__setattr__" = some (some (.builtin "object.__setattr__")))
    (h_exMisreadError : PySem.W.subIn K (.ref A_MisreadError) (.type "BaseException") = some true)
    (h_tyMisreadError : PySem.W.typeIn K (.ref A_MisreadError) = some (.type "type"))
    (h_kcMisreadError : PySem.W.keepIn K (.ref A_MisreadError) = true)
    (h_noMisreadError : PySem.W.findIn K (.ref A_MisreadError) "at" = some none)
    (h_gaMisreadError : PySem.W.findIn K (.ref A_MisreadError) "__getattribute__" = some (some (.builtin "BaseException.__getattribute__")))
    (h_ggMisreadError : PySem.W.findIn K (.ref A_MisreadError) "__getattr__" = some none)
    (h_hdMisreadError : PySem.W.hasDictIn K A_MisreadError = true)
    (h_icMisreadError : PySem.W.isClsIn K A_MisreadError = true)
    (h_scMisreadError : PySem.W.subIn K (.ref A_MisreadError) (.ref A_MisreadError) = some true)
    (h_caMisreadError : PySem.W.findIn K (.ref A_MisreadError) "__class__" = some (some (.builtin "object.__class__")))
    (h_moMisreadError : PySem.W.mroIn K A_MisreadError (.type "object") = some true)
    (h_gdMisreadError : PySem.W.specialIn K (.builtin "object.__class__") "__get__" = some (some (.builtin "getset_descriptor.__get__")))
    (h_tkMisreadError : PySem.W.takesIn K (.builtin "object.__class__") = some true)
    (h_ibMisreadErrorBridgeError : PySem.W.isClsIn K A_BridgeError = true)
    (h_itMisreadErrorBridgeError : PySem.W.typeIn K (.ref A_BridgeError) = some (.type "type"))
    (h_isMisreadErrorBridgeError : PySem.W.subIn K (.ref A_MisreadError) (.ref A_BridgeError) = some true)
    (h_cReader : PySem.W.nsIn K mainGlobals "Reader" = some (some (.ref A_Reader)))
    (h_pgReader : PySem.W.plainGet K A_Reader Str.empty = true)
    (h_hdReader : PySem.W.hasDictIn K A_Reader = true)
    (h_poReader : PySem.W.plainOver K A_Reader = true)
    (h_saReader : PySem.W.findIn K (.ref A_Reader) "__setattr__" = some (some (.builtin "object.__setattr__")))
    (h_mkReader : PySem.W.makesIn K A_Reader = true)
    (h_kcReader : PySem.W.keepIn K (.ref A_Reader) = true)
    (h_naReader_text : PySem.W.findIn K (.ref A_Reader) "text" = some none)
    (h_naReader_at : PySem.W.findIn K (.ref A_Reader) "at" = some none)
    (h_aMisreadError_init : PySem.W.findIn K (.ref A_MisreadError) "__init__" = some (some (.ref A_MisreadError_init)))
    (h_tiMisreadError : PySem.W.typeIn K (.ref A_MisreadError_init) = some (.type "function"))
    (h_lMisreadError_init : K.lookup A_MisreadError_init = some ⟨oc_MisreadError_init, od_MisreadError_init, .func (PySem.W.fnX "__init__" "MisreadError.__init__" (defArgs s_MisreadError_init) (defBody s_MisreadError_init) (defScope s_MisreadError_init) [("__class__", cc_MisreadError_init)] .none kV_MisreadError_init dc_MisreadError_init pm_MisreadError_init an_MisreadError_init (.ref ca_MisreadError_init) ct_MisreadError_init), sl_MisreadError_init⟩)
    (h_cdMisreadError_init : PySem.W.codeIn K (.ref ca_MisreadError_init) "MisreadError.__init__" = true)
    (h_lcMisreadError_init : K.lookup ca_MisreadError_init = some ⟨cl_MisreadError_init, cod_MisreadError_init, .fields vs_MisreadError_init, csl_MisreadError_init⟩)
    (h_vsMisreadError_init : vs_MisreadError_init[2]? = some (.str fi_MisreadError_init tf_MisreadError_init))
    (h_fiMisreadError_init : ((PySem.Challenge.pw_hangbridge_k44_texts_of_policies.main.file : Str) == fi_MisreadError_init) = true)
    (h_ccMisreadError_init : K.lookup cc_MisreadError_init = some ⟨cl2_MisreadError_init, cod2_MisreadError_init, .cell (some (.ref A_MisreadError)), csl2_MisreadError_init⟩)
    (h_czMisreadError_init : PySem.W.clsIn K A_MisreadError = some cz_MisreadError_init)
    (h_msMisreadError_init : PySem.W.mroIn K A_MisreadError (.ref A_MisreadError) = some true)
    (h_suMisreadError_init : PySem.W.nsIn K mainGlobals "super" = some none)
    (h_anMisreadError_init : PySem.W.nsIn K cStatics "thirdparty.any" = some none)
    (h_spMisreadError_init : PySem.W.ks_superIn K A_MisreadError A_MisreadError "__init__" = some (some (.builtin "ValueError.__init__")))
    (h_ivMisreadError_init : PySem.W.subIn K (.ref A_MisreadError) (.type "ValueError") = some true)
    (h_tpMisreadError_init : (PySem.Challenge.pw_hangbridge_k44_texts_of_policies.main.scope.names.lookup ("super" : Str)).isSome = false)
    (h_anumber_of : PySem.W.nsIn K mainGlobals "number_of" = some (some (.ref A_number_of)))
    (h_lnumber_of : K.lookup A_number_of = some ⟨oc_number_of, od_number_of, .func (PySem.W.fnOf "number_of" "number_of" (defArgs s_number_of) (defBody s_number_of) (defScope s_number_of) .none kV_number_of dc_number_of pm_number_of an_number_of cd_number_of ct_number_of), sl_number_of⟩)
    (h_cdnumber_of : PySem.W.codeIn K cd_number_of "number_of" = true)
    (h_knumber_of : PySem.W.keepIn K (.ref A_number_of) = true)
    (h_ain_brackets : PySem.W.nsIn K mainGlobals "in_brackets" = some (some (.ref A_in_brackets)))
    (h_lin_brackets : K.lookup A_in_brackets = some ⟨oc_in_brackets, od_in_brackets, .func (PySem.W.fnOf "in_brackets" "in_brackets" (defArgs s_in_brackets) (defBody s_in_brackets) (defScope s_in_brackets) .none kV_in_brackets dc_in_brackets pm_in_brackets an_in_brackets cd_in_brackets ct_in_brackets), sl_in_brackets⟩)
    (h_cdin_brackets : PySem.W.codeIn K cd_in_brackets "in_brackets" = true)
    (h_kin_brackets : PySem.W.keepIn K (.ref A_in_brackets) = true)
    (h_ashow_test : PySem.W.nsIn K mainGlobals "show_test" = some (some (.ref A_show_test)))
    (h_lshow_test : K.lookup A_show_test = some ⟨oc_show_test, od_show_test, .func (PySem.W.fnOf "show_test" "show_test" (defArgs s_show_test) (defBody s_show_test) (defScope s_show_test) .none kV_show_test dc_show_test pm_show_test an_show_test cd_show_test ct_show_test), sl_show_test⟩)
    (h_cdshow_test : PySem.W.codeIn K cd_show_test "show_test" = true)
    (h_kshow_test : PySem.W.keepIn K (.ref A_show_test) = true)
    (h_ashow_policy : PySem.W.nsIn K mainGlobals "show_policy" = some (some (.ref A_show_policy)))
    (h_lshow_policy : K.lookup A_show_policy = some ⟨oc_show_policy, od_show_policy, .func (PySem.W.fnOf "show_policy" "show_policy" (defArgs s_show_policy) (defBody s_show_policy) (defScope s_show_policy) .none kV_show_policy dc_show_policy pm_show_policy an_show_policy cd_show_policy ct_show_policy), sl_show_policy⟩)
    (h_cdshow_policy : PySem.W.codeIn K cd_show_policy "show_policy" = true)
    (h_kshow_policy : PySem.W.keepIn K (.ref A_show_policy) = true)
    (h_aReader_init : PySem.W.findIn K (.ref A_Reader) "__init__" = some (some (.ref A_Reader_init)))
    (h_iReader_init : PySem.W.isFn K (.ref A_Reader_init) = true)
    (h_lReader_init : K.lookup A_Reader_init = some ⟨oc_Reader_init, od_Reader_init, .func (PySem.W.fnOf "__init__" "Reader.__init__" (defArgs s_Reader_init) (defBody s_Reader_init) (defScope s_Reader_init) .none kV_Reader_init dc_Reader_init pm_Reader_init an_Reader_init cd_Reader_init ct_Reader_init), sl_Reader_init⟩)
    (h_cdReader_init : PySem.W.codeIn K cd_Reader_init "Reader.__init__" = true)
    (h_kReader_init : PySem.W.keepIn K (.ref A_Reader_init) = true)
    (h_aReader_skip : PySem.W.findIn K (.ref A_Reader) "skip" = some (some (.ref A_Reader_skip)))
    (h_iReader_skip : PySem.W.isFn K (.ref A_Reader_skip) = true)
    (h_lReader_skip : K.lookup A_Reader_skip = some ⟨oc_Reader_skip, od_Reader_skip, .func (PySem.W.fnOf "skip" "Reader.skip" (defArgs s_Reader_skip) (defBody s_Reader_skip) (defScope s_Reader_skip) .none kV_Reader_skip dc_Reader_skip pm_Reader_skip an_Reader_skip cd_Reader_skip ct_Reader_skip), sl_Reader_skip⟩)
    (h_cdReader_skip : PySem.W.codeIn K cd_Reader_skip "Reader.skip" = true)
    (h_kReader_skip : PySem.W.keepIn K (.ref A_Reader_skip) = true)
    (h_aReader_expect : PySem.W.findIn K (.ref A_Reader) "expect" = some (some (.ref A_Reader_expect)))
    (h_iReader_expect : PySem.W.isFn K (.ref A_Reader_expect) = true)
    (h_lReader_expect : K.lookup A_Reader_expect = some ⟨oc_Reader_expect, od_Reader_expect, .func (PySem.W.fnOf "expect" "Reader.expect" (defArgs s_Reader_expect) (defBody s_Reader_expect) (defScope s_Reader_expect) .none kV_Reader_expect dc_Reader_expect pm_Reader_expect an_Reader_expect cd_Reader_expect ct_Reader_expect), sl_Reader_expect⟩)
    (h_cdReader_expect : PySem.W.codeIn K cd_Reader_expect "Reader.expect" = true)
    (h_kReader_expect : PySem.W.keepIn K (.ref A_Reader_expect) = true)
    (h_aReader_field : PySem.W.findIn K (.ref A_Reader) "field" = some (some (.ref A_Reader_field)))
    (h_iReader_field : PySem.W.isFn K (.ref A_Reader_field) = true)
    (h_lReader_field : K.lookup A_Reader_field = some ⟨oc_Reader_field, od_Reader_field, .func (PySem.W.fnOf "field" "Reader.field" (defArgs s_Reader_field) (defBody s_Reader_field) (defScope s_Reader_field) .none kV_Reader_field dc_Reader_field pm_Reader_field an_Reader_field cd_Reader_field ct_Reader_field), sl_Reader_field⟩)
    (h_cdReader_field : PySem.W.codeIn K cd_Reader_field "Reader.field" = true)
    (h_kReader_field : PySem.W.keepIn K (.ref A_Reader_field) = true)
    (h_aReader_number : PySem.W.findIn K (.ref A_Reader) "number" = some (some (.ref A_Reader_number)))
    (h_iReader_number : PySem.W.isFn K (.ref A_Reader_number) = true)
    (h_lReader_number : K.lookup A_Reader_number = some ⟨oc_Reader_number, od_Reader_number, .func (PySem.W.fnOf "number" "Reader.number" (defArgs s_Reader_number) (defBody s_Reader_number) (defScope s_Reader_number) .none kV_Reader_number dc_Reader_number pm_Reader_number an_Reader_number cd_Reader_number ct_Reader_number), sl_Reader_number⟩)
    (h_cdReader_number : PySem.W.codeIn K cd_Reader_number "Reader.number" = true)
    (h_kReader_number : PySem.W.keepIn K (.ref A_Reader_number) = true)
    (h_aReader_end : PySem.W.findIn K (.ref A_Reader) "end" = some (some (.ref A_Reader_end)))
    (h_iReader_end : PySem.W.isFn K (.ref A_Reader_end) = true)
    (h_lReader_end : K.lookup A_Reader_end = some ⟨oc_Reader_end, od_Reader_end, .func (PySem.W.fnOf "end" "Reader.end" (defArgs s_Reader_end) (defBody s_Reader_end) (defScope s_Reader_end) .none kV_Reader_end dc_Reader_end pm_Reader_end an_Reader_end cd_Reader_end ct_Reader_end), sl_Reader_end⟩)
    (h_cdReader_end : PySem.W.codeIn K cd_Reader_end "Reader.end" = true)
    (h_kReader_end : PySem.W.keepIn K (.ref A_Reader_end) = true)
    (h_aread_leaf : PySem.W.nsIn K mainGlobals "read_leaf" = some (some (.ref A_read_leaf)))
    (h_lread_leaf : K.lookup A_read_leaf = some ⟨oc_read_leaf, od_read_leaf, .func (PySem.W.fnOf "read_leaf" "read_leaf" (defArgs s_read_leaf) (defBody s_read_leaf) (defScope s_read_leaf) .none kV_read_leaf dc_read_leaf pm_read_leaf an_read_leaf cd_read_leaf ct_read_leaf), sl_read_leaf⟩)
    (h_cdread_leaf : PySem.W.codeIn K cd_read_leaf "read_leaf" = true)
    (h_kread_leaf : PySem.W.keepIn K (.ref A_read_leaf) = true)
    (h_aread_parts : PySem.W.nsIn K mainGlobals "read_parts" = some (some (.ref A_read_parts)))
    (h_lread_parts : K.lookup A_read_parts = some ⟨oc_read_parts, od_read_parts, .func (PySem.W.fnOf "read_parts" "read_parts" (defArgs s_read_parts) (defBody s_read_parts) (defScope s_read_parts) .none kV_read_parts dc_read_parts pm_read_parts an_read_parts cd_read_parts ct_read_parts), sl_read_parts⟩)
    (h_cdread_parts : PySem.W.codeIn K cd_read_parts "read_parts" = true)
    (h_kread_parts : PySem.W.keepIn K (.ref A_read_parts) = true)
    (h_acheck_depth : PySem.W.nsIn K mainGlobals "check_depth" = some (some (.ref A_check_depth)))
    (h_lcheck_depth : K.lookup A_check_depth = some ⟨oc_check_depth, od_check_depth, .func (PySem.W.fnOf "check_depth" "check_depth" (defArgs s_check_depth) (defBody s_check_depth) (defScope s_check_depth) .none kV_check_depth dc_check_depth pm_check_depth an_check_depth cd_check_depth ct_check_depth), sl_check_depth⟩)
    (h_cdcheck_depth : PySem.W.codeIn K cd_check_depth "check_depth" = true)
    (h_kcheck_depth : PySem.W.keepIn K (.ref A_check_depth) = true)
    (h_aread_test : PySem.W.nsIn K mainGlobals "read_test" = some (some (.ref A_read_test)))
    (h_lread_test : K.lookup A_read_test = some ⟨oc_read_test, od_read_test, .func (PySem.W.fnOf "read_test" "read_test" (defArgs s_read_test) (defBody s_read_test) (defScope s_read_test) .none kV_read_test dc_read_test pm_read_test an_read_test cd_read_test ct_read_test), sl_read_test⟩)
    (h_cdread_test : PySem.W.codeIn K cd_read_test "read_test" = true)
    (h_kread_test : PySem.W.keepIn K (.ref A_read_test) = true)
    (h_aread_part : PySem.W.nsIn K mainGlobals "read_part" = some (some (.ref A_read_part)))
    (h_lread_part : K.lookup A_read_part = some ⟨oc_read_part, od_read_part, .func (PySem.W.fnOf "read_part" "read_part" (defArgs s_read_part) (defBody s_read_part) (defScope s_read_part) .none kV_read_part dc_read_part pm_read_part an_read_part cd_read_part ct_read_part), sl_read_part⟩)
    (h_cdread_part : PySem.W.codeIn K cd_read_part "read_part" = true)
    (h_kread_part : PySem.W.keepIn K (.ref A_read_part) = true)
    (h_aread_policy : PySem.W.nsIn K mainGlobals "read_policy" = some (some (.ref A_read_policy)))
    (h_lread_policy : K.lookup A_read_policy = some ⟨oc_read_policy, od_read_policy, .func (PySem.W.fnOf "read_policy" "read_policy" (defArgs s_read_policy) (defBody s_read_policy) (defScope s_read_policy) .none kV_read_policy dc_read_policy pm_read_policy an_read_policy cd_read_policy ct_read_policy), sl_read_policy⟩)
    (h_cdread_policy : PySem.W.codeIn K cd_read_policy "read_policy" = true)
    (h_kread_policy : PySem.W.keepIn K (.ref A_read_policy) = true)
    (h_a_law_state : PySem.W.nsIn K mainGlobals "_law_state" = some (some (.ref A__law_state)))
    (h_l_law_state : K.lookup A__law_state = some ⟨oc__law_state, od__law_state, .func (PySem.W.fnOf "_law_state" "_law_state" (defArgs s__law_state) (defBody s__law_state) (defScope s__law_state) .none kV__law_state dc__law_state pm__law_state an__law_state cd__law_state ct__law_state), sl__law_state⟩)
    (h_cd_law_state : PySem.W.codeIn K cd__law_state "_law_state" = true)
    (h_k_law_state : PySem.W.keepIn K (.ref A__law_state) = true)
    (h_a_law_draw : PySem.W.nsIn K mainGlobals "_law_draw" = some (some (.ref A__law_draw)))
    (h_l_law_draw : K.lookup A__law_draw = some ⟨oc__law_draw, od__law_draw, .func (PySem.W.fnOf "_law_draw" "_law_draw" (defArgs s__law_draw) (defBody s__law_draw) (defScope s__law_draw) .none kV__law_draw dc__law_draw pm__law_draw an__law_draw cd__law_draw ct__law_draw), sl__law_draw⟩)
    (h_cd_law_draw : PySem.W.codeIn K cd__law_draw "_law_draw" = true)
    (h_k_law_draw : PySem.W.keepIn K (.ref A__law_draw) = true)
    (h_a_law_test : PySem.W.nsIn K mainGlobals "_law_test" = some (some (.ref A__law_test)))
    (h_l_law_test : K.lookup A__law_test = some ⟨oc__law_test, od__law_test, .func (PySem.W.fnOf "_law_test" "_law_test" (defArgs s__law_test) (defBody s__law_test) (defScope s__law_test) .none kV__law_test dc__law_test pm__law_test an__law_test cd__law_test ct__law_test), sl__law_test⟩)
    (h_cd_law_test : PySem.W.codeIn K cd__law_test "_law_test" = true)
    (h_k_law_test : PySem.W.keepIn K (.ref A__law_test) = true)
    (h_a_law_policy : PySem.W.nsIn K mainGlobals "_law_policy" = some (some (.ref A__law_policy)))
    (h_l_law_policy : K.lookup A__law_policy = some ⟨oc__law_policy, od__law_policy, .func (PySem.W.fnOf "_law_policy" "_law_policy" (defArgs s__law_policy) (defBody s__law_policy) (defScope s__law_policy) .none kV__law_policy dc__law_policy pm__law_policy an__law_policy cd__law_policy ct__law_policy), sl__law_policy⟩)
    (h_cd_law_policy : PySem.W.codeIn K cd__law_policy "_law_policy" = true)
    (h_k_law_policy : PySem.W.keepIn K (.ref A__law_policy) = true)
    (h_a_law_show_test : PySem.W.nsIn K mainGlobals "_law_show_test" = some (some (.ref A__law_show_test)))
    (h_l_law_show_test : K.lookup A__law_show_test = some ⟨oc__law_show_test, od__law_show_test, .func (PySem.W.fnOf "_law_show_test" "_law_show_test" (defArgs s__law_show_test) (defBody s__law_show_test) (defScope s__law_show_test) .none kV__law_show_test dc__law_show_test pm__law_show_test an__law_show_test cd__law_show_test ct__law_show_test), sl__law_show_test⟩)
    (h_cd_law_show_test : PySem.W.codeIn K cd__law_show_test "_law_show_test" = true)
    (h_k_law_show_test : PySem.W.keepIn K (.ref A__law_show_test) = true)
    (h_a_law_show : PySem.W.nsIn K mainGlobals "_law_show" = some (some (.ref A__law_show)))
    (h_l_law_show : K.lookup A__law_show = some ⟨oc__law_show, od__law_show, .func (PySem.W.fnOf "_law_show" "_law_show" (defArgs s__law_show) (defBody s__law_show) (defScope s__law_show) .none kV__law_show dc__law_show pm__law_show an__law_show cd__law_show ct__law_show), sl__law_show⟩)
    (h_cd_law_show : PySem.W.codeIn K cd__law_show "_law_show" = true)
    (h_k_law_show : PySem.W.keepIn K (.ref A__law_show) = true)
    (h_a_law_number : PySem.W.nsIn K mainGlobals "_law_number" = some (some (.ref A__law_number)))
    (h_l_law_number : K.lookup A__law_number = some ⟨oc__law_number, od__law_number, .func (PySem.W.fnOf "_law_number" "_law_number" (defArgs s__law_number) (defBody s__law_number) (defScope s__law_number) .none kV__law_number dc__law_number pm__law_number an__law_number cd__law_number ct__law_number), sl__law_number⟩)
    (h_cd_law_number : PySem.W.codeIn K cd__law_number "_law_number" = true)
    (h_k_law_number : PySem.W.keepIn K (.ref A__law_number) = true)
    (h_a_law_named : PySem.W.nsIn K mainGlobals "_law_named" = some (some (.ref A__law_named)))
    (h_l_law_named : K.lookup A__law_named = some ⟨oc__law_named, od__law_named, .func (PySem.W.fnOf "_law_named" "_law_named" (defArgs s__law_named) (defBody s__law_named) (defScope s__law_named) .none kV__law_named dc__law_named pm__law_named an__law_named cd__law_named ct__law_named), sl__law_named⟩)
    (h_cd_law_named : PySem.W.codeIn K cd__law_named "_law_named" = true)
    (h_k_law_named : PySem.W.keepIn K (.ref A__law_named) = true)
    (h_a_law_test_at : PySem.W.nsIn K mainGlobals "_law_test_at" = some (some (.ref A__law_test_at)))
    (h_l_law_test_at : K.lookup A__law_test_at = some ⟨oc__law_test_at, od__law_test_at, .func (PySem.W.fnOf "_law_test_at" "_law_test_at" (defArgs s__law_test_at) (defBody s__law_test_at) (defScope s__law_test_at) .none kV__law_test_at dc__law_test_at pm__law_test_at an__law_test_at cd__law_test_at ct__law_test_at), sl__law_test_at⟩)
    (h_cd_law_test_at : PySem.W.codeIn K cd__law_test_at "_law_test_at" = true)
    (h_k_law_test_at : PySem.W.keepIn K (.ref A__law_test_at) = true)
    (h_a_law_policy_at : PySem.W.nsIn K mainGlobals "_law_policy_at" = some (some (.ref A__law_policy_at)))
    (h_l_law_policy_at : K.lookup A__law_policy_at = some ⟨oc__law_policy_at, od__law_policy_at, .func (PySem.W.fnOf "_law_policy_at" "_law_policy_at" (defArgs s__law_policy_at) (defBody s__law_policy_at) (defScope s__law_policy_at) .none kV__law_policy_at dc__law_policy_at pm__law_policy_at an__law_policy_at cd__law_policy_at ct__law_policy_at), sl__law_policy_at⟩)
    (h_cd_law_policy_at : PySem.W.codeIn K cd__law_policy_at "_law_policy_at" = true)
    (h_k_law_policy_at : PySem.W.keepIn K (.ref A__law_policy_at) = true)
    (h_a_law_row : PySem.W.nsIn K mainGlobals "_law_row" = some (some (.ref A__law_row)))
    (h_l_law_row : K.lookup A__law_row = some ⟨oc__law_row, od__law_row, .func (PySem.W.fnOf "_law_row" "_law_row" (defArgs s__law_row) (defBody s__law_row) (defScope s__law_row) .none kV__law_row dc__law_row pm__law_row an__law_row cd__law_row ct__law_row), sl__law_row⟩)
    (h_cd_law_row : PySem.W.codeIn K cd__law_row "_law_row" = true)
    (h_k_law_row : PySem.W.keepIn K (.ref A__law_row) = true)
    (h_a_law_due : PySem.W.nsIn K mainGlobals "_law_due" = some (some (.ref A__law_due)))
    (h_l_law_due : K.lookup A__law_due = some ⟨oc__law_due, od__law_due, .func (PySem.W.fnOf "_law_due" "_law_due" (defArgs s__law_due) (defBody s__law_due) (defScope s__law_due) .none kV__law_due dc__law_due pm__law_due an__law_due cd__law_due ct__law_due), sl__law_due⟩)
    (h_cd_law_due : PySem.W.codeIn K cd__law_due "_law_due" = true)
    (h_k_law_due : PySem.W.keepIn K (.ref A__law_due) = true)
    (h_a_law_told : PySem.W.nsIn K mainGlobals "_law_told" = some (some (.ref A__law_told)))
    (h_l_law_told : K.lookup A__law_told = some ⟨oc__law_told, od__law_told, .func (PySem.W.fnOf "_law_told" "_law_told" (defArgs s__law_told) (defBody s__law_told) (defScope s__law_told) .none kV__law_told dc__law_told pm__law_told an__law_told cd__law_told ct__law_told), sl__law_told⟩)
    (h_cd_law_told : PySem.W.codeIn K cd__law_told "_law_told" = true)
    (h_k_law_told : PySem.W.keepIn K (.ref A__law_told) = true)
    (h_a_law_deep : PySem.W.nsIn K mainGlobals "_law_deep" = some (some (.ref A__law_deep)))
    (h_l_law_deep : K.lookup A__law_deep = some ⟨oc__law_deep, od__law_deep, .func (PySem.W.fnOf "_law_deep" "_law_deep" (defArgs s__law_deep) (defBody s__law_deep) (defScope s__law_deep) .none kV__law_deep dc__law_deep pm__law_deep an__law_deep cd__law_deep ct__law_deep), sl__law_deep⟩)
    (h_cd_law_deep : PySem.W.codeIn K cd__law_deep "_law_deep" = true)
    (h_k_law_deep : PySem.W.keepIn K (.ref A__law_deep) = true)
    (h_alaw : PySem.W.nsIn K mainGlobals "law" = some (some (.ref A_law)))
    (h_llaw : K.lookup A_law = some ⟨oc_law, od_law, .func (PySem.W.fnOf "law" "law" (defArgs s_law) (defBody s_law) (defScope s_law) .none kV_law dc_law pm_law an_law cd_law ct_law), sl_law⟩)
    (h_cdlaw : PySem.W.codeIn K cd_law "law" = true)
    (h_klaw : PySem.W.keepIn K (.ref A_law) = true)
    (h_gFIELD_PLACES : PySem.W.nsIn K mainGlobals "FIELD_PLACES" = some (some (.ref A_FIELD_PLACES)))
    (h_lFIELD_PLACES : K.lookup A_FIELD_PLACES = some ⟨.type "dict", none, .dict es_FIELD_PLACES n_FIELD_PLACES, #[]⟩)
    (h_kFIELD_PLACES : PySem.W.KeysLit w.params es_FIELD_PLACES.toList)
    (h_yFIELD_PLACES : es_FIELD_PLACES.toList.map (·.key) = [.str "switch" tq_FIELD_PLACES_switch, .str "port" tq_FIELD_PLACES_port, .str "src" tq_FIELD_PLACES_src, .str "dst" tq_FIELD_PLACES_dst, .str "kind" tq_FIELD_PLACES_kind])
    (h_sFIELD_PLACES : (A_FIELD_PLACES == sysModules) = false)
    (h_nFIELD_PLACES_switch : PySem.W.nsIn K A_FIELD_PLACES "switch" = some (some (.int 0 tk_FIELD_PLACES_switch)))
    (h_nFIELD_PLACES_port : PySem.W.nsIn K A_FIELD_PLACES "port" = some (some (.int 1 tk_FIELD_PLACES_port)))
    (h_nFIELD_PLACES_src : PySem.W.nsIn K A_FIELD_PLACES "src" = some (some (.int 2 tk_FIELD_PLACES_src)))
    (h_nFIELD_PLACES_dst : PySem.W.nsIn K A_FIELD_PLACES "dst" = some (some (.int 3 tk_FIELD_PLACES_dst)))
    (h_nFIELD_PLACES_kind : PySem.W.nsIn K A_FIELD_PLACES "kind" = some (some (.int 4 tk_FIELD_PLACES_kind)))
    (h_gMOST_WRITTEN : PySem.W.nsIn K mainGlobals "MOST_WRITTEN" = some (some (.int 99 tk_MOST_WRITTEN)))
    (h_gMOST_DIGITS : PySem.W.nsIn K mainGlobals "MOST_DIGITS" = some (some (.int 2 tk_MOST_DIGITS)))
    (h_gMOST_AROUND : PySem.W.nsIn K mainGlobals "MOST_AROUND" = some (some (.int 20 tk_MOST_AROUND)))
    (h_gDIGITS : PySem.W.nsIn K mainGlobals "DIGITS" = some (some (.str "0123456789" tk_DIGITS)))
    (h_gSIGN_OF_IS : PySem.W.nsIn K mainGlobals "SIGN_OF_IS" = some (some (.str " = " tk_SIGN_OF_IS)))
    (h_gSIGN_OF_SET : PySem.W.nsIn K mainGlobals "SIGN_OF_SET" = some (some (.str " := " tk_SIGN_OF_SET)))
    (h_gSEPARATOR : PySem.W.nsIn K mainGlobals "SEPARATOR" = some (some (.str ", " tk_SEPARATOR)))
    (h_gTEST_SIGNS : PySem.W.nsIn K mainGlobals "TEST_SIGNS" = some (some (.ref A_TEST_SIGNS)))
    (h_lTEST_SIGNS : K.lookup A_TEST_SIGNS = some ⟨.type "dict", none, .dict es_TEST_SIGNS n_TEST_SIGNS, #[]⟩)
    (h_kTEST_SIGNS : PySem.W.KeysLit w.params es_TEST_SIGNS.toList)
    (h_yTEST_SIGNS : es_TEST_SIGNS.toList.map (·.key) = [.str "all" tq_TEST_SIGNS_all, .str "any" tq_TEST_SIGNS_any])
    (h_sTEST_SIGNS : (A_TEST_SIGNS == sysModules) = false)
    (h_nTEST_SIGNS_all : PySem.W.nsIn K A_TEST_SIGNS "all" = some (some (.str "&" tk_TEST_SIGNS_all)))
    (h_nTEST_SIGNS_any : PySem.W.nsIn K A_TEST_SIGNS "any" = some (some (.str "|" tk_TEST_SIGNS_any)))
    (h_gPOLICY_SIGNS : PySem.W.nsIn K mainGlobals "POLICY_SIGNS" = some (some (.ref A_POLICY_SIGNS)))
    (h_lPOLICY_SIGNS : K.lookup A_POLICY_SIGNS = some ⟨.type "dict", none, .dict es_POLICY_SIGNS n_POLICY_SIGNS, #[]⟩)
    (h_kPOLICY_SIGNS : PySem.W.KeysLit w.params es_POLICY_SIGNS.toList)
    (h_yPOLICY_SIGNS : es_POLICY_SIGNS.toList.map (·.key) = [.str "sum" tq_POLICY_SIGNS_sum, .str "seq" tq_POLICY_SIGNS_seq])
    (h_sPOLICY_SIGNS : (A_POLICY_SIGNS == sysModules) = false)
    (h_nPOLICY_SIGNS_sum : PySem.W.nsIn K A_POLICY_SIGNS "sum" = some (some (.str "+" tk_POLICY_SIGNS_sum)))
    (h_nPOLICY_SIGNS_seq : PySem.W.nsIn K A_POLICY_SIGNS "seq" = some (some (.str ";" tk_POLICY_SIGNS_seq)))
    (h_bint : PySem.W.nsIn K mainGlobals "int" = some none)
    (h_blen : PySem.W.nsIn K mainGlobals "len" = some none)
    (h_bstr : PySem.W.nsIn K mainGlobals "str" = some none)
    (h_bmin : PySem.W.nsIn K mainGlobals "min" = some none)
    (h_babs : PySem.W.nsIn K mainGlobals "abs" = some none)
    (h_brange : PySem.W.nsIn K mainGlobals "range" = some none)
    (h_bisinstance : PySem.W.nsIn K mainGlobals "isinstance" = some none)
    (h_btuple : PySem.W.nsIn K mainGlobals "tuple" = some none)
    (h_brepr : PySem.W.nsIn K mainGlobals "repr" = some none) :
    ∃ fd : FuncData, (∀ (s : Shared) (v : Value), BindsTo s fd ⟨[v], []⟩ [("script", v)]) ∧ ∀ base : Heap, K.In base → base.Ns mainGlobals mg → LawRun l.prog w K mg base 150 fa fd ["script"] (sp_law K) := by
  haveI : IsP l.prog := ⟨hl⟩
  have e := hfa.symm.trans (PySem.W.mg_of X G h_alaw)
  have e2 : fa = A_law := Value.ref.inj (Option.some.inj e)
  rw [e2]
  have T : Txt w K mg ⟨A_BridgeError, A_MisreadError, A_Reader, A_MisreadError_init, (PySem.W.fnX "__init__" "MisreadError.__init__" (defArgs s_MisreadError_init) (defBody s_MisreadError_init) (defScope s_MisreadError_init) [("__class__", cc_MisreadError_init)] .none kV_MisreadError_init dc_MisreadError_init pm_MisreadError_init an_MisreadError_init (.ref ca_MisreadError_init) ct_MisreadError_init), A_number_of, (PySem.W.fnOf "number_of" "number_of" (defArgs s_number_of) (defBody s_number_of) (defScope s_number_of) .none kV_number_of dc_number_of pm_number_of an_number_of cd_number_of ct_number_of), A_in_brackets, (PySem.W.fnOf "in_brackets" "in_brackets" (defArgs s_in_brackets) (defBody s_in_brackets) (defScope s_in_brackets) .none kV_in_brackets dc_in_brackets pm_in_brackets an_in_brackets cd_in_brackets ct_in_brackets), A_show_test, (PySem.W.fnOf "show_test" "show_test" (defArgs s_show_test) (defBody s_show_test) (defScope s_show_test) .none kV_show_test dc_show_test pm_show_test an_show_test cd_show_test ct_show_test), A_show_policy, (PySem.W.fnOf "show_policy" "show_policy" (defArgs s_show_policy) (defBody s_show_policy) (defScope s_show_policy) .none kV_show_policy dc_show_policy pm_show_policy an_show_policy cd_show_policy ct_show_policy), A_Reader_init, (PySem.W.fnOf "__init__" "Reader.__init__" (defArgs s_Reader_init) (defBody s_Reader_init) (defScope s_Reader_init) .none kV_Reader_init dc_Reader_init pm_Reader_init an_Reader_init cd_Reader_init ct_Reader_init), A_Reader_skip, (PySem.W.fnOf "skip" "Reader.skip" (defArgs s_Reader_skip) (defBody s_Reader_skip) (defScope s_Reader_skip) .none kV_Reader_skip dc_Reader_skip pm_Reader_skip an_Reader_skip cd_Reader_skip ct_Reader_skip), A_Reader_expect, (PySem.W.fnOf "expect" "Reader.expect" (defArgs s_Reader_expect) (defBody s_Reader_expect) (defScope s_Reader_expect) .none kV_Reader_expect dc_Reader_expect pm_Reader_expect an_Reader_expect cd_Reader_expect ct_Reader_expect), A_Reader_field, (PySem.W.fnOf "field" "Reader.field" (defArgs s_Reader_field) (defBody s_Reader_field) (defScope s_Reader_field) .none kV_Reader_field dc_Reader_field pm_Reader_field an_Reader_field cd_Reader_field ct_Reader_field), A_Reader_number, (PySem.W.fnOf "number" "Reader.number" (defArgs s_Reader_number) (defBody s_Reader_number) (defScope s_Reader_number) .none kV_Reader_number dc_Reader_number pm_Reader_number an_Reader_number cd_Reader_number ct_Reader_number), A_Reader_end, (PySem.W.fnOf "end" "Reader.end" (defArgs s_Reader_end) (defBody s_Reader_end) (defScope s_Reader_end) .none kV_Reader_end dc_Reader_end pm_Reader_end an_Reader_end cd_Reader_end ct_Reader_end), A_read_leaf, (PySem.W.fnOf "read_leaf" "read_leaf" (defArgs s_read_leaf) (defBody s_read_leaf) (defScope s_read_leaf) .none kV_read_leaf dc_read_leaf pm_read_leaf an_read_leaf cd_read_leaf ct_read_leaf), A_read_parts, (PySem.W.fnOf "read_parts" "read_parts" (defArgs s_read_parts) (defBody s_read_parts) (defScope s_read_parts) .none kV_read_parts dc_read_parts pm_read_parts an_read_parts cd_read_parts ct_read_parts), A_check_depth, (PySem.W.fnOf "check_depth" "check_depth" (defArgs s_check_depth) (defBody s_check_depth) (defScope s_check_depth) .none kV_check_depth dc_check_depth pm_check_depth an_check_depth cd_check_depth ct_check_depth), A_read_test, (PySem.W.fnOf "read_test" "read_test" (defArgs s_read_test) (defBody s_read_test) (defScope s_read_test) .none kV_read_test dc_read_test pm_read_test an_read_test cd_read_test ct_read_test), A_read_part, (PySem.W.fnOf "read_part" "read_part" (defArgs s_read_part) (defBody s_read_part) (defScope s_read_part) .none kV_read_part dc_read_part pm_read_part an_read_part cd_read_part ct_read_part), A_read_policy, (PySem.W.fnOf "read_policy" "read_policy" (defArgs s_read_policy) (defBody s_read_policy) (defScope s_read_policy) .none kV_read_policy dc_read_policy pm_read_policy an_read_policy cd_read_policy ct_read_policy), A__law_state, (PySem.W.fnOf "_law_state" "_law_state" (defArgs s__law_state) (defBody s__law_state) (defScope s__law_state) .none kV__law_state dc__law_state pm__law_state an__law_state cd__law_state ct__law_state), A__law_draw, (PySem.W.fnOf "_law_draw" "_law_draw" (defArgs s__law_draw) (defBody s__law_draw) (defScope s__law_draw) .none kV__law_draw dc__law_draw pm__law_draw an__law_draw cd__law_draw ct__law_draw), A__law_test, (PySem.W.fnOf "_law_test" "_law_test" (defArgs s__law_test) (defBody s__law_test) (defScope s__law_test) .none kV__law_test dc__law_test pm__law_test an__law_test cd__law_test ct__law_test), A__law_policy, (PySem.W.fnOf "_law_policy" "_law_policy" (defArgs s__law_policy) (defBody s__law_policy) (defScope s__law_policy) .none kV__law_policy dc__law_policy pm__law_policy an__law_policy cd__law_policy ct__law_policy), A__law_show_test, (PySem.W.fnOf "_law_show_test" "_law_show_test" (defArgs s__law_show_test) (defBody s__law_show_test) (defScope s__law_show_test) .none kV__law_show_test dc__law_show_test pm__law_show_test an__law_show_test cd__law_show_test ct__law_show_test), A__law_show, (PySem.W.fnOf "_law_show" "_law_show" (defArgs s__law_show) (defBody s__law_show) (defScope s__law_show) .none kV__law_show dc__law_show pm__law_show an__law_show cd__law_show ct__law_show), A__law_number, (PySem.W.fnOf "_law_number" "_law_number" (defArgs s__law_number) (defBody s__law_number) (defScope s__law_number) .none kV__law_number dc__law_number pm__law_number an__law_number cd__law_number ct__law_number), A__law_named, (PySem.W.fnOf "_law_named" "_law_named" (defArgs s__law_named) (defBody s__law_named) (defScope s__law_named) .none kV__law_named dc__law_named pm__law_named an__law_named cd__law_named ct__law_named), A__law_test_at, (PySem.W.fnOf "_law_test_at" "_law_test_at" (defArgs s__law_test_at) (defBody s__law_test_at) (defScope s__law_test_at) .none kV__law_test_at dc__law_test_at pm__law_test_at an__law_test_at cd__law_test_at ct__law_test_at), A__law_policy_at, (PySem.W.fnOf "_law_policy_at" "_law_policy_at" (defArgs s__law_policy_at) (defBody s__law_policy_at) (defScope s__law_policy_at) .none kV__law_policy_at dc__law_policy_at pm__law_policy_at an__law_policy_at cd__law_policy_at ct__law_policy_at), A__law_row, (PySem.W.fnOf "_law_row" "_law_row" (defArgs s__law_row) (defBody s__law_row) (defScope s__law_row) .none kV__law_row dc__law_row pm__law_row an__law_row cd__law_row ct__law_row), A__law_due, (PySem.W.fnOf "_law_due" "_law_due" (defArgs s__law_due) (defBody s__law_due) (defScope s__law_due) .none kV__law_due dc__law_due pm__law_due an__law_due cd__law_due ct__law_due), A__law_told, (PySem.W.fnOf "_law_told" "_law_told" (defArgs s__law_told) (defBody s__law_told) (defScope s__law_told) .none kV__law_told dc__law_told pm__law_told an__law_told cd__law_told ct__law_told), A__law_deep, (PySem.W.fnOf "_law_deep" "_law_deep" (defArgs s__law_deep) (defBody s__law_deep) (defScope s__law_deep) .none kV__law_deep dc__law_deep pm__law_deep an__law_deep cd__law_deep ct__law_deep), A_law, (PySem.W.fnOf "law" "law" (defArgs s_law) (defBody s_law) (defScope s_law) .none kV_law dc_law pm_law an_law cd_law ct_law), A_FIELD_PLACES, A_TEST_SIGNS, A_POLICY_SIGNS⟩ := {
    mg_BridgeError := PySem.W.mg_of X G h_cBridgeError
    rd_BridgeError := ⟨h_rdBridgeError, h_gaBridgeError⟩
    cv_BridgeError := h_cvBridgeError
    mg_MisreadError := PySem.W.mg_of X G h_cMisreadError
    ox_MisreadError := ⟨⟨_, _, _, _, _, _, _, _, _, _, _, _, _, _, _, h_lkMisreadError, rfl⟩, h_saMisreadError, h_exMisreadError, h_tyMisreadError, h_kcMisreadError⟩
    iC_MisreadError := h_aMisreadError_init
    tI_MisreadError := h_tiMisreadError
    no_MisreadError_at := h_noMisreadError
    xf_MisreadError := ⟨h_gaMisreadError, h_ggMisreadError, h_exMisreadError, h_hdMisreadError⟩
    xc_MisreadError := ⟨h_icMisreadError, h_gaMisreadError, h_ggMisreadError, h_exMisreadError, h_caMisreadError, h_gdMisreadError, h_tkMisreadError, h_moMisreadError⟩
    te_MisreadError := PySem.W.exm_ref h_exMisreadError h_hdMisreadError h_tyMisreadError h_scMisreadError
    is_MisreadError_BridgeError := kit_ownT h_ibMisreadErrorBridgeError h_itMisreadErrorBridgeError h_isMisreadErrorBridgeError
    cl_Reader := ⟨h_pgReader, h_hdReader, h_poReader, h_saReader⟩
    mg_Reader := PySem.W.mg_of X G h_cReader
    na_Reader_text := h_naReader_text
    na_Reader_at := h_naReader_at
    fn_MisreadError_init := ⟨⟨_, _, _, _, _, _, _, _, _, _, _, _, _, _, _, _, _, _, _, rfl, h_lMisreadError_init, h_cdMisreadError_init, h_lcMisreadError_init, h_vsMisreadError_init, h_fiMisreadError_init, h_ccMisreadError_init⟩, ⟨_, h_czMisreadError_init⟩, h_msMisreadError_init, PySem.W.mg_none_of X G h_suMisreadError_init, h_anMisreadError_init, h_spMisreadError_init, h_ivMisreadError_init, h_tpMisreadError_init⟩
    bi_MisreadError_init := FunS.binds (P := PySem.Challenge.pw_hangbridge_k44_texts_of_policies) (mg := mg) (C := A_MisreadError) (x := "__init__") (qual := "MisreadError.__init__") (st := s_MisreadError_init) (f := A_MisreadError_init) (ps := ["self", "at"]) ⟨⟨_, _, _, _, _, _, _, _, _, _, _, _, _, _, _, _, _, _, _, rfl, h_lMisreadError_init, h_cdMisreadError_init, h_lcMisreadError_init, h_vsMisreadError_init, h_fiMisreadError_init, h_ccMisreadError_init⟩, ⟨_, h_czMisreadError_init⟩, h_msMisreadError_init, PySem.W.mg_none_of X G h_suMisreadError_init, h_anMisreadError_init, h_spMisreadError_init, h_ivMisreadError_init, h_tpMisreadError_init⟩ fun _ _ _ _ _ _ _ us hl => match us, hl with | [_, _], _ => rfl
    fn_number_of := fun_mk (st := s_number_of) h_lnumber_of h_cdnumber_of h_knumber_of
    bi_number_of := (fun_mk (st := s_number_of) h_lnumber_of h_cdnumber_of h_knumber_of).binds (ps := ["word", "most"]) fun _ _ _ _ _ _ us hl => match us, hl with | [_, _], _ => rfl
    mg_number_of := PySem.W.mg_of X G h_anumber_of
    kp_number_of := h_knumber_of
    fn_in_brackets := fun_mk (st := s_in_brackets) h_lin_brackets h_cdin_brackets h_kin_brackets
    bi_in_brackets := (fun_mk (st := s_in_brackets) h_lin_brackets h_cdin_brackets h_kin_brackets).binds (ps := ["sign", "texts"]) fun _ _ _ _ _ _ us hl => match us, hl with | [_, _], _ => rfl
    mg_in_brackets := PySem.W.mg_of X G h_ain_brackets
    kp_in_brackets := h_kin_brackets
    fn_show_test := fun_mk (st := s_show_test) h_lshow_test h_cdshow_test h_kshow_test
    bi_show_test := (fun_mk (st := s_show_test) h_lshow_test h_cdshow_test h_kshow_test).binds (ps := ["test"]) fun _ _ _ _ _ _ us hl => match us, hl with | [_], _ => rfl
    mg_show_test := PySem.W.mg_of X G h_ashow_test
    kp_show_test := h_kshow_test
    fn_show_policy := fun_mk (st := s_show_policy) h_lshow_policy h_cdshow_policy h_kshow_policy
    bi_show_policy := (fun_mk (st := s_show_policy) h_lshow_policy h_cdshow_policy h_kshow_policy).binds (ps := ["policy"]) fun _ _ _ _ _ _ us hl => match us, hl with | [_], _ => rfl
    mg_show_policy := PySem.W.mg_of X G h_ashow_policy
    kp_show_policy := h_kshow_policy
    fn_Reader_init := fun_mk (st := s_Reader_init) h_lReader_init h_cdReader_init h_kReader_init
    bi_Reader_init := (fun_mk (st := s_Reader_init) h_lReader_init h_cdReader_init h_kReader_init).binds (ps := ["self", "text"]) fun _ _ _ _ _ _ us hl => match us, hl with | [_, _], _ => rfl
    mk_Reader := ⟨h_mkReader, h_aReader_init, h_iReader_init, h_kcReader⟩
    fn_Reader_skip := fun_mk (st := s_Reader_skip) h_lReader_skip h_cdReader_skip h_kReader_skip
    bi_Reader_skip := (fun_mk (st := s_Reader_skip) h_lReader_skip h_cdReader_skip h_kReader_skip).binds (ps := ["self", "sign"]) fun _ _ _ _ _ _ us hl => match us, hl with | [_, _], _ => rfl
    me_Reader_skip := ⟨h_aReader_skip, h_iReader_skip, h_kReader_skip⟩
    fn_Reader_expect := fun_mk (st := s_Reader_expect) h_lReader_expect h_cdReader_expect h_kReader_expect
    bi_Reader_expect := (fun_mk (st := s_Reader_expect) h_lReader_expect h_cdReader_expect h_kReader_expect).binds (ps := ["self", "sign"]) fun _ _ _ _ _ _ us hl => match us, hl with | [_, _], _ => rfl
    me_Reader_expect := ⟨h_aReader_expect, h_iReader_expect, h_kReader_expect⟩
    fn_Reader_field := fun_mk (st := s_Reader_field) h_lReader_field h_cdReader_field h_kReader_field
    bi_Reader_field := (fun_mk (st := s_Reader_field) h_lReader_field h_cdReader_field h_kReader_field).binds (ps := ["self"]) fun _ _ _ _ _ _ us hl => match us, hl with | [_], _ => rfl
    me_Reader_field := ⟨h_aReader_field, h_iReader_field, h_kReader_field⟩
    fn_Reader_number := fun_mk (st := s_Reader_number) h_lReader_number h_cdReader_number h_kReader_number
    bi_Reader_number := (fun_mk (st := s_Reader_number) h_lReader_number h_cdReader_number h_kReader_number).binds (ps := ["self"]) fun _ _ _ _ _ _ us hl => match us, hl with | [_], _ => rfl
    me_Reader_number := ⟨h_aReader_number, h_iReader_number, h_kReader_number⟩
    fn_Reader_end := fun_mk (st := s_Reader_end) h_lReader_end h_cdReader_end h_kReader_end
    bi_Reader_end := (fun_mk (st := s_Reader_end) h_lReader_end h_cdReader_end h_kReader_end).binds (ps := ["self"]) fun _ _ _ _ _ _ us hl => match us, hl with | [_], _ => rfl
    me_Reader_end := ⟨h_aReader_end, h_iReader_end, h_kReader_end⟩
    fn_read_leaf := fun_mk (st := s_read_leaf) h_lread_leaf h_cdread_leaf h_kread_leaf
    bi_read_leaf := (fun_mk (st := s_read_leaf) h_lread_leaf h_cdread_leaf h_kread_leaf).binds (ps := ["reader", "name", "sign"]) fun _ _ _ _ _ _ us hl => match us, hl with | [_, _, _], _ => rfl
    mg_read_leaf := PySem.W.mg_of X G h_aread_leaf
    kp_read_leaf := h_kread_leaf
    fn_read_parts := fun_mk (st := s_read_parts) h_lread_parts h_cdread_parts h_kread_parts
    bi_read_parts := (fun_mk (st := s_read_parts) h_lread_parts h_cdread_parts h_kread_parts).binds (ps := ["reader", "around", "read"]) fun _ _ _ _ _ _ us hl => match us, hl with | [_, _, _], _ => rfl
    mg_read_parts := PySem.W.mg_of X G h_aread_parts
    kp_read_parts := h_kread_parts
    fn_check_depth := fun_mk (st := s_check_depth) h_lcheck_depth h_cdcheck_depth h_kcheck_depth
    bi_check_depth := (fun_mk (st := s_check_depth) h_lcheck_depth h_cdcheck_depth h_kcheck_depth).binds (ps := ["reader", "around"]) fun _ _ _ _ _ _ us hl => match us, hl with | [_, _], _ => rfl
    mg_check_depth := PySem.W.mg_of X G h_acheck_depth
    kp_check_depth := h_kcheck_depth
    fn_read_test := fun_mk (st := s_read_test) h_lread_test h_cdread_test h_kread_test
    bi_read_test := (fun_mk (st := s_read_test) h_lread_test h_cdread_test h_kread_test).binds (ps := ["reader", "around"]) fun _ _ _ _ _ _ us hl => match us, hl with | [_, _], _ => rfl
    mg_read_test := PySem.W.mg_of X G h_aread_test
    kp_read_test := h_kread_test
    fn_read_part := fun_mk (st := s_read_part) h_lread_part h_cdread_part h_kread_part
    bi_read_part := (fun_mk (st := s_read_part) h_lread_part h_cdread_part h_kread_part).binds (ps := ["reader", "around"]) fun _ _ _ _ _ _ us hl => match us, hl with | [_, _], _ => rfl
    mg_read_part := PySem.W.mg_of X G h_aread_part
    kp_read_part := h_kread_part
    fn_read_policy := fun_mk (st := s_read_policy) h_lread_policy h_cdread_policy h_kread_policy
    bi_read_policy := (fun_mk (st := s_read_policy) h_lread_policy h_cdread_policy h_kread_policy).binds (ps := ["text"]) fun _ _ _ _ _ _ us hl => match us, hl with | [_], _ => rfl
    mg_read_policy := PySem.W.mg_of X G h_aread_policy
    kp_read_policy := h_kread_policy
    fn__law_state := fun_mk (st := s__law_state) h_l_law_state h_cd_law_state h_k_law_state
    bi__law_state := (fun_mk (st := s__law_state) h_l_law_state h_cd_law_state h_k_law_state).binds (ps := ["script"]) fun _ _ _ _ _ _ us hl => match us, hl with | [_], _ => rfl
    mg__law_state := PySem.W.mg_of X G h_a_law_state
    kp__law_state := h_k_law_state
    fn__law_draw := fun_mk (st := s__law_draw) h_l_law_draw h_cd_law_draw h_k_law_draw
    bi__law_draw := (fun_mk (st := s__law_draw) h_l_law_draw h_cd_law_draw h_k_law_draw).binds (ps := ["state", "many"]) fun _ _ _ _ _ _ us hl => match us, hl with | [_, _], _ => rfl
    mg__law_draw := PySem.W.mg_of X G h_a_law_draw
    kp__law_draw := h_k_law_draw
    fn__law_test := fun_mk (st := s__law_test) h_l_law_test h_cd_law_test h_k_law_test
    bi__law_test := (fun_mk (st := s__law_test) h_l_law_test h_cd_law_test h_k_law_test).binds (ps := ["state", "deep"]) fun _ _ _ _ _ _ us hl => match us, hl with | [_, _], _ => rfl
    mg__law_test := PySem.W.mg_of X G h_a_law_test
    kp__law_test := h_k_law_test
    fn__law_policy := fun_mk (st := s__law_policy) h_l_law_policy h_cd_law_policy h_k_law_policy
    bi__law_policy := (fun_mk (st := s__law_policy) h_l_law_policy h_cd_law_policy h_k_law_policy).binds (ps := ["state", "deep", "fields"]) fun _ _ _ _ _ _ us hl => match us, hl with | [_, _, _], _ => rfl
    mg__law_policy := PySem.W.mg_of X G h_a_law_policy
    kp__law_policy := h_k_law_policy
    fn__law_show_test := fun_mk (st := s__law_show_test) h_l_law_show_test h_cd_law_show_test h_k_law_show_test
    bi__law_show_test := (fun_mk (st := s__law_show_test) h_l_law_show_test h_cd_law_show_test h_k_law_show_test).binds (ps := ["test"]) fun _ _ _ _ _ _ us hl => match us, hl with | [_], _ => rfl
    mg__law_show_test := PySem.W.mg_of X G h_a_law_show_test
    kp__law_show_test := h_k_law_show_test
    fn__law_show := fun_mk (st := s__law_show) h_l_law_show h_cd_law_show h_k_law_show
    bi__law_show := (fun_mk (st := s__law_show) h_l_law_show h_cd_law_show h_k_law_show).binds (ps := ["policy"]) fun _ _ _ _ _ _ us hl => match us, hl with | [_], _ => rfl
    mg__law_show := PySem.W.mg_of X G h_a_law_show
    kp__law_show := h_k_law_show
    fn__law_number := fun_mk (st := s__law_number) h_l_law_number h_cd_law_number h_k_law_number
    bi__law_number := (fun_mk (st := s__law_number) h_l_law_number h_cd_law_number h_k_law_number).binds (ps := ["text", "at"]) fun _ _ _ _ _ _ us hl => match us, hl with | [_, _], _ => rfl
    mg__law_number := PySem.W.mg_of X G h_a_law_number
    kp__law_number := h_k_law_number
    fn__law_named := fun_mk (st := s__law_named) h_l_law_named h_cd_law_named h_k_law_named
    bi__law_named := (fun_mk (st := s__law_named) h_l_law_named h_cd_law_named h_k_law_named).binds (ps := ["text", "at", "sign"]) fun _ _ _ _ _ _ us hl => match us, hl with | [_, _, _], _ => rfl
    mg__law_named := PySem.W.mg_of X G h_a_law_named
    kp__law_named := h_k_law_named
    fn__law_test_at := fun_mk (st := s__law_test_at) h_l_law_test_at h_cd_law_test_at h_k_law_test_at
    bi__law_test_at := (fun_mk (st := s__law_test_at) h_l_law_test_at h_cd_law_test_at h_k_law_test_at).binds (ps := ["text", "at", "deep"]) fun _ _ _ _ _ _ us hl => match us, hl with | [_, _, _], _ => rfl
    mg__law_test_at := PySem.W.mg_of X G h_a_law_test_at
    kp__law_test_at := h_k_law_test_at
    fn__law_policy_at := fun_mk (st := s__law_policy_at) h_l_law_policy_at h_cd_law_policy_at h_k_law_policy_at
    bi__law_policy_at := (fun_mk (st := s__law_policy_at) h_l_law_policy_at h_cd_law_policy_at h_k_law_policy_at).binds (ps := ["text", "at", "deep"]) fun _ _ _ _ _ _ us hl => match us, hl with | [_, _, _], _ => rfl
    mg__law_policy_at := PySem.W.mg_of X G h_a_law_policy_at
    kp__law_policy_at := h_k_law_policy_at
    fn__law_row := fun_mk (st := s__law_row) h_l_law_row h_cd_law_row h_k_law_row
    bi__law_row := (fun_mk (st := s__law_row) h_l_law_row h_cd_law_row h_k_law_row).binds (ps := ["text", "at", "deep", "tests"]) fun _ _ _ _ _ _ us hl => match us, hl with | [_, _, _, _], _ => rfl
    mg__law_row := PySem.W.mg_of X G h_a_law_row
    kp__law_row := h_k_law_row
    fn__law_due := fun_mk (st := s__law_due) h_l_law_due h_cd_law_due h_k_law_due
    bi__law_due := (fun_mk (st := s__law_due) h_l_law_due h_cd_law_due h_k_law_due).binds (ps := ["text"]) fun _ _ _ _ _ _ us hl => match us, hl with | [_], _ => rfl
    mg__law_due := PySem.W.mg_of X G h_a_law_due
    kp__law_due := h_k_law_due
    fn__law_told := fun_mk (st := s__law_told) h_l_law_told h_cd_law_told h_k_law_told
    bi__law_told := (fun_mk (st := s__law_told) h_l_law_told h_cd_law_told h_k_law_told).binds (ps := ["text"]) fun _ _ _ _ _ _ us hl => match us, hl with | [_], _ => rfl
    mg__law_told := PySem.W.mg_of X G h_a_law_told
    kp__law_told := h_k_law_told
    fn__law_deep := fun_mk (st := s__law_deep) h_l_law_deep h_cd_law_deep h_k_law_deep
    bi__law_deep := (fun_mk (st := s__law_deep) h_l_law_deep h_cd_law_deep h_k_law_deep).binds (ps := ["state", "policy"]) fun _ _ _ _ _ _ us hl => match us, hl with | [_, _], _ => rfl
    mg__law_deep := PySem.W.mg_of X G h_a_law_deep
    kp__law_deep := h_k_law_deep
    fn_law := fun_mk (st := s_law) h_llaw h_cdlaw h_klaw
    bi_law := (fun_mk (st := s_law) h_llaw h_cdlaw h_klaw).binds (ps := ["script"]) fun _ _ _ _ _ _ us hl => match us, hl with | [_], _ => rfl
    mg_law := PySem.W.mg_of X G h_alaw
    kp_law := h_klaw
    mg_FIELD_PLACES := PySem.W.mg_of X G h_gFIELD_PLACES
    ky_FIELD_PLACES := kkeys_mk h_lFIELD_PLACES h_sFIELD_PLACES h_yFIELD_PLACES (.cons ⟨_, rfl⟩ (.cons ⟨_, rfl⟩ (.cons ⟨_, rfl⟩ (.cons ⟨_, rfl⟩ (.cons ⟨_, rfl⟩ .nil)))))
    kd_FIELD_PLACES_switch := ⟨_, _, _, h_lFIELD_PLACES, h_kFIELD_PLACES, h_nFIELD_PLACES_switch, ⟨_, rfl⟩⟩
    kd_FIELD_PLACES_port := ⟨_, _, _, h_lFIELD_PLACES, h_kFIELD_PLACES, h_nFIELD_PLACES_port, ⟨_, rfl⟩⟩
    kd_FIELD_PLACES_src := ⟨_, _, _, h_lFIELD_PLACES, h_kFIELD_PLACES, h_nFIELD_PLACES_src, ⟨_, rfl⟩⟩
    kd_FIELD_PLACES_dst := ⟨_, _, _, h_lFIELD_PLACES, h_kFIELD_PLACES, h_nFIELD_PLACES_dst, ⟨_, rfl⟩⟩
    kd_FIELD_PLACES_kind := ⟨_, _, _, h_lFIELD_PLACES, h_kFIELD_PLACES, h_nFIELD_PLACES_kind, ⟨_, rfl⟩⟩
    mg_MOST_WRITTEN := ⟨_, PySem.W.mg_of X G h_gMOST_WRITTEN⟩
    mg_MOST_DIGITS := ⟨_, PySem.W.mg_of X G h_gMOST_DIGITS⟩
    mg_MOST_AROUND := ⟨_, PySem.W.mg_of X G h_gMOST_AROUND⟩
    mg_DIGITS := ⟨_, PySem.W.mg_of X G h_gDIGITS⟩
    mg_SIGN_OF_IS := ⟨_, PySem.W.mg_of X G h_gSIGN_OF_IS⟩
    mg_SIGN_OF_SET := ⟨_, PySem.W.mg_of X G h_gSIGN_OF_SET⟩
    mg_SEPARATOR := ⟨_, PySem.W.mg_of X G h_gSEPARATOR⟩
    mg_TEST_SIGNS := PySem.W.mg_of X G h_gTEST_SIGNS
    ky_TEST_SIGNS := kkeys_mk h_lTEST_SIGNS h_sTEST_SIGNS h_yTEST_SIGNS (.cons ⟨_, rfl⟩ (.cons ⟨_, rfl⟩ .nil))
    kd_TEST_SIGNS_all := ⟨_, _, _, h_lTEST_SIGNS, h_kTEST_SIGNS, h_nTEST_SIGNS_all, ⟨_, rfl⟩⟩
    kd_TEST_SIGNS_any := ⟨_, _, _, h_lTEST_SIGNS, h_kTEST_SIGNS, h_nTEST_SIGNS_any, ⟨_, rfl⟩⟩
    mg_POLICY_SIGNS := PySem.W.mg_of X G h_gPOLICY_SIGNS
    ky_POLICY_SIGNS := kkeys_mk h_lPOLICY_SIGNS h_sPOLICY_SIGNS h_yPOLICY_SIGNS (.cons ⟨_, rfl⟩ (.cons ⟨_, rfl⟩ .nil))
    kd_POLICY_SIGNS_sum := ⟨_, _, _, h_lPOLICY_SIGNS, h_kPOLICY_SIGNS, h_nPOLICY_SIGNS_sum, ⟨_, rfl⟩⟩
    kd_POLICY_SIGNS_seq := ⟨_, _, _, h_lPOLICY_SIGNS, h_kPOLICY_SIGNS, h_nPOLICY_SIGNS_seq, ⟨_, rfl⟩⟩
    mg_int := PySem.W.mg_none_of X G h_bint
    mg_len := PySem.W.mg_none_of X G h_blen
    mg_str := PySem.W.mg_none_of X G h_bstr
    mg_min := PySem.W.mg_none_of X G h_bmin
    mg_abs := PySem.W.mg_none_of X G h_babs
    mg_range := PySem.W.mg_none_of X G h_brange
    mg_isinstance := PySem.W.mg_none_of X G h_bisinstance
    mg_tuple := PySem.W.mg_none_of X G h_btuple
    mg_repr := PySem.W.mg_none_of X G h_brepr }
  exact ⟨_, fun s v => .of_eq rfl, fun base _ _ => ok_law T⟩
theorem walk {l : PySem.W.OpenLaw} {q : Program} {loose : List Str} {XP : (Str → Option Value) → Heap → Prop} {YP : World → Heap → Prop} {d : DefRec} {K : Params → PySem.W.Frag} (hn : l.most = some 63) (hdf : d.params.defaults = [])
    (hY : ∀ (w : World) (h : Heap), YP w h → (K w.params).In h)
    (F : ∀ (w : World) (mg : Str → Option Value) (fa : Addr) (h : Heap), (K w.params).In h → h.Ns mainGlobals mg → mg d.name = some (.ref fa) →
      ∃ fd : FuncData, (∀ (s : Shared) (u : Value), BindsTo s fd ⟨[u], []⟩ [("script", u)]) ∧ ∀ base : Heap, (K w.params).In base → base.Ns mainGlobals mg → LawRun l.prog w (K w.params) mg base 150 fa fd ["script"] (sp_law (K w.params))) :
    PySem.W.WalkO q loose XP YP l.row.toRowW d [] (fun f vs => PySem.call f vs) :=
  walk_run (n := 63) (k := 150) (x := "script") (sp := fun w => sp_law (K w.params)) hn (by decide) hdf ⟨rfl, by decide, by decide⟩ hY F (fun _ _ a ns hl _ hS => ⟨a, ns, rfl, hS, hl, fun _ => rfl⟩)
end K44

open PySem PySem.W PyProof.Rows in
set_option maxRecDepth 100000 in
set_option maxHeartbeats 0 in
theorem PySem.Challenge.cw_hangbridge_k44_texts_of_policies_holds : PySem.Challenge.rw_hangbridge_k44_texts_of_policies.Holds := by
  w_on; o_law; k_head; (case hw => w_witness2)
  k_fill
  refine K44.walk (l := PySem.Challenge.rw_hangbridge_k44_texts_of_policies) rfl rfl (fun w h Y => PySem.W.kIn_of Y) ?F
  case F =>
    intro w mg fa h KX G hmg
    refine' K44.all_mk (l := PySem.Challenge.rw_hangbridge_k44_texts_of_policies) rfl KX G hmg ?h_cBridgeError ?h_rdBridgeError ?h_gaBridgeError ?h_cvBridgeError ?h_cMisreadError ?h_lkMisreadError ?h_saMisreadError ?h_exMisreadError ?h_tyMisreadError ?h_kcMisreadError ?h_noMisreadError ?h_gaMisreadError ?h_ggMisreadError ?h_hdMisreadError ?h_icMisreadError ?h_scMisreadError ?h_caMisreadError ?h_moMisreadError ?h_gdMisreadError ?h_tkMisreadError ?h_ibMisreadErrorBridgeError ?h_itMisreadErrorBridgeError ?h_isMisreadErrorBridgeError ?h_cReader ?h_pgReader ?h_hdReader ?h_poReader ?h_saReader ?h_mkReader ?h_kcReader ?h_naReader_text ?h_naReader_at ?h_aMisreadError_init ?h_tiMisreadError ?h_lMisreadError_init ?h_cdMisreadError_init ?h_lcMisreadError_init ?h_vsMisreadError_init ?h_fiMisreadError_init ?h_ccMisreadError_init ?h_czMisreadError_init ?h_msMisreadError_init ?h_suMisreadError_init ?h_anMisreadError_init ?h_spMisreadError_init ?h_ivMisreadError_init ?h_tpMisreadError_init ?h_anumber_of ?h_lnumber_of ?h_cdnumber_of ?h_knumber_of ?h_ain_brackets ?h_lin_brackets ?h_cdin_brackets ?h_kin_brackets ?h_ashow_test ?h_lshow_test ?h_cdshow_test ?h_kshow_test ?h_ashow_policy ?h_lshow_policy ?h_cdshow_policy ?h_kshow_policy ?h_aReader_init ?h_iReader_init ?h_lReader_init ?h_cdReader_init ?h_kReader_init ?h_aReader_skip ?h_iReader_skip ?h_lReader_skip ?h_cdReader_skip ?h_kReader_skip ?h_aReader_expect ?h_iReader_expect ?h_lReader_expect ?h_cdReader_expect ?h_kReader_expect ?h_aReader_field ?h_iReader_field ?h_lReader_field ?h_cdReader_field ?h_kReader_field ?h_aReader_number ?h_iReader_number ?h_lReader_number ?h_cdReader_number ?h_kReader_number ?h_aReader_end ?h_iReader_end ?h_lReader_end ?h_cdReader_end ?h_kReader_end ?h_aread_leaf ?h_lread_leaf ?h_cdread_leaf ?h_kread_leaf ?h_aread_parts ?h_lread_parts ?h_cdread_parts ?h_kread_parts ?h_acheck_depth ?h_lcheck_depth ?h_cdcheck_depth ?h_kcheck_depth ?h_aread_test ?h_lread_test ?h_cdread_test ?h_kread_test ?h_aread_part ?h_lread_part ?h_cdread_part ?h_kread_part ?h_aread_policy ?h_lread_policy ?h_cdread_policy ?h_kread_policy ?h_a_law_state ?h_l_law_state ?h_cd_law_state ?h_k_law_state ?h_a_law_draw ?h_l_law_draw ?h_cd_law_draw ?h_k_law_draw ?h_a_law_test ?h_l_law_test ?h_cd_law_test ?h_k_law_test ?h_a_law_policy ?h_l_law_policy ?h_cd_law_policy ?h_k_law_policy ?h_a_law_show_test ?h_l_law_show_test ?h_cd_law_show_test ?h_k_law_show_test ?h_a_law_show ?h_l_law_show ?h_cd_law_show ?h_k_law_show ?h_a_law_number ?h_l_law_number ?h_cd_law_number ?h_k_law_number ?h_a_law_named ?h_l_law_named ?h_cd_law_named ?h_k_law_named ?h_a_law_test_at ?h_l_law_test_at ?h_cd_law_test_at ?h_k_law_test_at ?h_a_law_policy_at ?h_l_law_policy_at ?h_cd_law_policy_at ?h_k_law_policy_at ?h_a_law_row ?h_l_law_row ?h_cd_law_row ?h_k_law_row ?h_a_law_due ?h_l_law_due ?h_cd_law_due ?h_k_law_due ?h_a_law_told ?h_l_law_told ?h_cd_law_told ?h_k_law_told ?h_a_law_deep ?h_l_law_deep ?h_cd_law_deep ?h_k_law_deep ?h_alaw ?h_llaw ?h_cdlaw ?h_klaw ?h_gFIELD_PLACES ?h_lFIELD_PLACES ?h_kFIELD_PLACES ?h_yFIELD_PLACES ?h_sFIELD_PLACES ?h_nFIELD_PLACES_switch ?h_nFIELD_PLACES_port ?h_nFIELD_PLACES_src ?h_nFIELD_PLACES_dst ?h_nFIELD_PLACES_kind ?h_gMOST_WRITTEN ?h_gMOST_DIGITS ?h_gMOST_AROUND ?h_gDIGITS ?h_gSIGN_OF_IS ?h_gSIGN_OF_SET ?h_gSEPARATOR ?h_gTEST_SIGNS ?h_lTEST_SIGNS ?h_kTEST_SIGNS ?h_yTEST_SIGNS ?h_sTEST_SIGNS ?h_nTEST_SIGNS_all ?h_nTEST_SIGNS_any ?h_gPOLICY_SIGNS ?h_lPOLICY_SIGNS ?h_kPOLICY_SIGNS ?h_yPOLICY_SIGNS ?h_sPOLICY_SIGNS ?h_nPOLICY_SIGNS_sum ?h_nPOLICY_SIGNS_seq ?h_bint ?h_blen ?h_bstr ?h_bmin ?h_babs ?h_brange ?h_bisinstance ?h_btuple ?h_brepr
    (case h_cBridgeError => k_is)
    (case h_rdBridgeError => k_is)
    (case h_gaBridgeError => k_is)
    (case h_cvBridgeError => k_is)
    (case h_cMisreadError => k_is)
    (case h_lkMisreadError => k_is)
    (case h_saMisreadError => k_is)
    (case h_exMisreadError => k_is)
    (case h_tyMisreadError => k_is)
    (case h_kcMisreadError => k_is)
    (case h_noMisreadError => k_is)
    (case h_gaMisreadError => k_is)
    (case h_ggMisreadError => k_is)
    (case h_hdMisreadError => k_is)
    (case h_icMisreadError => k_is)
    (case h_scMisreadError => k_is)
    (case h_caMisreadError => k_is)
    (case h_moMisreadError => k_is)
    (case h_gdMisreadError => k_is)
    (case h_tkMisreadError => k_is)
    (case h_ibMisreadErrorBridgeError => k_is)
    (case h_itMisreadErrorBridgeError => k_is)
    (case h_isMisreadErrorBridgeError => k_is)
    (case h_cReader => k_is)
    (case h_pgReader => k_is)
    (case h_hdReader => k_is)
    (case h_poReader => k_is)
    (case h_saReader => k_is)
    (case h_mkReader => k_is)
    (case h_kcReader => k_is)
    (case h_naReader_text => k_is)
    (case h_naReader_at => k_is)
    (case h_aMisreadError_init => k_is)
    (case h_tiMisreadError => k_is)
    (case h_lMisreadError_init => k_is)
    (case h_cdMisreadError_init => k_is)
    (case h_lcMisreadError_init => k_is)
    (case h_vsMisreadError_init => rfl)
    (case h_fiMisreadError_init => first | rfl | decide +kernel)
    (case h_ccMisreadError_init => k_is)
    (case h_czMisreadError_init => k_is)
    (case h_msMisreadError_init => k_is)
    (case h_suMisreadError_init => k_is)
    (case h_anMisreadError_init => k_is)
    (case h_spMisreadError_init => ks_is)
    (case h_ivMisreadError_init => k_is)
    (case h_tpMisreadError_init => first | rfl | decide +kernel)
    (case h_anumber_of => k_is)
    (case h_lnumber_of => k_is)
    (case h_cdnumber_of => k_is)
    (case h_knumber_of => k_is)
    (case h_ain_brackets => k_is)
    (case h_lin_brackets => k_is)
    (case h_cdin_brackets => k_is)
    (case h_kin_brackets => k_is)
    (case h_ashow_test => k_is)
    (case h_lshow_test => k_is)
    (case h_cdshow_test => k_is)
    (case h_kshow_test => k_is)
    (case h_ashow_policy => k_is)
    (case h_lshow_policy => k_is)
    (case h_cdshow_policy => k_is)
    (case h_kshow_policy => k_is)
    (case h_aReader_init => k_is)
    (case h_iReader_init => k_is)
    (case h_lReader_init => k_is)
    (case h_cdReader_init => k_is)
    (case h_kReader_init => k_is)
    (case h_aReader_skip => k_is)
    (case h_iReader_skip => k_is)
    (case h_lReader_skip => k_is)
    (case h_cdReader_skip => k_is)
    (case h_kReader_skip => k_is)
    (case h_aReader_expect => k_is)
    (case h_iReader_expect => k_is)
    (case h_lReader_expect => k_is)
    (case h_cdReader_expect => k_is)
    (case h_kReader_expect => k_is)
    (case h_aReader_field => k_is)
    (case h_iReader_field => k_is)
    (case h_lReader_field => k_is)
    (case h_cdReader_field => k_is)
    (case h_kReader_field => k_is)
    (case h_aReader_number => k_is)
    (case h_iReader_number => k_is)
    (case h_lReader_number => k_is)
    (case h_cdReader_number => k_is)
    (case h_kReader_number => k_is)
    (case h_aReader_end => k_is)
    (case h_iReader_end => k_is)
    (case h_lReader_end => k_is)
    (case h_cdReader_end => k_is)
    (case h_kReader_end => k_is)
    (case h_aread_leaf => k_is)
    (case h_lread_leaf => k_is)
    (case h_cdread_leaf => k_is)
    (case h_kread_leaf => k_is)
    (case h_aread_parts => k_is)
    (case h_lread_parts => k_is)
    (case h_cdread_parts => k_is)
    (case h_kread_parts => k_is)
    (case h_acheck_depth => k_is)
    (case h_lcheck_depth => k_is)
    (case h_cdcheck_depth => k_is)
    (case h_kcheck_depth => k_is)
    (case h_aread_test => k_is)
    (case h_lread_test => k_is)
    (case h_cdread_test => k_is)
    (case h_kread_test => k_is)
    (case h_aread_part => k_is)
    (case h_lread_part => k_is)
    (case h_cdread_part => k_is)
    (case h_kread_part => k_is)
    (case h_aread_policy => k_is)
    (case h_lread_policy => k_is)
    (case h_cdread_policy => k_is)
    (case h_kread_policy => k_is)
    (case h_a_law_state => k_is)
    (case h_l_law_state => k_is)
    (case h_cd_law_state => k_is)
    (case h_k_law_state => k_is)
    (case h_a_law_draw => k_is)
    (case h_l_law_draw => k_is)
    (case h_cd_law_draw => k_is)
    (case h_k_law_draw => k_is)
    (case h_a_law_test => k_is)
    (case h_l_law_test => k_is)
    (case h_cd_law_test => k_is)
    (case h_k_law_test => k_is)
    (case h_a_law_policy => k_is)
    (case h_l_law_policy => k_is)
    (case h_cd_law_policy => k_is)
    (case h_k_law_policy => k_is)
    (case h_a_law_show_test => k_is)
    (case h_l_law_show_test => k_is)
    (case h_cd_law_show_test => k_is)
    (case h_k_law_show_test => k_is)
    (case h_a_law_show => k_is)
    (case h_l_law_show => k_is)
    (case h_cd_law_show => k_is)
    (case h_k_law_show => k_is)
    (case h_a_law_number => k_is)
    (case h_l_law_number => k_is)
    (case h_cd_law_number => k_is)
    (case h_k_law_number => k_is)
    (case h_a_law_named => k_is)
    (case h_l_law_named => k_is)
    (case h_cd_law_named => k_is)
    (case h_k_law_named => k_is)
    (case h_a_law_test_at => k_is)
    (case h_l_law_test_at => k_is)
    (case h_cd_law_test_at => k_is)
    (case h_k_law_test_at => k_is)
    (case h_a_law_policy_at => k_is)
    (case h_l_law_policy_at => k_is)
    (case h_cd_law_policy_at => k_is)
    (case h_k_law_policy_at => k_is)
    (case h_a_law_row => k_is)
    (case h_l_law_row => k_is)
    (case h_cd_law_row => k_is)
    (case h_k_law_row => k_is)
    (case h_a_law_due => k_is)
    (case h_l_law_due => k_is)
    (case h_cd_law_due => k_is)
    (case h_k_law_due => k_is)
    (case h_a_law_told => k_is)
    (case h_l_law_told => k_is)
    (case h_cd_law_told => k_is)
    (case h_k_law_told => k_is)
    (case h_a_law_deep => k_is)
    (case h_l_law_deep => k_is)
    (case h_cd_law_deep => k_is)
    (case h_k_law_deep => k_is)
    (case h_alaw => k_is)
    (case h_llaw => k_is)
    (case h_cdlaw => k_is)
    (case h_klaw => k_is)
    (case h_gFIELD_PLACES => k_is)
    (case h_lFIELD_PLACES => k_is)
    (case h_kFIELD_PLACES => repeat' first | exact True.intro | exact ⟨_, _, rfl, rfl⟩ | constructor)
    (case h_yFIELD_PLACES => rfl)
    (case h_sFIELD_PLACES => first | rfl | decide +kernel)
    (case h_nFIELD_PLACES_switch => k_is)
    (case h_nFIELD_PLACES_port => k_is)
    (case h_nFIELD_PLACES_src => k_is)
    (case h_nFIELD_PLACES_dst => k_is)
    (case h_nFIELD_PLACES_kind => k_is)
    (case h_gMOST_WRITTEN => k_is)
    (case h_gMOST_DIGITS => k_is)
    (case h_gMOST_AROUND => k_is)
    (case h_gDIGITS => k_is)
    (case h_gSIGN_OF_IS => k_is)
    (case h_gSIGN_OF_SET => k_is)
    (case h_gSEPARATOR => k_is)
    (case h_gTEST_SIGNS => k_is)
    (case h_lTEST_SIGNS => k_is)
    (case h_kTEST_SIGNS => repeat' first | exact True.intro | exact ⟨_, _, rfl, rfl⟩ | constructor)
    (case h_yTEST_SIGNS => rfl)
    (case h_sTEST_SIGNS => first | rfl | decide +kernel)
    (case h_nTEST_SIGNS_all => k_is)
    (case h_nTEST_SIGNS_any => k_is)
    (case h_gPOLICY_SIGNS => k_is)
    (case h_lPOLICY_SIGNS => k_is)
    (case h_kPOLICY_SIGNS => repeat' first | exact True.intro | exact ⟨_, _, rfl, rfl⟩ | constructor)
    (case h_yPOLICY_SIGNS => rfl)
    (case h_sPOLICY_SIGNS => first | rfl | decide +kernel)
    (case h_nPOLICY_SIGNS_sum => k_is)
    (case h_nPOLICY_SIGNS_seq => k_is)
    (case h_bint => k_is)
    (case h_blen => k_is)
    (case h_bstr => k_is)
    (case h_bmin => k_is)
    (case h_babs => k_is)
    (case h_brange => k_is)
    (case h_bisinstance => k_is)
    (case h_btuple => k_is)
    (case h_brepr => k_is)
