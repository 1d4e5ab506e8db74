import PyProof.Rows.All
import Wide.All
import OpenK.AllK
import Wide.FinOn
import HandS.ForMost
import HandS.Flow
import HandS.More
import HandS.IsInst
import HandS.Wide
import HandS.Style
import HandS.FStr
import HandS.Exc
import HandS.ExcInit
import HandS.ExcOwn
import HandS.ExcField
import HandS.ExcIs
import HandS.ClsMeth
import HandS.Codes
import HandS.TryOnly
import HandS.WordsExc
import KE.KExcIs
import KE.KIsAll
import KE.KExcSuper
import HandS.Small
import KE.KeyNested
import KE.KDictKeyed
import HandS.SortOrd
import HandS.SortRule
import HandS.Dict
import HandS.Iter
import HandS.Conv
import HandS.Deep
import KE.DataMinMax
import KE.SortData
import HandS.TupSets
import HandS.SetBool
import HandS.Zip
import HandS.Star
import HandS.SetKeys
import HandS.DictComp
import HandS.SortInts
import PyProof.ReprRoads
import PyProof.ReprLen
import PyProof.ReprBulk
import HandS.TupAny
import HandS.List
import KE.DataCmp
import KE.KIndexOf
import HandS.SortKw
import KE.KDictCopyH
import HandS.TupLen
import HandS.FStrTup
import KE.KUnpackStar
import KE.GoesZip
import KE.GoesMore
import HandS.Text
import HandS.StrMore
import HandS.NoneIn
import HandS.RaiseMore
import HandS.Steps
import HandS.CallLocal
import KE.KEqDict
import PyProof.DictFindH
import PyProof.EvalArms
import KE.KDictZip
import HandS.GenList
import HandS.StrSplit
import PySem.Challenge.RW_hangbridge_k51_loads_and_safe_steps
set_option Elab.async false
set_option maxRecDepth 100000
set_option maxHeartbeats 4000000
/-! A heap as what stood and what is our own; steps of readings over it. -/
namespace Hb
open PySem L2

/-- B stood and is kept; L are our own objects, each once -/
structure Hs (B : Hp) (L : List (Addr × HO)) (H : Hp) : Prop where
  same : Same B H
  nd : (L.map (·.1)).Nodup
  out : ∀ e ∈ L, B e.1 = none
  at_ : ∀ e ∈ L, H e.1 = some e.2

section
variable {B H H' : Hp} {L R A : List (Addr × HO)} {p l : Addr} {o o' : HO} {i : Nat}
theorem Hs.start (H : Hp) : Hs H [] H := ⟨Same.refl H, List.nodup_nil, (fun _ h => nomatch h), (fun _ h => nomatch h)⟩
theorem Hs.of_same (h : Same B H) : Hs B [] H := ⟨h, List.nodup_nil, (fun _ h => nomatch h), (fun _ h => nomatch h)⟩
theorem Hs.get (hs : Hs B L H) (h : L[i]? = some (p, o)) : H p = some o := hs.at_ (p, o) (List.mem_of_getElem? h)
theorem Hs.mem (hs : Hs B L H) (h : (p, o) ∈ L) : H p = some o := hs.at_ (p, o) h
theorem Hs.g0 (hs : Hs B ((p, o) :: L) H) : H p = some o := hs.get (i := 0) rfl
theorem Hs.g1 {x} (hs : Hs B (x :: (p, o) :: L) H) : H p = some o := hs.get (i := 1) rfl
theorem Hs.g2 {x y} (hs : Hs B (x :: y :: (p, o) :: L) H) : H p = some o := hs.get (i := 2) rfl
theorem Hs.g3 {x y z} (hs : Hs B (x :: y :: z :: (p, o) :: L) H) : H p = some o := hs.get (i := 3) rfl
theorem Hs.g4 {x y z w} (hs : Hs B (x :: y :: z :: w :: (p, o) :: L) H) : H p = some o := hs.get (i := 4) rfl
theorem Hs.g5 {x y z w v} (hs : Hs B (x :: y :: z :: w :: v :: (p, o) :: L) H) : H p = some o := hs.get (i := 5) rfl
theorem Hs.g6 {x y z w v u} (hs : Hs B (x :: y :: z :: w :: v :: u :: (p, o) :: L) H) : H p = some o := hs.get (i := 6) rfl
theorem Hs.g7 {x y z w v u t} (hs : Hs B (x :: y :: z :: w :: v :: u :: t :: (p, o) :: L) H) : H p = some o := hs.get (i := 7) rfl
theorem Hs.g8 {x y z w v u t s} (hs : Hs B (x :: y :: z :: w :: v :: u :: t :: s :: (p, o) :: L) H) : H p = some o := hs.get (i := 8) rfl
theorem Hs.g9 {x y z w v u t s r} (hs : Hs B (x :: y :: z :: w :: v :: u :: t :: s :: r :: (p, o) :: L) H) : H p = some o := hs.get (i := 9) rfl
theorem Hs.g10 {x y z w v u t s r q} (hs : Hs B (x :: y :: z :: w :: v :: u :: t :: s :: r :: q :: (p, o) :: L) H) : H p = some o := hs.get (i := 10) rfl
theorem Hs.g11 {x y z w v u t s r q n} (hs : Hs B (x :: y :: z :: w :: v :: u :: t :: s :: r :: q :: n :: (p, o) :: L) H) : H p = some o := hs.get (i := 11) rfl
theorem Hs.g12 {x y z w v u t s r q n m} (hs : Hs B (x :: y :: z :: w :: v :: u :: t :: s :: r :: q :: n :: m :: (p, o) :: L) H) : H p = some o := hs.get (i := 12) rfl
theorem Hs.g13 {x y z w v u t s r q n m k} (hs : Hs B (x :: y :: z :: w :: v :: u :: t :: s :: r :: q :: n :: m :: k :: (p, o) :: L) H) : H p = some o := hs.get (i := 13) rfl
theorem Hs.g14 {x y z w v u t s r q n m k j} (hs : Hs B (x :: y :: z :: w :: v :: u :: t :: s :: r :: q :: n :: m :: k :: j :: (p, o) :: L) H) : H p = some o := hs.get (i := 14) rfl
theorem Hs.g15 {x y z w v u t s r q n m k j h} (hs : Hs B (x :: y :: z :: w :: v :: u :: t :: s :: r :: q :: n :: m :: k :: j :: h :: (p, o) :: L) H) : H p = some o := hs.get (i := 15) rfl
theorem Hs.sql {K : PySem.W.Frag} {xs : List V} (hs : Hs B L H) (h : SqL K B p xs) : SqL K H p xs := hs.same.seq h
theorem Hs.old (hs : Hs B L H) (h : B p = some o) : H p = some o := hs.same _ _ h
theorem Hs.fresh (hs : Hs B L H) (h : H p = none) : p ∉ L.map (·.1) := fun m => by
  obtain ⟨e, he, rfl⟩ := List.mem_map.mp m
  rw [hs.at_ e he] at h
  cases h
/-- a new object -/
theorem Hs.new (hs : Hs B L H) (h : H p = none) : Hs B ((p, o) :: L) (upd H p o) := by
  have hf := hs.fresh h
  refine ⟨fun b u e => ?_, ?_, fun e he => ?_, fun e he => ?_⟩
  · rw [upd_ne (ne_of_none (hs.same b u e) h)]
    exact hs.same b u e
  · rw [List.map_cons, List.nodup_cons]
    exact ⟨hf, hs.nd⟩
  · rcases List.mem_cons.mp he with rfl | he
    · exact hs.same.free h
    · exact hs.out e he
  · rcases List.mem_cons.mp he with rfl | he
    · exact upd_same
    · rw [upd_ne (ne_of_none (hs.at_ e he) h)]
      exact hs.at_ e he
theorem set_fst : ∀ {L : List (Addr × HO)} {i : Nat} {p : Addr} {o o' : HO}, L[i]? = some (p, o) → (L.set i (p, o')).map (·.1) = L.map (·.1)
  | [], _, _, _, _, h => by simp at h
  | x :: L, 0, p, o, o', h => by
    have e : x = (p, o) := by simpa using h
    subst e
    rfl
  | x :: L, i + 1, p, o, o', h => by
    have := set_fst (L := L) (i := i) (o' := o') (by simpa using h)
    show _ :: ((L.set i (p, o')).map (·.1)) = _ :: L.map (·.1)
    rw [this]
theorem nd_only : ∀ {L : List (Addr × HO)} {e : Addr × HO} {i : Nat} {p : Addr} {o o' : HO}, (L.map (·.1)).Nodup → L[i]? = some (p, o) → e ∈ L.set i (p, o') → e = (p, o') ∨ (e ∈ L ∧ e.1 ≠ p)
  | [], _, _, _, _, _, _, h, _ => by simp at h
  | x :: L, e, 0, p, o, o', nd, h, m => by
    have ex : x = (p, o) := by simpa using h
    subst ex
    rcases List.mem_cons.mp m with rfl | m
    · exact .inl rfl
    · refine .inr ⟨List.mem_cons_of_mem _ m, fun q => ?_⟩
      rw [List.map_cons, List.nodup_cons] at nd
      exact nd.1 (List.mem_map.mpr ⟨e, m, q⟩)
  | x :: L, e, i + 1, p, o, o', nd, h, m => by
    rw [List.map_cons, List.nodup_cons] at nd
    have h' : L[i]? = some (p, o) := by simpa using h
    rcases List.mem_cons.mp m with rfl | m
    · refine .inr ⟨List.mem_cons_self, fun q => ?_⟩
      exact nd.1 (List.mem_map.mpr ⟨(p, o), List.mem_of_getElem? h', q.symm⟩)
    · rcases nd_only nd.2 h' m with r | ⟨r, q⟩
      · exact .inl r
      · exact .inr ⟨List.mem_cons_of_mem _ r, q⟩
/-- a store to one's own object -/
theorem Hs.put (hs : Hs B L H) (h : L[i]? = some (p, o)) : Hs B (L.set i (p, o')) (upd H p o') := by
  have hp : B p = none := hs.out (p, o) (List.mem_of_getElem? h)
  refine ⟨fun b u e => ?_, ?_, fun e he => ?_, fun e he => ?_⟩
  · have n : b ≠ p := fun q => by
      rw [q, hp] at e
      cases e
    rw [upd_ne n]
    exact hs.same b u e
  · rw [set_fst h]
    exact hs.nd
  · rcases nd_only hs.nd h he with rfl | ⟨m, _⟩
    · exact hp
    · exact hs.out e m
  · rcases nd_only hs.nd h he with rfl | ⟨m, q⟩
    · exact upd_same
    · rw [upd_ne q]
      exact hs.at_ e m
theorem Hs.p0 (o' : HO) (hs : Hs B ((p, o) :: L) H) : Hs B ((p, o') :: L) (upd H p o') := hs.put (i := 0) rfl
theorem Hs.p1 (o' : HO) {x} (hs : Hs B (x :: (p, o) :: L) H) : Hs B (x :: (p, o') :: L) (upd H p o') := hs.put (i := 1) rfl
theorem Hs.p2 (o' : HO) {x y} (hs : Hs B (x :: y :: (p, o) :: L) H) : Hs B (x :: y :: (p, o') :: L) (upd H p o') := hs.put (i := 2) rfl
theorem Hs.p3 (o' : HO) {x y z} (hs : Hs B (x :: y :: z :: (p, o) :: L) H) : Hs B (x :: y :: z :: (p, o') :: L) (upd H p o') := hs.put (i := 3) rfl
theorem Hs.p4 (o' : HO) {x y z w} (hs : Hs B (x :: y :: z :: w :: (p, o) :: L) H) : Hs B (x :: y :: z :: w :: (p, o') :: L) (upd H p o') := hs.put (i := 4) rfl
theorem Hs.p5 (o' : HO) {x y z w v} (hs : Hs B (x :: y :: z :: w :: v :: (p, o) :: L) H) : Hs B (x :: y :: z :: w :: v :: (p, o') :: L) (upd H p o') := hs.put (i := 5) rfl
theorem Hs.p6 (o' : HO) {x y z w v u} (hs : Hs B (x :: y :: z :: w :: v :: u :: (p, o) :: L) H) : Hs B (x :: y :: z :: w :: v :: u :: (p, o') :: L) (upd H p o') := hs.put (i := 6) rfl
theorem Hs.p7 (o' : HO) {x y z w v u t} (hs : Hs B (x :: y :: z :: w :: v :: u :: t :: (p, o) :: L) H) : Hs B (x :: y :: z :: w :: v :: u :: t :: (p, o') :: L) (upd H p o') := hs.put (i := 7) rfl
/-- L with o' in the place of o at p -/
inductive Put : List (Addr × HO) → Addr → HO → HO → List (Addr × HO) → Prop
  | here {p : Addr} {o o' : HO} {L : List (Addr × HO)} : Put ((p, o) :: L) p o o' ((p, o') :: L)
  | there {p : Addr} {o o' : HO} {x : Addr × HO} {L L' : List (Addr × HO)} : Put L p o o' L' → Put (x :: L) p o o' (x :: L')
theorem Put.ix {L' : List (Addr × HO)} (h : Put L p o o' L') : ∃ i : Nat, L[i]? = some (p, o) ∧ L' = L.set i (p, o') := by
  induction h with
  | here => exact ⟨0, rfl, rfl⟩
  | there _ ih =>
    obtain ⟨i, h1, h2⟩ := ih
    exact ⟨i + 1, by simpa using h1, by rw [h2]; rfl⟩
theorem Hs.puts {L' : List (Addr × HO)} (hs : Hs B L H) (h : Put L p o o' L') : Hs B L' (upd H p o') := by
  obtain ⟨i, h1, rfl⟩ := h.ix
  exact hs.put h1
theorem Hs.gets {L' : List (Addr × HO)} (hs : Hs B L H) (h : Put L p o o' L') : H p = some o := by
  obtain ⟨i, h1, _⟩ := h.ix
  exact hs.get h1
/-- any part of our own, in any order -/
theorem Hs.sub (hs : Hs B L H) (h : R.Sublist L) : Hs B R H :=
  ⟨hs.same, hs.nd.sublist (h.map _), fun e he => hs.out e (h.subset he), fun e he => hs.at_ e (h.subset he)⟩
theorem Hs.perm (hs : Hs B L H) (h : R.Perm L) : Hs B R H :=
  ⟨hs.same, (h.map (·.1)).nodup_iff.mpr hs.nd, fun e he => hs.out e (h.subset he), fun e he => hs.at_ e (h.subset he)⟩
theorem Hs.tl {x} (hs : Hs B (x :: L) H) : Hs B L H := hs.sub (List.sublist_cons_self _ _)
/-- the i-th ahead -/
theorem up_perm : ∀ {L : List (Addr × HO)} {i : Nat} {x : Addr × HO}, L[i]? = some x → (x :: L.eraseIdx i).Perm L
  | [], _, _, h => by simp at h
  | y :: L, 0, x, h => by
    have e : y = x := by simpa using h
    subst e
    exact .refl _
  | y :: L, i + 1, x, h => (List.Perm.swap y x _).trans ((up_perm (L := L) (i := i) (by simpa using h)).cons y)
theorem Hs.up (i : Nat) (hs : Hs B L H) {x} (h : L[i]? = some x := by rfl) : Hs B (x :: L.eraseIdx i) H := by
  exact hs.perm (up_perm h)
theorem Hs.del (i : Nat) (hs : Hs B L H) : Hs B (L.eraseIdx i) H := hs.sub (List.eraseIdx_sublist _ _)
theorem Hs.m1 {a b} (hs : Hs B (a :: b :: L) H) : Hs B (b :: a :: L) H := hs.up 1
theorem Hs.m2 {a b c} (hs : Hs B (a :: b :: c :: L) H) : Hs B (c :: a :: b :: L) H := hs.up 2
theorem Hs.m3 {a b c d} (hs : Hs B (a :: b :: c :: d :: L) H) : Hs B (d :: a :: b :: c :: L) H := hs.up 3
theorem Hs.m4 {a b c d e} (hs : Hs B (a :: b :: c :: d :: e :: L) H) : Hs B (e :: a :: b :: c :: d :: L) H := hs.up 4
theorem Hs.m5 {a b c d e f} (hs : Hs B (a :: b :: c :: d :: e :: f :: L) H) : Hs B (f :: a :: b :: c :: d :: e :: L) H := hs.up 5
theorem Hs.m6 {a b c d e f g} (hs : Hs B (a :: b :: c :: d :: e :: f :: g :: L) H) : Hs B (g :: a :: b :: c :: d :: e :: f :: L) H := hs.up 6
theorem Hs.m7 {a b c d e f g h} (hs : Hs B (a :: b :: c :: d :: e :: f :: g :: h :: L) H) : Hs B (h :: a :: b :: c :: d :: e :: f :: g :: L) H := hs.up 7
theorem Hs.d1 {a b} (hs : Hs B (a :: b :: L) H) : Hs B (a :: L) H := hs.del 1
theorem Hs.d2 {a b c} (hs : Hs B (a :: b :: c :: L) H) : Hs B (a :: b :: L) H := hs.del 2
theorem Hs.d3 {a b c d} (hs : Hs B (a :: b :: c :: d :: L) H) : Hs B (a :: b :: c :: L) H := hs.del 3
theorem Hs.d4 {a b c d e} (hs : Hs B (a :: b :: c :: d :: e :: L) H) : Hs B (a :: b :: c :: d :: L) H := hs.del 4
theorem Hs.d5 {a b c d e f} (hs : Hs B (a :: b :: c :: d :: e :: f :: L) H) : Hs B (a :: b :: c :: d :: e :: L) H := hs.del 5
theorem Hs.d6 {a b c d e f g} (hs : Hs B (a :: b :: c :: d :: e :: f :: g :: L) H) : Hs B (a :: b :: c :: d :: e :: f :: L) H := hs.del 6
theorem sel_mem {idx : List Nat} {e : Addr × HO} (h : e ∈ idx.filterMap (fun i => L[i]?)) : ∃ i ∈ idx, L[i]? = some e := by
  obtain ⟨i, hi, e⟩ := List.mem_filterMap.mp h
  exact ⟨i, hi, e⟩
theorem sel_nd (nd : (L.map (·.1)).Nodup) : ∀ {idx : List Nat}, idx.Nodup → ((idx.filterMap (fun i => L[i]?)).map (·.1)).Nodup
  | [], _ => List.nodup_nil
  | i :: idx, h => by
    rw [List.nodup_cons] at h
    rw [List.filterMap_cons]
    cases e : L[i]? with
    | none => exact sel_nd nd h.2
    | some x =>
      rw [List.map_cons, List.nodup_cons]
      refine ⟨fun m => ?_, sel_nd nd h.2⟩
      obtain ⟨y, hy, q⟩ := List.mem_map.mp m
      obtain ⟨j, hj, ej⟩ := sel_mem hy
      have a : (L.map (·.1))[i]? = some x.1 := by rw [List.getElem?_map, e]; rfl
      have b : (L.map (·.1))[j]? = some x.1 := by rw [List.getElem?_map, ej]; exact congrArg some q
      rw [nd_ix nd a b] at h
      exact h.1 hj
/-- some of our own, by places -/
theorem Hs.sel (hs : Hs B L H) (idx : List Nat) (h : idx.Nodup := by decide) : Hs B (idx.filterMap (fun i => L[i]?)) H :=
  ⟨hs.same, sel_nd hs.nd h, fun e he => by
    obtain ⟨i, _, q⟩ := sel_mem he
    exact hs.out e (List.mem_of_getElem? q), fun e he => by
    obtain ⟨i, _, q⟩ := sel_mem he
    exact hs.at_ e (List.mem_of_getElem? q)⟩
/-- a callee that owns A; what else is ours stands for it -/
def around (A : List (Addr × HO)) (H : Hp) : Hp := fun a => if a ∈ A.map (·.1) then none else H a
theorem around_out {a : Addr} (h : a ∉ A.map (·.1)) : around A H a = H a := if_neg h
theorem Hs.frame (A : List (Addr × HO)) (hs : Hs B (A ++ R) H) : Same B (around A H) ∧ Hs (around A H) A H ∧ ∀ A' H', Hs (around A H) A' H' → Hs B (A' ++ R) H' := by
  have nd := hs.nd
  rw [List.map_append, List.nodup_append] at nd
  obtain ⟨n1, n2, n3⟩ := nd
  have sb : Same B (around A H) := fun b u e => by
    rw [around_out fun m => ?_]
    · exact hs.same b u e
    · obtain ⟨z, hz, rfl⟩ := List.mem_map.mp m
      rw [hs.out z (List.mem_append_left _ hz)] at e
      cases e
  refine ⟨sb, ⟨fun b u e => ?_, n1, fun e he => if_pos (List.mem_map.mpr ⟨e, he, rfl⟩), fun e he => hs.at_ e (List.mem_append_left _ he)⟩, fun A' H' h => ?_⟩
  · unfold around at e
    split at e
    · cases e
    · exact e
  · have fr : ∀ e ∈ R, around A H e.1 = some e.2 := fun e he => by
      rw [around_out fun m => n3 _ m _ (List.mem_map.mpr ⟨e, he, rfl⟩) rfl]
      exact hs.at_ e (List.mem_append_right _ he)
    refine ⟨fun b u e => h.same b u (sb b u e), ?_, fun e he => ?_, fun e he => ?_⟩
    · rw [List.map_append, List.nodup_append]
      refine ⟨h.nd, n2, fun a ha b hb q => ?_⟩
      subst q
      obtain ⟨x, hx, rfl⟩ := List.mem_map.mp ha
      obtain ⟨y, hy, q⟩ := List.mem_map.mp hb
      have h1 := h.out x hx
      have h2 := fr y hy
      rw [q, h1] at h2
      cases h2
    · rcases List.mem_append.mp he with he | he
      · exact sb.free (h.out e he)
      · exact hs.out e (List.mem_append_right _ he)
    · rcases List.mem_append.mp he with he | he
      · exact h.at_ e he
      · exact h.same _ _ (fr e he)
theorem Hs.frame1 {x} (hs : Hs B (x :: R) H) : ∃ B', Same B B' ∧ Hs B' [x] H ∧ ∀ A' H', Hs B' A' H' → Hs B (A' ++ R) H' := ⟨_, hs.frame [x]⟩
theorem Hs.frame2 {x y} (hs : Hs B (x :: y :: R) H) : ∃ B', Same B B' ∧ Hs B' [x, y] H ∧ ∀ A' H', Hs B' A' H' → Hs B (A' ++ R) H' := ⟨_, hs.frame [x, y]⟩
theorem Hs.frame3 {x y z} (hs : Hs B (x :: y :: z :: R) H) : ∃ B', Same B B' ∧ Hs B' [x, y, z] H ∧ ∀ A' H', Hs B' A' H' → Hs B (A' ++ R) H' := ⟨_, hs.frame [x, y, z]⟩
theorem Hs.frame4 {x y z w} (hs : Hs B (x :: y :: z :: w :: R) H) : ∃ B', Same B B' ∧ Hs B' [x, y, z, w] H ∧ ∀ A' H', Hs B' A' H' → Hs B (A' ++ R) H' := ⟨_, hs.frame [x, y, z, w]⟩
theorem Hs.frame5 {x y z w v} (hs : Hs B (x :: y :: z :: w :: v :: R) H) : ∃ B', Same B B' ∧ Hs B' [x, y, z, w, v] H ∧ ∀ A' H', Hs B' A' H' → Hs B (A' ++ R) H' := ⟨_, hs.frame [x, y, z, w, v]⟩
theorem Hs.frame6 {x y z w v u} (hs : Hs B (x :: y :: z :: w :: v :: u :: R) H) : ∃ B', Same B B' ∧ Hs B' [x, y, z, w, v, u] H ∧ ∀ A' H', Hs B' A' H' → Hs B (A' ++ R) H' := ⟨_, hs.frame [x, y, z, w, v, u]⟩
/-- a callee that only makes objects -/
theorem Hs.add {N : List (Addr × HO)} (hs : Hs B L H) (h : Hs H N H') : Hs B (N ++ L) H' := by
  refine ⟨fun b u e => h.same b u (hs.same b u e), ?_, fun e he => ?_, fun e he => ?_⟩
  · rw [List.map_append, List.nodup_append]
    refine ⟨h.nd, hs.nd, fun a ha b hb q => ?_⟩
    subst q
    obtain ⟨x, hx, rfl⟩ := List.mem_map.mp ha
    obtain ⟨y, hy, q⟩ := List.mem_map.mp hb
    have h1 := h.out x hx
    have h2 := hs.at_ y hy
    rw [q, h1] at h2
    cases h2
  · rcases List.mem_append.mp he with he | he
    · exact hs.same.free (h.out e he)
    · exact hs.out e he
  · rcases List.mem_append.mp he with he | he
    · exact h.at_ e he
    · exact h.same _ _ (hs.at_ e he)
/-- a new object that nobody changes any more: it stands -/
theorem Hs.freeze (hs : Hs B ((p, o) :: L) H) : Same B (upd B p o) ∧ Hs (upd B p o) L H := by
  have hp := hs.out (p, o) List.mem_cons_self
  have nd := hs.nd
  rw [List.map_cons, List.nodup_cons] at nd
  refine ⟨fun b u e => ?_, ⟨fun b u e => ?_, nd.2, fun e he => ?_, fun e he => hs.at_ e (List.mem_cons_of_mem _ he)⟩⟩
  · rw [upd_ne (ne_of_none e hp)]
    exact e
  · unfold upd at e
    split at e
    · next q =>
      subst q
      cases e
      exact hs.g0
    · exact hs.same b u e
  · have n : e.1 ≠ p := fun q => nd.1 (by rw [← q]; exact List.mem_map.mpr ⟨e, he, rfl⟩)
    rw [upd_ne n]
    exact hs.out e (List.mem_cons_of_mem _ he)
end

/-! ### steps: a reading's head, what is left -/
section
variable {K : PySem.W.Frag} {σ : St} {H : Hp} {Q : VK} {D : Ends} {ta tb tc te tv to ti : TE} {t u tr : TS} {c d : TT} {r r' : R2} {g : TG} {i : Nat} {v x y : V} {E : XK} {ts : TA} {f m : Str} {p : Addr}
theorem w_var (h : σ[i]? = some (some v)) (q : Q v H) : tVar i σ H Q := ⟨v, h, q⟩
theorem w_c (q : Q v H) : tC v σ H Q := q
theorem w_seq (q : t { D with nx := u D } σ H) : tSeq t u D σ H := q
theorem w_next (q : D.nx σ H) : tNext D σ H := q
theorem w_brk (q : D.bk σ H) : tBreak D σ H := q
theorem w_cont (q : D.ct σ H) : tCont D σ H := q
theorem w_drop (q : te σ H fun _ H1 => D.nx σ H1) : tDrop te D σ H := q
theorem w_ret (q : te σ H D.rt) : tRet te D σ H := q
theorem w_retN (q : D.rt .non H) : tRetN D σ H := q
theorem w_asg (q : te σ H fun x H1 => g x σ H1 D.nx) : tAsg te g D σ H := q
theorem w_name {Q : St → Hp → Prop} (q : Q (σ.set i (some v)) H) : gName i v σ H Q := q
theorem w_if (q : c σ H fun b H1 => if b = true then t D σ H1 else u D σ H1) : tIfS c t u D σ H := q
theorem w_test {Q : Bool → Hp → Prop} (q : te σ H fun x H1 => ∃ k, x = .bl k ∧ Q k H1) : tTest te σ H Q := q
theorem w_B {Q : Bool → Hp → Prop} (q : te σ H fun x H1 => ∃ k, x = .bl k ∧ Q k H1) : tB te σ H Q := q
theorem w_exb {b : Bool} {P : Bool → Prop} (q : P b) : ∃ k, V.bl b = .bl k ∧ P k := ⟨b, rfl, q⟩
theorem w_not {Q : Bool → Hp → Prop} (q : c σ H fun b H1 => Q (!b) H1) : tNot c σ H Q := q
theorem w_and {Q : Bool → Hp → Prop} (q : c σ H fun b H1 => if b = true then d σ H1 Q else Q false H1) : tAnd c d σ H Q := q
theorem w_or {Q : Bool → Hp → Prop} (q : c σ H fun b H1 => if b = true then Q true H1 else d σ H1 Q) : tOr c d σ H Q := q
theorem w_andV (q : ta σ H fun x H1 => ∃ k, x = .bl k ∧ if k = true then tb σ H1 Q else Q (.bl false) H1) : tAndV ta tb σ H Q := q
theorem w_orV (q : ta σ H fun x H1 => ∃ k, x = .bl k ∧ if k = true then Q (.bl true) H1 else tb σ H1 Q) : tOrV ta tb σ H Q := q
theorem w_notV (q : ta σ H fun x H1 => ∃ k, x = .bl k ∧ Q (.bl (!k)) H1) : tNotV ta σ H Q := q
theorem w_ifE (q : c σ H fun b H1 => if b = true then ta σ H1 Q else tb σ H1 Q) : tIf c ta tb σ H Q := q
theorem w_op (q : ta σ H fun x H1 => tb σ H1 fun y H2 => r x y H2 Q) : tOp r ta tb σ H Q := q
theorem w_un {r : V → Hp → VK → Prop} (q : ta σ H fun x H1 => r x H1 Q) : tUn r ta σ H Q := q
theorem w_chain (q : ta σ H fun x H1 => tb σ H1 fun y H2 => r x y H2 fun z H3 => ∃ k, z = .bl k ∧ if k = true then tc σ H3 fun w H4 => r' y w H4 Q else Q (.bl false) H3) : tChain r r' ta tb tc σ H Q := q
theorem w_I0 {g : Int → Int → V} {a b : Int} (q : Q (g a b) H) : rI0 g (.int a) (.int b) H Q := ⟨a, b, rfl, rfl, q⟩
theorem w_I {C : Int → Int → Prop} {g : Int → Int → V} {a b : Int} (h : C a b) (q : Q (g a b) H) : rI C g (.int a) (.int b) H Q := ⟨a, b, rfl, rfl, h, q⟩
theorem w_U {g : Int → V} {a : Int} (q : Q (g a) H) : rU g (.int a) H Q := ⟨a, rfl, q⟩
theorem w_eqI {a b : Int} (q : Q (.bl (decide (a = b))) H) : rEq (.int a) (.int b) H Q := ⟨rfl, by
  have e : decide (V.int a = V.int b) = decide (a = b) := by
    rw [dec_int]
    by_cases h : a = b
    · rw [decide_eq_true h]
      exact beq_iff_eq.mpr h
    · rw [decide_eq_false h]
      exact beq_eq_false_iff_ne.mpr h
  rw [e]
  exact q⟩
theorem w_neI {a b : Int} (q : Q (.bl (!decide (a = b))) H) : rNe (.int a) (.int b) H Q := ⟨rfl, by
  have e : decide (V.int a = V.int b) = decide (a = b) := by
    rw [dec_int]
    by_cases h : a = b
    · rw [decide_eq_true h]
      exact beq_iff_eq.mpr h
    · rw [decide_eq_false h]
      exact beq_eq_false_iff_ne.mpr h
  rw [e]
  exact q⟩
theorem w_eq (h : scal x y = true) (q : Q (.bl (decide (x = y))) H) : rEq x y H Q := ⟨h, q⟩
theorem w_ne (h : scal x y = true) (q : Q (.bl (!decide (x = y))) H) : rNe x y H Q := ⟨h, q⟩
theorem w_ixL {xs : List V} {j : Int} (h : SqL K H p xs) (a : atI xs j = some v) (q : Q v H) : rIxL K (.ref p) (.int j) H Q := ⟨p, xs, j, v, rfl, rfl, h, a, q⟩
theorem w_ixT {xs : List V} {j : Int} (h : SqT K H p xs) (a : atI xs j = some v) (q : Q v H) : rIxT K (.ref p) (.int j) H Q := ⟨p, xs, j, v, rfl, rfl, h, a, q⟩
theorem at0 {x : V} {xs : List V} : atI (x :: xs) 0 = some x := at_of (j := 0) rfl rfl
theorem at1 {x y : V} {xs : List V} : atI (x :: y :: xs) 1 = some y := at_of (j := 1) rfl rfl
theorem at2 {x y z : V} {xs : List V} : atI (x :: y :: z :: xs) 2 = some z := at_of (j := 2) rfl rfl
theorem at3 {x y z u : V} {xs : List V} : atI (x :: y :: z :: u :: xs) 3 = some u := at_of (j := 3) rfl rfl
/-- a field's value -/
def Fl (K : PySem.W.Frag) (f : Str) (x : V) (H : Hp) (Q : VK) : Prop := ∃ a C dx fs v, x = .ref a ∧ H a = some (.ins C dx fs) ∧ Cls K C ∧ NoAttr K C f ∧ fs.lookup f = some v ∧ Q v H
theorem w_fld (q : ta σ H fun x H1 => Fl K f x H1 Q) : tFld K ta f σ H Q := q
theorem w_fl {C dx : Addr} {fs : List (Str × V)} (h : H p = some (.ins C dx fs)) (hc : Cls K C) (hn : NoAttr K C f) (hl : fs.lookup f = some v) (q : Q v H) : Fl K f (.ref p) H Q := ⟨p, C, dx, fs, v, rfl, h, hc, hn, hl, q⟩
/-- a field's store -/
def Fs (K : PySem.W.Frag) (f : Str) (y x : V) (H : Hp) (R : Hp → Prop) : Prop := ∃ a C dx fs, x = .ref a ∧ H a = some (.ins C dx fs) ∧ Cls K C ∧ NoAttr K C f ∧ fs.length < 1000 ∧ R (upd H a (.ins C dx (putF f y fs)))
theorem w_sfld (q : tv σ H fun y H1 => ta σ H1 fun x H2 => Fs K f y x H2 (D.nx σ)) : sFld K ta tv f D σ H := q
theorem w_fs {R : Hp → Prop} {C dx : Addr} {fs : List (Str × V)} (h : H p = some (.ins C dx fs)) (hc : Cls K C) (hn : NoAttr K C f) (hl : fs.length < 1000) (q : R (upd H p (.ins C dx (putF f y fs)))) : Fs K f y (.ref p) H R := ⟨p, C, dx, fs, rfl, h, hc, hn, hl, q⟩
theorem lk0 {k : Str} {v : V} {r : List (Str × V)} : ((k, v) :: r).lookup k = some v := by simp [List.lookup]
theorem lk1 {k k' : Str} {v w : V} {r : List (Str × V)} (h : ¬ k = k') (q : r.lookup k = some w) : ((k', v) :: r).lookup k = some w := by
  have e : (k == k') = false := beq_eq_false_iff_ne.mpr h
  show (match k == k' with | true => some v | false => List.lookup k r) = some w
  rw [e]
  exact q
theorem lkn {k k' : Str} {v : V} {r : List (Str × V)} (h : ¬ k = k') (q : r.lookup k = none) : ((k', v) :: r).lookup k = none := by
  have e : (k == k') = false := beq_eq_false_iff_ne.mpr h
  show (match k == k' with | true => some v | false => List.lookup k r) = none
  rw [e]
  exact q
theorem lke {k : Str} : ([] : List (Str × V)).lookup k = none := rfl
theorem pu0 {k : Str} {v w : V} {r : List (Str × V)} : putF k w ((k, v) :: r) = (k, w) :: r := by
  show (if k = k then _ else _) = _
  rw [if_pos rfl]
theorem pu1 {k k' : Str} {v w : V} {r : List (Str × V)} (h : ¬ k' = k) : putF k w ((k', v) :: r) = (k', v) :: putF k w r := by
  show (if k' = k then _ else _) = _
  rw [if_neg h]
theorem pu2 {k k' : Str} {v w : V} {r r' : List (Str × V)} (h : ¬ k' = k) (q : putF k w r = r') : putF k w ((k', v) :: r) = (k', v) :: r' := by
  rw [pu1 h, q]
theorem pue {k : Str} {w : V} : putF k w [] = [(k, w)] := rfl
theorem w_yes {Q : Bool → Hp → Prop} (q : Q true H) : tYes σ H Q := q
theorem w_nil {Q : List V → Hp → Prop} (q : Q [] H) : tNil σ H Q := q
theorem w_cons {Q : List V → Hp → Prop} (q : ta σ H fun x H1 => ts σ H1 fun xs H2 => Q (x :: xs) H2) : tCons ta ts σ H Q := q
theorem w_cb {r : List V → Hp → VK → Prop} (q : ts σ H fun vs H1 => r vs H1 Q) : tCB r ts σ H Q := q
theorem w_call {sp : Sp} {dvs : List V} (q : ts σ H fun vs H1 => sp (vs ++ dvs) H1 Q E) : tCall sp dvs E ts σ H Q := q
/-- a new instance -/
def Mkr (C : Addr) (sp : Sp) (vs : List V) (E : XK) (Q : VK) (H : Hp) : Prop := ∀ x dx, H x = none → H dx = none → dx ≠ x → sp (.ref x :: vs) (upd (upd H dx (.own x)) x (.ins C dx [])) (fun v H2 => v = .non ∧ Q (.ref x) H2) E
theorem w_make {C : Addr} {sp : Sp} {dvs : List V} (q : ts σ H fun vs H1 => Mkr C sp (vs ++ dvs) E Q H1) : tMake C sp dvs E ts σ H Q := q
theorem w_mkr {C : Addr} {sp : Sp} {vs : List V} {B : Hp} {L : List (Addr × HO)} (hs : Hs B L H) (q : ∀ x dx H', Hs B ((x, .ins C dx []) :: L) H' → sp (.ref x :: vs) H' (fun v H2 => v = .non ∧ Q (.ref x) H2) E) : Mkr C sp vs E Q H := fun x dx hx hd ne =>
  q x dx _ ((hs.new hd).new (p := x) (by rw [upd_ne ne.symm]; exact hx)).d1
/-- an own method's receiver -/
def Rc (m : Str) (C : Addr) (x : V) (H : Hp) (R : Prop) : Prop := ∃ a dx fs, x = .ref a ∧ H a = some (.ins C dx fs) ∧ fs.lookup m = none ∧ R
theorem w_meth {C : Addr} {sp : Sp} {dvs : List V} (q : ta σ H fun x H1 => Rc m C x H1 (ts σ H1 fun vs H2 => sp (x :: (vs ++ dvs)) H2 Q E)) : tMeth C m sp dvs E ta ts σ H Q := by
  revert q
  unfold tMeth Rc
  exact id
theorem w_rc {C dx : Addr} {fs : List (Str × V)} {R : Prop} (h : H p = some (.ins C dx fs)) (hl : fs.lookup m = none) (q : R) : Rc m C (.ref p) H R := ⟨p, dx, fs, rfl, h, hl, q⟩
theorem w_bm {T : String} {r : V → List V → Hp → VK → Prop} (q : to σ H fun x H1 => tyV K T x H1 ∧ ts σ H1 fun xs H2 => r x xs H2 Q) : tBM K T r to ts σ H Q := q
theorem w_bm0 {T : String} {r : V → List V → Hp → VK → Prop} (q : to σ H fun x H1 => tyV K T x H1 ∧ r x [] H1 Q) : tBM0 K T r to σ H Q := q
theorem w_tyL {xs : List V} {R : Prop} (h : SqL K H p xs) (q : R) : tyV K "list" (.ref p) H ∧ R := ⟨.inl ⟨rfl, _, h⟩, q⟩
theorem w_tyS {s : Str} {R : Prop} (q : R) : tyV K "str" (.str s) H ∧ R := ⟨rfl, q⟩
/-- a new list, a new tuple -/
def NewL (Q : VK) (xs : List V) (H : Hp) : Prop := xs.length ≤ sizeLine ∧ ∀ p, H p = none → Q (.ref p) (upd H p (.lst xs))
def NewT (Q : VK) (xs : List V) (H : Hp) : Prop := xs.length ≤ sizeLine ∧ ∀ p, H p = none → Q (.ref p) (upd H p (.tup xs))
theorem w_tup (q : ts σ H fun xs H1 => NewT Q xs H1) : tTup ts σ H Q := q
theorem w_lst (q : ts σ H fun xs H1 => NewL Q xs H1) : tLst ts σ H Q := q
theorem w_new {B : Hp} {L : List (Addr × HO)} {o : HO} (hs : Hs B L H) (q : ∀ p H', Hs B ((p, o) :: L) H' → Q (.ref p) H') : ∀ p, H p = none → Q (.ref p) (upd H p o) := fun p hp => q p _ (hs.new hp)
theorem w_newL {B : Hp} {L : List (Addr × HO)} {xs : List V} (hs : Hs B L H) (hl : xs.length ≤ sizeLine) (q : ∀ p H', Hs B ((p, .lst xs) :: L) H' → Q (.ref p) H') : NewL Q xs H := ⟨hl, w_new hs q⟩
theorem w_newT {B : Hp} {L : List (Addr × HO)} {xs : List V} (hs : Hs B L H) (hl : xs.length ≤ sizeLine) (q : ∀ p H', Hs B ((p, .tup xs) :: L) H' → Q (.ref p) H') : NewT Q xs H := ⟨hl, w_new hs q⟩
theorem w_sl {r : V → Option Int → Option Int → Hp → VK → Prop} {tl th : TO} (q : te σ H fun x H1 => tl σ H1 fun l H2 => th σ H2 fun u H3 => r x l u H3 Q) : tSl r te tl th σ H Q := q
theorem w_noPart {Q : Option Int → Hp → Prop} (q : Q none H) : tNoPart σ H Q := q
theorem w_part {Q : Option Int → Hp → Prop} (q : te σ H fun x H1 => ∃ i, x = .int i ∧ Q (some i) H1) : tPart te σ H Q := q
theorem w_exi {b : Int} {P : Int → Prop} (q : P b) : ∃ k, V.int b = .int k ∧ P k := ⟨b, rfl, q⟩
theorem w_slL {B : Hp} {L : List (Addr × HO)} {xs : List V} {lo hi : Option Int} (hs : Hs B L H) (h : SqL K H p xs) (q : ∀ l H', Hs B ((l, .lst (cutV xs lo hi)) :: L) H' → Q (.ref l) H') : rSlL K (.ref p) lo hi H Q := ⟨p, xs, rfl, h, w_new hs q⟩
theorem w_cat {B : Hp} {L : List (Addr × HO)} {a b : Addr} {xs ys : List V} (hs : Hs B L H) (ha : H a = some (.lst xs)) (hb : H b = some (.lst ys)) (hl : xs.length + ys.length ≤ sizeLine) (q : ∀ l H', Hs B ((l, .lst (xs ++ ys)) :: L) H' → Q (.ref l) H') : rCat (.ref a) (.ref b) H Q :=
  ⟨a, b, xs, ys, rfl, rfl, ha, hb, hl, w_new hs q⟩
/-! #### calls of built-ins -/
def rLen (K : PySem.W.Frag) : List V → Hp → VK → Prop := fun xs H Q => ∃ p ys, xs = [.ref p] ∧ (SqL K H p ys ∨ SqT K H p ys) ∧ Q (.int ys.length) H
theorem call_lenQ {X : Cx} : CallR X (.builtin "len") (rLen X.K) := call_len_seq
theorem w_len {xs : List V} (h : SqL K H p xs) (q : Q (.int xs.length) H) : rLen K [.ref p] H Q := ⟨p, xs, rfl, .inl h, q⟩
theorem w_lenT {xs : List V} (h : SqT K H p xs) (q : Q (.int xs.length) H) : rLen K [.ref p] H Q := ⟨p, xs, rfl, .inr h, q⟩
def rAbs : List V → Hp → VK → Prop := fun xs H Q => ∃ i, xs = [.int i] ∧ Q (.int (if i < 0 then -i else i)) H
theorem call_absQ {X : Cx} : CallR X (.builtin "abs") rAbs := call_abs
theorem w_abs {a : Int} (q : Q (.int (if a < 0 then -a else a)) H) : rAbs [.int a] H Q := ⟨a, rfl, q⟩
def rInt : List V → Hp → VK → Prop := fun xs H Q => (∃ i, xs = [.int i] ∧ Q (.int i) H) ∨ ∃ k, xs = [.bl k] ∧ Q (.int (if k then 1 else 0)) H
theorem call_intQ {X : Cx} : CallR X (.type "int") rInt := call_int1
theorem w_int {a : Int} (q : Q (.int a) H) : rInt [.int a] H Q := .inl ⟨a, rfl, q⟩
theorem w_intB {b : Bool} (q : Q (.int (if b then 1 else 0)) H) : rInt [.bl b] H Q := .inr ⟨b, rfl, q⟩
def rStr : List V → Hp → VK → Prop := fun xs H Q => ∃ i, xs = [.int i] ∧ i.natAbs.log2 < 1920 ∧ Q (.str (toString i)) H
theorem call_strQ {X : Cx} : CallR X (.type "str") rStr := call_str_int
theorem w_str {a : Int} (h : a.natAbs < 2 ^ 64) (q : Q (.str (toString a)) H) : rStr [.int a] H Q := ⟨a, rfl, Nat.lt_of_lt_of_le (PySem.Flt.log2_lt_of (by decide) h) (by decide), q⟩
def rAddS : R2 := fun x y H Q => ∃ i j, x = .str i ∧ y = .str j ∧ i.length + j.length ≤ sizeLine ∧ Q (.str (i ++ j)) H
theorem op_addS {X : Cx} : OpR X (binaryOp .Add) rAddS := op_add_str
theorem w_addS {a b : Str} (h : a.length + b.length ≤ sizeLine) (q : Q (.str (a ++ b)) H) : rAddS (.str a) (.str b) H Q := ⟨a, b, rfl, rfl, h, q⟩
/-! #### methods of lists -/
section
variable {B : Hp} {L L' : List (Addr × HO)} {l : Addr} {xs : List V}
theorem w_app (hs : Hs B L H) (h : Put L l (.lst xs) (.lst (xs ++ [y])) L') (hl : xs.length < sizeLine) (q : ∀ H', Hs B L' H' → Q .non H') : rAppend (.ref l) [y] H Q := ⟨l, xs, y, rfl, rfl, hs.gets h, hl, q _ (hs.puts h)⟩
theorem w_clear (hs : Hs B L H) (h : Put L l (.lst xs) (.lst []) L') (q : ∀ H', Hs B L' H' → Q .non H') : rClear (.ref l) [] H Q := ⟨l, xs, rfl, rfl, hs.gets h, q _ (hs.puts h)⟩
theorem six_nat {n k : Nat} {j : Int} (e : j = (k : Int)) (h : k < n) : seqIndex? j n = some k := by
  subst e
  unfold seqIndex?
  have h1 : ¬ (k : Int) < 0 := by omega
  have h2 : (k : Int) < (n : Int) := by omega
  simp only [if_neg h1]
  simp [h2]
theorem w_popAt {k : Nat} {j : Int} (hs : Hs B L H) (h : Put L l (.lst xs) (.lst (xs.eraseIdx k)) L') (e : j = (k : Int)) (hk : xs[k]? = some y) (hz : xs.length ≤ sizeLine) (q : ∀ H', Hs B L' H' → Q y H') : rPopAt (.ref l) [.int j] H Q := by
  have hk' := (List.getElem?_eq_some_iff.mp hk).1
  have h63 := line63
  refine ⟨l, xs, j, k, y, rfl, rfl, hs.gets h, by omega, ?_, six_nat e hk', hk, q _ (hs.puts h)⟩
  have : xs.length < 2 ^ 63 := Nat.lt_of_le_of_lt hz h63
  omega
def rInsert : V → List V → Hp → VK → Prop := fun x vs H Q => ∃ (l : Addr) (xs : List V) (i : Int) (y : V), x = .ref l ∧ vs = [.int i, y] ∧ H l = some (.lst xs) ∧ xs.length < sizeLine ∧ 0 ≤ i ∧ i < 2 ^ 63 ∧ Q .non (upd H l (.lst (xs.take i.toNat ++ [y] ++ xs.drop i.toNat)))
theorem mt_insertQ {X : Cx} : MtR X "list.insert" rInsert := mt_insert
theorem w_insert0 (hs : Hs B L H) (h : Put L l (.lst xs) (.lst (y :: xs)) L') (hl : xs.length < sizeLine) (q : ∀ H', Hs B L' H' → Q .non H') : rInsert (.ref l) [.int 0, y] H Q :=
  ⟨l, xs, 0, y, rfl, rfl, hs.gets h, hl, by decide, by decide, q _ (hs.puts h)⟩
def rDelL (x y : V) (H : Hp) (R : Hp → Prop) : Prop := ∃ (l : Addr) (xs : List V) (i : Int) (k : Nat), x = .ref l ∧ y = .int i ∧ H l = some (.lst xs) ∧ -(2 ^ 63) ≤ i ∧ i < 2 ^ 63 ∧ seqIndex? i xs.length = some k ∧ R (upd H l (.lst (xs.eraseIdx k)))
theorem w_delL0 (q : to σ H fun x H1 => ti σ H1 fun y H2 => rDelL x y H2 (D.nx σ)) : tDelL to ti D σ H := q
theorem w_delL {k : Nat} {j : Int} {R : Hp → Prop} (hs : Hs B L H) (h : Put L l (.lst xs) (.lst (xs.eraseIdx k)) L') (e : j = (k : Int)) (hk : k < xs.length) (hz : xs.length ≤ sizeLine) (q : ∀ H', Hs B L' H' → R H') : rDelL (.ref l) (.int j) H R := by
  have h63 := line63
  refine ⟨l, xs, j, k, rfl, rfl, hs.gets h, by omega, ?_, six_nat e hk, q _ (hs.puts h)⟩
  have : xs.length < 2 ^ 63 := Nat.lt_of_le_of_lt hz h63
  omega
theorem w_setL {k : Nat} {j : Int} {R : Hp → Prop} (hs : Hs B L H) (h : Put L l (.lst xs) (.lst (xs.set k y)) L') (e : j = (k : Int)) (hk : k < xs.length) (q : ∀ H', Hs B L' H' → R H') : rSetL (.ref l) (.int j) y H R := by
  refine ⟨l, xs, j, k, rfl, rfl, hs.gets h, ?_, q _ (hs.puts h)⟩
  subst e
  unfold ixN
  rw [if_pos (by omega), if_pos (by omega)]
  simp
/-- a field's store -/
theorem w_fsP {R : Hp → Prop} {C dx : Addr} {fs gs : List (Str × V)} (hs : Hs B L H) (h : Put L p (.ins C dx fs) (.ins C dx gs) L') (hc : Cls K C) (hn : NoAttr K C f) (hl : fs.length < 1000) (hg : putF f y fs = gs) (q : ∀ H', Hs B L' H' → R H') : Fs K f y (.ref p) H R := by
  subst hg
  exact w_fs (hs.gets h) hc hn hl (q _ (hs.puts h))
/-! #### loops -/
theorem w_forL {tl : TE} {a : Addr} {tb : TS} (hx : SqL K H a xs) (Pv : Nat → St → Hp → Prop) (htl : ∀ Q : VK, Q (.ref a) H → tl σ H Q) (h0 : Pv 0 σ H) (hl : ∀ i σ H, i ≤ xs.length → Pv i σ H → SqL K H a xs)
    (hs : ∀ i x σ H, xs[i]? = some x → Pv i σ H → g x σ H fun σ2 H2 => tb { D with nx := Pv (i + 1), ct := Pv (i + 1), bk := D.nx } σ2 H2) (hd : ∀ σ H, Pv xs.length σ H → D.nx σ H) : tFor (iList K tl) g tb D σ H :=
  htl _ ⟨a, rfl, ⟨xs, hx⟩, for_list Pv h0 hl hs hd⟩
theorem w_forR {ta : TA} {tb : TS} {n : Int} (hn : n < 2 ^ 62) (Pv : Nat → St → Hp → Prop) (hta : ∀ Q : List V → Hp → Prop, Q [.int n] H → ta σ H Q) (hm : -(2 ^ 62) ≤ n) (h0 : Pv 0 σ H)
    (hs : ∀ (i : Nat) σ H, (i : Int) < n → Pv i σ H → g (.int (i : Int)) σ H fun σ2 H2 => tb { D with nx := Pv (i + 1), ct := Pv (i + 1), bk := D.nx } σ2 H2) (hd : ∀ σ H, Pv n.toNat σ H → D.nx σ H) : tFor (iRng1 ta) g tb D σ H :=
  hta _ ⟨n, rfl, hm, hn, for_range (lo := 0) (n := n.toNat) Pv h0 (fun i σ' H' hi p => by
    have e0 : (0 : Int) + (i : Int) = (i : Int) := Int.zero_add _
    rw [e0]
    exact hs i σ' H' (by omega) p) hd⟩
/-- [e for x in xs] over a list -/
theorem w_lc {tl : TE} {a : Addr} {vs : List Nat} {tt : TT} (hx : SqL K H a xs) (Pv : Addr → Nat → Hp → Prop) (htl : ∀ Q : VK, Q (.ref a) H → tl σ H Q) (h0 : ∀ D, H D = none → Pv D 0 (upd H D (.lst []))) (hl : ∀ D i H, i ≤ xs.length → Pv D i H → SqL K H a xs)
    (hs : ∀ D i x H, xs[i]? = some x → Pv D i H → g x (wipe σ vs) H fun σ2 H2 => wipe σ2 vs = wipe σ vs ∧ tt σ2 H2 fun b H3 =>
      if b = true then te σ2 H3 fun y H4 => ∃ acc, H4 D = some (.lst acc) ∧ acc.length < sizeLine ∧ Pv D (i + 1) (upd H4 D (.lst (acc ++ [y]))) else Pv D (i + 1) H3) (hd : ∀ D H, Pv D xs.length H → Q (.ref D) H) : tLc (iList K tl) g tt te vs σ H Q :=
  htl _ ⟨a, rfl, ⟨xs, hx⟩, fun D hD => lc_list (Pv D) (h0 D hD) (hl D) (hs D) (hd D)⟩
end
theorem w_sub {R : St → Hp → Prop} {tset : TSet} (q : to σ H fun o H1 => ti σ H1 fun i H2 => tset o i v H2 fun H3 => R σ H3) : gSub to ti tset v σ H R := q
/-- a while's body, at the measure m -/
def LpB (W : Nat → St → Hp → Prop) (m : Nat) (D : Ends) (tb : TS) (σ : St) (H1 : Hp) : Prop := ∃ N : St → Hp → Prop, (∀ σ' H', N σ' H' → ∃ m', m' < m ∧ W m' σ' H') ∧ tb { D with nx := N, ct := N, bk := D.nx } σ H1
theorem w_while {c : TT} {tb : TS} {D : Ends} {σ : St} {H : Hp} (W : Nat → St → Hp → Prop) (m : Nat) (h0 : W m σ H)
    (hs : ∀ m σ H, W m σ H → c σ H fun b H1 => if b = true then LpB W m D tb σ H1 else D.nx σ H1) : tWhile c tb D σ H := ⟨W, ⟨m, h0⟩, hs⟩
theorem w_lpb {W : Nat → St → Hp → Prop} {m : Nat} {D : Ends} {tb : TS} {σ : St} {H : Hp} (q : tb { D with nx := fun σ' H' => ∃ m', m' < m ∧ W m' σ' H', ct := fun σ' H' => ∃ m', m' < m ∧ W m' σ' H', bk := D.nx } σ H) : LpB W m D tb σ H := ⟨_, fun _ _ h => h, q⟩
end
theorem ifd {p A B : Prop} [Decidable p] (h1 : p → A) (h2 : ¬ p → B) : if decide p = true then A else B := by
  by_cases h : p
  · rw [decide_eq_true h]
    exact iteT (h1 h)
  · rw [decide_eq_false h]
    exact iteF (h2 h)
theorem ifn {p A B : Prop} [Decidable p] (h1 : ¬ p → A) (h2 : p → B) : if (!decide p) = true then A else B := by
  by_cases h : p
  · rw [decide_eq_true h]
    exact iteF (h2 h)
  · rw [decide_eq_false h]
    exact iteT (h1 h)
theorem ifb {b : Bool} {A B : Prop} (h1 : b = true → A) (h2 : b = false → B) : if b = true then A else B := by
  cases b with
  | true => exact iteT (h1 rfl)
  | false => exact iteF (h2 rfl)
theorem eraseIdx_map {α β : Type} (f : α → β) : ∀ (l : List α) (k : Nat), (l.map f).eraseIdx k = (l.eraseIdx k).map f
  | [], _ => rfl
  | _ :: _, 0 => rfl
  | x :: l, k + 1 => congrArg (f x :: ·) (eraseIdx_map f l k)
theorem sz {n : Nat} (h : n ≤ 1000000) : n ≤ sizeLine := Nat.le_trans h (by decide)
theorem szl {n : Nat} (h : n ≤ 1000000) : n < sizeLine := Nat.lt_of_le_of_lt h (by decide)
theorem take_min {α : Type} (xs : List α) (n : Nat) : xs.take (min n xs.length) = xs.take n := by
  by_cases h : n ≤ xs.length
  · rw [Nat.min_eq_left h]
  · rw [Nat.min_eq_right (by omega), List.take_length, List.take_of_length_le (by omega)]
theorem drop_min {α : Type} (xs : List α) (n : Nat) : xs.drop (min n xs.length) = xs.drop n := by
  by_cases h : n ≤ xs.length
  · rw [Nat.min_eq_left h]
  · rw [Nat.min_eq_right (by omega), List.drop_length, List.drop_of_length_le (by omega)]
theorem cut_to {xs : List V} {j : Int} (n : Nat) (e : j = (n : Int)) : cutV xs none (some j) = xs.take n := by
  subst e
  unfold cutV
  rw [HT.sIx_none, HT.sIx_nat, List.drop_zero, Nat.sub_zero, take_min]
theorem cut_from {xs : List V} {j : Int} (n : Nat) (e : j = (n : Int)) : cutV xs (some j) none = xs.drop n := by
  subst e
  unfold cutV
  rw [HT.sIx_none, HT.sIx_nat, drop_min, List.take_of_length_le]
  rw [List.length_drop]
  omega
theorem cut_len {xs : List V} {lo hi : Option Int} : (cutV xs lo hi).length ≤ xs.length := by
  unfold cutV
  rw [List.length_take, List.length_drop]
  omega
theorem cut_all {xs : List V} : cutV xs none none = xs := by
  unfold cutV HT.sIx
  simp
/-! ### lists of texts, of ints, as data -/
theorem dpa_str {K : PySem.W.Frag} {H : Hp} : ∀ xs : List Str, DpAll K H (xs.map V.str) (xs.map PyData.str)
  | [] => .nil
  | x :: xs => .cons (.str x) (dpa_str xs)
theorem dpa_int {K : PySem.W.Frag} {H : Hp} : ∀ xs : List Int, DpAll K H (xs.map V.int) (xs.map PyData.int)
  | [] => .nil
  | x :: xs => .cons (.int x) (dpa_int xs)
theorem depth_str : ∀ xs : List Str, PyData.depthAll (xs.map PyData.str) ≤ 1
  | [] => by simp [PyData.depthAll]
  | x :: xs => by
    have := depth_str xs
    simp [PyData.depthAll, PyData.depth] at this ⊢
    omega
theorem lay_str : ∀ xs : List Str, (∀ x ∈ xs, PyData.strOk x = true) → PyData.canLayAll0 (xs.map PyData.str) = true
  | [], _ => by simp [PyData.canLayAll0]
  | x :: xs, h => by
    have h1 := h x List.mem_cons_self
    have h2 := lay_str xs fun y hy => h y (List.mem_cons_of_mem _ hy)
    simp only [List.map_cons, PyData.canLayAll0, PyData.canLay0, h1, h2, Bool.and_self]
theorem shp_str {xs : List Str} (h : ∀ x ∈ xs, PyData.strOk x = true) : SeqAt.shaped (.list (xs.map PyData.str)) = true := by
  have e := depth_str xs
  have l := lay_str xs h
  unfold SeqAt.shaped PyData.canLay0 PyData.depth
  rw [l]
  simp only [Bool.true_and, decide_eq_true_eq]
  omega
theorem w_neS {K : PySem.W.Frag} {H : Hp} {Q : VK} {p q : Addr} {xs : List Str} (h1 : SqL K H p (xs.map V.str)) (h2 : SqL K H q (xs.map V.str)) (hk : ∀ x ∈ xs, PyData.strOk x = true) (k : Q (.bl false) H) : rNeD K (.ref p) (.ref q) H Q :=
  ⟨_, _, .lst h1 (dpa_str xs), .lst h2 (dpa_str xs), shp_str hk, shp_str hk, by
    rw [SeqAt.eqv_refl _ (by have := shp_str hk; unfold SeqAt.shaped at this; exact (Bool.and_eq_true_iff.mp this).1)]
    exact k⟩
theorem w_isi {K : PySem.W.Frag} {H : Hp} {Q : VK} {b : Bool} (k : Q (.bl true) H) : rIsi K [.bl b, .ty "bool"] H Q :=
  ⟨_, _, _, _, true, rfl, .ty "bool", .base (.bl b), kit_ty (by decide +kernel), k⟩
theorem w_neB {a b : Bool} {H : Hp} {Q : VK} (q : Q (.bl (!decide (a = b))) H) : rNe (.bl a) (.bl b) H Q := ⟨rfl, by
  have e : decide (V.bl a = V.bl b) = decide (a = b) := by cases a <;> cases b <;> decide
  rw [e]
  exact q⟩
end Hb

set_option Elab.async false
set_option maxRecDepth 100000
set_option maxHeartbeats 4000000
/-! More steps: dicts, fields changed by an operator, ranges, and an own exception with a field. -/
namespace Hb
open PySem L2 ClX

section
variable {K : PySem.W.Frag} {σ : St} {H : Hp} {Q : VK} {D : Ends} {ta tb td tc te tv ty to ti : TE} {t u tr : TS} {g : TG} {i : Nat} {v x y : V} {E : XK} {ts : TA} {f m : Str} {p : Addr} {B : Hp} {L L' : List (Addr × HO)}
/-! ### dicts with keys that are ints -/
def RDin (x y : V) (H : Hp) (Q : VK) : Prop := ∃ a o, x = .ref a ∧ DGet H a y o ∧ Q (.bl o.isSome) H
def RDni (x y : V) (H : Hp) (Q : VK) : Prop := ∃ a o, x = .ref a ∧ DGet H a y o ∧ Q (.bl (!o.isSome)) H
theorem w_din (q : ty σ H fun y H1 => td σ H1 fun x H2 => RDin x y H2 Q) : tDIn ty td σ H Q := q
theorem w_dni (q : ty σ H fun y H1 => td σ H1 fun x H2 => RDni x y H2 Q) : tDNotIn ty td σ H Q := q
theorem w_dinI {kvs : List (Key × V)} {n : Int} (h : H p = some (.dK kvs)) (q : Q (.bl (valV kvs (Sum.inl n)).isSome) H) : RDin (.ref p) (.int n) H Q := ⟨p, _, rfl, DGet.k (k := Sum.inl n) h, q⟩
theorem w_dniI {kvs : List (Key × V)} {n : Int} (h : H p = some (.dK kvs)) (q : Q (.bl (!(valV kvs (Sum.inl n)).isSome)) H) : RDni (.ref p) (.int n) H Q := ⟨p, _, rfl, DGet.k (k := Sum.inl n) h, q⟩
def RDput (x y v : V) (H : Hp) (R : Hp → Prop) : Prop := ∃ a H4, x = .ref a ∧ DPut H a y v H4 ∧ R H4
theorem w_dput (q : tv σ H fun v H1 => td σ H1 fun x H2 => ty σ H2 fun y H3 => RDput x y v H3 (D.nx σ)) : sDPut td ty tv D σ H := q
theorem w_dputI {kvs : List (Key × V)} {n : Int} {R : Hp → Prop} (hs : Hs B L H) (h : Put L p (.dK kvs) (.dK (putK kvs (Sum.inl n) v)) L') (hl : kvs.length < sizeLine) (q : ∀ H', Hs B L' H' → R H') : RDput (.ref p) (.int n) v H R :=
  ⟨p, _, rfl, DPut.k (k := Sum.inl n) (hs.gets h) hl, q _ (hs.puts h)⟩
def RPopA (x : V) (H : Hp) (R : Addr → Prop) : Prop := ∃ a, x = .ref a ∧ IsD H a ∧ R a
def RPopB (a : Addr) (y : V) (H : Hp) (Q : VK) : Prop := ∃ kvs k v, H a = some (.dK kvs) ∧ y = kV k ∧ valV kvs k = some v ∧ Q v (upd H a (.dK (dropK kvs k)))
theorem w_dpop (q : td σ H fun x H1 => RPopA x H1 fun a => ty σ H1 fun y H2 => RPopB a y H2 Q) : tDPop1 td ty σ H Q := q
theorem w_dpopA {kvs : List (Key × V)} {R : Addr → Prop} (h : H p = some (.dK kvs)) (q : R p) : RPopA (.ref p) H R := ⟨p, rfl, .inl ⟨kvs, .inl h⟩, q⟩
theorem w_dpopB {kvs : List (Key × V)} {n : Int} (hs : Hs B L H) (h : Put L p (.dK kvs) (.dK (dropK kvs (Sum.inl n))) L') (hv : valV kvs (Sum.inl n) = some v) (q : ∀ H', Hs B L' H' → Q v H') : RPopB p (.int n) H Q :=
  ⟨kvs, Sum.inl n, v, hs.gets h, rfl, hv, q _ (hs.puts h)⟩
def NewD (Q : VK) (H : Hp) : Prop := ∀ p, H p = none → Q (.ref p) (upd H p (.dK []))
theorem w_dnew (q : NewD Q H) : tDNewK σ H Q := q
theorem w_newD (hs : Hs B L H) (q : ∀ p H', Hs B ((p, .dK []) :: L) H' → Q (.ref p) H') : NewD Q H := w_new hs q
/-! ### o.f op= e -/
def FA1 (K : PySem.W.Frag) (f : Str) (x : V) (H : Hp) (R : Addr → Addr → V → Prop) : Prop := ∃ a C dx fs v, x = .ref a ∧ H a = some (.ins C dx fs) ∧ Cls K C ∧ NoAttr K C f ∧ fs.lookup f = some v ∧ R a C v
def FA2 (f : Str) (a C : Addr) (z : V) (H : Hp) (R : Hp → Prop) : Prop := ∃ dx' fs', H a = some (.ins C dx' fs') ∧ fs'.length < 1000 ∧ R (upd H a (.ins C dx' (putF f z fs')))
theorem w_faug {rd : V → V → Hp → VK → Prop} (q : ta σ H fun x H1 => FA1 K f x H1 fun a C v => tv σ H1 fun y H2 => rd v y H2 fun z H3 => FA2 f a C z H3 (D.nx σ)) : sFldAug K ta tv rd f D σ H := by
  revert q
  unfold sFldAug FA1 FA2
  exact id
theorem w_fa1 {C dx : Addr} {fs : List (Str × V)} {R : Addr → Addr → V → Prop} (h : H p = some (.ins C dx fs)) (hc : Cls K C) (hn : NoAttr K C f) (hl : fs.lookup f = some v) (q : R p C v) : FA1 K f (.ref p) H R := ⟨p, C, dx, fs, v, rfl, h, hc, hn, hl, q⟩
theorem w_fa2 {R : Hp → Prop} {C dx : Addr} {fs gs : List (Str × V)} (hs : Hs B L H) (h : Put L p (.ins C dx fs) (.ins C dx gs) L') (hl : fs.length < 1000) (hg : putF f v fs = gs) (q : ∀ H', Hs B L' H' → R H') : FA2 f p C v H R := by
  subst hg
  exact ⟨dx, fs, hs.gets h, hl, q _ (hs.puts h)⟩
theorem w_rAdd {a b : Int} (q : Q (.int (a + b)) H) : rAdd (.int a) (.int b) H Q := ⟨a, b, rfl, rfl, q⟩
theorem w_rSub {a b : Int} (q : Q (.int (a - b)) H) : rSub (.int a) (.int b) H Q := ⟨a, b, rfl, rfl, q⟩
/-! ### built-ins -/
def rMax2 : List V → Hp → VK → Prop := fun xs H Q => ∃ i j, xs = [.int i, .int j] ∧ Q (.int (if j > i then j else i)) H
def rMin2 : List V → Hp → VK → Prop := fun xs H Q => ∃ i j, xs = [.int i, .int j] ∧ Q (.int (if j < i then j else i)) H
theorem call_maxQ {X : Cx} (hc : X.calm = true) : CallR X (.builtin "max") rMax2 := call_max2 hc
theorem call_minQ {X : Cx} (hc : X.calm = true) : CallR X (.builtin "min") rMin2 := call_min2 hc
theorem w_max {a b : Int} (q : Q (.int (if b > a then b else a)) H) : rMax2 [.int a, .int b] H Q := ⟨a, b, rfl, q⟩
theorem w_min {a b : Int} (q : Q (.int (if b < a then b else a)) H) : rMin2 [.int a, .int b] H Q := ⟨a, b, rfl, q⟩
def rIsN : R2 := fun x y H Q => y = .non ∧ Q (.bl (decide (x = .non))) H
def rNotN : R2 := fun x y H Q => y = .non ∧ Q (.bl (!decide (x = .non))) H
theorem op_isNQ {X : Cx} : OpR X (compareOp .Is) rIsN := op_isN
theorem op_notNQ {X : Cx} : OpR X (compareOp .IsNot) rNotN := op_notN
theorem w_isN (q : Q (.bl (decide (x = .non))) H) : rIsN x .non H Q := ⟨rfl, q⟩
theorem w_notN (q : Q (.bl (!decide (x = .non))) H) : rNotN x .non H Q := ⟨rfl, q⟩
theorem w_eqD {a b : Addr} {d e : PyData} (h1 : Dp K H (.ref a) d) (h2 : Dp K H (.ref b) e) (s1 : SeqAt.shaped d = true) (s2 : SeqAt.shaped e = true) (q : Q (.bl (PyData.eqv d e)) H) : rEqD K (.ref a) (.ref b) H Q := ⟨d, e, h1, h2, s1, s2, q⟩
/-! ### targets -/
theorem w_gtup {n : Nat} {t : TGs} {xs : List V} {R : St → Hp → Prop} (h : SqT K H p xs) (hl : xs.length = n) (q : t xs σ H R) : gTup K n t (.ref p) σ H R := ⟨p, xs, rfl, h, hl, q⟩
theorem w_gnil {R : St → Hp → Prop} (q : R σ H) : gNil [] σ H R := ⟨rfl, q⟩
theorem w_gcons {t : TG} {u : TGs} {r : List V} {R : St → Hp → Prop} (q : t v σ H fun σ' H' => u r σ' H' R) : gCons t u (v :: r) σ H R := ⟨v, r, rfl, q⟩
theorem w_par3 {j l : Nat} (q : ts σ H fun vs H1 => ∃ u v w, vs = [u, v, w] ∧ D.nx (((σ.set i (some u)).set j (some v)).set l (some w)) H1) : tPar3 i j l ts D σ H := q
theorem w_ex3 {a b c : V} {P : V → V → V → Prop} (q : P a b c) : ∃ u v w, [a, b, c] = [u, v, w] ∧ P u v w := ⟨a, b, c, rfl, q⟩
theorem w_par2 {j : Nat} (q : ts σ H fun vs H1 => ∃ u v, vs = [u, v] ∧ D.nx ((σ.set i (some u)).set j (some v)) H1) : tPar i j ts D σ H := q
theorem w_ex2 {a b : V} {P : V → V → Prop} (q : P a b) : ∃ u v, [a, b] = [u, v] ∧ P u v := ⟨a, b, rfl, q⟩
/-! ### [e for i in range(a, b)] -/
theorem w_lcR {vs : List Nat} {tt : TT} {lo hi : Int} (b1 : -(2 ^ 62) ≤ lo ∧ lo < 2 ^ 62 ∧ -(2 ^ 62) ≤ hi ∧ hi < 2 ^ 62) (Pv : Addr → Nat → Hp → Prop) (hta : ∀ Q : List V → Hp → Prop, Q [.int lo, .int hi] H → ts σ H Q) (h0 : ∀ D, H D = none → Pv D 0 (upd H D (.lst [])))
    (hs : ∀ D (i : Nat) H, lo + (i : Int) < hi → Pv D i H → g (.int (lo + (i : Int))) (wipe σ vs) H fun σ2 H2 => wipe σ2 vs = wipe σ vs ∧ tt σ2 H2 fun b H3 =>
      if b = true then te σ2 H3 fun y H4 => ∃ acc, H4 D = some (.lst acc) ∧ acc.length < sizeLine ∧ Pv D (i + 1) (upd H4 D (.lst (acc ++ [y]))) else Pv D (i + 1) H3) (hd : ∀ D H, Pv D (hi - lo).toNat H → Q (.ref D) H) : tLc (iRng2 ts) g tt te vs σ H Q :=
  hta _ ⟨lo, hi, rfl, b1, fun D hD => lc_range (Pv D) (h0 D hD) (fun i H' hi' p => hs D i H' (by omega) p) (hd D)⟩
theorem w_lcR1 {vs : List Nat} {tt : TT} {hi : Int} (b1 : -(2 ^ 62) ≤ hi ∧ hi < 2 ^ 62) (Pv : Addr → Nat → Hp → Prop) (hta : ∀ Q : List V → Hp → Prop, Q [.int hi] H → ts σ H Q) (h0 : ∀ D, H D = none → Pv D 0 (upd H D (.lst [])))
    (hs : ∀ D (i : Nat) H, (i : Int) < hi → Pv D i H → g (.int (i : Int)) (wipe σ vs) H fun σ2 H2 => wipe σ2 vs = wipe σ vs ∧ tt σ2 H2 fun b H3 =>
      if b = true then te σ2 H3 fun y H4 => ∃ acc, H4 D = some (.lst acc) ∧ acc.length < sizeLine ∧ Pv D (i + 1) (upd H4 D (.lst (acc ++ [y]))) else Pv D (i + 1) H3) (hd : ∀ D H, Pv D hi.toNat H → Q (.ref D) H) : tLc (iRng1 ts) g tt te vs σ H Q :=
  hta _ ⟨hi, rfl, b1.1, b1.2, fun D hD => lc_range (Pv D) (h0 D hD) (fun i H' hi' p => by
    have e0 : (0 : Int) + (i : Int) = (i : Int) := Int.zero_add _
    rw [e0]
    exact hs D i H' (by omega) p) (hd D)⟩
end

/-- a statement, then the rest: what stands between is said once -/
theorem w_cut {σ : St} {H : Hp} {D : Ends} {t u : TS} (Mid : St → Hp → Prop) (h1 : t { D with nx := Mid } σ H) (h2 : ∀ σ' H', Mid σ' H' → u D σ' H') : C8.tCut t u D σ H := ⟨Mid, h1, h2⟩
/-! ### rules whose reading names the written part itself -/
section
variable {X : Cx} {K : PySem.W.Frag}
theorem pe_fldK {e : Expr} {f : Str} {ta : TE} {pos : Pos} (he : PE X e ta) (hb : attributeBase e f X.env (eval e X.env) = eval e X.env := by rfl) (hK : X.K = K := by rfl) : PE X (.Attribute e f pos) (tFld K ta f) := by
  subst hK
  exact pe_fld he hb
theorem ps_fldK {o value : Expr} {f : Str} {ta tv : TE} {pos pos' : Pos} (ha : PE X o ta) (hv : PE X value tv) (hs : swapsWith value (some (.Attribute o f pos')) pos.line X.env = pure false := by rfl) (hK : X.K = K := by rfl) : PS X (.Assign [.Attribute o f pos'] value pos) (sFld K ta tv f) := by
  subst hK
  exact ps_fld ha hv hs
theorem ps_fldaugK {o value : Expr} {f : Str} {ta tv : TE} {pos tpos : Pos} {op : Operator} {rd : V → V → Hp → VK → Prop} (ha : PE X o ta) (hv : PE X value tv) (hop : InOp X op rd) (hK : X.K = K := by rfl) : PS X (.AugAssign (.Attribute o f tpos) op value pos) (sFldAug K ta tv rd f) := by
  subst hK
  exact ps_fldaug ha hv hop
theorem ix_listK (hK : X.K = K := by rfl) : IxR X (rIxL K) := by
  subst hK
  exact ix_list
theorem ix_tupK (hK : X.K = K := by rfl) : IxR X (rIxT K) := by
  subst hK
  exact ix_tup
theorem sl_listK (hK : X.K = K := by rfl) : SlR X (rSlL K) := by
  subst hK
  exact sl_list
theorem sl_tupK (hK : X.K = K := by rfl) : SlR X (rSlT K) := by
  subst hK
  exact sl_tup
theorem call_lenK (hK : X.K = K := by rfl) : CallR X (.builtin "len") (rLen K) := by
  subst hK
  exact call_lenQ
theorem op_eqDK (hu : X.A.units + 64 < cLine) (hK : X.K = K := by rfl) : OpR X (compareOp .Eq) (rEqD K) := by
  subst hK
  exact op_eqD hu
theorem op_neDK (hu : X.A.units + 64 < cLine) (hK : X.K = K := by rfl) : OpR X (compareOp .NotEq) (rNeD K) := by
  subst hK
  exact op_neD hu
theorem op_inK (hK : X.K = K := by rfl) : OpR X (compareOp .In) (rIn K false) := by
  subst hK
  exact op_in_seq
theorem op_niK (hK : X.K = K := by rfl) : OpR X (compareOp .NotIn) (rIn K true) := by
  subst hK
  exact op_notIn_seq
theorem pi_listK {tg l : Expr} {tl : TE} (hl : PE X l tl) (hK : X.K = K := by rfl) : PI X tg l (iList K tl) := by
  subst hK
  exact pi_list hl
theorem pi_tupK {tg l : Expr} {tl : TE} (hl : PE X l tl) (hK : X.K = K := by rfl) : PI X tg l (iTup K tl) := by
  subst hK
  exact pi_tup hl
theorem pg_tupK {es : List Expr} {k : Nat} {t : TGs} {n : Nat} {pos : Pos} (hc : X.calm = true) (h : PGs X es t) (hn : (assignEach es X.env).length = n := by rfl) (hst : (assignEach es X.env).findIdx? (·.1) = none := by rfl) (hK : X.K = K := by rfl) : PG X (.Tuple es k pos) (gTup K n t) := by
  subst hK
  exact pg_tup hc h hn hst
theorem pt_truthK {a : Expr} {ta : TE} (ha : PE X a ta) (he : ∀ whole, isTrue a X.env whole = (do let v ← whole; standAt a.pos; holding [v] (truthy v)) := by intro _; rfl) (hK : X.K = K := by rfl) : PT X a (fun σ H Q => ta σ H fun x H' => ∃ k, TruV K x H' k ∧ Q k H') := by
  subst hK
  exact pt_truth ha he
theorem call_isiK (hK : X.K = K := by rfl) : CallR X (.builtin "isinstance") (rIsi K) := by
  subst hK
  exact call_isi
variable {o e : Expr} {es : List Expr} {to : TE} {t : TA} {name : Str} {apos cpos : Pos} {T id : String} {r : V → List V → Hp → VK → Prop}
theorem pe_bm0K (pa : PlainAttrs T) (slot : Slot T name id) (hty : typeOf (.builtin id) = pure (.type "method_descriptor")) (hm : MtR X id r) (ho : PE X o to)
    (hbase : attributeBase o name X.env (eval o X.env) = eval o X.env := by rfl) (hline : (apos.endLine == cpos.line) = true := by rfl) (hK : X.K = K := by rfl) : PE X (.Call (.Attribute o name apos) [] [] cpos) (tBM0 K T r to) := by
  subst hK
  exact pe_bm0 pa slot hty hm ho hbase hline
theorem pe_bmK (pa : PlainAttrs T) (slot : Slot T name id) (hty : typeOf (.builtin id) = pure (.type "method_descriptor")) (hm : MtR X id r) (ho : PE X o to) (ha : PA X (e :: es) t)
    (hb : attributeBase o name X.env (eval o X.env) = eval o X.env := by rfl)
    (hf : ((backTo cpos (starEach (e :: es) X.env)).all (fun x => !x.1) && (backToKw cpos (keywordEach [] X.env)).all (fun x => x.1.isSome) && decide ((e :: es).length + ([] : List Keyword).length + (if ([] : List Keyword).isEmpty then 0 else 1) < 30)) = true := by rfl)
    (hl : (apos.endLine == cpos.line) = true := by rfl) (h1 : starEach (e :: es) X.env = (false, eval e X.env) :: starEach es X.env := by rfl) (h2 : (backTo cpos (starEach es X.env)).any (·.1) = false := by rfl) (hK : X.K = K := by rfl) :
    PE X (.Call (.Attribute o name apos) (e :: es) [] cpos) (tBM K T r to t) := by
  subst hK
  exact pe_bm pa slot hty hm ho ha hb hf hl h1 h2
end
section
variable {H B : Hp} {L L' : List (Addr × HO)} {l : Addr} {y a b c d e : V} {r : List V} {R : Hp → Prop}
theorem w_set0 (hs : Hs B L H) (h : Put L l (.lst (a :: r)) (.lst (y :: r)) L') (q : ∀ H', Hs B L' H' → R H') : rSetL (.ref l) (.int 0) y H R := w_setL (k := 0) hs h rfl (by simp) q
theorem w_set1 (hs : Hs B L H) (h : Put L l (.lst (a :: b :: r)) (.lst (a :: y :: r)) L') (q : ∀ H', Hs B L' H' → R H') : rSetL (.ref l) (.int 1) y H R := w_setL (k := 1) hs h rfl (by simp) q
theorem w_set2 (hs : Hs B L H) (h : Put L l (.lst (a :: b :: c :: r)) (.lst (a :: b :: y :: r)) L') (q : ∀ H', Hs B L' H' → R H') : rSetL (.ref l) (.int 2) y H R := w_setL (k := 2) hs h rfl (by simp) q
theorem w_set3 (hs : Hs B L H) (h : Put L l (.lst (a :: b :: c :: d :: r)) (.lst (a :: b :: c :: y :: r)) L') (q : ∀ H', Hs B L' H' → R H') : rSetL (.ref l) (.int 3) y H R := w_setL (k := 3) hs h rfl (by simp) q
theorem w_set4 (hs : Hs B L H) (h : Put L l (.lst (a :: b :: c :: d :: e :: r)) (.lst (a :: b :: c :: d :: y :: r)) L') (q : ∀ H', Hs B L' H' → R H') : rSetL (.ref l) (.int 4) y H R := w_setL (k := 4) hs h rfl (by simp) q
end
theorem w_eqB {a b : Bool} {H : Hp} {Q : VK} (q : Q (.bl (decide (a = b))) H) : rEq (.bl a) (.bl b) H Q := ⟨rfl, by
  have e : decide (V.bl a = V.bl b) = decide (a = b) := by cases a <;> cases b <;> decide
  rw [e]
  exact q⟩
/-- arguments that are known -/
def kTA (vs : List V) : TA := fun _ H Q => Q vs H
theorem w_for1 {σ : St} {H : Hp} {D : Ends} {ta : TA} {tb : TS} {g : TG} (q : ta σ H fun vs H1 => tFor (iRng1 (kTA vs)) g tb D σ H1) : tFor (iRng1 ta) g tb D σ H := q
theorem w_for2 {σ : St} {H : Hp} {D : Ends} {ta : TA} {tb : TS} {g : TG} (q : ta σ H fun vs H1 => tFor (iRng2 (kTA vs)) g tb D σ H1) : tFor (iRng2 ta) g tb D σ H := q
/-! ### an own exception -/
section
variable {X : Cx} {C a : Addr}
/-- X.__init__(self, ..) of an own class that has its __init__ from ValueError -/
theorem pe_ownInit {x : Str} {e : Expr} {es : List Expr} {ta : TA} {p1 p2 pos : Pos} {pl : Sem Bool} (hg : Gl X x) (hm : X.mg x = some (.ref C)) (r : CRead X.K C (.type "type")) (cv : PySem.W.findCls X.K (.ref C) (.type "type") "__init__" = some (.val (.builtin "ValueError.__init__"))) (ha : PA X (e :: es) ta)
    (hdb : (x == ("__debug__" : Str)) = false := by decide)
    (hc : eval (.Call (.Attribute (.Name x p1) "__init__" p2) (e :: es) [] pos) X.env = (do
      let ov ← eval (.Name x p1) X.env
      standAt p2.atName
      let (f, first) ← holding [ov] (getMethod ov "__init__" pl)
      callWith pos f first (backTo pos (starEach (e :: es) X.env)) (backToKw pos (keywordEach [] X.env))) := by rfl)
    (he : starEach (e :: es) X.env = (false, eval e X.env) :: starEach es X.env := by rfl) (hpl : (backTo pos (starEach es X.env)).any (·.1) = false := by rfl) :
    PE X (.Call (.Attribute (.Name x p1) "__init__" p2) (e :: es) [] pos) (tVeI X.K ta) := by
  constructor
  intro pins s σ H Q I h
  refine PySem.W.methodCall_KW ?_ hc
  refine ld_glob I hg hm ?_ hdb
  refine PySem.W.method_cls I.kIn r.ga (PySem.W.cls_value I.kIn r.rd cv rfl ?_)
  have fin : ∀ (us : List Value) (s1 : Shared), AP X pins σ (fun vs H1 => ∃ (a C : Addr) (ws : List V), vs = .ref a :: ws ∧ ws.length ≤ 1000 ∧ OexC X.K C ∧ H1 a = some (exo a C none) ∧ Q .non H1) us s1 → wpAny (model X.prog X.w) X.A (call (.builtin "ValueError.__init__") us) (EP X pins σ Q) X.xe s1 := by
    rintro us s1 ⟨vs, H1, I1, r1, a', C', ws, rfl, hw, hT, hE, q1⟩
    match us, r1 with
    | u0 :: ur, .cons r0 rr =>
      cases (show u0 = Value.ref a' from r0)
      have hn : ur.length ≤ sizeLine := by
        rw [← Paired.length rr, sizeLine_eq]
        omega
      exact oinit_ok hT I1 hE hn fun _ J => ⟨.non, _, J, rfl, q1⟩
  exact PyProof.Rows.callWith_method1 (thn (ha.run pos pins _ σ H _ (I.tok _) h) fin) he hpl
/-- o.m(e), what it lets out by the slots -/
def tMethQ (C : Addr) (m : Str) (sp : Sp) (E : St → XK) (ta : TE) (t : TA) : TE := fun σ H Q => ta σ H fun x H1 => ∃ a dx fs, x = .ref a ∧ H1 a = some (.ins C dx fs) ∧ fs.lookup m = none ∧ t σ H1 fun vs H2 => sp (x :: vs) H2 Q (E σ)
theorem pe_methQ {CX : CXT} {k : Nat} {f : Addr} {fd : FuncData} {ps : List Str} {sp : Sp} {E : St → XK} {m : Str} {pos apos : Pos} {e o : Expr} {es : List Expr} {ta : TE} {t : TA} {pl : Sem Bool} (ho : PE X o ta) (c : Cls X.K C) (hm : Meth X.K C m f) (F : FnOk X.prog X.w X.K X.mg X.base CX k f fd ps sp)
    (hr : Room k X.A) (hb : Binds X.K fd ps []) (hx : ∀ σ, PassesAt CX X σ (E σ)) (ha : PA X (e :: es) t) (h1 : starEach (e :: es) X.env = (false, eval e X.env) :: starEach es X.env := by rfl) (h2 : (backTo pos (starEach es X.env)).any (·.1) = false := by rfl)
    (h3 : eval (.Call (.Attribute o m apos) (e :: es) [] pos) X.env = (do
      let ov ← eval o X.env
      standAt apos.atName
      let (f, first) ← holding [ov] (getMethod ov m pl)
      callWith pos f first (backTo pos (starEach (e :: es) X.env)) (backToKw pos (keywordEach [] X.env))) := by rfl) :
    PE X (.Call (.Attribute o m apos) (e :: es) [] pos) (tMethQ C m sp E ta t) := by
  constructor
  intro pins s σ H Q I h
  refine PySem.W.methodCall_KW (pl := pl) (thn (ho.run pins s σ H _ I h) ?_) h3
  rintro u s1 ⟨x, H1, I1, rx, a, dx, fs, rfl, ea, l, q⟩
  cases (show u = Value.ref a from rx)
  refine getmeth_ok I1 ea c hm l (PySem.W.callWith_K (first := [.ref a]) (h₀ := X.base) I.ok.mod.kin hm.kp (thn (ha.run pos pins s1 σ H1 _ I1 q) ?_) h1 h2)
  rintro us s2 ⟨vs, H2, I2, r, q2⟩
  exact ⟨I2.kIn, run_fnS (us := .ref a :: us) (vs := .ref a :: vs) F hr hb (hx σ) I2 (.cons rfl r) q2⟩
/-- what an own exception's class D must have for isinstance -/
structure XcC (K : PySem.W.Frag) (D : Addr) : Prop where
  cl : (PySem.W.clsIn K D).isSome = true
  ga : PySem.W.findIn K (.ref D) "__getattribute__" = some (some (.builtin "BaseException.__getattribute__"))
  gt : PySem.W.findIn K (.ref D) "__getattr__" = some none
  ex : PySem.W.subIn K (.ref D) (.type "BaseException") = some true
  cs : PySem.W.findIn K (.ref D) "__class__" = some (some (.builtin "object.__class__"))
  gd : PySem.W.specialIn K (.builtin "object.__class__") "__get__" = some (some (.builtin "getset_descriptor.__get__"))
  tk : PySem.W.takesIn K (.builtin "object.__class__") = some true
  mo : PySem.W.mroIn K D (.type "object") = some true
theorem kit_own {K : PySem.W.Frag} {D C : Addr} {b : Bool} (n : D ≠ C) (hc : PySem.W.isClsIn K C = true) (ht : PySem.W.typeIn K (.ref C) = some (.type "type")) (h : PySem.W.subIn K (.ref D) (.ref C) = some b) : PySem.W.kitOne K (.ref D) (.ref C) = some b := by
  have e : (Value.ref D == Value.ref C) = false := beq_eq_false_iff_ne.mpr fun q => n (Value.ref.inj q)
  have hc' : (PySem.W.clsIn K C).isSome = true := hc
  unfold PySem.W.kitOne PySem.W.kitCls
  simp [e, hc', ht, h]
theorem kit_ownT {K : PySem.W.Frag} {D C : Addr} (hc : PySem.W.isClsIn K C = true) (ht : PySem.W.typeIn K (.ref C) = some (.type "type")) (h : PySem.W.subIn K (.ref D) (.ref C) = some true) : PySem.W.kitOne K (.ref D) (.ref C) = some true := by
  by_cases e : D = C
  · subst e
    unfold PySem.W.kitOne
    rw [if_pos (beq_self_eq_true _)]
  · exact kit_own e hc ht h
/-- isinstance(e, c) of an exception that the suite holds, with its dict -/
def rIsX (K : PySem.W.Frag) (a : Addr) (cls : Value) (d : Option Addr) : List V → Hp → VK → Prop := fun xs H Q => ∃ (D C dd : Addr) (fs : List (Str × V)) (b : Bool), cls = .ref D ∧ d = some dd ∧ H dd = some (.xd fs) ∧ xs = [.ref a, .ref C] ∧ XcC K D ∧ PySem.W.kitOne K (.ref D) (.ref C) = some b ∧ Q (.bl b) H
theorem call_isX {oe : Obj} {cls : Value} {d : Option Addr} {pn : List (Addr × Obj)} (hz : Zc cls d oe) (hf : ∃ vs, oe.data = .fields vs) : CallR (X.suite a ((a, oe) :: pn)) (.builtin "isinstance") (rIsX X.K a cls d) := by
  rintro pins s σ H xs us Q I r ⟨D, C, dd, fs, b, rfl, rfl, hd, rfl, hD, hk, q⟩
  obtain ⟨u1, u2, rfl, r1, r2⟩ := vals2 r
  cases (show u1 = Value.ref a from r1)
  cases (show u2 = Value.ref C from r2)
  obtain ⟨ha, _⟩ := I.pin (a, oe) (List.mem_append_left _ List.mem_cons_self)
  obtain ⟨vs, hv⟩ := hf
  obtain ⟨mA, hns, _⟩ := (show ObjOk X.prog X.w H s.heap dd (.xd fs) from I.hok dd _ hd)
  obtain ⟨od, ho, _⟩ := lookIn_ns hns
  have J : PySem.W.InstAt s.heap a oe D (some od) := ⟨ha, hz.1, by unfold PySem.W.notCls; rw [hv] <;> rfl, by rw [hz.2]; exact ho⟩
  exact PySem.W.kia_one (PySem.W.kitx_exc hD.cl hD.ga hD.gt hD.ex hD.cs hD.gd hD.tk hD.mo) I.kIn J hk (fun z => nomatch z) fun tk => ⟨.bl b, H, I.kept (t' := tk) fun _ _ z => z, rfl, q⟩
end
section
variable {K : PySem.W.Frag} {σ : St} {H : Hp} {Q : VK} {D : Ends} {te tv to : TE} {ts : TA} {f : Str} {v x y : V} {C a : Addr} {B : Hp} {L L' : List (Addr × HO)}
def RVe (K : PySem.W.Frag) (vs : List V) (H : Hp) (Q : VK) : Prop := ∃ (a C : Addr) (ws : List V), vs = .ref a :: ws ∧ ws.length ≤ 1000 ∧ OexC K C ∧ H a = some (exo a C none) ∧ Q .non H
theorem w_vei (q : ts σ H fun vs H1 => RVe K vs H1 Q) : tVeI K ts σ H Q := q
theorem w_ve {ws : List V} (hl : ws.length ≤ 1000) (hT : OexC K C) (h : H a = some (exo a C none)) (q : Q .non H) : RVe K (.ref a :: ws) H Q := ⟨a, C, ws, rfl, hl, hT, h, q⟩
def ROst (K : PySem.W.Frag) (f : Str) (y x : V) (H : Hp) (R : Hp → Prop) : Prop := ∃ a C : Addr, x = .ref a ∧ OexC K C ∧ PySem.W.findIn K (.ref C) f = some none ∧
  ((H a = some (exo a C none) ∧ ∀ dx, H dx = none → dx ≠ a → R (upd (upd H dx (exd dx [(f, y)])) a (exo a C (some dx)))) ∨
    ∃ (dx : Addr) (fs : List (Str × V)), H a = some (exo a C (some dx)) ∧ H dx = some (exd dx fs) ∧ fs.length ≤ 900 ∧ R (upd H dx (exd dx ((f, y) :: fs))))
theorem w_ost0 (q : te σ H fun y H1 => to σ H1 fun x H2 => ROst K f y x H2 (D.nx σ)) : tOst K f to te D σ H := q
theorem w_ost {R : Hp → Prop} (hs : Hs B ((a, exo a C none) :: L) H) (hT : OexC K C) (hn : PySem.W.findIn K (.ref C) f = some none) (q : ∀ dx H', Hs B ((dx, exd dx [(f, y)]) :: (a, exo a C (some dx)) :: L) H' → R H') : ROst K f y (.ref a) H R :=
  ⟨a, C, rfl, hT, hn, .inl ⟨hs.g0, fun dx hd _ => q dx _ ((hs.new hd).p1 _)⟩⟩
/-- the making of an own exception -/
def MkO (C : Addr) (sp : Sp) (vs dvs : List V) (H1 : Hp) (Q : XK) : Prop := vs.length ≤ 1000 ∧ ∀ a, H1 a = none → sp (.ref a :: (vs ++ dvs)) (upd H1 a (exo a C none))
  (fun v H2 => v = .non ∧ ∃ (d : Addr) (fs : List (Str × V)), H2 a = some (exo a C (some d)) ∧ H2 d = some (exd d fs) ∧ H1 d = none ∧ Q (.ref C) (some d) (upd (del H2 a) d (.xd fs))) (fun _ _ _ => False)
theorem w_mko {sp : Sp} {dvs : List V} {Q : XK} (q : ts σ H fun vs H1 => MkO C sp vs dvs H1 Q) : tMkO C sp dvs ts σ H Q := by
  revert q
  unfold tMkO MkO
  exact id
/-- what an own __init__ with one field promises -/
def spXinit (C : Addr) (f : Str) (ok : V → Prop) : Sp := fun vs H Q _ => ∃ (B : Hp) (e : Addr) (v : V), vs = [.ref e, v] ∧ Hs B [(e, exo e C none)] H ∧ ok v ∧ ∀ dx H', Hs B [(dx, exd dx [(f, v)]), (e, exo e C (some dx))] H' → Q .non H'
theorem w_mkX {ok : V → Prop} {Q : XK} (hs : Hs B L H) (hv : ok v) (q : ∀ d H', Hs B ((d, .xd [(f, v)]) :: L) H' → Q (.ref C) (some d) H') : MkO C (spXinit C f ok) [v] [] H Q := by
  refine ⟨by simp, fun a ha => ?_⟩
  have h1 := hs.new (o := exo a C none) ha
  obtain ⟨_, h2, back⟩ := h1.frame [(a, exo a C none)]
  refine ⟨_, a, v, rfl, h2, hv, fun dx H2 h3 => ⟨rfl, dx, [(f, v)], h3.g1, h3.g0, ?_, ?_⟩⟩
  · have n : dx ≠ a := fun e => by
      have := h3.nd
      rw [e] at this
      simp at this
    have z := h3.out _ List.mem_cons_self
    have nm : dx ∉ [(a, exo a C none)].map (·.1) := by
      simp only [List.map_cons, List.map_nil, List.mem_singleton]
      exact n
    have z2 : upd H a (exo a C none) dx = none := (around_out nm).symm.trans z
    rwa [upd_ne n] at z2
  · have h4 := back _ _ h3
    have nd := h4.nd
    have hda : dx ≠ a := fun e => by
      rw [e] at nd
      simp at nd
    have nL : ∀ e ∈ L, e.1 ≠ dx ∧ e.1 ≠ a := fun e he => by
      simp only [List.cons_append, List.nil_append, List.map_cons, List.nodup_cons, List.mem_cons, not_or] at nd
      refine ⟨fun z => nd.1.2 ?_, fun z => nd.2.1 ?_⟩
      · rw [← z]
        exact List.mem_map.mpr ⟨e, he, rfl⟩
      · rw [← z]
        exact List.mem_map.mpr ⟨e, he, rfl⟩
    have ba : B a = none := hs.same.free ha
    have bd : B dx = none := h4.out _ List.mem_cons_self
    refine q dx _ ⟨fun b o e => ?_, ?_, fun e he => ?_, fun e he => ?_⟩
    · have n1 : b ≠ dx := fun z => by
        rw [z, bd] at e
        cases e
      have n2 : b ≠ a := fun z => by
        rw [z, ba] at e
        cases e
      rw [upd_ne n1, del_ne n2]
      exact h4.same b o e
    · simp only [List.cons_append, List.nil_append, List.map_cons, List.nodup_cons, List.mem_cons, not_or] at nd ⊢
      exact ⟨nd.1.2, nd.2.2⟩
    · rcases List.mem_cons.mp he with rfl | he
      · exact bd
      · exact hs.out e he
    · rcases List.mem_cons.mp he with rfl | he
      · exact upd_same
      · obtain ⟨n1, n2⟩ := nL e he
        rw [upd_ne n1, del_ne n2]
        exact h4.at_ e (List.mem_cons_of_mem _ (List.mem_cons_of_mem _ he))
theorem w_methQ {sp : Sp} {E : St → XK} {m : Str} {ta : TE} (q : ta σ H fun x H1 => Rc m C x H1 (ts σ H1 fun vs H2 => sp (x :: vs) H2 Q (E σ))) : tMethQ C m sp E ta ts σ H Q := by
  revert q
  unfold tMethQ Rc
  exact id
theorem w_isX {d : Addr} {fs : List (Str × V)} {C' : Addr} {b : Bool} (h : H d = some (.xd fs)) (hx : XcC K C) (hk : PySem.W.kitOne K (.ref C) (.ref C') = some b) (q : Q (.bl b) H) : rIsX K a (.ref C) (some d) [.ref a, .ref C'] H Q := ⟨C, C', d, fs, b, rfl, rfl, h, rfl, hx, hk, q⟩
def RXf (a : Addr) (cls : Value) (d : Option Addr) (C : Addr) (f : Str) (x : V) (H : Hp) (Q : VK) : Prop := x = .ref a ∧ cls = .ref C ∧ ∃ (dd : Addr) (fs : List (Str × V)) (v : V), d = some dd ∧ H dd = some (.xd fs) ∧ fs.lookup f = some v ∧ Q v H
theorem w_xf0 {cls : Value} {d : Option Addr} (q : te σ H fun x H1 => RXf a cls d C f x H1 Q) : tXf a cls d C f te σ H Q := q
theorem w_xf {d : Addr} {fs : List (Str × V)} (h : H d = some (.xd fs)) (hl : fs.lookup f = some v) (q : Q v H) : RXf a (.ref C) (some d) C f (.ref a) H Q := ⟨rfl, rfl, d, fs, v, rfl, h, hl, q⟩
theorem w_was {i : Nat} {ts : Addr → Value → Option Addr → TS} {Wout : WX} {d : Addr} (he : PySem.W.exmOne K (.ref C) (.ref C) = some true)
    (q : ∀ e, H e = none → ts e (.ref C) (some d) { nx := fun σ' H' => D.nx (σ'.set i none) H', rt := D.rt, bk := fun σ' H' => D.bk (σ'.set i none) H', ct := fun σ' H' => D.ct (σ'.set i none) H' } (σ.set i (some (.ref e))) H) :
    wAs K (.ref C) i ts Wout D (.ref C) (some d) σ H := ⟨true, he, fun _ e h => q e h, fun z => Bool.noConfusion z⟩
theorem w_eqSt {a b : Str} (q : Q (.bl (decide (a = b))) H) : rEq (.str a) (.str b) H Q := ⟨rfl, by
  have e : decide (V.str a = V.str b) = decide (a = b) := by
    by_cases h : a = b
    · rw [decide_eq_true h, decide_eq_true (congrArg V.str h)]
    · rw [decide_eq_false h, decide_eq_false fun q => h (V.str.inj q)]
  rw [e]
  exact q⟩
/-- texts of an f-string -/
theorem w_js {t : TE} {us : List TE} {acc : Str} {Q : Str → Hp → Prop} (q : t σ H fun x H1 => ∃ y : Str, x = .str y ∧ (acc ++ y).length ≤ sizeLine ∧ tJs us (acc ++ y) σ H1 Q) : tJs (t :: us) acc σ H Q := q
theorem w_js0 {acc : Str} {Q : Str → Hp → Prop} (q : Q acc H) : tJs [] acc σ H Q := q
theorem w_js1 {s acc : Str} {R : Str → Prop} (h : (acc ++ s).length ≤ sizeLine) (q : R s) : ∃ y : Str, V.str s = .str y ∧ (acc ++ y).length ≤ sizeLine ∧ R y := ⟨s, rfl, h, q⟩
def RFmt (x : V) (H : Hp) (Q : VK) : Prop := (∃ y : Str, x = .str y ∧ y.length ≤ sizeLine ∧ Q (.str y) H) ∨ ∃ i : Int, x = .int i ∧ i.natAbs.log2 < 1920 ∧ Q (.str (toString i)) H
theorem w_fmt (q : te σ H fun x H1 => RFmt x H1 Q) : tFmt te σ H Q := q
theorem w_fmtS {s : Str} (h : s.length ≤ sizeLine) (q : Q (.str s) H) : RFmt (.str s) H Q := .inl ⟨s, rfl, h, q⟩
theorem w_fmtI {n : Int} (h : n.natAbs < 2 ^ 64) (q : Q (.str (toString n)) H) : RFmt (.int n) H Q := .inr ⟨n, rfl, Nat.lt_of_lt_of_le (PySem.Flt.log2_lt_of (by decide) h) (by decide), q⟩
def tRaiseX (W : WX) (t : St → Hp → XK → Prop) : TS := fun _ σ H => t σ H fun cls d H' => W cls d σ H'
theorem ps_raiseQ {X : Cx} {W : WX} {e : Expr} {t : St → Hp → XK → Prop} {pos : Pos} (hc : X.calm = true) (tk : Takes X W) (he : PMk X e t) : PS X (.Raise (some e) none pos) (tRaiseX W t) := ps_raise hc tk he
theorem w_raise {W : WX} {t : St → Hp → XK → Prop} (q : t σ H fun cls d H' => W cls d σ H') : tRaiseX W t D σ H := q
end

/-! ### data that nobody changes: scalars and tuples -/
mutual
inductive Im (K : PySem.W.Frag) (H : Hp) : V → PyData → Prop
  | non : Im K H .non .none
  | bl (b : Bool) : Im K H (.bl b) (.bool b)
  | int (i : Int) : Im K H (.int i) (.int i)
  | str (x : Str) : Im K H (.str x) (.str x)
  | tup {a : Addr} {xs : List V} {ds : List PyData} : H a = some (.tup xs) → ImAll K H xs ds → Im K H (.ref a) (.tuple ds)
inductive ImAll (K : PySem.W.Frag) (H : Hp) : List V → List PyData → Prop
  | nil : ImAll K H [] []
  | cons {v : V} {vs : List V} {d : PyData} {ds : List PyData} : Im K H v d → ImAll K H vs ds → ImAll K H (v :: vs) (d :: ds)
end
section
variable {K : PySem.W.Frag} {H H' : Hp}
mutual
theorem Im.dp : ∀ {d : PyData} {v : V}, Im K H v d → Dp K H v d
  | .none, _, h => by cases h; exact .non
  | .bool _, _, h => by cases h; exact .bl _
  | .int _, _, h => by cases h; exact .int _
  | .str _, _, h => by cases h; exact .str _
  | .tuple _, _, h => by
    cases h with
    | tup h1 h2 => exact .tup (SqT.of h1) h2.dp
  | .list _, _, h => nomatch h
  | .dict _, _, h => nomatch h
theorem ImAll.dp : ∀ {ds : List PyData} {vs : List V}, ImAll K H vs ds → DpAll K H vs ds
  | [], _, h => by cases h; exact .nil
  | _ :: _, _, h => by
    cases h with
    | cons h1 h2 => exact .cons h1.dp h2.dp
end
mutual
theorem Im.mono (e : ∀ a xs, H a = some (.tup xs) → H' a = some (.tup xs)) : ∀ {d : PyData} {v : V}, Im K H v d → Im K H' v d
  | .none, _, h => by cases h; exact .non
  | .bool _, _, h => by cases h; exact .bl _
  | .int _, _, h => by cases h; exact .int _
  | .str _, _, h => by cases h; exact .str _
  | .tuple _, _, h => by
    cases h with
    | tup h1 h2 => exact .tup (e _ _ h1) (h2.mono e)
  | .list _, _, h => nomatch h
  | .dict _, _, h => nomatch h
theorem ImAll.mono (e : ∀ a xs, H a = some (.tup xs) → H' a = some (.tup xs)) : ∀ {ds : List PyData} {vs : List V}, ImAll K H vs ds → ImAll K H' vs ds
  | [], _, h => by cases h; exact .nil
  | _ :: _, _, h => by
    cases h with
    | cons h1 h2 => exact .cons (h1.mono e) (h2.mono e)
end
theorem Im.same (e : Same H H') {d : PyData} {v : V} (h : Im K H v d) : Im K H' v d := h.mono fun _ _ => e _ _
theorem ImAll.same (e : Same H H') {ds : List PyData} {vs : List V} (h : ImAll K H vs ds) : ImAll K H' vs ds := h.mono fun _ _ => e _ _
theorem ImAll.snoc {ds : List PyData} {vs : List V} {d : PyData} {v : V} (h : ImAll K H vs ds) (h1 : Im K H v d) : ImAll K H (vs ++ [v]) (ds ++ [d]) := by
  induction vs generalizing ds with
  | nil =>
    cases h
    exact .cons h1 .nil
  | cons w ws ih =>
    cases h with
    | cons a b => exact .cons a (ih b)
theorem ImAll.len : ∀ {ds : List PyData} {vs : List V}, ImAll K H vs ds → vs.length = ds.length
  | [], _, h => by cases h; rfl
  | _ :: _, _, h => by
    cases h with
    | cons _ b => exact congrArg (· + 1) b.len
/-- what is data stays data where a list changes -/
theorem tup_but {p : Addr} {o o' : HO} (h : H p = some o) (n : ∀ xs, o ≠ .tup xs) (a : Addr) (xs : List V) (e : H a = some (.tup xs)) : upd H p o' a = some (.tup xs) := by
  have d : a ≠ p := fun z => by
    rw [z, h] at e
    exact n xs (Option.some.inj e)
  rw [upd_ne d]
  exact e
theorem Hs.base {B B2 : Hp} {L : List (Addr × HO)} (e : Same B B2) (h : Hs B2 L H) : Hs B L H := ⟨e.trans h.same, h.nd, fun x hx => e.free (h.out x hx), h.at_⟩
end
section
variable {K : PySem.W.Frag} {σ : St} {H : Hp} {Q : VK} {te : TE} {ts : TA}
/-- [e for i in range(lo, hi)], each e data that is made anew -/
theorem w_lcI {vs : List Nat} {j : Nat} {lo hi : Int} (b1 : -(2 ^ 62) ≤ lo ∧ lo < 2 ^ 62 ∧ -(2 ^ 62) ≤ hi ∧ hi < 2 ^ 62) (hz : hi - lo ≤ 1000000) (ds : Nat → PyData) (hta : ∀ Q : List V → Hp → Prop, Q [.int lo, .int hi] H → ts σ H Q)
    (hw : ∀ v, wipe ((wipe σ vs).set j (some v)) vs = wipe σ vs)
    (he : ∀ (i : Nat) (H' : Hp) (Q' : VK), lo + (i : Int) < hi → Same H H' → (∀ y H3, Same H' H3 → Im K H3 y (ds i) → Q' y H3) → te ((wipe σ vs).set j (some (.int (lo + (i : Int))))) H' Q')
    (hq : ∀ D acc H', Hs H [(D, .lst acc)] H' → ImAll K H' acc ((List.range (hi - lo).toNat).map ds) → Q (.ref D) H') : tLc (iRng2 ts) (gName j) tYes te vs σ H Q := by
  refine w_lcR b1 (fun D i H' => ∃ acc, Hs H [(D, .lst acc)] H' ∧ ImAll K H' acc ((List.range i).map ds)) hta (fun D hD => ⟨[], (Hs.start H).new hD, .nil⟩) ?_ ?_
  · rintro D i H' hi' ⟨acc, h1, h2⟩
    refine ⟨hw _, ?_⟩
    refine w_yes (iteT ?_)
    refine he i H' _ hi' h1.same fun y H3 s3 hy => ?_
    have hD : H3 D = some (.lst acc) := s3 _ _ h1.g0
    have hl := h2.len
    rw [List.length_map, List.length_range] at hl
    refine ⟨acc, hD, szl (by omega), acc ++ [y], ?_, ?_⟩
    · have h3 : Hs H [(D, .lst acc)] H3 := ⟨h1.same.trans s3, h1.nd, h1.out, fun e he => s3 _ _ (h1.at_ e he)⟩
      exact h3.p0 _
    · rw [List.range_succ, List.map_append]
      exact ((h2.same s3).snoc hy).mono fun a xs => tup_but hD (fun _ z => by cases z) a xs
  · rintro D H' ⟨acc, h1, h2⟩
    exact hq D acc H' h1 h2
theorem w_lcI1 {vs : List Nat} {j : Nat} {hi : Int} (b1 : -(2 ^ 62) ≤ hi ∧ hi < 2 ^ 62) (hz : hi ≤ 1000000) (ds : Nat → PyData) (hta : ∀ Q : List V → Hp → Prop, Q [.int hi] H → ts σ H Q)
    (hw : ∀ v, wipe ((wipe σ vs).set j (some v)) vs = wipe σ vs)
    (he : ∀ (i : Nat) (H' : Hp) (Q' : VK), (i : Int) < hi → Same H H' → (∀ y H3, Same H' H3 → Im K H3 y (ds i) → Q' y H3) → te ((wipe σ vs).set j (some (.int (i : Int)))) H' Q')
    (hq : ∀ D acc H', Hs H [(D, .lst acc)] H' → ImAll K H' acc ((List.range hi.toNat).map ds) → Q (.ref D) H') : tLc (iRng1 ts) (gName j) tYes te vs σ H Q := by
  refine w_lcR1 b1 (fun D i H' => ∃ acc, Hs H [(D, .lst acc)] H' ∧ ImAll K H' acc ((List.range i).map ds)) hta (fun D hD => ⟨[], (Hs.start H).new hD, .nil⟩) ?_ ?_
  · rintro D i H' hi' ⟨acc, h1, h2⟩
    refine ⟨hw _, ?_⟩
    refine w_yes (iteT ?_)
    refine he i H' _ hi' h1.same fun y H3 s3 hy => ?_
    have hD : H3 D = some (.lst acc) := s3 _ _ h1.g0
    have hl := h2.len
    rw [List.length_map, List.length_range] at hl
    refine ⟨acc, hD, szl (by omega), acc ++ [y], ?_, ?_⟩
    · have h3 : Hs H [(D, .lst acc)] H3 := ⟨h1.same.trans s3, h1.nd, h1.out, fun e he => s3 _ _ (h1.at_ e he)⟩
      exact h3.p0 _
    · rw [List.range_succ, List.map_append]
      exact ((h2.same s3).snoc hy).mono fun a xs => tup_but hD (fun _ z => by cases z) a xs
  · rintro D H' ⟨acc, h1, h2⟩
    exact hq D acc H' h1 h2
theorem depth_all {n : Nat} : ∀ ds : List PyData, (∀ d ∈ ds, d.depth ≤ n) → PyData.depthAll ds ≤ n
  | [], _ => by simp [PyData.depthAll]
  | d :: ds, h => by
    have h1 := h d List.mem_cons_self
    have h2 := depth_all ds fun x hx => h x (List.mem_cons_of_mem _ hx)
    simp only [PyData.depthAll]
    omega
theorem lay_all : ∀ ds : List PyData, (∀ d ∈ ds, d.canLay0 = true) → PyData.canLayAll0 ds = true
  | [], _ => by simp [PyData.canLayAll0]
  | d :: ds, h => by
    have h1 := h d List.mem_cons_self
    have h2 := lay_all ds fun x hx => h x (List.mem_cons_of_mem _ hx)
    simp only [PyData.canLayAll0, h1, h2, Bool.and_self]
theorem shp_list {ds : List PyData} (h : ∀ d ∈ ds, d.canLay0 = true ∧ d.depth ≤ 60) : SeqAt.shaped (.list ds) = true := by
  have e := depth_all ds fun d hd => (h d hd).2
  have l := lay_all ds fun d hd => (h d hd).1
  unfold SeqAt.shaped PyData.canLay0 PyData.depth
  rw [l]
  simp only [Bool.true_and, decide_eq_true_eq]
  omega
/-- two lists of like data are equal -/
theorem w_eqL {p q : Addr} {xs ys : List V} {ds : List PyData} (hp : H p = some (.lst xs)) (hq : H q = some (.lst ys)) (h1 : ImAll K H xs ds) (h2 : ImAll K H ys ds) (h : ∀ d ∈ ds, d.canLay0 = true ∧ d.depth ≤ 60) (k : Q (.bl true) H) : rEqD K (.ref p) (.ref q) H Q :=
  ⟨_, _, .lst (SqL.of hp) h1.dp, .lst (SqL.of hq) h2.dp, shp_list h, shp_list h, by
    rw [SeqAt.eqv_refl _ (by have := shp_list h; unfold SeqAt.shaped at this; exact (Bool.and_eq_true_iff.mp this).1)]
    exact k⟩
theorem w_neL {p q : Addr} {xs ys : List V} {ds : List PyData} (hp : H p = some (.lst xs)) (hq : H q = some (.lst ys)) (h1 : ImAll K H xs ds) (h2 : ImAll K H ys ds) (h : ∀ d ∈ ds, d.canLay0 = true ∧ d.depth ≤ 60) (k : Q (.bl false) H) : rNeD K (.ref p) (.ref q) H Q :=
  ⟨_, _, .lst (SqL.of hp) h1.dp, .lst (SqL.of hq) h2.dp, shp_list h, shp_list h, by
    rw [SeqAt.eqv_refl _ (by have := shp_list h; unfold SeqAt.shaped at this; exact (Bool.and_eq_true_iff.mp this).1)]
    exact k⟩
theorem ima_str : ∀ xs : List Str, ImAll K H (xs.map V.str) (xs.map PyData.str)
  | [] => .nil
  | x :: xs => .cons (.str x) (ima_str xs)
end
end Hb

set_option Elab.async false
set_option maxRecDepth 100000
set_option maxHeartbeats 4000000
/-! An own exception's __init__ that says super().__init__(..): the def closes over its class. -/
namespace Hb
open PySem L2 ClX PySem.W PyProof.Rows

section
variable {X : Cx} {pins : List (Addr × Obj)} {σ : L2.St} {H : Hp} {s : Shared} {a C u : Addr} {A : Around} {E : Value → Shared → Prop}
theorem exo_upd {H : Hp} {a : Addr} {o : HO} (e : H a = some o) : upd H a o = H := by
  funext b
  by_cases hb : b = a
  · rw [hb, upd_same, e]
  · rw [upd_ne hb]
/-- ValueError's __init__ bound to the exception, called -/
theorem call_mw {us : List Value} {Q : Value → Shared → Prop} (T : OexC X.K C) (I : Inv X pins σ H s) (e : H a = some (exo a C none)) (hu : s.heap.get? u = some (kxs_mw "ValueError.__init__" a)) (hl : us.length ≤ sizeLine)
    (h : ∀ s', Inv X pins σ H s' → Q .none s') : wpAny (model X.prog X.w) A (call (.ref u) us) Q E s := by
  obtain ⟨nm, q, N, bs, bm, sn, sub, ab, col, dd, k0, k1, k2, k3, k5, hC, hbm⟩ := T.cls
  obtain ⟨t1, ho⟩ := exo_at I.hok e
  have hC' := I.kIn _ _ hC
  have FB := F.excBase_ValueError
  obtain ⟨hp, g, d, t, os⟩ := s
  refine wpAny_call (codeAny_of_tree ?_)
  show wpAny _ A.in1 (callAny (.ref u) ⟨us, []⟩) _ _ _
  simp only [callAny]
  refine wpAny_bind (wpAny_load hu ?_)
  simp only [show (Value.type "method-wrapper" == Value.type "method" || Value.type "method-wrapper" == Value.type "builtin_function_or_method" || Value.type "method-wrapper" == Value.type "method-wrapper") = true by decide, if_true]
  refine KFB.if_so (by decide) ?_
  refine wpAny_bind (check_bound_init FB.toExcCallFacts hC' ho rfl ?_)
  refine wpAny_bind (wpAny_pure (wpAny_pure ?_))
  refine ⟨plainId_quiet FB.init.plain _, codeAny_builtin FB.initEntry ?_⟩
  refine exc_init_tree (cls := .ref C) (t0 := t1) (dv := none) (c2 := .none) (c3 := .none) (b4 := .bool false) ho hl fun h' k hx _ => ?_
  have J := I.write (t' := t) (x := a) (e := a) (o := exo a C none) (by rw [e]; exact True.intro) (.inl rfl) k ⟨_, hx⟩ (exo_ok hx)
  rw [exo_upd e] at J
  exact h _ J
end

/-- what stands of a def that closes over its class -/
structure FunS (P : Program) (K : PySem.W.Frag) (mg : Str → Option Value) (x qual : Str) (st : Stmt) (f : Addr) (fd : FuncData) (C : Addr) : Prop where
  ex : ∃ (oc : Value) (od : Option Addr) (kV doc pm : Value) (an : Option Addr) (cda : Addr) (ct : Value) (cc : Addr) (osl : Array (Option Value)) (ccl : Value) (cdd : Option Addr) (vs : Array Value) (ccs : Array (Option Value)) (file : Str) (tf : Tok) (cl : Value) (cld : Option Addr) (csl : Array (Option Value)),
    fd = fnX x qual (defArgs st) (defBody st) (defScope st) [("__class__", cc)] .none kV doc pm an (.ref cda) ct ∧ K.lookup f = some ⟨oc, od, .func fd, osl⟩ ∧ codeIn K (.ref cda) qual = true ∧
    K.lookup cda = some ⟨ccl, cdd, .fields vs, ccs⟩ ∧ vs[2]? = some (.str file tf) ∧ ((P.main.file : Str) == file) = true ∧ K.lookup cc = some ⟨cl, cld, .cell (some (.ref C)), csl⟩
  cls : ∃ cd, clsIn K C = some cd
  sub : mroIn K C (.ref C) = some true
  nsup : mg "super" = none
  nany : nsIn K cStatics "thirdparty.any" = some none
  sup : ks_superIn K C C "__init__" = some (some (.builtin "ValueError.__init__"))
  isV : subIn K (.ref C) (.type "ValueError") = some true
  top : (P.main.scope.names.lookup ("super" : Str)).isSome = false

/-- .. and of its names -/
structure ScS (N ps : List Str) (ar : Arg) (st : Stmt) : Prop where
  kind : (defScope st).kind = .function
  co : (defScope st).isCoroutine = false
  gen : (defScope st).isGenerator = false
  nd : N.Nodup
  pre : N.take ps.length = ps
  par : ∀ x ∈ ps, (defScope st).names.lookup x = some .local
  nocell : ∀ y ∈ (defScope st).names, y.2 ≠ .cell
  free : ∀ y, (defScope st).names.lookup y = some .free → y = ("__class__" : Str)
  sup : (defScope st).names.lookup ("super" : Str) = some .globalImplicit
  cls : (defScope st).names.lookup ("__class__" : Str) = some .free
  head : ((defArgs st).posonlyargs ++ (defArgs st).args).head? = some ar
  self : N[0]? = some ar.arg
  selfL : (defScope st).names.lookup ar.arg = some .local

theorem scS_by {N ps : List Str} {ar : Arg} {st : Stmt} (h : (decide ((defScope st).kind = .function) && !(defScope st).isCoroutine && !(defScope st).isGenerator && decide N.Nodup && decide (N.take ps.length = ps)) = true)
    (hn : (ps.all (fun x => decide ((defScope st).names.lookup x = some .local)) && (defScope st).names.all (fun y => !decide (y.2 = .cell)) && (defScope st).names.all (fun y => !decide (y.2 = .free) || decide (y.1 = ("__class__" : Str))) &&
      decide ((defScope st).names.lookup ("super" : Str) = some .globalImplicit) && decide ((defScope st).names.lookup ("__class__" : Str) = some .free)) = true)
    (head : ((defArgs st).posonlyargs ++ (defArgs st).args).head? = some ar) (hp : (decide (0 < ps.length)) = true) (self : N[0]? = some ar.arg) (selfL : (decide ((defScope st).names.lookup ar.arg = some .local)) = true) : ScS N ps ar st := by
  simp only [Bool.and_eq_true, Bool.not_eq_true', decide_eq_true_eq, List.all_eq_true, Bool.or_eq_true, decide_eq_false_iff_not] at h hn selfL
  obtain ⟨⟨⟨⟨h1, h2⟩, h3⟩, h4⟩, h5⟩ := h
  obtain ⟨⟨⟨⟨n1, n2⟩, n3⟩, n4⟩, n5⟩ := hn
  exact ⟨h1, h2, h3, h4, h5, n1, n2, fun y hy => (n3 _ (PySem.mem_of_lookup hy)).resolve_left (fun z => z rfl), n4, n5, head, self, selfL⟩

/-- the context of its body -/
def sxOf (P : Program) (w : World) (K : PySem.W.Frag) (mg : Str → Option Value) (base : Heap) (N : List Str) (qual : Str) (scope : Scope) (f cda cc : Addr) (A : Around) (outer : List Env) (s : Shared) (H : Hp) : Cx where
  prog := P
  w := w
  K := K
  mg := mg
  base := base
  A := A.deeper (ksEnv qual scope s.heap.objs.size f (.ref cda) cc)
  N := N
  s_0 := s
  H_0 := H
  env := ksEnv qual scope s.heap.objs.size f (.ref cda) cc
  outer := outer
  stack := ksEnv qual scope s.heap.objs.size f (.ref cda) cc :: outer
  ex := []
  calm := true
  fn := fun x => x != ("__class__" : Str)
  pn := []
  xe := fun _ _ => False

theorem rev_zip_get : ∀ {ps : List Str} {us : List Value} {i : Nat} {y : Str} {u : Value}, ps.Nodup → ps[i]? = some y → us[i]? = some u → (ps.zip us).reverse.lookup y = some u
  | [], _, _, _, _, _, h, _ => by cases h
  | _ :: _, [], _, _, _, _, _, h => by simp at h
  | p :: ps, v :: us, 0, y, u, nd, h1, h2 => by
    obtain rfl : p = y := Option.some.inj h1
    obtain rfl : v = u := Option.some.inj h2
    rw [List.zip_cons_cons, List.reverse_cons, List.lookup_append]
    have n : (ps.zip us).reverse.lookup p = none := by
      rw [List.lookup_eq_none_iff]
      intro q hq
      have := (List.of_mem_zip (List.mem_reverse.mp hq)).1
      simp only [bne_iff_ne, ne_eq]
      exact fun e => (List.nodup_cons.mp nd).1 (by rw [e]; exact this)
    rw [n]
    simp [List.lookup]
  | p :: ps, v :: us, i + 1, y, u, nd, h1, h2 => by
    rw [List.zip_cons_cons, List.reverse_cons, List.lookup_append, rev_zip_get (i := i) (List.nodup_cons.mp nd).2 (by simpa using h1) (by simpa using h2)]
    rfl

section
variable {P : Program} {w : World} {K : PySem.W.Frag} {mg : Str → Option Value} {base : Heap} {N ps : List Str} {qual : Str} {f cda cc C : Addr} {A : Around} {outer : List Env} {s : Shared} {H : Hp} {st : Stmt} {ar : Arg}
theorem inv_startS {us : List Value} {vs : List V} {h₀ : Heap} {t' : Nat} {oC : Obj} (S : ScS N ps ar st) (hd : A.handled = none) (e0 : Env0 P w K mg base A outer s H) (hl : vs.length = ps.length) (r : Vals vs us)
    (hcc : base.get? cc = some oC) (hco : ∃ v, oC.data = .cell v) (hns : h₀.Ns s.heap.objs.size (fun x => (ps.zip us).reverse.lookup x)) (hk : ∀ b o, s.heap.get? b = some o → h₀.get? b = some o) :
    Inv (sxOf P w K mg base N qual (defScope st) f cda cc A outer s H) [] (L2.start N vs) H { s with heap := h₀, toks := t' } := by
  have hpl : ps.length ≤ N.length := by have := congrArg List.length S.pre; rw [List.length_take] at this; omega
  have noA : ∀ b : Addr, b ∉ (sxOf P w K mg base N qual (defScope st) f cda cc A outer s H).ex := fun b z => absurd (show b ∈ ([] : List Addr) from z) (by simp)
  have cell1 : ∀ {x : Str} {c : Addr}, (sxOf P w K mg base N qual (defScope st) f cda cc A outer s H).env.cells.lookup x = some c → x = "__class__" ∧ c = cc := fun {x c} e => by
    have e' : List.lookup x [(("__class__" : Str), cc)] = some c := e
    by_cases hx : x = "__class__"
    · subst hx
      refine ⟨rfl, ?_⟩
      simp [List.lookup] at e'
      exact e'.symm
    · have hb : (x == ("__class__" : Str)) = false := by simpa using hx
      simp [List.lookup, hb] at e'
  have hcs := (e0.bs cc oC hcc)
  refine ⟨⟨e0.mod, S.kind, rfl, rfl, Nat.le_refl _, fun y z c h1 h2 => ?_, fun y hy => ?_, fun y c hf h => ?_, fun _ => hd, Around.frames_deeper e0.frames, .inr ⟨rfl, rfl⟩, fun b z => absurd z (noA b), e0.bs, e0.bsz, fun b _ _ => noA b, fun b z => absurd z (noA b), e0.funs, e0.frf⟩,
    rfl, e0.bare, Un.kept hk, ⟨_, hns, fun i y v h1 h2 h3 => ?_⟩, fun y c h => ?_, e0.hok.fresh (Nat.le_refl _), fun y c h => ?_, fun p hp => absurd (show p ∈ ([] : List (Addr × Obj)) from hp) (by simp), e0.hok.kept hk, ?_⟩
  · rw [(cell1 h1).1, (cell1 h2).1]
  · have hy : (defScope st).names.lookup y = some .cell ∨ (defScope st).names.lookup y = some .free := hy
    rcases hy with hy | hy
    · exact absurd rfl (S.nocell _ (PySem.mem_of_lookup hy))
    · rw [S.free y hy]
      exact ⟨cc, rfl⟩
  · rw [(cell1 h).1] at hf
    exact absurd (show (("__class__" : Str) != ("__class__" : Str)) = true from hf) (by decide)
  · have hi : i < vs.length := by
      unfold L2.start at h2
      by_cases hi : i < vs.length
      · exact hi
      · rw [List.getElem?_append_right (by simpa using hi)] at h2
        rw [List.getElem?_replicate] at h2
        split at h2 <;> cases h2
    have ha : vs[i]? = some v := by
      unfold L2.start at h2
      rw [List.getElem?_append_left (by simpa using hi), List.getElem?_map] at h2
      cases e : vs[i]? with
      | none => rw [e] at h2; cases h2
      | some a => rw [e] at h2; cases h2; rfl
    obtain ⟨u, hu, rv⟩ := r.get ha
    have hp : ps[i]? = some y := by
      rw [← S.pre, List.getElem?_take_of_lt (by omega)]; exact h1
    have ndP : ps.Nodup := by rw [← S.pre]; exact S.nd.sublist (List.take_sublist _ _)
    exact ⟨u, rv, .inl ⟨S.par y (List.mem_of_getElem? hp), rev_zip_get ndP hp hu⟩⟩
  · obtain ⟨v, hv⟩ := hco
    rw [(cell1 h).2]
    exact ⟨v, oC, hk _ _ hcs.1, hv⟩
  · rw [(cell1 h).2]
    exact hcs.2
  · unfold L2.start
    show _ = N.length
    rw [List.length_append, List.length_map, List.length_replicate]
    omega

/-- the line super().__init__(..) -/
theorem super_line {fd : FuncData} {x : Str} {body : List Stmt} {a L : Addr} {e : Expr} {es : List Expr} {p0 p1 p2 p3 p4 : Pos} {ta : TA} {σ : L2.St} {s1 : Shared} {H1 : Hp} {D : Hp → Prop} {X : Cx} {oc : Value} {od : Option Addr} {kV doc pm : Value} {an : Option Addr} {ct : Value} {osl : Array (Option Value)}
    {ccl : Value} {cdd : Option Addr} {vs : Array Value} {ccs : Array (Option Value)} {file : Str} {tf : Tok} {cl : Value} {cld : Option Addr} {csl : Array (Option Value)}
    (S : ScS N ps ar st) (F : FunS X.prog X.K X.mg x qual st f fd C) (henv : X.env = ksEnv qual (defScope st) L f (.ref cda) cc) (hN : X.N = N)
    (h1 : fd = fnX x qual (defArgs st) (defBody st) (defScope st) [("__class__", cc)] .none kV doc pm an (.ref cda) ct) (h2 : X.K.lookup f = some ⟨oc, od, .func fd, osl⟩)
    (h4 : X.K.lookup cda = some ⟨ccl, cdd, .fields vs, ccs⟩) (h5 : vs[2]? = some (.str file tf)) (h6 : ((X.prog.main.file : Str) == file) = true) (h7 : X.K.lookup cc = some ⟨cl, cld, .cell (some (.ref C)), csl⟩)
    (T : OexC X.K C) (I : Inv X [] σ H1 s1) (h0 : σ[0]? = some (some (.ref a))) (ea : H1 a = some (exo a C none)) (ha : PA X (e :: es) ta)
    (ht : ta σ H1 fun us H2 => us.length ≤ 1000 ∧ H2 a = some (exo a C none) ∧ D H2)
    {pl : Sem Bool} (hc : eval (.Call (.Attribute (.Call (.Name "super" p0) [] [] p1) "__init__" p2) (e :: es) [] p3) X.env = (do
      let ov ← attributeBase (.Call (.Name "super" p0) [] [] p1) "__init__" X.env (eval (.Call (.Name "super" p0) [] [] p1) X.env)
      standAt p2.atName
      let (f, first) ← holding [ov] (getMethod ov "__init__" pl)
      callWith p3 f first (backTo p3 (starEach (e :: es) X.env)) []))
    (he : starEach (e :: es) X.env = (false, eval e X.env) :: starEach es X.env) (hpl : (backTo p3 (starEach es X.env)).any (·.1) = false) (hi : interactive X.env = false) :
    PySem.wpAt (model X.prog X.w) X.A (.func body X.env) (exec (.Expr (.Call (.Attribute (.Call (.Name "super" p0) [] [] p1) "__init__" p2) (e :: es) [] p3) p4) X.env)
      (fun fl s' => fl = .next ∧ ∃ H2, Inv X [] σ H2 s' ∧ D H2) X.xe s1 := by
  obtain ⟨cdD, hD⟩ := F.cls
  obtain ⟨m, hns, hlook⟩ := I.loc
  obtain ⟨ux, rux, hlx⟩ := hlook 0 ar.arg (.ref a) (by rw [hN]; exact S.self) h0 (by rw [henv]; exact .inl S.selfL)
  obtain rfl : ux = Value.ref a := rux
  have hv : m ar.arg = some (.ref a) := by
    rcases hlx with hlx | ⟨hk, _⟩
    · exact hlx.2
    · have e' : (defScope st).names.lookup ar.arg = some .cell ∨ (defScope st).names.lookup ar.arg = some .free := by rw [henv] at hk; exact hk
      rw [S.selfL] at e'
      rcases e' with e' | e' <;> cases e'
  have X1 : X.K.In s1.heap := I.kIn
  obtain ⟨t1, ho⟩ := exo_at I.hok ea
  have Ia : InstAt s1.heap a _ C none := ⟨ho, rfl, rfl, trivial⟩
  obtain ⟨oD, hD1, hD2⟩ : ∃ oD, s1.heap.get? C = some oD ∧ oD.data = .cls cdD := by
    unfold clsIn at hD
    split at hD
    · rename_i c d cd' sl ho
      cases hD
      exact ⟨_, X1 _ _ ho, rfl⟩
    · cases hD
  obtain ⟨mb, hb1, hb2⟩ := I.mod.blt
  have hks : X.env.kindOf "super" = some .globalImplicit := by rw [henv]; exact S.sup
  have hkc : X.env.kindOf "__class__" = some .free := by rw [henv]; exact S.cls
  have hka : X.env.kindOf ar.arg = some .local := by rw [henv]; exact S.selfL
  have hcells : X.env.cells.lookup ("__class__" : Str) = some cc := by rw [henv]; rfl
  have hfun : X.env.func = some f := by rw [henv]
  have hcod : X.env.code = .ref cda := by rw [henv]
  have hns' : s1.heap.Ns X.env.locals m := hns
  have hgl : s1.heap.Ns X.env.globals X.mg := by rw [I.ok.glob]; exact I.mod.glob.keeps I.bk
  have hbl : s1.heap.Ns X.env.builtins mb := by rw [I.ok.blt]; exact hb1.keeps I.bk
  have hsz := I.lt
  obtain ⟨hh, g, d, t, os⟩ := s1
  refine ks_wpAt_Expr_any (hi := hi) (ks_wpAt_MethodCall ?_ hc)
  refine ks_wpAt_super_base (fd := fd) (ar := ar) hks hkc (by decide) hfun (X1 _ _ h2) rfl (by rw [h1]; exact S.head) hcod (X1 _ _ h4) rfl h5 h6 F.top ?_
  refine ks_loadName_global I.ok.kind hks (Calls.loadGlobal_builtin hgl F.nsup hbl ((hb2 _ (by decide)).trans (by first | boot_by_name | rfl | kernel_rfl)) ⟨rfl, ?_⟩)
  refine wpAny_loadName_free I.ok.kind hkc hcells ⟨_, X1 _ _ h7, rfl⟩ ?_
  refine wpAny_loadName_local I.ok.kind hka hns' hv ?_
  refine ks_wpAny_isType_cls hD1 hD2 ⟨rfl, ?_⟩
  refine ks_wpAny_call_super hD1 hD2 Ia.at_ Ia.cls (fun c z => ?_) (looks_mroIn X1 F.sub) (fun h' e' k => ?_)
  · have := Ia.no
    unfold notCls at this
    rw [z] at this
    exact Bool.noConfusion this
  -- the super object
  have I2 : Inv X [] σ H1 ⟨h', g, d, t, os⟩ := I.kept (t' := t) k
  have X2 : X.K.In h' := I2.kIn
  have Ia2 : InstAt h' a _ C none := ⟨k _ _ ho, rfl, rfl, trivial⟩
  have hI : Looks (model X.prog X.w) h' (isInstance (.ref a) (.type "ValueError")) true := Ia2.type.andThen (looks_subIn X2 F.isV)
  have hsup := F.sup
  unfold ks_superIn at hsup
  rw [hD] at hsup
  refine kxs_getMethod kxs_ValueError e' (looks_opaque X2 F.nany) (l₀ := cdD.mro) (fun A Q E s k q => wpAny_bind ((looks_clsIn X2 hD) A _ E s k (wpAny_pure q))) rfl X2 hsup hI (ks_ne X2 Ia2 hD) (by decide) ?_
  -- the bound __init__
  have k3 : ∀ b o, h'.get? b = some o → (h'.push (kxs_mw "ValueError.__init__" a)).get? b = some o := fun b o z => Heap.get?_push_of_some _ z
  have hu : (h'.push (kxs_mw "ValueError.__init__" a)).get? h'.objs.size = some (kxs_mw "ValueError.__init__" a) := Heap.get?_push_at rfl rfl
  have I3 : Inv X [] σ H1 ⟨h'.push (kxs_mw "ValueError.__init__" a), g, d, t + 1, os⟩ := I2.kept (t' := t + 1) k3
  have I4 : Inv X [(h'.objs.size, kxs_mw "ValueError.__init__" a)] σ H1 ⟨h'.push (kxs_mw "ValueError.__init__" a), g, d, t + 1, os⟩ := by
    refine I3.pins_of fun p hp => ?_
    have hp' : p ∈ X.pn ++ [(h'.objs.size, kxs_mw "ValueError.__init__" a)] ∨ p ∈ [(h'.objs.size, kxs_mw "ValueError.__init__" a)] := .inr hp
    obtain rfl : p = (h'.objs.size, kxs_mw "ValueError.__init__" a) := by simpa using hp
    have lt := I2.lt
    refine ⟨hu, I2.hok.fresh (Nat.le_refl _), fun z => ?_, I2.nofs (Nat.le_refl _), fun v z => ?_⟩
    · exact absurd (show X.env.locals < h'.objs.size from lt) (by rw [← z]; exact Nat.lt_irrefl _)
    · cases z
  refine kxs_callWith (i := "ValueError.__init__") (x := a) (u := h'.objs.size) ?_ ?_
  · rw [he]
    show (false || (backTo p3 (starEach es X.env)).any (·.1)) = false
    rw [hpl]
    rfl
  · rw [he]
    refine Calls.evalArgs_plain ?_
    have run := ha.run p3 _ _ σ H1 _ I4 ht
    rw [he] at run
    refine wpAny_mono run (fun us s2 ⟨ws, H2, I5, r, hw, ea2, q⟩ => ?_) fun _ _ z => z
    have hu2 := (I5.pin (h'.objs.size, kxs_mw "ValueError.__init__" a) (by simp)).1
    refine ⟨hu2, ?_⟩
    have hz : us.length ≤ sizeLine := by
      rw [← r.length, sizeLine_eq]
      omega
    refine call_mw T I5 ea2 hu2 hz fun s3 J => ⟨rfl, H2, ?_, q⟩
    exact J.pins_of fun p hp => absurd hp (by simp)

/-- THE RULE: an __init__ whose first line is super().__init__(..) -/
theorem FunS.ok {fd : FuncData} {x : Str} {e : Expr} {es : List Expr} {rest : List Stmt} {p0 p1 p2 p3 p4 : Pos} {k : Nat} {sp : Sp} (F : FunS P K mg x qual st f fd C) (T : OexC K C) (S : ScS N ps ar st) (len : ∀ vs H Q E, sp vs H Q E → vs.length = ps.length)
    (hb : defBody st = .Expr (.Call (.Attribute (.Call (.Name "super" p0) [] [] p1) "__init__" p2) (e :: es) [] p3) p4 :: rest)
    (hbody : ∀ (cda cc : Addr) (A : Around) (outer : List Env) (s : Shared) (H : Hp) (vs : List V) (Q : VK) (E : XK), Room k (A.deeper (ksEnv qual (defScope st) s.heap.objs.size f (.ref cda) cc)) → sp vs H Q E →
      ∃ (a : Addr) (ta : TA) (t : TS), (L2.start N vs)[0]? = some (some (.ref a)) ∧ H a = some (exo a C none) ∧ PA (sxOf P w K mg base N qual (defScope st) f cda cc A outer s H) (e :: es) ta ∧ PSs (sxOf P w K mg base N qual (defScope st) f cda cc A outer s H) rest t ∧
        ta (L2.start N vs) H fun us H2 => us.length ≤ 1000 ∧ H2 a = some (exo a C none) ∧ t { nx := fun _ H' => Q .non H', rt := Q } (L2.start N vs) H2)
    {pl : Addr → Addr → Addr → Sem Bool} (hc : ∀ L cda cc : Addr, eval (.Call (.Attribute (.Call (.Name "super" p0) [] [] p1) "__init__" p2) (e :: es) [] p3) (ksEnv qual (defScope st) L f (.ref cda) cc) = (do
      let ov ← attributeBase (.Call (.Name "super" p0) [] [] p1) "__init__" (ksEnv qual (defScope st) L f (.ref cda) cc) (eval (.Call (.Name "super" p0) [] [] p1) (ksEnv qual (defScope st) L f (.ref cda) cc))
      standAt p2.atName
      let (f', first) ← holding [ov] (getMethod ov "__init__" (pl L cda cc))
      callWith p3 f' first (backTo p3 (starEach (e :: es) (ksEnv qual (defScope st) L f (.ref cda) cc))) []) := by intros; rfl)
    (he : ∀ env : Env, starEach (e :: es) env = (false, eval e env) :: starEach es env := by intros; rfl) (hpl : ∀ env : Env, (backTo p3 (starEach es env)).any (·.1) = false := by intros; rfl)
    (hi : ∀ L cda cc : Addr, interactive (ksEnv qual (defScope st) L f (.ref cda) cc) = false := by intros; rfl) : FnOk P w K mg base L2.CX0 (k + 1) f fd ps sp := by
  obtain ⟨oc, od, kV, doc, pm, an, cda, ct, cc, osl, ccl, cdd, vs4, ccs, file, tf, cl, cld, csl, rfl, lk, hcd, h4, h5, h6, h7⟩ := F.ex
  refine ⟨len, fun A outer s H args us vs Q E hr e0 hbi r hsp => ?_⟩
  have hl := len _ _ _ _ hsp
  have KX : K.In s.heap := e0.mod.kin.keeps fun b o e => (e0.bs b o e).1
  have lim : s.heap.NoLimit := e0.mod.nolimit.keeps fun b o e => (e0.bs b o e).1
  have hloc : ∀ y ∈ ps.zip us, (defScope st).names.lookup y.1 = some .local := fun ⟨n, v⟩ hy => S.par n (List.of_mem_zip hy).1
  refine ks_codeAny_call_defAt (fd := fnX x qual (defArgs st) (defBody st) (defScope st) [("__class__", cc)] .none kV doc pm an (.ref cda) ct) (body := defBody st) (binds := ps.zip us) hr.depth (KX _ _ lk) rfl lim (codeRec_of KX hcd) rfl hbi S.nocell hloc (fun h₀ hns hk => ?_) S.co S.gen S.kind
  obtain ⟨a, ta, t, h0, ea, ha, hrest, ht⟩ := hbody cda cc A outer s H vs Q E (hr.deeper _) hsp
  have I : Inv (sxOf P w K mg base N qual (defScope st) f cda cc A outer s H) [] (L2.start N vs) H { s with heap := h₀, toks := s.toks + (ps.zip us).length } :=
    inv_startS S hr.hd e0 hl r (e0.mod.kin _ _ h7) ⟨_, rfl⟩ hns hk
  show _root_.PySem.wpAt (model P w) (A.deeper (ksEnv qual (defScope st) s.heap.objs.size f (.ref cda) cc)) (.func (defBody st) (ksEnv qual (defScope st) s.heap.objs.size f (.ref cda) cc)) (execs (defBody st) (ksEnv qual (defScope st) s.heap.objs.size f (.ref cda) cc)) _ _ _
  have fin : ∀ {σ' : L2.St} {H' : Hp} {v : V} {u : Value} {s' : Shared}, Inv (sxOf P w K mg base N qual (defScope st) f cda cc A outer s H) [] σ' H' s' → RelV v u → Q v H' → CE outer P w H s Q u s' :=
    fun {σ' H' v u s'} J rv q => ⟨v, H', J.os, J.bare, J.base, J.hok, rv, q⟩
  have line := super_line (X := sxOf P w K mg base N qual (defScope st) f cda cc A outer s H) (body := defBody st) (L := s.heap.objs.size) (p0 := p0) (p1 := p1) (p2 := p2) (p3 := p3) (p4 := p4) S F rfl rfl rfl lk h4 h5 h6 h7 T I h0 ea ha ht (hc _ _ _) (he _) (hpl _) (hi _ _ _)
  have all : _root_.PySem.wpAt (model P w) (A.deeper (ksEnv qual (defScope st) s.heap.objs.size f (.ref cda) cc)) (.func (defBody st) (ksEnv qual (defScope st) s.heap.objs.size f (.ref cda) cc))
      (execs (.Expr (.Call (.Attribute (.Call (.Name "super" p0) [] [] p1) "__init__" p2) (e :: es) [] p3) p4 :: rest) (ksEnv qual (defScope st) s.heap.objs.size f (.ref cda) cc))
      (fun fl s' => CE outer P w H s Q (match fl with | .ret v => v | _ => .none) s') (fun _ _ => False) { s with heap := h₀, toks := s.toks + (ps.zip us).length } := by
    refine ks_wpAt_execs_cons (ks_wpAt_mono line (fun fl s' hs => ?_) fun _ _ z => z.elim)
    obtain ⟨rfl, H2, J, q⟩ := hs
    refine wpAt_of_wpAny (wpAny_mono (hrest.run [] s' _ H2 _ J q) (fun fl s'' hs => ?_) fun _ _ z => z)
    cases fl with
    | ret u =>
      obtain ⟨v, σ', H', J', rv, q'⟩ := hs
      exact fin J' rv q'
    | next =>
      obtain ⟨σ', H', J', q'⟩ := hs
      exact fin (v := V.non) (u := Value.none) J' rfl q'
    | brk =>
      obtain ⟨_, _, _, q'⟩ := hs
      exact False.elim q'
    | cont =>
      obtain ⟨_, _, _, q'⟩ := hs
      exact False.elim q'
  rw [← hb] at all
  exact ks_wpAt_mono all (fun fl s' hs => hs) fun _ _ z => z.elim
/-- how its arguments bind -/
theorem FunS.binds {fd : FuncData} {x : Str} (F : FunS P K mg x qual st f fd C)
    (h : ∀ (cc : Addr) (kV doc pm : Value) (an : Option Addr) (cdv ct : Value) (us : List Value), us.length = ps.length → bindArgs (fnX x qual (defArgs st) (defBody st) (defScope st) [("__class__", cc)] .none kV doc pm an cdv ct) ⟨us, []⟩ = pure (ps.zip us)) : Binds K fd ps [] := by
  obtain ⟨oc, od, kV, doc, pm, an, cda, ct, cc, osl, ccl, cdd, vs4, ccs, file, tf, cl, cld, csl, rfl, lk, hcd, h4, h5, h6, h7⟩ := F.ex
  exact .all (h cc kV doc pm an _ ct)
end
end Hb

set_option Elab.async false
set_option maxRecDepth 100000
set_option maxHeartbeats 4000000
/-! Still more steps: truth of lists, texts in a tuple, slices of tuples, comprehensions over lists of tuples. -/
namespace Hb
open PySem L2
/-- the truth of a list -/
theorem w_truL {K : PySem.W.Frag} {H : Hp} {p : Addr} {xs : List V} {R : Bool → Prop} (h : SqL K H p xs) (q : R (!xs.isEmpty)) : ∃ k, TruV K (.ref p) H k ∧ R k := ⟨_, .inl ⟨xs, h, rfl⟩, q⟩
/-- a text in a new tuple of texts -/
theorem w_inT {K : PySem.W.Frag} {H : Hp} {Q : VK} {x : V} {p : Addr} {neg : Bool} {xs : List V} (h : SqT K H p xs) (hx : flatV x = true) (hf : xs.all flatV = true) (q : Q (.bl (if neg then !inV x xs else inV x xs)) H) : rIn K neg x (.ref p) H Q := ⟨p, xs, rfl, .inr h, hx, hf, q⟩
/-- a tuple's slice, not the whole -/
theorem w_slT0 {K : PySem.W.Frag} {B H : Hp} {L : List (Addr × HO)} {Q : VK} {p : Addr} {xs : List V} {lo hi : Option Int} (hs : Hs B L H) (h : SqT K H p xs) (hw : ¬ (HT.sIx xs.length 0 lo = 0 ∧ HT.sIx xs.length xs.length hi = xs.length)) (q : ∀ l H', Hs B ((l, .tup (cutV xs lo hi)) :: L) H' → Q (.ref l) H') : rSlT K (.ref p) lo hi H Q := by
  exact ⟨p, xs, rfl, h, hw, w_new hs q⟩
/-- what stands aside of our own objects becomes the ground -/
theorem Hs.rebase {B H : Hp} {L : List (Addr × HO)} (hs : Hs B L H) : Same B (around L H) ∧ Hs (around L H) L H := by
  have h := Hs.frame (R := []) L (by rw [List.append_nil]; exact hs)
  exact ⟨h.1, h.2.1⟩
theorem im_around {K : PySem.W.Frag} {H : Hp} {L : List (Addr × HO)} (nt : ∀ e ∈ L, ∀ xs, H e.1 ≠ some (.tup xs)) {vs : List V} {ds : List PyData} (h : ImAll K H vs ds) : ImAll K (around L H) vs ds :=
  h.mono fun a xs e => by
    rw [around_out fun m => ?_]
    · exact e
    · obtain ⟨z, hz, rfl⟩ := List.mem_map.mp m
      exact nt z hz xs e

theorem w_slT {K : PySem.W.Frag} {B H : Hp} {L : List (Addr × HO)} {Q : VK} {p : Addr} {xs : List V} {j : Int} (n : Nat) (e : j = (n : Int)) (hs : Hs B L H) (h : SqT K H p xs) (h0 : 0 < n) (h1 : n ≤ xs.length) (q : ∀ l H', Hs B ((l, .tup (xs.drop n)) :: L) H' → Q (.ref l) H') : rSlT K (.ref p) (some j) none H Q := by
  refine w_slT0 hs h ?_ fun l H' hs' => ?_
  · subst e
    rw [HT.sIx_nat]
    omega
  · rw [cut_from n e] at hs'
    exact q l H' hs'
section
variable {K : PySem.W.Frag} {σ : St} {H : Hp} {Q : VK} {te : TE} {g : TG}
/-- [e for .. in xs], xs a list of data, each e data that is made anew -/
theorem w_lcD {tl : TE} {a : Addr} {xs : List V} {vs : List Nat} (hx : SqL K H a xs) (hz : xs.length ≤ 1000000) (ds : List PyData) (hl : ds.length = xs.length) (htl : ∀ Q : VK, Q (.ref a) H → tl σ H Q)
    (he : ∀ (i : Nat) (x : V) (d : PyData) (H' : Hp) (Q' : VK), xs[i]? = some x → ds[i]? = some d → Same H H' → (∀ y H3, Same H' H3 → Im K H3 y d → Q' y H3) → g x (wipe σ vs) H' fun σ2 H2 => wipe σ2 vs = wipe σ vs ∧ te σ2 H2 Q')
    (hq : ∀ D acc H', Hs H [(D, .lst acc)] H' → ImAll K H' acc ds → Q (.ref D) H') (gm : ∀ x σ H R R', (∀ σ' H', R σ' H' → R' σ' H') → g x σ H R → g x σ H R') : tLc (iList K tl) g tYes te vs σ H Q := by
  refine w_lc hx (fun D i H' => ∃ acc, Hs H [(D, .lst acc)] H' ∧ ImAll K H' acc (ds.take i)) htl (fun D hD => ⟨[], (Hs.start H).new hD, by rw [List.take_zero]; exact .nil⟩) (fun D i H' _ ⟨_, h, _⟩ => h.same.seq hx) ?_ ?_
  · rintro D i x H' hi ⟨acc, h1, h2⟩
    have hin := (List.getElem?_eq_some_iff.mp hi).1
    have hd : ds[i]? = some ds[i] := List.getElem?_eq_getElem (by omega)
    refine gm _ _ _ _ _ (fun σ' H2 ⟨e1, e2⟩ => ⟨e1, w_yes (iteT e2)⟩) (he i x ds[i] H' _ hi hd h1.same fun y H3 s3 hy => ?_)
    have hD : H3 D = some (.lst acc) := s3 _ _ h1.g0
    have hl2 := h2.len
    rw [List.length_take] at hl2
    refine ⟨acc, hD, szl (by omega), acc ++ [y], ?_, ?_⟩
    · have h3 : Hs H [(D, .lst acc)] H3 := ⟨h1.same.trans s3, h1.nd, h1.out, fun e he => s3 _ _ (h1.at_ e he)⟩
      exact h3.p0 _
    · have e : ds.take (i + 1) = ds.take i ++ [ds[i]] := by
        rw [List.take_succ, hd]
        rfl
      rw [e]
      exact ((h2.same s3).snoc hy).mono fun a xs => tup_but hD (fun _ z => by cases z) a xs
  · rintro D H' ⟨acc, h1, h2⟩
    rw [← hl, List.take_length] at h2
    exact hq D acc H' h1 h2
theorem ImAll.get {H : Hp} : ∀ {xs : List V} {ds : List PyData} {i : Nat} {x : V} {d : PyData}, ImAll K H xs ds → xs[i]? = some x → ds[i]? = some d → Im K H x d
  | _ :: _, _ :: _, 0, x, d, .cons h _, e1, e2 => by
    cases e1
    cases e2
    exact h
  | _ :: _, _ :: _, i + 1, x, d, .cons _ h, e1, e2 => ImAll.get (i := i) h (by simpa using e1) (by simpa using e2)
theorem ImAll.app {H : Hp} : ∀ {xs ys : List V} {ds es : List PyData}, ImAll K H xs ds → ImAll K H ys es → ImAll K H (xs ++ ys) (ds ++ es)
  | [], _, _, _, .nil, h => h
  | _ :: _, _, _, _, .cons a b, h => .cons a (b.app h)
end
end Hb

set_option Elab.async false
set_option maxRecDepth 100000
set_option maxHeartbeats 4000000
/-! Dicts with a fixed row of text keys, as a law's plain models have them; tuples put together. -/
namespace Hb
open PySem L2
/-- a dict whose keys are a fixed row of texts -/
def zipK (ks : List Str) (vs : List V) : List (Key × V) := (ks.map Sum.inr).zip vs
theorem val_zip : ∀ {ks : List Str} {vs : List V} {i : Nat} {k : Str} {v : V}, ks.Nodup → ks[i]? = some k → vs[i]? = some v → valV (zipK ks vs) (Sum.inr k) = some v
  | k0 :: ks, v0 :: vs, 0, k, v, _, hk, hv => by
    cases hk
    cases hv
    show Option.map _ (List.find? _ ((Sum.inr k0, v0) :: zipK ks vs)) = _
    rw [List.find?_cons, decide_eq_true (rfl : (Sum.inr k0 : Key) = Sum.inr k0)]
    rfl
  | k0 :: ks, v0 :: vs, i + 1, k, v, nd, hk, hv => by
    have h1 := List.nodup_cons.mp nd
    have hk' : ks[i]? = some k := by simpa using hk
    have hv' : vs[i]? = some v := by simpa using hv
    have hne : ¬ (Sum.inr k0 : Key) = Sum.inr k := fun e => h1.1 (by cases e; exact List.mem_of_getElem? hk')
    show Option.map _ (List.find? _ ((Sum.inr k0, v0) :: zipK ks vs)) = _
    rw [List.find?_cons, decide_eq_false hne]
    exact val_zip h1.2 hk' hv'
theorem map_zip_out : ∀ {ks : List Str} {vs : List V} {k : Str} {v : V}, k ∉ ks → (zipK ks vs).map (fun kv => if kv.1 = (Sum.inr k : Key) then (kv.1, v) else kv) = zipK ks vs
  | [], _, _, _, _ => rfl
  | _ :: _, [], _, _, _ => rfl
  | k0 :: ks, v0 :: vs, k, v, h => by
    have hne : ¬ (Sum.inr k0 : Key) = Sum.inr k := fun e => h (by cases e; exact List.mem_cons_self)
    show (if (Sum.inr k0 : Key) = Sum.inr k then ((Sum.inr k0 : Key), v) else (Sum.inr k0, v0)) :: (zipK ks vs).map _ = _
    rw [if_neg hne, map_zip_out (fun m => h (List.mem_cons_of_mem _ m))]
    rfl
theorem map_zip : ∀ {ks : List Str} {vs : List V} {i : Nat} {k : Str} {v : V}, ks.Nodup → ks[i]? = some k → i < vs.length → (zipK ks vs).map (fun kv => if kv.1 = (Sum.inr k : Key) then (kv.1, v) else kv) = zipK ks (vs.set i v)
  | k0 :: ks, v0 :: vs, 0, k, v, nd, hk, _ => by
    cases hk
    have h1 := List.nodup_cons.mp nd
    show (if (Sum.inr k0 : Key) = Sum.inr k0 then ((Sum.inr k0 : Key), v) else (Sum.inr k0, v0)) :: (zipK ks vs).map _ = _
    rw [if_pos rfl, map_zip_out h1.1]
    rfl
  | k0 :: ks, v0 :: vs, i + 1, k, v, nd, hk, hl => by
    have h1 := List.nodup_cons.mp nd
    have hk' : ks[i]? = some k := by simpa using hk
    have hne : ¬ (Sum.inr k0 : Key) = Sum.inr k := fun e => h1.1 (by cases e; exact List.mem_of_getElem? hk')
    show (if (Sum.inr k0 : Key) = Sum.inr k then ((Sum.inr k0 : Key), v) else (Sum.inr k0, v0)) :: (zipK ks vs).map _ = _
    rw [if_neg hne, map_zip h1.2 hk' (Nat.lt_of_succ_lt_succ hl)]
    rfl
theorem any_of_val {kvs : List (Key × V)} {k : Key} {v : V} (h : valV kvs k = some v) : (kvs.any fun kv => decide (kv.1 = k)) = true := by
  unfold valV at h
  cases e : kvs.find? (fun kv => decide (kv.1 = k)) with
  | none =>
    rw [e] at h
    cases h
  | some z =>
    have h1 := List.find?_some e
    exact List.any_eq_true.mpr ⟨z, List.mem_of_find?_eq_some e, h1⟩
theorem put_zip {ks : List Str} {vs : List V} {i : Nat} {k : Str} {v u : V} (nd : ks.Nodup) (hk : ks[i]? = some k) (hv : vs[i]? = some u) : putK (zipK ks vs) (Sum.inr k) v = zipK ks (vs.set i v) := by
  unfold putK
  rw [if_pos (any_of_val (val_zip nd hk hv))]
  exact map_zip nd hk (List.getElem?_eq_some_iff.mp hv).1
/-! ### their steps -/
section
variable {σ : St} {H : Hp} {Q : VK} {D : Ends} {td ty tv : TE} {p : Addr} {B : Hp} {L L' : List (Addr × HO)} {ks : List Str} {vs us : List V} {i : Nat} {k : Str} {v u : V}
def RDget (x y : V) (H : Hp) (Q : VK) : Prop := ∃ a v, x = .ref a ∧ DGet H a y (some v) ∧ Q v H
theorem w_dget (q : td σ H fun x H1 => ty σ H1 fun y H2 => RDget x y H2 Q) : tDGet td ty σ H Q := q
theorem w_dgetZ (h : H p = some (.dK (zipK ks vs))) (nd : ks.Nodup) (hk : ks[i]? = some k) (hv : vs[i]? = some v) (q : Q v H) : RDget (.ref p) (.str k) H Q :=
  ⟨p, v, rfl, val_zip nd hk hv ▸ DGet.k (k := Sum.inr k) h, q⟩
theorem w_dgetI {kvs : List (Key × V)} {n : Int} (h : H p = some (.dK kvs)) (hv : valV kvs (Sum.inl n) = some v) (q : Q v H) : RDget (.ref p) (.int n) H Q :=
  ⟨p, v, rfl, hv ▸ DGet.k (k := Sum.inl n) h, q⟩
theorem w_dputZ {R : Hp → Prop} (hs : Hs B L H) (h : Put L p (.dK (zipK ks vs)) (.dK (zipK ks us)) L') (nd : ks.Nodup) (hk : ks[i]? = some k) (hv : vs[i]? = some u) (hu : vs.set i v = us) (hl : ks.length < 1000) (q : ∀ H', Hs B L' H' → R H') : RDput (.ref p) (.str k) v H R := by
  subst hu
  refine ⟨p, _, rfl, DPut.k (k := Sum.inr k) (hs.gets h) ?_, ?_⟩
  · refine szl ?_
    show ((ks.map Sum.inr).zip vs).length ≤ 1000000
    rw [List.length_zip, List.length_map]
    omega
  · rw [put_zip nd hk hv]
    exact q _ (hs.puts h)
/-- the same as a target among others -/
theorem w_gsub {tset : TSet} {R : St → Hp → Prop} (q : td σ H fun o H1 => ty σ H1 fun i H2 => tset o i v H2 fun H3 => R σ H3) : gSub td ty tset v σ H R := q
theorem w_setD {x y : V} {R : Hp → Prop} (q : RDput x y v H R) : rSetD x y v H R := q
end
section
variable {K : PySem.W.Frag}
theorem op_catTK {X : Cx} (hK : X.K = K := by rfl) : OpR X (binaryOp .Add) (rCatT K) := by
  subst hK
  exact op_catT
theorem w_catT {B H : Hp} {L : List (Addr × HO)} {Q : VK} {p r : Addr} {xs ys : List V} (hs : Hs B L H) (h1 : SqT K H p xs) (h2 : SqT K H r ys) (n1 : xs ≠ []) (n2 : ys ≠ []) (hl : xs.length + ys.length ≤ 1000) (q : ∀ l H', Hs B ((l, .tup (xs ++ ys)) :: L) H' → Q (.ref l) H') : rCatT K (.ref p) (.ref r) H Q :=
  ⟨p, r, xs, ys, rfl, rfl, h1, h2, n1, Nat.le_of_lt (szl (by omega)), fun e => absurd e n2, fun _ => w_new hs q⟩
end
section
variable {α : Type} {a b c d e f g h i v : α} {l : List α}
theorem v0 : (a :: l)[0]? = some a := rfl
theorem v1 : (a :: b :: l)[1]? = some b := rfl
theorem v2 : (a :: b :: c :: l)[2]? = some c := rfl
theorem v3 : (a :: b :: c :: d :: l)[3]? = some d := rfl
theorem v4 : (a :: b :: c :: d :: e :: l)[4]? = some e := rfl
theorem v5 : (a :: b :: c :: d :: e :: f :: l)[5]? = some f := rfl
theorem v6 : (a :: b :: c :: d :: e :: f :: g :: l)[6]? = some g := rfl
theorem v7 : (a :: b :: c :: d :: e :: f :: g :: h :: l)[7]? = some h := rfl
theorem v8 : (a :: b :: c :: d :: e :: f :: g :: h :: i :: l)[8]? = some i := rfl
theorem st0 : (a :: l).set 0 v = v :: l := rfl
theorem st1 : (a :: b :: l).set 1 v = a :: v :: l := rfl
theorem st2 : (a :: b :: c :: l).set 2 v = a :: b :: v :: l := rfl
theorem st3 : (a :: b :: c :: d :: l).set 3 v = a :: b :: c :: v :: l := rfl
theorem st4 : (a :: b :: c :: d :: e :: l).set 4 v = a :: b :: c :: d :: v :: l := rfl
theorem st5 : (a :: b :: c :: d :: e :: f :: l).set 5 v = a :: b :: c :: d :: e :: v :: l := rfl
theorem st6 : (a :: b :: c :: d :: e :: f :: g :: l).set 6 v = a :: b :: c :: d :: e :: f :: v :: l := rfl
theorem st7 : (a :: b :: c :: d :: e :: f :: g :: h :: l).set 7 v = a :: b :: c :: d :: e :: f :: g :: v :: l := rfl
theorem st8 : (a :: b :: c :: d :: e :: f :: g :: h :: i :: l).set 8 v = a :: b :: c :: d :: e :: f :: g :: h :: v :: l := rfl
end
/-! ### a dict that is written down -/
theorem merge_zip : ∀ {ks : List Str} {vs : List V} {acc : List (Key × V)}, ks.Nodup → (∀ k ∈ ks, ∀ kv ∈ acc, kv.1 ≠ (Sum.inr k : Key)) → mergeK acc (zipK ks vs) = acc ++ zipK ks vs
  | [], _, acc, _, _ => by
    show acc = acc ++ []
    rw [List.append_nil]
  | _ :: _, [], acc, _, _ => by
    show acc = acc ++ []
    rw [List.append_nil]
  | k :: ks, v :: vs, acc, nd, h => by
    have h1 := List.nodup_cons.mp nd
    have e : putK acc (Sum.inr k) v = acc ++ [(Sum.inr k, v)] := by
      unfold putK
      rw [if_neg]
      intro h2
      obtain ⟨z, hz, h3⟩ := List.any_eq_true.mp h2
      exact h k List.mem_cons_self z hz (of_decide_eq_true h3)
    show mergeK (putK acc (Sum.inr k) v) (zipK ks vs) = acc ++ ((Sum.inr k, v) :: zipK ks vs)
    rw [e, merge_zip h1.2 ?_, List.append_assoc]
    · rfl
    · intro k2 hk2 kv hkv
      rcases List.mem_append.mp hkv with m | m
      · exact h k2 (List.mem_cons_of_mem _ hk2) kv m
      · rw [List.mem_singleton.mp m]
        intro c
        cases c
        exact h1.1 hk2
section
variable {σ : St} {H : Hp} {Q : VK} {B : Hp} {L L' : List (Addr × HO)}
def NewP (trs : List (TE × TE)) (σ : St) (Q : VK) (H : Hp) : Prop := ∀ p, H p = none → tPairs trs σ (upd H p (.dK [])) fun ps H2 => H2 p = some (.dK []) ∧ ∃ kvs : List (Key × V), ps = kvs.map (fun kv => (kV kv.1, kv.2)) ∧ kvs.length ≤ 15 ∧ Q (.ref p) (upd H2 p (.dK (mergeK [] kvs)))
def DispP (p : Addr) (Q : VK) (ps : List (V × V)) (H2 : Hp) : Prop := H2 p = some (.dK []) ∧ ∃ kvs : List (Key × V), ps = kvs.map (fun kv => (kV kv.1, kv.2)) ∧ kvs.length ≤ 15 ∧ Q (.ref p) (upd H2 p (.dK (mergeK [] kvs)))
theorem w_disp {trs : List (TE × TE)} (q : NewP trs σ Q H) : tDisp trs σ H Q := q
theorem w_newP {trs : List (TE × TE)} (hs : Hs B L H) (q : ∀ p H', Hs B ((p, .dK []) :: L) H' → tPairs trs σ H' (DispP p Q)) : NewP trs σ Q H := fun p hp => q p _ (hs.new hp)
theorem w_pcons {tk tv : TE} {trs : List (TE × TE)} {R : List (V × V) → Hp → Prop} (q : tk σ H fun k H1 => tv σ H1 fun v H2 => tPairs trs σ H2 fun ps H3 => R ((k, v) :: ps) H3) : tPairs ((tk, tv) :: trs) σ H R := q
theorem w_pnil {R : List (V × V) → Hp → Prop} (q : R [] H) : tPairs [] σ H R := q
theorem w_dispZ {p : Addr} {ps : List (V × V)} (ks : List Str) (vs : List V) (hs : Hs B L H) (h : Put L p (.dK []) (.dK (zipK ks vs)) L') (nd : ks.Nodup) (hl : ks.length ≤ 15) (hp : ps = (zipK ks vs).map (fun kv => (kV kv.1, kv.2))) (q : ∀ H', Hs B L' H' → Q (.ref p) H') : DispP p Q ps H := by
  refine ⟨hs.gets h, zipK ks vs, hp, ?_, ?_⟩
  · unfold zipK
    rw [List.length_zip, List.length_map]
    omega
  · rw [merge_zip nd (fun _ _ _ z => absurd z List.not_mem_nil)]
    exact q _ (hs.puts h)
end
end Hb

set_option Elab.async false
set_option maxRecDepth 100000
set_option maxHeartbeats 4000000
/-! Dicts whose keys are tuples of any depth; sorted of such keys. -/
namespace Hb
open PySem L2
mutual
/-- the value v in the abstract heap is the key k -/
inductive NK (H : Hp) : NestedKey → V → Prop
  | non : NK H .none .non
  | int (i : Int) : NK H (.num i) (.int i)
  | str (x : Str) : NK H (.text x) (.str x)
  | tup {p : Addr} {vs : List V} {ks : List NestedKey} : H p = some (.tup vs) → NKs H ks vs → NK H (.tup ks) (.ref p)
inductive NKs (H : Hp) : List NestedKey → List V → Prop
  | nil : NKs H [] []
  | cons {k : NestedKey} {v : V} {ks : List NestedKey} {vs : List V} : NK H k v → NKs H ks vs → NKs H (k :: ks) (v :: vs)
end
mutual
theorem NK.mono {H H' : Hp} (e : ∀ p xs, H p = some (.tup xs) → H' p = some (.tup xs)) : ∀ {k : NestedKey} {v : V}, NK H k v → NK H' k v
  | _, _, .non => .non
  | _, _, .int i => .int i
  | _, _, .str x => .str x
  | _, _, .tup h hs => .tup (e _ _ h) (NKs.mono e hs)
theorem NKs.mono {H H' : Hp} (e : ∀ p xs, H p = some (.tup xs) → H' p = some (.tup xs)) : ∀ {ks : List NestedKey} {vs : List V}, NKs H ks vs → NKs H' ks vs
  | _, _, .nil => .nil
  | _, _, .cons h hs => .cons (NK.mono e h) (NKs.mono e hs)
end
theorem NK.same {H H' : Hp} (e : Same H H') {k : NestedKey} {v : V} (h : NK H k v) : NK H' k v := h.mono fun _ _ => e _ _
mutual
theorem NK.inj {H : Hp} : ∀ {k k' : NestedKey} {v : V}, NK H k v → NK H k' v → k = k'
  | _, _, _, .non, h => by cases h; rfl
  | _, _, _, .int i, h => by cases h; rfl
  | _, _, _, .str x, h => by cases h; rfl
  | _, _, _, .tup h1 h2, h => by
    cases h with
    | tup k1 k2 =>
      rw [h1] at k1
      cases k1
      rw [NKs.inj h2 k2]
theorem NKs.inj {H : Hp} : ∀ {ks ks' : List NestedKey} {vs : List V}, NKs H ks vs → NKs H ks' vs → ks = ks'
  | _, _, _, .nil, h => by cases h; rfl
  | _, _, _, .cons h1 h2, h => by
    cases h with
    | cons k1 k2 => rw [NK.inj h1 k1, NKs.inj h2 k2]
end
mutual
theorem NK.im {K : PySem.W.Frag} {H : Hp} : ∀ {k : NestedKey} {v : V}, NK H k v → Im K H v k.data
  | _, _, .non => .non
  | _, _, .int i => .int i
  | _, _, .str x => .str x
  | _, _, .tup h hs => .tup h (NKs.im hs)
theorem NKs.im {K : PySem.W.Frag} {H : Hp} : ∀ {ks : List NestedKey} {vs : List V}, NKs H ks vs → ImAll K H vs (NestedKey.datas ks)
  | _, _, .nil => .nil
  | _, _, .cons h hs => .cons (NK.im h) (NKs.im hs)
end
section
variable {P : Program} {w : World} {H : Hp} {h : Heap}
mutual
theorem NK.is (ok : HOk P w H h) : ∀ {k : NestedKey} {v : V} {u : Value}, NK H k v → RelV v u → NestedIs h k u
  | _, _, _, .non, r => by
    cases (show _ = Value.none from r)
    exact .none
  | _, _, _, .int i, r => by
    obtain ⟨t, rfl⟩ := r
    exact .int i t
  | _, _, _, .str x, r => by
    obtain ⟨t, rfl⟩ := r
    exact .text x t
  | _, _, _, .tup e hs, r => by
    cases (show _ = Value.ref _ from r)
    obtain ⟨_, its, r2, o, ho, hc, n, hd⟩ := ok _ _ e
    exact .tup ho hc hd (NKs.is ok hs r2)
theorem NKs.is (ok : HOk P w H h) : ∀ {ks : List NestedKey} {vs : List V} {us : List Value}, NKs H ks vs → Vals vs us → NestedAll h ks us
  | _, _, _, .nil, r => by cases r; exact .nil
  | _, _, _, .cons h1 h2, r => by
    cases r with
    | cons r1 r2 => exact .cons (NK.is ok h1 r1) (NKs.is ok h2 r2)
end
end
/-- a key, where its tuple stands, what it holds -/
abbrev Ent := NestedKey × Addr × V
def atN (es : List Ent) (k : NestedKey) : Option V := (es.find? fun e => decide (e.1 = k)).map (·.2.2)
def putN (es : List Ent) (k : NestedKey) (b : Addr) (v : V) : List Ent := if (atN es k).isSome then es.map (fun e => if e.1 = k then (e.1, e.2.1, v) else e) else es ++ [(k, b, v)]
def dropN (es : List Ent) (k : NestedKey) : List Ent := es.filter fun e => decide (e.1 ≠ k)
abbrev RelE (p : Ent) (q : NestedKey × Addr × Value) : Prop := p.1 = q.1 ∧ p.2.1 = q.2.1 ∧ RelV p.2.2 q.2.2
abbrev RelEs : List Ent → List (NestedKey × Addr × Value) → Prop := Paired RelE
def entN (w : World) (x : NestedKey × Addr × Value) : DictEntry := ⟨x.1.hash w, .ref x.2.1, x.2.2⟩
def DNx (w : World) (a : Addr) (es : List Ent) (h : Heap) : Prop := es.length ≤ sizeLine ∧ (a == sysModules) = false ∧ ∃ xs, RelEs es xs ∧ ∃ o ds ep, h.get? a = some o ∧ o.ExactDict ∧ o.data = .dict ds ep ∧ ds.toList = xs.map (entN w) ∧ (xs.map (·.1)).Nodup
/-- a dict with such keys -/
abbrev DN (w : World) (a : Addr) (es : List Ent) : HO := .ext (DNx w a es)
/-- its keys stand as they are told -/
def EntsOk (H : Hp) (es : List Ent) : Prop := ∀ e ∈ es, NK H e.1 (.ref e.2.1) ∧ e.1.depth ≤ 8
theorem EntsOk.mono {H H' : Hp} (e : ∀ p xs, H p = some (.tup xs) → H' p = some (.tup xs)) {es : List Ent} (h : EntsOk H es) : EntsOk H' es := fun x hx => ⟨(h x hx).1.mono e, (h x hx).2⟩
theorem EntsOk.same {H H' : Hp} (e : Same H H') {es : List Ent} (h : EntsOk H es) : EntsOk H' es := h.mono fun _ _ => e _ _
theorem EntsOk.nil {H : Hp} : EntsOk H [] := fun _ h => nomatch h
theorem EntsOk.drop {H : Hp} {es : List Ent} {k : NestedKey} (h : EntsOk H es) : EntsOk H (dropN es k) := fun e he => h e (List.mem_filter.mp he).1
theorem EntsOk.put {H : Hp} {es : List Ent} {k : NestedKey} {b : Addr} {v : V} (h : EntsOk H es) (hk : NK H k (.ref b)) (hd : k.depth ≤ 8) : EntsOk H (putN es k b v) := fun e he => by
  unfold putN at he
  split at he
  · obtain ⟨y, hy, rfl⟩ := List.mem_map.mp he
    by_cases hc : y.1 = k
    · rw [if_pos hc]
      exact h y hy
    · rw [if_neg hc]
      exact h y hy
  · rcases List.mem_append.mp he with m | m
    · exact h e m
    · rw [List.mem_singleton.mp m]
      exact ⟨hk, hd⟩
theorem RelEs.at {es : List Ent} {xs : List (NestedKey × Addr × Value)} (r : RelEs es xs) (k : NestedKey) : RelO (atN es k) ((atKey xs k).map (·.2)) := by
  induction r with
  | nil => exact trivial
  | @cons p q ps qs h _ ih =>
    obtain ⟨h1, h2, h3⟩ := h
    unfold atN atKey at ih ⊢
    rw [List.find?_cons, List.find?_cons, ← h1]
    by_cases hc : p.1 = k
    · rw [decide_eq_true hc]
      exact h3
    · rw [decide_eq_false hc]
      exact ih
theorem RelEs.keys {es : List Ent} {xs : List (NestedKey × Addr × Value)} (r : RelEs es xs) : xs.map (·.1) = es.map (·.1) := by
  induction r with
  | nil => rfl
  | cons h _ ih => rw [List.map_cons, List.map_cons, ih, h.1]
theorem RelEs.some {es : List Ent} {xs : List (NestedKey × Addr × Value)} (r : RelEs es xs) (k : NestedKey) : (atN es k).isSome = (atKey xs k).isSome := by
  have q := (r.at k).isSome_eq
  rw [Option.isSome_map] at q
  exact q
theorem relEs_map {k : NestedKey} {v : V} {u : Value} (hv : RelV v u) : ∀ {es : List Ent} {xs : List (NestedKey × Addr × Value)}, RelEs es xs → RelEs (es.map (fun e => if e.1 = k then (e.1, e.2.1, v) else e)) (xs.map (putAt k u))
  | _, _, .nil => .nil
  | p :: ps, q :: qs, .cons h t => by
    refine .cons ?_ (relEs_map hv t)
    show RelE (if p.1 = k then (p.1, p.2.1, v) else p) (if q.1 = k then (q.1, q.2.1, u) else q)
    rw [← h.1]
    by_cases hc : p.1 = k
    · rw [if_pos hc, if_pos hc]
      exact ⟨rfl, h.2.1, hv⟩
    · rw [if_neg hc, if_neg hc]
      exact h
theorem relEs_snoc {p : Ent} {q : NestedKey × Addr × Value} (h : RelE p q) : ∀ {es : List Ent} {xs : List (NestedKey × Addr × Value)}, RelEs es xs → RelEs (es ++ [p]) (xs ++ [q])
  | _, _, .nil => .cons h .nil
  | _, _, .cons r t => .cons r (relEs_snoc h t)
theorem RelEs.put {es : List Ent} {xs : List (NestedKey × Addr × Value)} (r : RelEs es xs) (k : NestedKey) (b : Addr) {v : V} {u : Value} (hv : RelV v u) : RelEs (putN es k b v) (storedH xs k b u) := by
  unfold putN storedH
  rw [r.some k]
  cases (atKey xs k).isSome with
  | true =>
    rw [if_pos rfl, if_pos rfl]
    exact relEs_map hv r
  | false =>
    rw [if_neg Bool.false_ne_true, if_neg Bool.false_ne_true]
    exact relEs_snoc ⟨rfl, rfl, hv⟩ r
theorem RelEs.drop {es : List Ent} {xs : List (NestedKey × Addr × Value)} (r : RelEs es xs) (k : NestedKey) : RelEs (dropN es k) (withoutH xs k) := by
  unfold dropN withoutH
  induction r with
  | nil => exact .nil
  | @cons p q ps qs h _ ih =>
    rw [List.filter_cons, List.filter_cons, ← h.1]
    by_cases hc : p.1 = k
    · have e : decide (p.1 ≠ k) = false := decide_eq_false (fun z => z hc)
      rw [e]
      exact ih
    · have e : decide (p.1 ≠ k) = true := decide_eq_true hc
      rw [e]
      exact .cons h ih
theorem RelEs.len {es : List Ent} {xs : List (NestedKey × Addr × Value)} (r : RelEs es xs) : es.length = xs.length := Paired.length r
theorem putN_len {es : List Ent} {k : NestedKey} {b : Addr} {v : V} : (putN es k b v).length ≤ es.length + 1 := by
  unfold putN
  split
  · rw [List.length_map]
    omega
  · rw [List.length_append, List.length_singleton]
    exact Nat.le_refl _
theorem dropN_len {es : List Ent} {k : NestedKey} : (dropN es k).length ≤ es.length := List.length_filter_le _ _
section
variable {P : Program} {w : World} {H : Hp} {h : Heap} {a : Addr} {es : List Ent}
theorem dn_of (ok : HOk P w H h) (e : H a = some (DN w a es)) (hk : EntsOk H es) : es.length ≤ sizeLine ∧ (a == sysModules) = false ∧ ∃ xs, RelEs es xs ∧ h.DictOfH (nestedKind P w) a xs := by
  obtain ⟨⟨z, y, xs, r, o, ds, ep, h1, h2, h3, h4, h5⟩, _, _⟩ := (show ObjOk P w H h a (DN w a es) from ok _ _ e)
  refine ⟨z, y, xs, r, o, ds, ep, h1, h2, h3, h4, ?_, h5⟩
  have all : ∀ {l : List Ent} {m : List (NestedKey × Addr × Value)}, EntsOk H l → RelEs l m → ∀ x ∈ m, (nestedKind P w).is h x.1 x.2.1 := by
    intro l m hl r
    induction r with
    | nil => exact fun _ hx => nomatch hx
    | @cons p q ps qs hpq _ ih =>
      intro x hx
      rcases List.mem_cons.mp hx with rfl | hx
      · obtain ⟨k1, k2⟩ := hl p List.mem_cons_self
        rw [← hpq.1, ← hpq.2.1]
        exact ⟨k1.is ok rfl, k2⟩
      · exact ih (fun e he => hl e (List.mem_cons_of_mem _ he)) x hx
  exact all hk r
theorem dn_obj {H' : Hp} {h' : Heap} {xs : List (NestedKey × Addr × Value)} (z : es.length ≤ sizeLine) (y : (a == sysModules) = false) (r : RelEs es xs) (dd : h'.DictOfH (nestedKind P w) a xs) : ObjOk P w H' h' a (DN w a es) := by
  obtain ⟨o, ds, ep, h1, h2, h3, h4, _, h5⟩ := dd
  refine ⟨⟨z, y, xs, r, o, ds, ep, h1, h2, h3, h4, h5⟩, ⟨o, h1⟩, fun g1 g2 ⟨z, y, xs, r, o, ds, ep, h1, h2⟩ hg => ⟨z, y, xs, r, o, ds, ep, hg _ h1, h2⟩⟩
theorem dn_empty (h : Heap) (hb : sysModules < h.objs.size) : ObjOk P w H (h.push { cls := .type "dict", data := .dict #[] }) h.objs.size (DN w h.objs.size []) :=
  dn_obj (Nat.zero_le _) (beq_eq_false_iff_ne.mpr (Ne.symm (Nat.ne_of_lt hb))) .nil (Heap.DictOfH.new h)
end
/-- the parts of what is asked of such a dict -/
structure AtN (w : World) (H : Hp) (x y : V) (a b : Addr) (es : List Ent) (k : NestedKey) : Prop where
  ex : x = .ref a
  ey : y = .ref b
  ha : H a = some (DN w a es)
  he : EntsOk H es
  hk : NK H k (.ref b)
  hd : k.depth ≤ 8
def rNGet (w : World) (x y : V) (H : Hp) (Q : VK) : Prop := ∃ a b es k v, AtN w H x y a b es k ∧ atN es k = some v ∧ Q v H
def rNIn (w : World) (x y : V) (H : Hp) (Q : Bool → Prop) : Prop := ∃ a b es k, AtN w H x y a b es k ∧ Q (atN es k).isSome
def rNPut (w : World) (x y v : V) (H : Hp) (Q : Hp → Prop) : Prop := ∃ a b es k, AtN w H x y a b es k ∧ es.length < sizeLine ∧ Q (upd H a (DN w a (putN es k b v)))
def rNDel (w : World) (x y : V) (H : Hp) (Q : V → Hp → Prop) : Prop := ∃ a b es k v, AtN w H x y a b es k ∧ atN es k = some v ∧ Q v (upd H a (DN w a (dropN es k)))
def tNGet (w : World) (td ty : TE) : TE := fun σ H Q => td σ H fun x H1 => ty σ H1 fun y H2 => rNGet w x y H2 Q
def tNIn (w : World) (ty td : TE) : TE := fun σ H Q => ty σ H fun y H1 => td σ H1 fun x H2 => rNIn w x y H2 fun b => Q (.bl b) H2
def tNNot (w : World) (ty td : TE) : TE := fun σ H Q => ty σ H fun y H1 => td σ H1 fun x H2 => rNIn w x y H2 fun b => Q (.bl (!b)) H2
def sNPut (w : World) (td ty tv : TE) : TS := fun D σ H => tv σ H fun v H1 => td σ H1 fun x H2 => ty σ H2 fun y H3 => rNPut w x y v H3 fun H4 => D.nx σ H4
def sNDel (w : World) (td ty : TE) : TS := fun D σ H => td σ H fun x H1 => ty σ H1 fun y H2 => rNDel w x y H2 fun _ H3 => D.nx σ H3
def tNNew (w : World) : TE := fun _ H Q => ∀ p, H p = none → Q (.ref p) (upd H p (DN w p []))
def tNPop (w : World) (td ty : TE) : TE := fun σ H Q => td σ H fun x H1 => (∃ a es, x = .ref a ∧ H1 a = some (DN w a es)) ∧ ty σ H1 fun y H2 => rNDel w x y H2 Q
section
variable {X : Cx} {w : World} {o i value : Expr} {pos pos' tpos : Pos} {td ty tv : TE}
theorem AtN.dn {H : Hp} {x y : V} {a b : Addr} {es : List Ent} {k : NestedKey} {pins : List (Addr × Obj)} {σ : St} {s : Shared} (I : Inv X pins σ H s) (hw : X.w = w) (g : AtN w H x y a b es k) : es.length ≤ sizeLine ∧ (a == sysModules) = false ∧ ∃ xs, RelEs es xs ∧ s.heap.DictOfH (nestedKind X.prog X.w) a xs ∧ (nestedKind X.prog X.w).is s.heap k b := by
  subst hw
  obtain ⟨z, hd, xs, r, dd⟩ := dn_of I.hok g.ha g.he
  exact ⟨z, hd, xs, r, dd, g.hk.is I.hok rfl, g.hd⟩
theorem n_room {A : Around} (hu : A.units + 64 < cLine) {P : Program} {w : World} : (nestedKind P w).room A.in1 := by
  show A.in1.units + 8 < cLine
  have e : A.in1.units = A.units + 1 := rfl
  omega
theorem pe_ndget (hu : X.A.units + 64 < cLine) (ho : PE X o td) (hi : PE X i ty) (hs : NoSl i) (hw : X.w = w := by rfl) : PE X (.Subscript o i pos) (tNGet w td ty) := by
  refine ⟨fun pins s σ H Q I h => ?_⟩
  refine subD_of PySem.F.slot_dict_getitem.lookup hs (thn (ho.run pins s σ H _ I h) fun u s1 ⟨x, H1, I1, rx, q1⟩ => thn (hi.run pins s1 σ H1 _ I1 q1) fun iv s2 ⟨y, H2, I2, ry, a, b, es, k, v, g, hv, q2⟩ => ?_)
  obtain ⟨z, hd, xs, r, dd, hk⟩ := g.dn I2 hw
  cases g.ex
  cases g.ey
  obtain rfl : u = Value.ref a := rx
  obtain rfl : iv = Value.ref b := ry
  obtain ⟨w', hw', rw'⟩ := RelO.some_of (v := v) (o := (atKey xs k).map (·.2)) (by rw [← hv]; exact r.at k)
  obtain ⟨p, hp, hp2⟩ := Option.map_eq_some_iff.mp hw'
  refine ⟨dd.typeIs, wpAny_getItem_heap (n_room hu) hk dd hp ?_⟩
  rw [hp2]
  exact ⟨v, H2, I2.tok _, rw', q2⟩
theorem pc_nin (hu : X.A.units + 64 < cLine) (hi : PE X i ty) (ho : PE X o td) (hw : X.w = w := by rfl) : PC X .In i o (tNIn w ty td) := by
  refine ⟨fun pins s σ H Q I h => ?_⟩
  refine thn (hi.run pins s σ H _ I h) fun iv s1 ⟨y, H1, I1, ry, q1⟩ => thn (ho.run pins s1 σ H1 _ I1 q1) fun u s2 ⟨x, H2, I2, rx, a, b, es, k, g, q2⟩ => ?_
  obtain ⟨z, hd, xs, r, dd, hk⟩ := g.dn I2 hw
  cases g.ex
  cases g.ey
  obtain rfl : u = Value.ref a := rx
  obtain rfl : iv = Value.ref b := ry
  refine wpAny_in_heap (n_room hu) hk hd dd ?_
  rw [← r.some k]
  exact ⟨.bl _, H2, I2.tok _, rfl, q2⟩
theorem pc_nnot (hu : X.A.units + 64 < cLine) (hi : PE X i ty) (ho : PE X o td) (hw : X.w = w := by rfl) : PC X .NotIn i o (tNNot w ty td) := by
  refine ⟨fun pins s σ H Q I h => ?_⟩
  refine thn (hi.run pins s σ H _ I h) fun iv s1 ⟨y, H1, I1, ry, q1⟩ => thn (ho.run pins s1 σ H1 _ I1 q1) fun u s2 ⟨x, H2, I2, rx, a, b, es, k, g, q2⟩ => ?_
  obtain ⟨z, hd, xs, r, dd, hk⟩ := g.dn I2 hw
  cases g.ex
  cases g.ey
  obtain rfl : u = Value.ref a := rx
  obtain rfl : iv = Value.ref b := ry
  refine PyProof.Rows.wpAny_notIn_heap (n_room hu) hk hd dd ?_
  rw [← r.some k]
  exact ⟨.bl _, H2, I2.tok _, rfl, q2⟩
theorem ps_nput (hu : X.A.units + 64 < cLine) (ho : PE X o td) (hi : PE X i ty) (hv : PE X value tv) (hs : swapsWith value (some (.Subscript o i pos')) pos.line X.env = pure false) (hw : X.w = w := by rfl) :
    PS X (.Assign [.Subscript o i pos'] value pos) (sNPut w td ty tv) := by
  refine ⟨fun pins s σ H D I h => ?_⟩
  refine wpAny_Assign_Subscript (thn (hv.run pins s σ H _ I h) fun r s1 ⟨v, H1, I1, rv, q1⟩ => thn (ho.run pins s1 σ H1 _ I1 q1) fun u s2 ⟨x, H2, I2, rx, q2⟩ => thn (hi.run pins s2 σ H2 _ I2 q2) fun iv s3 ⟨y, H3, I3, ry, a, b, es, k, g, hl, q3⟩ => ?_) hs
  obtain ⟨z, hd, xs, rr, dd, hk⟩ := g.dn I3 hw
  subst hw
  cases g.ex
  cases g.ey
  obtain rfl : u = Value.ref a := rx
  obtain rfl : iv = Value.ref b := ry
  have hz : xs.length ≤ sizeLine := by rw [← rr.len]; exact z
  have hl2 : (putN es k b v).length ≤ sizeLine := Nat.le_trans putN_len hl
  refine wpAny_setItem_heap (hsz := hz) (n_room hu) hk dd fun h' dd' hs => ⟨σ, _, ?_, q3⟩
  have he : ∃ q, h'.get? a = some q := let ⟨q, _, _, hq, _⟩ := dd'; ⟨q, hq⟩
  exact d_write I3 (by rw [g.ha]; exact True.intro) hs he (dn_obj hl2 hd (rr.put k b rv) dd')
theorem ps_ndel (hu : X.A.units + 64 < cLine) (ho : PE X o td) (hi : PE X i ty) (hw : X.w = w := by rfl) : PS X (.Delete [.Subscript o i tpos] pos) (sNDel w td ty) := by
  refine ⟨fun pins s σ H D I h => ?_⟩
  refine wpAny_Delete (wpAny_deleteEach_cons (wpAny_delete_Subscript (thn (ho.run pins s σ H _ I h) fun u s1 ⟨x, H1, I1, rx, q1⟩ => thn (hi.run pins s1 σ H1 _ I1 q1) fun iv s2 ⟨y, H2, I2, ry, a, b, es, k, v, g, hv, q2⟩ => ?_)))
  obtain ⟨z, hd, xs, rr, dd, hk⟩ := g.dn I2 hw
  subst hw
  cases g.ex
  cases g.ey
  obtain rfl : u = Value.ref a := rx
  obtain rfl : iv = Value.ref b := ry
  have hz : xs.length ≤ sizeLine := by rw [← rr.len]; exact z
  obtain ⟨w', hw', rw'⟩ := RelO.some_of (v := v) (o := (atKey xs k).map (·.2)) (by rw [← hv]; exact rr.at k)
  obtain ⟨p, hp, hp2⟩ := Option.map_eq_some_iff.mp hw'
  refine wpAny_delItem_heap (hsz := hz) (n_room hu) hk hd dd hp fun h' dd' hs => wpAny_deleteEach_nil ⟨σ, _, ?_, q2⟩
  have he : ∃ q, h'.get? a = some q := let ⟨q, _, _, hq, _⟩ := dd'; ⟨q, hq⟩
  exact d_write I2 (by rw [g.ha]; exact True.intro) hs he (dn_obj (Nat.le_trans dropN_len z) hd (rr.drop k) dd')
theorem dn_type {H : Hp} {a : Addr} {es : List Ent} {pins : List (Addr × Obj)} {σ : St} {s : Shared} (I : Inv X pins σ H s) (e : H a = some (DN w a es)) : s.TypeIs (.ref a) "dict" ∧ ∀ b, Value.ref a = .ref b → ∃ ob, s.heap.get? b = some ob ∧ ob.dict = none := by
  obtain ⟨⟨z, y, xs, r, o, ds, ep, h1, h2, h3, h4, h5⟩, _, _⟩ := (show ObjOk X.prog X.w H s.heap a (DN w a es) from I.hok _ _ e)
  exact ⟨⟨o, h1, h2.1⟩, fun b q => by
    cases q
    exact ⟨o, h1, h2.2.1⟩⟩
theorem pe_npop {e : Expr} {apos cpos : Pos} (hu : X.A.units + 64 < cLine) (ho : PE X o td) (he : PE X e ty) (m : M1 X o "pop" apos e cpos) (hw : X.w = w := by rfl) : PE X (.Call (.Attribute o "pop" apos) [e] [] cpos) (tNPop w td ty) := by
  refine ⟨fun pins s σ H Q I h => ?_⟩
  refine wpAny_Call_method m.base m.few m.line PySem.F.plainAttrs_dict PySem.F.slot_dict_pop PySem.F.type_dict_pop (thn (ho.run pins s σ H _ I h) fun u s1 ⟨x, H1, I1, rx, ⟨a0, es0, ex, ea⟩, q1⟩ => ?_)
  cases ex
  obtain rfl : u = Value.ref a0 := rx
  obtain ⟨t1, t2⟩ := dn_type I1 ea
  refine ⟨t1, t2, ?_⟩
  rw [m.trees]
  refine Calls.callWith_builtin rfl (Calls.evalArgs_plain (Calls.spliced_cons (thn (he.run pins s1 σ H1 _ I1 q1) fun iv s2 ⟨y, H2, I2, ry, a, b, es, k, v, g, hv, q2⟩ => Calls.spliced_nil ?_)))
  obtain ⟨z, hd, xs, rr, dd, hk⟩ := g.dn I2 hw
  subst hw
  cases g.ex
  cases g.ey
  obtain rfl : iv = Value.ref b := ry
  have hz : xs.length ≤ sizeLine := by rw [← rr.len]; exact z
  obtain ⟨w', hw', rw'⟩ := RelO.some_of (v := v) (o := (atKey xs k).map (·.2)) (by rw [← hv]; exact rr.at k)
  obtain ⟨p, hp, hp2⟩ := Option.map_eq_some_iff.mp hw'
  refine call_pop_heap (hsz := hz) (.inl rfl) (PySem.F.args_dict_pop_2 _ _) (n_room hu) hk hd dd hp fun h' dd' hs => ?_
  have he : ∃ q, h'.get? a0 = some q := let ⟨q, _, _, hq, _⟩ := dd'; ⟨q, hq⟩
  rw [hp2]
  exact ⟨v, _, d_write I2 (by rw [g.ha]; exact True.intro) hs he (dn_obj (Nat.le_trans dropN_len z) hd (rr.drop k) dd'), rw', q2⟩
theorem pe_nnew (hw : X.w = w := by rfl) : PE X (.Dict [] [] pos) (tNNew w) := ⟨fun pins s σ H Q I h => by
  subst hw
  exact wpAny_Dict_empty ⟨.ref s.heap.objs.size, _, I.laid (a := s.heap.objs.size) (o := DN X.w s.heap.objs.size []) (t' := s.toks) (fun _ _ q => Heap.get?_push_of_some _ q) (Nat.le_refl _) (dn_empty s.heap I.big), rfl, h _ (I.hok.fresh (Nat.le_refl _))⟩⟩
end
end Hb

set_option Elab.async false
set_option maxRecDepth 100000
set_option maxHeartbeats 4000000
/-! sorted(..) of tuples of ints and of tuples of ints. -/
namespace Hb
open PySem L2 PyProof.Rows
/-! ### the order of rows of ints -/
abbrev lexI (x y : List Int) : Bool := HT.lexLt x y
theorem lexI_cons {x y : Int} {xs ys : List Int} : lexI (x :: xs) (y :: ys) = if x = y then lexI xs ys else decide (x < y) := rfl
theorem lexI_self : ∀ x : List Int, lexI x x = false
  | [] => rfl
  | x :: xs => by rw [lexI_cons, if_pos rfl]; exact lexI_self xs
theorem lexI_asym : ∀ x y : List Int, lexI x y = true → lexI y x = false
  | [], [], h => nomatch h
  | [], _ :: _, _ => rfl
  | _ :: _, [], h => nomatch h
  | x :: xs, y :: ys, h => by
    rw [lexI_cons] at h ⊢
    by_cases e : x = y
    · rw [if_pos e] at h
      rw [if_pos e.symm]
      exact lexI_asym xs ys h
    · rw [if_neg e] at h
      rw [if_neg (fun q => e q.symm)]
      have := of_decide_eq_true h
      exact decide_eq_false (by omega)
theorem lexI_tr : ∀ x y z : List Int, lexI y x = false → lexI z y = false → lexI z x = false
  | [], [], _, _, h => h
  | [], _ :: _, _, h1, _ => by
    rename_i z _
    cases z with
    | nil => rfl
    | cons z zs => rfl
  | _ :: _, [], _, h1, _ => nomatch h1
  | x :: xs, y :: ys, [], h1, h2 => nomatch h2
  | x :: xs, y :: ys, z :: zs, h1, h2 => by
    rw [lexI_cons] at h1 h2 ⊢
    by_cases e1 : y = x
    · subst e1
      rw [if_pos rfl] at h1
      by_cases e2 : z = y
      · subst e2
        rw [if_pos rfl] at h2
        rw [if_pos rfl]
        exact lexI_tr xs ys zs h1 h2
      · rw [if_neg e2] at h2 ⊢
        exact h2
    · rw [if_neg e1] at h1
      have g1 := of_decide_eq_false h1
      by_cases e2 : z = y
      · subst e2
        rw [if_neg e1]
        exact h1
      · rw [if_neg e2] at h2
        have g2 := of_decide_eq_false h2
        rw [if_neg (by omega)]
        exact decide_eq_false (by omega)
theorem lexI_total : ∀ x y : List Int, lexI x y = false → lexI y x = false → x = y
  | [], [], _, _ => rfl
  | [], _ :: _, h, _ => nomatch h
  | _ :: _, [], _, h => nomatch h
  | x :: xs, y :: ys, h1, h2 => by
    rw [lexI_cons] at h1 h2
    by_cases e : x = y
    · subst e
      rw [if_pos rfl] at h1 h2
      rw [lexI_total xs ys h1 h2]
    · rw [if_neg e] at h1
      rw [if_neg (fun q => e q.symm)] at h2
      have g1 := of_decide_eq_false h1
      have g2 := of_decide_eq_false h2
      omega
theorem lexI_app : ∀ {x y r t : List Int}, x.length = y.length → lexI (x ++ r) (y ++ t) = if x = y then lexI r t else lexI x y
  | [], [], r, t, _ => by rw [if_pos rfl]; rfl
  | x :: xs, y :: ys, r, t, h => by
    have h' : xs.length = ys.length := by simpa using h
    show lexI (x :: (xs ++ r)) (y :: (ys ++ t)) = _
    rw [lexI_cons, lexI_cons]
    by_cases e : x = y
    · subst e
      rw [if_pos rfl, if_pos rfl, lexI_app h']
      by_cases e2 : xs = ys
      · rw [if_pos e2, if_pos (by rw [e2])]
      · rw [if_neg e2, if_neg (fun q => e2 (List.cons.inj q).2)]
    · rw [if_neg e, if_neg e, if_neg (fun q => e (List.cons.inj q).1)]
theorem swo_lexI {α : Type} (f : α → List Int) : SrtO.Swo fun x y => lexI (f x) (f y) := ⟨fun _ _ => lexI_asym _ _, fun _ _ _ => lexI_tr _ _ _⟩
/-! ### tuples of ints and of tuples of ints -/
abbrev Itm := Int ⊕ List Int
def flI : Itm → List Int
  | .inl i => [i]
  | .inr ns => ns
def flK (ks : List Itm) : List Int := ks.flatMap flI
def shp : Itm → Option Nat
  | .inl _ => none
  | .inr ns => some ns.length
def nkI : Itm → NestedKey
  | .inl i => .num i
  | .inr ns => .tup (ns.map .num)
def nkK (ks : List Itm) : NestedKey := .tup (ks.map nkI)
theorem shp_len {x y : Itm} (h : shp x = shp y) : (flI x).length = (flI y).length := by
  cases x with
  | inl i =>
    cases y with
    | inl j => rfl
    | inr ms => cases h
  | inr ns =>
    cases y with
    | inl j => cases h
    | inr ms => exact Option.some.inj h
theorem flI_inj {x y : Itm} (h : shp x = shp y) (e : flI x = flI y) : x = y := by
  cases x with
  | inl i =>
    cases y with
    | inl j => cases e; rfl
    | inr ms => cases h
  | inr ns =>
    cases y with
    | inl j => cases h
    | inr ms => cases e; rfl
theorem flK_inj : ∀ {xs ys : List Itm}, xs.map shp = ys.map shp → flK xs = flK ys → xs = ys
  | [], [], _, _ => rfl
  | [], _ :: _, h, _ => nomatch h
  | _ :: _, [], h, _ => nomatch h
  | x :: xs, y :: ys, h, e => by
    have h1 : shp x = shp y := (List.cons.inj h).1
    have e' : flI x ++ flK xs = flI y ++ flK ys := e
    have h2 := List.append_inj e' (shp_len h1)
    rw [flI_inj h1 h2.1, flK_inj (List.cons.inj h).2 h2.2]
theorem nums_inj : ∀ {a b : List Int}, a.map NestedKey.num = b.map NestedKey.num → a = b
  | [], [], _ => rfl
  | [], _ :: _, h => nomatch h
  | _ :: _, [], h => nomatch h
  | x :: xs, y :: ys, h => by
    have h1 := List.cons.inj h
    rw [NestedKey.num.inj h1.1, nums_inj h1.2]
theorem nkI_inj {x y : Itm} (h : nkI x = nkI y) : x = y := by
  cases x with
  | inl i =>
    cases y with
    | inl j => cases h; rfl
    | inr ms => cases h
  | inr ns =>
    cases y with
    | inl j => cases h
    | inr ms => rw [nums_inj (NestedKey.tup.inj h)]
section
variable {prog : Program} {w : World} {A : Around} {E : Value → Shared → Prop} {s : Shared}
theorem lt_any {f : Bool} {a b : Int} {t u : Tok} {Q : Bool → Shared → Prop} (h : Q (decide (a < b)) s) : wpAny (model prog w) A (oneLt' f (.int a t) (.int b u)) Q (fun _ _ => False) s := by
  cases f with
  | true => exact oneLt_int h
  | false => exact PySem.W.kat_one _ _ (lt_int h)
/-- an item of such a tuple -/
def ItIs (h : Heap) : Itm → Value → Prop
  | .inl i, v => ∃ t, v = .int i t
  | .inr ns, v => ∃ p items, v = .ref p ∧ IsTup h p items ∧ IntsAre items.toList ns
def K2Is (h : Heap) (ks : List Itm) (v : Value) : Prop := ∃ p o n vs, v = .ref p ∧ h.get? p = some o ∧ o.cls = .type "tuple" ∧ o.data = .seq vs n ∧ Paired (ItIs h) ks vs.toList
theorem ItIs.keeps {h h' : Heap} (k : ∀ b o, h.get? b = some o → o.cls = .type "tuple" → h'.get? b = some o) {x : Itm} {v : Value} (r : ItIs h x v) : ItIs h' x v := by
  cases x with
  | inl i => exact r
  | inr ns =>
    obtain ⟨p, items, e, ⟨o, ho, hc, n, hd⟩, hi⟩ := r
    exact ⟨p, items, e, ⟨o, k _ _ ho hc, hc, n, hd⟩, hi⟩
theorem K2Is.keeps {h h' : Heap} (k : ∀ b o, h.get? b = some o → o.cls = .type "tuple" → h'.get? b = some o) {ks : List Itm} {v : Value} (r : K2Is h ks v) : K2Is h' ks v := by
  obtain ⟨p, o, n, vs, e, ho, hc, hd, r⟩ := r
  exact ⟨p, o, n, vs, e, k _ _ ho hc, hc, hd, Paired.mapP r fun a b => ItIs.keeps k⟩
theorem ints_nested {h : Heap} : ∀ {vs : List Value} {ns : List Int}, IntsAre vs ns → NestedAll h (ns.map .num) vs
  | _, _, .nil => .nil
  | _, _, .cons i t r => .cons (.int i t) (ints_nested r)
theorem ItIs.nested {h : Heap} {x : Itm} {v : Value} (r : ItIs h x v) : NestedIs h (nkI x) v := by
  cases x with
  | inl i =>
    obtain ⟨t, rfl⟩ := r
    exact .int i t
  | inr ns =>
    obtain ⟨p, items, rfl, ⟨o, ho, hc, n, hd⟩, hi⟩ := r
    exact .tup ho hc hd (ints_nested hi)
theorem depth_nums : ∀ ns : List Int, NestedKey.depthAll (ns.map .num) ≤ 1
  | [] => by simp [NestedKey.depthAll]
  | n :: ns => by
    have := depth_nums ns
    simp only [List.map_cons, NestedKey.depthAll, NestedKey.depth]
    omega
theorem depth_nkI (x : Itm) : (nkI x).depth ≤ 2 := by
  cases x with
  | inl i => simp [nkI, NestedKey.depth]
  | inr ns =>
    have := depth_nums ns
    simp only [nkI, NestedKey.depth]
    omega
theorem k2_lex {b fin : Bool} {Q : Bool → Shared → Prop} (hu : A.units + 2 < cLine) : ∀ {xs ys : List Itm} {vs ws : List Value} {i : Nat}, Paired (ItIs s.heap) xs vs → Paired (ItIs s.heap) ys ws → xs.map shp = ys.map shp → (b = true → i = 0 → ∀ x ∈ xs.head?, shp x = none) → fin = false → Q (lexI (flK xs) (flK ys)) s →
    PySem.W.KatLex prog w A b fin Q (vs.zip ws) i s
  | _, _, _, _, i, .nil, .nil, _, _, hf, h => by
    subst hf
    exact PySem.W.kat_nil h
  | _, _, _, _, _, .nil, .cons _ _, hs, _, _, _ => nomatch hs
  | _, _, _, _, _, .cons _ _, .nil, hs, _, _, _ => nomatch hs
  | x :: xs, y :: ys, v :: vs, u :: us, i, .cons r rs, .cons q qs, hs, hb, hf, h => by
    have h1 : shp x = shp y := (List.cons.inj hs).1
    have h2 := (List.cons.inj hs).2
    have e : lexI (flK (x :: xs)) (flK (y :: ys)) = if flI x = flI y then lexI (flK xs) (flK ys) else lexI (flI x) (flI y) := lexI_app (shp_len h1)
    rw [e] at h
    refine PySem.W.kat_cons (eqAt_key (nkI x) (nkI y) A s v u r.nested q.nested (by have := depth_nkI x; omega) prog w _ _ ?_)
    rw [← NestedKey.decide_eq]
    refine PySem.W.kat_go (fun e1 => ?_) (fun e1 => ?_)
    · have e2 : x = y := nkI_inj (of_decide_eq_true e1)
      rw [if_pos (by rw [e2])] at h
      exact PySem.W.kat_yes (k2_lex hu rs qs h2 (fun _ z => nomatch z) hf h)
    · have e2 : ¬ flI x = flI y := fun z => of_decide_eq_false e1 (by rw [flI_inj h1 z])
      rw [if_neg e2] at h
      refine PySem.W.kat_no ?_
      cases x with
      | inl n =>
        cases y with
        | inr ms => cases h1
        | inl m =>
          obtain ⟨t, rfl⟩ := r
          obtain ⟨t', rfl⟩ := q
          have e3 : lexI (flI (.inl n)) (flI (.inl m)) = decide (n < m) := by
            show lexI [n] [m] = _
            rw [lexI_cons, if_neg (fun z => e2 (by rw [z]))]
          rw [e3] at h
          exact lt_any h
      | inr ns =>
        cases y with
        | inl m => cases h1
        | inr ms =>
          have hc : (b && i == 0) = false := by
            cases hb1 : b with
            | false => rfl
            | true =>
              cases hi : i == 0 with
              | false => rfl
              | true =>
                have := hb hb1 (by simpa using hi) (.inr ns) rfl
                cases this
          rw [hc]
          obtain ⟨p, its, rfl, ht, hi⟩ := r
          obtain ⟨p', its', rfl, ht', hi'⟩ := q
          exact PySem.W.kat_one _ _ (HT.lt_tupInts ht ht' hi hi' (by omega) h)
theorem paired_len {α β : Type} {R : α → β → Prop} {xs : List α} {ys : List β} (h : Paired R xs ys) : xs.length = ys.length := Paired.length h
/-- the first items -/
theorem firsts2 {h : Heap} {k : Value → List Itm} {c : Option Nat} {sh : List (Option Nat)} : ∀ {vs : List Value}, (∀ v ∈ vs, K2Is h (k v) v ∧ (k v).map shp = c :: sh) → ∃ fs : List Value, PySem.W.KatTups h vs fs ∧ fs.length = vs.length ∧ ∀ f ∈ fs, ∃ x, ItIs h x f ∧ shp x = c
  | [], _ => ⟨[], PySem.W.KatTups.nil, rfl, fun _ hm => by simp at hm⟩
  | v :: vs, hp => by
    obtain ⟨fs, h1, h2, h3⟩ := firsts2 (vs := vs) fun v' hm => hp v' (List.mem_cons_of_mem _ hm)
    obtain ⟨⟨p, o, n, ws, e, ho, hc, hd, r⟩, hsh⟩ := hp v (List.mem_cons_self ..)
    generalize k v = ks at r hsh
    match ks, hsh, hw : ws.toList, r with
    | x :: ks, hsh, u :: us, .cons r _ =>
      subst e
      refine ⟨u :: fs, PySem.W.KatTups.cons ho hc hd (by rw [← Array.getElem?_toList, hw]; rfl) h1, by rw [List.length_cons, List.length_cons, h2], fun f hm => ?_⟩
      rcases List.mem_cons.mp hm with rfl | hm
      · exact ⟨x, r, (List.cons.inj hsh).1⟩
      · exact h3 f hm
theorem k2_cmp {vs : List Value} {k : Value → List Itm} {b : Bool} {c : Option Nat} {sh : List (Option Nat)} (hu : A.units + 2 < cLine) (hb : b = true → c = none) (hp : ∀ v ∈ vs, K2Is s.heap (k v) v ∧ (k v).map shp = c :: sh) : SrtO.Cmp prog w A s (tuples' b) (fun p => p.1 ∈ vs) (SrtO.lt2 fun v u => lexI (flK (k v)) (flK (k u))) := by
  intro p q hm hm'
  obtain ⟨⟨a, o, n, ws, e, ho, hc, hd, r⟩, hs⟩ := hp _ hm
  obtain ⟨⟨a', o', n', ws', e', ho', hc', hd', r'⟩, hs'⟩ := hp _ hm'
  show wpAny (model prog w) A (keyLt' (tuples' b) p.1 q.1) (fun r s' => s' = s ∧ r = lexI (flK (k p.1)) (flK (k q.1))) (fun _ _ => False) s
  generalize k p.1 = ks at r hs ⊢
  generalize k q.1 = ks' at r' hs' ⊢
  rw [e, e']
  refine PySem.W.kat_lt ho hd ho' hd' ?_
  have l1 : ks.length = ws.size := by
    have := paired_len r
    simpa using this
  have l2 : ks'.length = ws'.size := by
    have := paired_len r'
    simpa using this
  have l3 : ks.length = ks'.length := by
    have := congrArg List.length (hs.trans hs'.symm)
    simpa using this
  refine k2_lex hu r r' (hs.trans hs'.symm) (fun h1 _ x hx => ?_) ?_ ⟨rfl, rfl⟩
  · match ks, hs, hx with
    | y :: ks, hs, hx =>
      cases hx
      rw [← hb h1]
      exact (List.cons.inj hs).1
  · exact decide_eq_false (by omega)
theorem k2_sortable {a : Addr} {vs : List Value} {k : Value → List Itm} {c : Option Nat} {sh : List (Option Nat)} (hu : A.units + 2 < cLine) (h0 : 0 < vs.length) (hp : ∀ v ∈ vs, K2Is s.heap (k v) v ∧ (k v).map shp = c :: sh) (ha : ∀ o, s.heap.get? a = some o → o.cls ≠ .type "tuple") : SrtO.SortableO prog w A s a vs fun v u => lexI (flK (k v)) (flK (k u)) := by
  intro h' keep
  have hp' : ∀ v ∈ vs, K2Is h' (k v) v ∧ (k v).map shp = c :: sh := fun v hm => ⟨(hp v hm).1.keeps fun b o e cc => keep b o (fun z => by subst z; exact ha o e cc) e, (hp v hm).2⟩
  obtain ⟨fs, h1, h2, h3⟩ := firsts2 hp'
  cases c with
  | none =>
    refine ⟨tuples' true, fun Q E hq => ?_, k2_cmp hu (fun _ => rfl) hp'⟩
    refine PySem.W.kat_kind (T := .type "int") h1 (by omega) (fun f hm => ?_) (by rfl) ?_
    · obtain ⟨x, r, e⟩ := h3 f hm
      cases x with
      | inr ns => cases e
      | inl i =>
        obtain ⟨t, rfl⟩ := r
        exact PySem.W.Looks.now
    · have e : (Value.type "int" != Value.type "tuple") = true := by first | decide +kernel | rfl | decide
      rw [e]
      exact hq
  | some n =>
    refine ⟨tuples' false, fun Q E hq => ?_, k2_cmp hu (fun z => nomatch z) hp'⟩
    refine PySem.W.kat_kind (T := .type "tuple") h1 (by omega) (fun f hm => ?_) (by rfl) ?_
    · obtain ⟨x, r, e⟩ := h3 f hm
      cases x with
      | inl i => cases e
      | inr ns =>
        obtain ⟨p, its, rfl, ⟨o, ho, hc, n, hd⟩, hi⟩ := r
        exact (PySem.W.Looks.ld ho).andThen (by rw [hc]; exact .now)
    · have e : (Value.type "tuple" != Value.type "tuple") = false := by first | decide +kernel | rfl | decide
      rw [e]
      exact hq
end
/-! ### as rules -/
theorem nums_ints {H : Hp} : ∀ {ns : List Int} {vs : List V} {us : List Value}, NKs H (ns.map .num) vs → Vals vs us → IntsAre us ns
  | [], _, _, .nil, r => by cases r; exact .nil
  | n :: ns, _, _, .cons h hs, r => by
    cases h
    cases r with
    | cons r1 r2 =>
      obtain ⟨t, rfl⟩ := r1
      exact .cons n t (nums_ints hs r2)
theorem NK.it {P : Program} {w : World} {H : Hp} {h : Heap} (ok : HOk P w H h) {x : Itm} {v : V} {u : Value} (hk : NK H (nkI x) v) (r : RelV v u) : ItIs h x u := by
  cases x with
  | inl i =>
    cases hk
    exact r
  | inr ns =>
    cases hk with
    | tup e hs =>
      cases (show u = Value.ref _ from r)
      obtain ⟨_, its, r2, ht⟩ := ok _ _ e
      exact ⟨_, _, rfl, ht, nums_ints hs r2⟩
theorem NKs.its {P : Program} {w : World} {H : Hp} {h : Heap} (ok : HOk P w H h) : ∀ {ks : List Itm} {vs : List V} {us : List Value}, NKs H (ks.map nkI) vs → Vals vs us → Paired (ItIs h) ks us
  | [], _, _, .nil, r => by cases r; exact .nil
  | k :: ks, _, _, .cons hk hs, r => by
    cases r with
    | cons r1 r2 => exact .cons (hk.it ok r1) (NKs.its ok hs r2)
theorem NK.k2 {P : Program} {w : World} {H : Hp} {h : Heap} (ok : HOk P w H h) {ks : List Itm} {b : Addr} (hk : NK H (nkK ks) (.ref b)) : K2Is h ks (.ref b) := by
  cases hk with
  | tup e hs =>
    obtain ⟨_, its, r2, o, ho, hc, n, hd⟩ := ok _ _ e
    exact ⟨b, o, n, _, rfl, ho, hc, hd, NKs.its ok hs r2⟩
theorem _root_.Hb.RelEs.addrs : ∀ {es : List Ent} {xs : List (NestedKey × Addr × Value)}, RelEs es xs → es.map (fun e => Value.ref e.2.1) = xs.map fun x => Value.ref x.2.1
  | _, _, .nil => rfl
  | _, _, .cons h t => by rw [List.map_cons, List.map_cons, RelEs.addrs t, h.2.1]
/-- by the ints of the keys -/
abbrev ltK (k : V → List Itm) (x y : V) : Bool := lexI (flK (k x)) (flK (k y))
theorem ltK_swo (k : V → List Itm) : SrtO.Swo (ltK k) := swo_lexI fun x => flK (k x)
/-- sorted(xs): xs a list of such tuples, all of one shape -/
def rSortN (K : PySem.W.Frag) (c : Option Nat) (sh : List (Option Nat)) : List V → Hp → VK → Prop := fun vs H Q => ∃ (a : Addr) (xs : List V) (k : V → List Itm), vs = [V.ref a] ∧ SqL K H a xs ∧ (∀ x ∈ xs, (∃ b, x = V.ref b) ∧ NK H (nkK (k x)) x ∧ (k x).map shp = c :: sh) ∧
  ∀ ys p, SrtO.Srtd (ltK k) ys → SrtO.Stb (ltK k) ys xs → H p = none → Q (.ref p) (upd H p (.lst ys))
/-- sorted(d) of a dict with such keys -/
def rSortDN (w : World) (c : Option Nat) (sh : List (Option Nat)) : List V → Hp → VK → Prop := fun vs H Q => ∃ (a : Addr) (es : List Ent) (k : V → List Itm), vs = [V.ref a] ∧ H a = some (DN w a es) ∧ (∀ e ∈ es, NK H (nkK (k (.ref e.2.1))) (.ref e.2.1) ∧ (k (.ref e.2.1)).map shp = c :: sh) ∧
  ∀ ys p, SrtO.Srtd (ltK k) ys → SrtO.Stb (ltK k) ys (es.map fun e => V.ref e.2.1) → H p = none → Q (.ref p) (upd H p (.lst ys))
section
variable {X : Cx} {c : Option Nat} {sh : List (Option Nat)} {K : PySem.W.Frag} {w : World}
theorem cr_sortN (hu : X.A.units + 64 < cLine) (hK : X.K = K := by rfl) : CallR X (.builtin "sorted") (rSortN K c sh) := by
  subst hK
  intro pins s σ H vs us Q I r h
  obtain ⟨a, xs, k, rfl, hs, hx, q⟩ := h
  obtain ⟨its, rv, hl, hz⟩ := I.list hs
  obtain ⟨u, rfl, ru⟩ := vals1 r
  obtain rfl : u = Value.ref a := ru
  obtain ⟨e1, e2⟩ := refs_back rv fun x m => (hx x m).1
  have hp : ∀ v ∈ its, K2Is s.heap (k (backV v)) v ∧ (k (backV v)).map shp = c :: sh := fun v hv => by
    obtain ⟨t, rfl⟩ := e2 v hv
    have hm : V.ref t ∈ xs := by
      rw [e1]
      exact List.mem_map.mpr ⟨_, hv, rfl⟩
    obtain ⟨_, h1, h2⟩ := hx _ hm
    exact ⟨NK.k2 I.hok h1, h2⟩
  have hu2 : X.A.in1.in1.units + 2 < cLine := by
    have e : X.A.in1.in1.units = X.A.units + 1 + 1 := rfl
    omega
  refine SrtO.sorted_ord (ltv := fun v u => lexI (flK (k (backV v))) (flK (k (backV u)))) (swo_lexI fun v => flK (k (backV v))) hl.isList (by rw [← rv.length]; exact hz) (fun h2 h₁ a ha kk => ?_) fun out h1 h2 => ?_
  · refine k2_sortable (s := { s with heap := h₁ }) hu2 (by omega) (fun v hm => ⟨(hp v hm).1.keeps fun b o e _ => (kk b o e).2, (hp v hm).2⟩) fun o e => ?_
    have e' : some o = some (seqObj "list" its.toArray 0) := e.symm.trans ha
    cases e'
    intro cc
    exact absurd (Value.type.inj cc) (by decide)
  · have h3 : ∀ u ∈ out, ∃ a, u = Value.ref a := fun u hu => e2 u (h2.perm.mem_iff.mp hu)
    obtain ⟨n, hn⟩ := sortedAll_at s.heap its out.toArray
    have hb : SrtO.Stb (ltK k) (out.map backV) xs := by
      rw [e1]
      exact SrtO.Stb.map (ltK_swo k) backV h2
    refine ⟨.ref (s.heap.objs.size + 1), upd H (s.heap.objs.size + 1) (.lst (out.map backV)), I.laid (t' := s.toks) (fun b o e => sortedAll_old e) (Nat.le_succ _) ⟨?_, out, n, vals_back h3, hn⟩, rfl, q _ _ (SrtO.srtd_map h1) hb (I.hok.fresh (Nat.le_succ _))⟩
    rw [hb.len]
    exact hz
theorem cr_sortDN (hc : X.calm = true) (hu : X.A.units + 64 < cLine) (hw : X.w = w := by rfl) : CallR X (.builtin "sorted") (rSortDN w c sh) := by
  subst hw
  intro pins s σ H vs us Q I r h
  obtain ⟨a, es, k, rfl, ha, hx, q⟩ := h
  obtain ⟨u, rfl, ru⟩ := vals1 r
  obtain rfl : u = Value.ref a := ru
  obtain ⟨⟨z, lo, xs, rel, o, ds, ep, h1, h2, h3, h4, h5⟩, _, _⟩ := (show ObjOk X.prog X.w H s.heap a (DN X.w a es) from I.hok _ _ ha)
  have hu2 : X.A.in1.in1.units + 2 < cLine := by
    have e : X.A.in1.in1.units = X.A.units + 1 + 1 := rfl
    omega
  have hsz : ds.size = es.length := by
    rw [← Array.length_toList, h4, List.length_map, rel.len]
  refine Calls.call_function_entry kind_sorted plain_sorted entry_sorted (args_sorted1 _) ?_
  unfold Builtin.«sorted»
  refine wpAny_bind (m := checkCount "sorted" 1 1 _) (wpAny_pure ?_)
  refine wpAny_bind (PySem.W.kdu_collect (A := X.A.in1) (kdl_raw lo h2 h3) (I.ok.hd hc) h1 (by rw [hsz]; exact z) fun h' tk acc hk hacc => ?_)
  have hal : acc.toList.length = es.length := by rw [Array.length_toList, hacc.1, hsz]
  have hac : acc.toList = es.map fun e => Value.ref e.2.1 := by
    refine List.ext_getElem? fun j => ?_
    rw [List.getElem?_map]
    cases e1 : acc.toList[j]? with
    | none =>
      have g1 := List.getElem?_eq_none_iff.mp e1
      rw [List.getElem?_eq_none (by omega)]
      rfl
    | some v =>
      obtain ⟨en, g1, g2⟩ := hacc.2 j v (by rw [← Array.getElem?_toList]; exact e1)
      rw [← Array.getElem?_toList, h4, List.getElem?_map] at g1
      obtain ⟨x, g3, g4⟩ := Option.map_eq_some_iff.mp g1
      have g5 : (es.map fun e => Value.ref e.2.1)[j]? = some (Value.ref x.2.1) := by
        have g6 : es.map (fun e => Value.ref e.2.1) = xs.map fun x => Value.ref x.2.1 := by
          exact rel.addrs
        rw [g6, List.getElem?_map, g3]
        rfl
      rw [List.getElem?_map] at g5
      rw [g5, g2, ← g4]
      rfl
  have I1 : Inv X pins σ H { s with heap := h', toks := tk } := I.kept hk
  have hp : ∀ v ∈ acc.toList, K2Is h' (k (backV v)) v ∧ (k (backV v)).map shp = c :: sh := fun v hv => by
    rw [hac] at hv
    obtain ⟨e, he, rfl⟩ := List.mem_map.mp hv
    obtain ⟨g1, g2⟩ := hx e he
    exact ⟨NK.k2 I1.hok g1, g2⟩
  refine wpAny_bind (wpAny_newList ?_ (by rw [hal]; exact z))
  have hoL : (h'.push (seqObj "list" acc.toList.toArray 0)).get? h'.objs.size = some (seqObj "list" acc.toList.toArray 0) := Heap.get?_push_size _ rfl
  show wpAny _ _ _ _ _ { s with heap := h'.push (seqObj "list" acc.toList.toArray 0), toks := tk }
  refine wpAny_bind (wpAny_holding (wpAny_call_entry slot_list_sort ⟨_, hoL, rfl⟩ entry_list_sort
    (SrtO.list_sort_ord (s := { s with heap := h'.push (seqObj "list" acc.toList.toArray 0), toks := tk }) (ltv := fun v u => lexI (flK (k (backV v))) (flK (k (backV u)))) (swo_lexI fun v => flK (k (backV v))) hoL (by rw [hal]; exact z) (fun g0 => ?_) fun out g1 g2 => ⟨_, rfl, ?_⟩) (args_list_sort _)))
  · refine k2_sortable (s := { s with heap := h'.push (seqObj "list" acc.toList.toArray 0), toks := tk }) hu2 (by omega) (fun v hm => ⟨(hp v hm).1.keeps fun b o e _ => Heap.get?_push_of_some _ e, (hp v hm).2⟩) fun o e => ?_
    have e' : some o = some (seqObj "list" acc.toList.toArray 0) := e.symm.trans hoL
    cases e'
    intro cc
    exact absurd (Value.type.inj cc) (by decide)
  · obtain ⟨e', he'⟩ := sortedHeap_at (vs := acc.toList) (out := out.toArray) hoL
    have g3 : ∀ u ∈ out, ∃ a, u = Value.ref a := fun u hu => by
      have hm := g2.perm.mem_iff.mp hu
      rw [hac] at hm
      obtain ⟨e, _, rfl⟩ := List.mem_map.mp hm
      exact ⟨_, rfl⟩
    have hb : SrtO.Stb (ltK k) (out.map backV) (es.map fun e => V.ref e.2.1) := by
      have hm := SrtO.Stb.map (ltK_swo k) backV g2
      rw [hac, List.map_map] at hm
      exact hm
    refine wpAny_pure ⟨_, rfl, .ref h'.objs.size, upd H h'.objs.size (.lst (out.map backV)), I1.laid (t' := tk) (fun b u e => ?_) (Nat.le_refl _)
      (show ObjOk X.prog X.w _ _ _ (.lst (out.map backV)) from ⟨?_, out, e', vals_back g3, he'⟩), rfl, q _ _ (SrtO.srtd_map g1) hb (I1.hok.fresh (Nat.le_refl _))⟩
    · have hlt : b < h'.objs.size := Heap.lt_size e
      rw [sortedHeap_old (Nat.ne_of_lt hlt) (by rw [size_push']; exact Nat.lt_succ_of_lt hlt)]
      exact Heap.get?_push_of_some _ e
    · rw [hb.len, List.length_map]
      exact z
end
/-! ### min and max of two tuples of ints -/
section
open PySem.SeqAt
open PySem.W (keyToksAll dataLt alike alikeAll dataLt_cons dataLt_int AlikeAll reads_keeps iter_tupleW cmpIn_lt cmpIn_gt moved_old)
theorem toks_ints : ∀ ns ms : List Int, PyProof.Rows.lexLt itemOrd (keyToksAll (ns.map .int)) (keyToksAll (ms.map .int)) = lexI ns ms
  | [], [] => lex_irrefl _
  | [], m :: ms => by
    show PyProof.Rows.lexLt itemOrd [.inl 0] (.inl 1 :: _) = true
    exact lex_diff (by decide)
  | n :: ns, [] => by
    show PyProof.Rows.lexLt itemOrd (.inl 1 :: _) [.inl 0] = false
    exact lex_diff (by decide)
  | n :: ns, m :: ms => by
    show PyProof.Rows.lexLt itemOrd (keyToksAll (.int n :: ns.map .int)) (keyToksAll (.int m :: ms.map .int)) = _
    rw [dataLt_cons (by rfl), lexI_cons, dataLt_int, toks_ints ns ms]
    have e : PyData.eqv (.int n) (.int m) = (n == m) := by simp only [PyData.eqv]
    rw [e]
    by_cases h : n = m
    · rw [if_pos h, if_pos (by rw [h]; exact beq_self_eq_true m)]
    · rw [if_neg h, if_neg (fun z => h (by simpa using z))]
theorem dataLt_ints (ns ms : List Int) : dataLt (.tuple (ns.map .int)) (.tuple (ms.map .int)) = lexI ns ms := toks_ints ns ms
theorem alike_ints : ∀ {ns ms : List Int}, ns.length = ms.length → alikeAll (ns.map .int) (ms.map .int) = true
  | [], [], _ => by simp [alikeAll]
  | n :: ns, m :: ms, h => by
    simp only [List.map_cons, alikeAll, alike, Bool.true_and]
    exact alike_ints (by simpa using h)
theorem depth_ints : ∀ ns : List Int, PyData.depthAll (ns.map .int) ≤ 1
  | [] => by simp [PyData.depthAll]
  | n :: ns => by
    have := depth_ints ns
    simp only [List.map_cons, PyData.depthAll, PyData.depth]
    omega
section
variable {prog : Program} {w : World} {A : Around} {E : Value → Shared → Prop} {s : Shared}
theorem alike2 {ns ms : List Int} (hl : ns.length = ms.length) : AlikeAll [PyData.tuple (ns.map .int), .tuple (ms.map .int)] := by
  have a : ∀ x y : List Int, x.length = y.length → alike (.tuple (x.map .int)) (.tuple (y.map .int)) = true := fun x y h => by
    simp only [alike]
    exact alike_ints h
  refine ⟨fun x hx y hy => ?_, fun x hx => ?_⟩
  · simp only [List.mem_cons, List.not_mem_nil, or_false] at hx hy
    rcases hx with rfl | rfl <;> rcases hy with rfl | rfl
    · exact a _ _ rfl
    · exact a _ _ hl
    · exact a _ _ hl.symm
    · exact a _ _ rfl
  · simp only [List.mem_cons, List.not_mem_nil, or_false] at hx
    rcases hx with rfl | rfl <;> exact fun z => nomatch z
theorem depth2 {ns ms : List Int} : PyData.depthAll [PyData.tuple (ns.map .int), .tuple (ms.map .int)] ≤ 2 := by
  have h1 := depth_ints ns
  have h2 := depth_ints ms
  simp only [PyData.depthAll, PyData.depth]
  omega
theorem min_two_tups {a b : Addr} {ns ms : List Int} {as bs : List Addr} {Q : Value → Shared → Prop} (hh : A.handled = none) (hu : A.units + 3 < cLine) (r1 : Reads s.heap (.ref a) (.tuple (ns.map .int)) as) (r2 : Reads s.heap (.ref b) (.tuple (ms.map .int)) bs) (hl : ns.length = ms.length)
    (h : ∀ h' tk, (∀ c o, s.heap.get? c = some o → h'.get? c = some o) → Q (.ref (if lexI ms ns = true then b else a)) { s with heap := h', toks := tk }) :
    wpAny (model prog w) A (call (.builtin "min") [.ref a, .ref b]) Q E s := by
  have hname : (toString "min" ++ toString ".loop" : String) = "min.loop" := by decide
  refine call_function_tree PySem.F.kind_min PySem.F.plain_min PySem.F.entry_min (PySem.F.args_min2 _ _) ?_
  show wpAny _ A.in1 (Builtin.Builtins.bindParams "min" ["key", "default"] 0 ⟨[], []⟩ >>= _) _ _ s
  refine wpAny_bind (wpAny_of_eq (show Builtin.Builtins.bindParams "min" ["key", "default"] 0 ⟨[], []⟩ = pure [none, none] from rfl) ?_)
  show wpAny _ A.in1 (newTuple [.ref a, .ref b] >>= _) _ _ s
  refine wpAny_bind (wpAny_newObj_type ?_)
  have k0 : ∀ c o, s.heap.get? c = some o → (s.heap.push { cls := .type "tuple", data := .seq #[Value.ref a, .ref b] }).get? c = some o := fun c o e => Heap.get?_push_of_some _ e
  have hT : (s.heap.push { cls := .type "tuple", data := .seq #[Value.ref a, .ref b] }).IsTuple s.heap.objs.size #[.ref a, .ref b] := ⟨_, Heap.get?_push_size _ rfl, rfl, 0, rfl⟩
  have hr : ReadsAll (s.heap.push { cls := .type "tuple", data := .seq #[Value.ref a, .ref b] }) (#[Value.ref a, .ref b] : Array Value).toList [PyData.tuple (ns.map .int), .tuple (ms.map .int)] (as ++ (bs ++ [])) := .cons (reads_keeps k0 r1) (.cons (reads_keeps k0 r2) .nil)
  refine wpAny_bind (iter_tupleW (A := A.in1) (s := { s with heap := s.heap.push { cls := .type "tuple", data := .seq #[Value.ref a, .ref b] } }) hh hT fun s₂ e W st hfp hw hk => ?_)
  refine wpAny_bind (wpAny_newObj_type ?_)
  have hSf : s₂.heap.objs.size ∉ [(s.heap.push { cls := .type "tuple", data := .seq #[Value.ref a, .ref b] }).objs.size, s.heap.objs.size] := fun hm => Nat.lt_irrefl _ (hfp _ hm)
  rw [hname]
  have hcm := cmpIn_lt (prog := prog) (w := w) (A := A.in1) (s := { s with heap := s.heap.push { cls := .type "tuple", data := .seq #[Value.ref a, .ref b] } }) hr (alike2 hl) (by
    have := depth2 (ns := ns) (ms := ms)
    show A.units + 1 + _ < cLine
    omega)
  refine wpAny_pure ⟨plainId_quiet PySem.F.plain_min_loop _, codeAny_min_loop_firstH W _ hw _ hcm s₂.heap.objs.size hSf (fresh_in hk) _ (Nat.succ_pos 1) (fun b o e => Heap.get?_push_of_some _ (hk b o e)) (W.frame 0 s₂ _ s₂.toks st (Nat.le_refl _) fun b _ o e => Heap.get?_push_of_some _ e) (Heap.get?_push_size _ rfl) fun v s' hP hm => ?_⟩
  have hm2 := Moved.drop_new (tk := s₂.toks) hm (Nat.le_refl _)
  obtain ⟨h', tk, rfl, hk'⟩ := moved_old e rfl hm2
  have e2 : v = .ref (if lexI ms ns = true then b else a) := by
    have e3 : argBest (fun i j => dataLt ([PyData.tuple (ns.map .int), .tuple (ms.map .int)].getD i .none) ([PyData.tuple (ns.map .int), .tuple (ms.map .int)].getD j .none)) 1 = if lexI ms ns = true then 1 else 0 := by
      show (if dataLt (.tuple (ms.map .int)) (.tuple (ns.map .int)) = true then 1 else 0) = _
      rw [dataLt_ints]
    have hP' : (#[Value.ref a, .ref b] : Array Value)[argBest (fun i j => dataLt ([PyData.tuple (ns.map .int), .tuple (ms.map .int)].getD i .none) ([PyData.tuple (ns.map .int), .tuple (ms.map .int)].getD j .none)) 1]? = some v := hP
    rw [e3] at hP'
    by_cases hc : lexI ms ns = true
    · rw [if_pos hc] at hP' ⊢
      exact (Option.some.inj hP').symm
    · rw [if_neg hc] at hP' ⊢
      exact (Option.some.inj hP').symm
  rw [e2]
  exact h h' tk fun c o ec => hk' c o (k0 c o ec)
theorem max_two_tups {a b : Addr} {ns ms : List Int} {as bs : List Addr} {Q : Value → Shared → Prop} (hh : A.handled = none) (hu : A.units + 3 < cLine) (r1 : Reads s.heap (.ref a) (.tuple (ns.map .int)) as) (r2 : Reads s.heap (.ref b) (.tuple (ms.map .int)) bs) (hl : ns.length = ms.length)
    (h : ∀ h' tk, (∀ c o, s.heap.get? c = some o → h'.get? c = some o) → Q (.ref (if lexI ns ms = true then b else a)) { s with heap := h', toks := tk }) :
    wpAny (model prog w) A (call (.builtin "max") [.ref a, .ref b]) Q E s := by
  have hname : (toString "max" ++ toString ".loop" : String) = "max.loop" := by decide
  refine call_function_tree PySem.F.kind_max PySem.F.plain_max PySem.F.entry_max (PySem.F.args_max2 _ _) ?_
  show wpAny _ A.in1 (Builtin.Builtins.bindParams "max" ["key", "default"] 0 ⟨[], []⟩ >>= _) _ _ s
  refine wpAny_bind (wpAny_of_eq (show Builtin.Builtins.bindParams "max" ["key", "default"] 0 ⟨[], []⟩ = pure [none, none] from rfl) ?_)
  show wpAny _ A.in1 (newTuple [.ref a, .ref b] >>= _) _ _ s
  refine wpAny_bind (wpAny_newObj_type ?_)
  have k0 : ∀ c o, s.heap.get? c = some o → (s.heap.push { cls := .type "tuple", data := .seq #[Value.ref a, .ref b] }).get? c = some o := fun c o e => Heap.get?_push_of_some _ e
  have hT : (s.heap.push { cls := .type "tuple", data := .seq #[Value.ref a, .ref b] }).IsTuple s.heap.objs.size #[.ref a, .ref b] := ⟨_, Heap.get?_push_size _ rfl, rfl, 0, rfl⟩
  have hr : ReadsAll (s.heap.push { cls := .type "tuple", data := .seq #[Value.ref a, .ref b] }) (#[Value.ref a, .ref b] : Array Value).toList [PyData.tuple (ns.map .int), .tuple (ms.map .int)] (as ++ (bs ++ [])) := .cons (reads_keeps k0 r1) (.cons (reads_keeps k0 r2) .nil)
  refine wpAny_bind (iter_tupleW (A := A.in1) (s := { s with heap := s.heap.push { cls := .type "tuple", data := .seq #[Value.ref a, .ref b] } }) hh hT fun s₂ e W st hfp hw hk => ?_)
  refine wpAny_bind (wpAny_newObj_type ?_)
  have hSf : s₂.heap.objs.size ∉ [(s.heap.push { cls := .type "tuple", data := .seq #[Value.ref a, .ref b] }).objs.size, s.heap.objs.size] := fun hm => Nat.lt_irrefl _ (hfp _ hm)
  rw [hname]
  have hcm := cmpIn_gt (prog := prog) (w := w) (A := A.in1) (s := { s with heap := s.heap.push { cls := .type "tuple", data := .seq #[Value.ref a, .ref b] } }) hr (alike2 hl) (by
    have := depth2 (ns := ns) (ms := ms)
    show A.units + 1 + _ < cLine
    omega)
  refine wpAny_pure ⟨plainId_quiet PySem.F.plain_max_loop _, codeAny_max_loop_firstH W _ hw _ hcm s₂.heap.objs.size hSf (fresh_in hk) _ (Nat.succ_pos 1) (fun b o e => Heap.get?_push_of_some _ (hk b o e)) (W.frame 0 s₂ _ s₂.toks st (Nat.le_refl _) fun b _ o e => Heap.get?_push_of_some _ e) (Heap.get?_push_size _ rfl) fun v s' hP hm => ?_⟩
  have hm2 := Moved.drop_new (tk := s₂.toks) hm (Nat.le_refl _)
  obtain ⟨h', tk, rfl, hk'⟩ := moved_old e rfl hm2
  have e2 : v = .ref (if lexI ns ms = true then b else a) := by
    have e3 : argBest (fun i j => dataLt ([PyData.tuple (ns.map .int), .tuple (ms.map .int)].getD j .none) ([PyData.tuple (ns.map .int), .tuple (ms.map .int)].getD i .none)) 1 = if lexI ns ms = true then 1 else 0 := by
      show (if dataLt (.tuple (ns.map .int)) (.tuple (ms.map .int)) = true then 1 else 0) = _
      rw [dataLt_ints]
    have hP' : (#[Value.ref a, .ref b] : Array Value)[argBest (fun i j => dataLt ([PyData.tuple (ns.map .int), .tuple (ms.map .int)].getD j .none) ([PyData.tuple (ns.map .int), .tuple (ms.map .int)].getD i .none)) 1]? = some v := hP
    rw [e3] at hP'
    by_cases hc : lexI ns ms = true
    · rw [if_pos hc] at hP' ⊢
      exact (Option.some.inj hP').symm
    · rw [if_neg hc] at hP' ⊢
      exact (Option.some.inj hP').symm
  rw [e2]
  exact h h' tk fun c o ec => hk' c o (k0 c o ec)
end
/-- min(t, u), max(t, u) of tuples of as many ints -/
def rMinT (mx : Bool) : List V → Hp → VK → Prop := fun vs H Q => ∃ (a b : Addr) (ns ms : List Int), vs = [.ref a, .ref b] ∧ H a = some (.tup (ns.map V.int)) ∧ H b = some (.tup (ms.map V.int)) ∧ ns.length = ms.length ∧ Q (.ref (if (if mx then lexI ns ms else lexI ms ns) = true then b else a)) H
/-- x in a tuple, data of any depth -/
def rInDT (K : PySem.W.Frag) (neg : Bool) : R2 := fun x y H Q => ∃ d ds, Dp K H x d ∧ Dp K H y (.tuple ds) ∧ SeqAt.shaped d = true ∧ SeqAt.shaped (.tuple ds) = true ∧ Q (.bl (if neg then !(ds.any fun z => PyData.eqv z d) else ds.any fun z => PyData.eqv z d)) H
def rInDL (K : PySem.W.Frag) (neg : Bool) : R2 := fun x y H Q => ∃ d ds, Dp K H x d ∧ Dp K H y (.list ds) ∧ SeqAt.shaped d = true ∧ SeqAt.shaped (.list ds) = true ∧ Q (.bl (if neg then !(ds.any fun z => PyData.eqv z d) else ds.any fun z => PyData.eqv z d)) H
section
variable {X : Cx} {K : PySem.W.Frag}
theorem im_ints {H : Hp} : ∀ ns : List Int, ImAll K H (ns.map V.int) (ns.map PyData.int)
  | [] => .nil
  | n :: ns => .cons (.int n) (im_ints ns)
theorem call_minT (hc : X.calm = true) (hu : X.A.units + 64 < cLine) : CallR X (.builtin "min") (rMinT false) := by
  intro pins s σ H vs us Q I r h
  obtain ⟨a, b, ns, ms, rfl, ha, hb, hl, q⟩ := h
  obtain ⟨u1, u2, rfl, r1, r2⟩ := vals2 r
  cases r1
  cases r2
  obtain ⟨as, g1⟩ := Dp.reads I (.tuple (ns.map .int)) _ _ (.tup (SqT.of ha) (im_ints ns).dp) rfl
  obtain ⟨bs, g2⟩ := Dp.reads I (.tuple (ms.map .int)) _ _ (.tup (SqT.of hb) (im_ints ms).dp) rfl
  exact min_two_tups (I.ok.hd hc) (by omega) g1 g2 hl fun h' tk k => ⟨.ref (if lexI ms ns = true then b else a), H, I.kept k, rfl, q⟩
theorem call_maxT (hc : X.calm = true) (hu : X.A.units + 64 < cLine) : CallR X (.builtin "max") (rMinT true) := by
  intro pins s σ H vs us Q I r h
  obtain ⟨a, b, ns, ms, rfl, ha, hb, hl, q⟩ := h
  obtain ⟨u1, u2, rfl, r1, r2⟩ := vals2 r
  cases r1
  cases r2
  obtain ⟨as, g1⟩ := Dp.reads I (.tuple (ns.map .int)) _ _ (.tup (SqT.of ha) (im_ints ns).dp) rfl
  obtain ⟨bs, g2⟩ := Dp.reads I (.tuple (ms.map .int)) _ _ (.tup (SqT.of hb) (im_ints ms).dp) rfl
  exact max_two_tups (I.ok.hd hc) (by omega) g1 g2 hl fun h' tk k => ⟨.ref (if lexI ns ms = true then b else a), H, I.kept k, rfl, q⟩
theorem op_inDT (hu : X.A.units + 65 < cLine) (hK : X.K = K := by rfl) : OpR X (compareOp .In) (rInDT K false) := by
  subst hK
  intro pins s σ H x y v u Q I rx ry h
  obtain ⟨d, ds, hd, he, sd, se, q⟩ := h
  obtain ⟨as, r1⟩ := Dp.reads I d x v hd rx
  obtain ⟨bs, r2⟩ := Dp.reads I (.tuple ds) y u he ry
  exact SeqAt.in_tuple_reads r2 r1 (SeqAt.canLay_of_shaped se) (SeqAt.canLay_of_shaped sd) (room_in_shaped sd hu) ⟨.bl _, H, I, rfl, q⟩
theorem op_inDL (hu : X.A.units + 65 < cLine) (hK : X.K = K := by rfl) : OpR X (compareOp .In) (rInDL K false) := by
  subst hK
  exact op_inD hu
theorem op_niDL (hu : X.A.units + 65 < cLine) (hK : X.K = K := by rfl) : OpR X (compareOp .NotIn) (rInDL K true) := by
  subst hK
  exact op_notInD hu
end
end
end Hb

set_option Elab.async false
set_option maxRecDepth 100000
set_option maxHeartbeats 4000000
/-! Links as keys: pairs of pairs of ints, their dicts, their sorted lists. -/
namespace Hb
open PySem L2
abbrev E2 := Int × Int
abbrev Lk := E2 × E2
def flL (l : Lk) : List Int := [l.1.1, l.1.2, l.2.1, l.2.2]
def itL (l : Lk) : List Itm := [.inr [l.1.1, l.1.2], .inr [l.2.1, l.2.2]]
def lkK (l : Lk) : NestedKey := nkK (itL l)
theorem flK_it (l : Lk) : flK (itL l) = flL l := rfl
theorem flL_inj {x y : Lk} (h : flL x = flL y) : x = y := by
  obtain ⟨⟨a, b⟩, c, d⟩ := x
  obtain ⟨⟨a', b'⟩, c', d'⟩ := y
  have h1 := List.cons.inj h
  have h2 := List.cons.inj h1.2
  have h3 := List.cons.inj h2.2
  have h4 := List.cons.inj h3.2
  simp only at h1 h2 h3 h4
  rw [h1.1, h2.1, h3.1, h4.1]
theorem lkK_inj {x y : Lk} (h : lkK x = lkK y) : x = y := by
  have h1 : (itL x).map nkI = (itL y).map nkI := NestedKey.tup.inj h
  have h2 := List.cons.inj h1
  have h3 := List.cons.inj h2.2
  have e1 := nkI_inj h2.1
  have e2 := nkI_inj h3.1
  refine flL_inj ?_
  have e3 : ([x.1.1, x.1.2] : List Int) = [y.1.1, y.1.2] := Sum.inr.inj e1
  have e4 : ([x.2.1, x.2.2] : List Int) = [y.2.1, y.2.2] := Sum.inr.inj e2
  show [x.1.1, x.1.2] ++ [x.2.1, x.2.2] = [y.1.1, y.1.2] ++ [y.2.1, y.2.2]
  rw [e3, e4]
theorem lkK_depth (l : Lk) : (lkK l).depth ≤ 8 := by
  simp [lkK, nkK, itL, nkI, NestedKey.depth, NestedKey.depthAll]
/-! ### sorted -/
def ltL (x y : Lk) : Bool := lexI (flL x) (flL y)
abbrev SortedL (l : List Lk) : Prop := l.Pairwise fun x y => ltL y x = false
def insL (x : Lk) : List Lk → List Lk
  | [] => [x]
  | y :: ys => if ltL y x then y :: insL x ys else x :: y :: ys
def srt : List Lk → List Lk
  | [] => []
  | x :: xs => insL x (srt xs)
theorem insL_perm (x : Lk) : ∀ ys : List Lk, (insL x ys).Perm (x :: ys)
  | [] => List.Perm.refl _
  | y :: ys => by
    unfold insL
    split
    · exact ((insL_perm x ys).cons y).trans (List.Perm.swap x y ys)
    · exact List.Perm.refl _
theorem srt_perm : ∀ ls : List Lk, (srt ls).Perm ls
  | [] => List.Perm.refl _
  | x :: xs => (insL_perm x (srt xs)).trans ((srt_perm xs).cons x)
theorem insL_sorted (x : Lk) : ∀ ys : List Lk, SortedL ys → SortedL (insL x ys)
  | [], _ => List.pairwise_singleton _ _
  | y :: ys, h => by
    have h1 := List.pairwise_cons.mp h
    unfold insL
    by_cases hc : ltL y x = true
    · rw [if_pos hc]
      refine List.pairwise_cons.mpr ⟨fun z hz => ?_, insL_sorted x ys h1.2⟩
      rcases List.mem_cons.mp ((insL_perm x ys).mem_iff.mp hz) with rfl | hz
      · exact lexI_asym _ _ hc
      · exact h1.1 z hz
    · rw [if_neg hc]
      have hc' : ltL y x = false := by
        cases q : ltL y x with
        | true => exact absurd q hc
        | false => rfl
      refine List.pairwise_cons.mpr ⟨fun z hz => ?_, h⟩
      rcases List.mem_cons.mp hz with rfl | hz
      · exact hc'
      · exact lexI_tr _ _ _ hc' (h1.1 z hz)
theorem srt_sorted : ∀ ls : List Lk, SortedL (srt ls)
  | [] => List.Pairwise.nil
  | x :: xs => insL_sorted x _ (srt_sorted xs)
theorem sorted_uniq : ∀ {l m : List Lk}, l.Perm m → SortedL l → SortedL m → l = m
  | [], m, p, _, _ => (List.Perm.eq_nil p.symm).symm
  | x :: l, [], p, _, _ => absurd p.length_eq (by simp)
  | x :: l, y :: m, p, hl, hm => by
    have h1 := List.pairwise_cons.mp hl
    have h2 := List.pairwise_cons.mp hm
    have e : x = y := by
      rcases List.mem_cons.mp (p.mem_iff.mp List.mem_cons_self) with e | hx
      · exact e
      · rcases List.mem_cons.mp (p.mem_iff.mpr List.mem_cons_self) with e | hy
        · exact e.symm
        · exact flL_inj (lexI_total _ _ (h2.1 x hx) (h1.1 y hy))
    subst e
    rw [sorted_uniq p.cons_inv h1.2 h2.2]
theorem srt_uniq {l ls : List Lk} (p : l.Perm ls) (h : SortedL l) : l = srt ls := sorted_uniq (p.trans (srt_perm ls).symm) h (srt_sorted ls)
theorem srt_filter (p : Lk → Bool) (ls : List Lk) : (srt ls).filter p = srt (ls.filter p) := srt_uniq ((srt_perm ls).filter p) ((srt_sorted ls).filter p)
theorem mem_srt {ls : List Lk} {l : Lk} : l ∈ srt ls ↔ l ∈ ls := (srt_perm ls).mem_iff
/-! ### where they stand -/
theorem nk_link {H : Hp} {l : Lk} {a : Addr} (h : NK H (lkK l) (.ref a)) : ∃ p q, H a = some (.tup [.ref p, .ref q]) ∧ H p = some (.tup [.int l.1.1, .int l.1.2]) ∧ H q = some (.tup [.int l.2.1, .int l.2.2]) := by
  have end_ : ∀ {x y : Int} {v : V}, NK H (nkI (.inr [x, y])) v → ∃ p, v = .ref p ∧ H p = some (.tup [.int x, .int y]) := by
    intro x y v h
    cases h with
    | tup e hs =>
      cases hs with
      | cons h1 h2 =>
        cases h2 with
        | cons h2 h3 =>
          cases h3
          cases h1
          cases h2
          exact ⟨_, rfl, e⟩
  cases h with
  | tup e hs =>
    cases hs with
    | cons h1 h2 =>
      cases h2 with
      | cons h2 h3 =>
        cases h3
        obtain ⟨p, rfl, hp⟩ := end_ h1
        obtain ⟨q, rfl, hq⟩ := end_ h2
        exact ⟨p, q, e, hp, hq⟩
theorem nk_end {H : Hp} {p : Addr} {x y : Int} (h : H p = some (.tup [.int x, .int y])) : NK H (nkI (.inr [x, y])) (.ref p) := .tup h (.cons (.int x) (.cons (.int y) .nil))
theorem nk_mk {H : Hp} {l : Lk} {a p q : Addr} (h : H a = some (.tup [.ref p, .ref q])) (hp : H p = some (.tup [.int l.1.1, .int l.1.2])) (hq : H q = some (.tup [.int l.2.1, .int l.2.2])) : NK H (lkK l) (.ref a) := .tup h (.cons (nk_end hp) (.cons (nk_end hq) .nil))
/-- a list of links -/
abbrev LkL (H : Hp) (vs : List V) (ls : List Lk) : Prop := Paired (fun v l => ∃ a, v = V.ref a ∧ NK H (lkK l) (.ref a)) vs ls
theorem LkL.mono {H H' : Hp} (e : ∀ p xs, H p = some (.tup xs) → H' p = some (.tup xs)) {vs : List V} {ls : List Lk} (h : LkL H vs ls) : LkL H' vs ls := Paired.mapP h fun _ _ ⟨a, e1, e2⟩ => ⟨a, e1, e2.mono e⟩
theorem LkL.same {H H' : Hp} (e : Same H H') {vs : List V} {ls : List Lk} (h : LkL H vs ls) : LkL H' vs ls := h.mono fun _ _ => e _ _
theorem LkL.len {H : Hp} {vs : List V} {ls : List Lk} (h : LkL H vs ls) : vs.length = ls.length := Paired.length h
theorem LkL.get {H : Hp} : ∀ {vs : List V} {ls : List Lk} {i : Nat} {v : V}, LkL H vs ls → vs[i]? = some v → ∃ a l, v = .ref a ∧ ls[i]? = some l ∧ NK H (lkK l) (.ref a)
  | _ :: _, l :: _, 0, _, .cons ⟨a, e1, e2⟩ _, e => by
    cases e
    exact ⟨a, l, e1, rfl, e2⟩
  | _ :: _, _ :: _, i + 1, _, .cons _ t, e => LkL.get (i := i) t (by simpa using e)
theorem LkL.app {H : Hp} : ∀ {vs us : List V} {ls ms : List Lk}, LkL H vs ls → LkL H us ms → LkL H (vs ++ us) (ls ++ ms)
  | _, _, _, _, .nil, h => h
  | _, _, _, _, .cons h t, h2 => .cons h (LkL.app t h2)
theorem LkL.snoc {H : Hp} {vs : List V} {ls : List Lk} {a : Addr} {l : Lk} (h : LkL H vs ls) (hk : NK H (lkK l) (.ref a)) : LkL H (vs ++ [.ref a]) (ls ++ [l]) := h.app (.cons ⟨a, rfl, hk⟩ .nil)
theorem LkL.ima {K : PySem.W.Frag} {H : Hp} : ∀ {vs : List V} {ls : List Lk}, LkL H vs ls → ImAll K H vs (ls.map fun l => (lkK l).data)
  | _, _, .nil => .nil
  | _, _, .cons ⟨a, e1, e2⟩ t => by
    subst e1
    exact .cons e2.im (LkL.ima t)
theorem paired_perm {α β : Type} {R : α → β → Prop} : ∀ {xs ys : List α}, ys.Perm xs → ∀ {ls : List β}, Paired R xs ls → ∃ ms, ms.Perm ls ∧ Paired R ys ms := by
  intro xs ys p
  induction p with
  | nil => exact fun h => ⟨_, List.Perm.refl _, h⟩
  | cons x _ ih =>
    intro ls h
    cases h with
    | cons h1 h2 =>
      obtain ⟨ms, p1, p2⟩ := ih h2
      exact ⟨_, p1.cons _, .cons h1 p2⟩
  | swap x y l =>
    intro ls h
    cases h with
    | cons h1 h2 =>
      cases h2 with
      | cons h2 h3 => exact ⟨_, List.Perm.swap _ _ _, .cons h2 (.cons h1 h3)⟩
  | trans _ _ ih1 ih2 =>
    intro ls h
    obtain ⟨ms, p1, p2⟩ := ih2 h
    obtain ⟨ns, p3, p4⟩ := ih1 p2
    exact ⟨ns, p3.trans p1, p4⟩
/-- the items of what stands there -/
noncomputable def itK (H : Hp) (v : V) : List Itm := Classical.epsilon fun ks => NK H (nkK ks) v
theorem nkK_inj {x y : List Itm} (h : nkK x = nkK y) : x = y := by
  have h1 : x.map nkI = y.map nkI := NestedKey.tup.inj h
  clear h
  induction x generalizing y with
  | nil =>
    cases y with
    | nil => rfl
    | cons _ _ => cases h1
  | cons a x ih =>
    cases y with
    | nil => cases h1
    | cons b y =>
      have h2 := List.cons.inj h1
      rw [nkI_inj h2.1, ih h2.2]
theorem itK_eq {H : Hp} {ks : List Itm} {v : V} (h : NK H (nkK ks) v) : itK H v = ks := by
  have h2 : NK H (nkK (itK H v)) v := Classical.epsilon_spec (p := fun ks => NK H (nkK ks) v) ⟨ks, h⟩
  exact nkK_inj (h2.inj h)
theorem srtd_links {H : Hp} : ∀ {ys : List V} {ls : List Lk}, LkL H ys ls → SrtO.Srtd (ltK (itK H)) ys → SortedL ls
  | _, _, .nil, _ => List.Pairwise.nil
  | _, _, .cons (a := v) (b := l) ⟨a, e1, e2⟩ t, h => by
    have h1 := List.pairwise_cons.mp h
    refine List.pairwise_cons.mpr ⟨fun m hm => ?_, srtd_links t h1.2⟩
    have key : ∀ {vs : List V} {ms : List Lk}, LkL H vs ms → (∀ u ∈ vs, ltK (itK H) u v = false) → ∀ m ∈ ms, ltL m l = false := by
      intro vs ms hL
      induction hL with
      | nil => exact fun _ m hm => nomatch hm
      | cons hx _ ih =>
        obtain ⟨b, g1, g2⟩ := hx
        intro hu m hm
        rcases List.mem_cons.mp hm with rfl | hm
        · have := hu _ List.mem_cons_self
          unfold ltK at this
          rw [g1, e1, itK_eq (ks := itL m) g2, itK_eq (ks := itL l) e2, flK_it, flK_it] at this
          exact this
        · exact ih (fun u hu' => hu u (List.mem_cons_of_mem _ hu')) m hm
    exact key t h1.1 m hm
/-- data of links can be compared -/
theorem lk_data (l : Lk) : (lkK l).data = .tuple [.tuple [.int l.1.1, .int l.1.2], .tuple [.int l.2.1, .int l.2.2]] := by simp [lkK, nkK, itL, nkI, NestedKey.data, NestedKey.datas]
theorem lk_ok {ls : List Lk} : ∀ d ∈ ls.map (fun l => (lkK l).data), d.canLay0 = true ∧ d.depth ≤ 60 := fun d hd => by
  obtain ⟨l, _, rfl⟩ := List.mem_map.mp hd
  rw [lk_data]
  constructor
  · simp [PyData.canLay0, PyData.canLayAll0]
  · simp [PyData.depth, PyData.depthAll]
theorem eqv_end {x y : E2} : PyData.eqv (.tuple [.int x.1, .int x.2]) (.tuple [.int y.1, .int y.2]) = decide (x = y) := by
  have e : PyData.eqv (.tuple [.int x.1, .int x.2]) (.tuple [.int y.1, .int y.2]) = ((x.1 == y.1) && ((x.2 == y.2) && true)) := by simp only [PyData.eqv, PyData.eqvAll]
  rw [e, Bool.and_true]
  by_cases h : x = y
  · rw [decide_eq_true h, h]
    simp
  · rw [decide_eq_false h]
    cases q : (x.1 == y.1) && (x.2 == y.2) with
    | false => rfl
    | true =>
      rw [Bool.and_eq_true] at q
      exact absurd (Prod.ext (by simpa using q.1) (by simpa using q.2)) h
theorem eqv_link {x y : Lk} : PyData.eqv (lkK x).data (lkK y).data = decide (x = y) := by
  rw [lk_data, lk_data]
  have e : PyData.eqv (.tuple [.tuple [.int x.1.1, .int x.1.2], .tuple [.int x.2.1, .int x.2.2]]) (.tuple [.tuple [.int y.1.1, .int y.1.2], .tuple [.int y.2.1, .int y.2.2]]) = (PyData.eqv (.tuple [.int x.1.1, .int x.1.2]) (.tuple [.int y.1.1, .int y.1.2]) && (PyData.eqv (.tuple [.int x.2.1, .int x.2.2]) (.tuple [.int y.2.1, .int y.2.2]) && true)) := by simp only [PyData.eqv, PyData.eqvAll]
  rw [e, eqv_end, eqv_end, Bool.and_true]
  by_cases h : x = y
  · rw [decide_eq_true h, h]
    simp
  · rw [decide_eq_false h]
    cases q : decide (x.1 = y.1) && decide (x.2 = y.2) with
    | false => rfl
    | true =>
      rw [Bool.and_eq_true, decide_eq_true_eq, decide_eq_true_eq] at q
      exact absurd (Prod.ext q.1 q.2) h
/-! ### dicts by links -/
abbrev Mp := List (Lk × Int)
/-- the entries at B's tuples are M's -/
abbrev EntM (B : Hp) (es : List Ent) (M : Mp) : Prop := Paired (fun e x => e.1 = lkK x.1 ∧ e.2.2 = V.int x.2 ∧ NK B (lkK x.1) (.ref e.2.1)) es M
def keysM (M : Mp) : List Lk := M.map (·.1)
def valM (M : Mp) (l : Lk) : Option Int := (M.find? fun x => decide (x.1 = l)).map (·.2)
def dropM (M : Mp) (ls : List Lk) : Mp := M.filter fun x => decide (x.1 ∉ ls)
def putM (M : Mp) (l : Lk) (n : Int) : Mp := if (valM M l).isSome then M.map (fun x => if x.1 = l then (x.1, n) else x) else M ++ [(l, n)]
def has (e : E2) (l : Lk) : Bool := decide (l.1 = e) || decide (l.2 = e)
def atM (M : Mp) (e : E2) : List Lk := (srt (keysM M)).filter (has e)
theorem EntM.mono {B B' : Hp} (e : ∀ p xs, B p = some (.tup xs) → B' p = some (.tup xs)) {es : List Ent} {M : Mp} (h : EntM B es M) : EntM B' es M := Paired.mapP h fun _ _ ⟨h1, h2, h3⟩ => ⟨h1, h2, h3.mono e⟩
theorem EntM.same {B B' : Hp} (e : Same B B') {es : List Ent} {M : Mp} (h : EntM B es M) : EntM B' es M := h.mono fun _ _ => e _ _
theorem EntM.ok {B : Hp} {es : List Ent} {M : Mp} (h : EntM B es M) : EntsOk B es := by
  induction h with
  | nil => exact EntsOk.nil
  | cons h _ ih =>
    intro e he
    rcases List.mem_cons.mp he with rfl | he
    · rw [h.1]
      exact ⟨h.2.2, lkK_depth _⟩
    · exact ih e he
theorem EntM.len {B : Hp} {es : List Ent} {M : Mp} (h : EntM B es M) : es.length = M.length := Paired.length h
theorem EntM.at {B : Hp} {es : List Ent} {M : Mp} (h : EntM B es M) (l : Lk) : atN es (lkK l) = (valM M l).map V.int := by
  induction h with
  | nil => rfl
  | @cons e x es xs h _ ih =>
    unfold atN valM at ih ⊢
    rw [List.find?_cons, List.find?_cons, h.1]
    by_cases hc : x.1 = l
    · rw [decide_eq_true hc, decide_eq_true (by rw [hc])]
      show some e.2.2 = some (V.int x.2)
      rw [h.2.1]
    · rw [decide_eq_false hc, decide_eq_false (fun z => hc (lkK_inj z))]
      exact ih
theorem entM_map {B : Hp} {l : Lk} {n : Int} : ∀ {es : List Ent} {M : Mp}, EntM B es M → EntM B (es.map fun e => if e.1 = lkK l then (e.1, e.2.1, V.int n) else e) (M.map fun x => if x.1 = l then (x.1, n) else x)
  | _, _, .nil => .nil
  | e :: es, x :: xs, .cons h t => by
    refine .cons ?_ (entM_map t)
    by_cases hc : x.1 = l
    · have hc2 : e.1 = lkK l := by rw [h.1, hc]
      simp only [if_pos hc2, if_pos hc]
      exact ⟨h.1, trivial, h.2.2⟩
    · have hc2 : ¬ e.1 = lkK l := fun z => hc (lkK_inj (h.1.symm.trans z))
      simp only [if_neg hc2, if_neg hc]
      exact h
theorem paired_app {α β : Type} {R : α → β → Prop} : ∀ {xs us : List α} {ys ws : List β}, Paired R xs ys → Paired R us ws → Paired R (xs ++ us) (ys ++ ws)
  | _, _, _, _, .nil, h => h
  | _, _, _, _, .cons h t, h2 => .cons h (paired_app t h2)
theorem EntM.put {B : Hp} {es : List Ent} {M : Mp} (h : EntM B es M) {l : Lk} {b : Addr} (n : Int) (hk : NK B (lkK l) (.ref b)) : EntM B (putN es (lkK l) b (.int n)) (putM M l n) := by
  unfold putN putM
  rw [h.at l, Option.isSome_map]
  by_cases hc : (valM M l).isSome = true
  · rw [if_pos hc, if_pos hc]
    exact entM_map h
  · rw [if_neg hc, if_neg hc]
    exact paired_app h (.cons ⟨rfl, rfl, hk⟩ .nil)
theorem EntM.drop {B : Hp} {l : Lk} : ∀ {es : List Ent} {M : Mp}, EntM B es M → EntM B (dropN es (lkK l)) (dropM M [l])
  | _, _, .nil => .nil
  | e :: es, x :: xs, .cons h t => by
    unfold dropN dropM
    rw [List.filter_cons, List.filter_cons]
    by_cases hc : x.1 = l
    · have e1 : decide (e.1 ≠ lkK l) = false := decide_eq_false (fun z => z (by rw [h.1, hc]))
      have e2 : decide (x.1 ∉ [l]) = false := decide_eq_false (fun z => z (by rw [hc]; exact List.mem_cons_self))
      rw [e1, e2]
      exact EntM.drop t
    · have e1 : decide (e.1 ≠ lkK l) = true := decide_eq_true (fun z => hc (lkK_inj (h.1.symm.trans z)))
      have e2 : decide (x.1 ∉ [l]) = true := decide_eq_true (fun z => hc (List.mem_singleton.mp z))
      rw [e1, e2]
      exact .cons h (EntM.drop t)
theorem EntM.lkl {B : Hp} : ∀ {es : List Ent} {M : Mp}, EntM B es M → LkL B (es.map fun e => V.ref e.2.1) (keysM M)
  | _, _, .nil => .nil
  | _, _, .cons h t => .cons ⟨_, rfl, h.2.2⟩ (EntM.lkl t)
/-! ### their steps -/
section
variable {w : World} {σ : St} {H B : Hp} {Q : VK} {D : Ends} {td ty tv : TE} {L L' : List (Addr × HO)} {es : List Ent} {M : Mp} {l : Lk} {d b : Addr} {n : Int}
theorem w_nget (q : td σ H fun x H1 => ty σ H1 fun y H2 => rNGet w x y H2 Q) : tNGet w td ty σ H Q := q
theorem w_nin (q : ty σ H fun y H1 => td σ H1 fun x H2 => rNIn w x y H2 fun b => Q (.bl b) H2) : tNIn w ty td σ H Q := q
theorem w_nnot (q : ty σ H fun y H1 => td σ H1 fun x H2 => rNIn w x y H2 fun b => Q (.bl (!b)) H2) : tNNot w ty td σ H Q := q
theorem w_nput (q : tv σ H fun v H1 => td σ H1 fun x H2 => ty σ H2 fun y H3 => rNPut w x y v H3 fun H4 => D.nx σ H4) : sNPut w td ty tv D σ H := q
theorem w_ndel (q : td σ H fun x H1 => ty σ H1 fun y H2 => rNDel w x y H2 fun _ H3 => D.nx σ H3) : sNDel w td ty D σ H := q
theorem w_npop (q : td σ H fun x H1 => (∃ a es, x = .ref a ∧ H1 a = some (DN w a es)) ∧ ty σ H1 fun y H2 => rNDel w x y H2 Q) : tNPop w td ty σ H Q := q
theorem w_nnew (hs : Hs B L H) (q : ∀ p H', Hs B ((p, DN w p []) :: L) H' → Q (.ref p) H') : tNNew w σ H Q := fun p hp => q p _ (hs.new hp)
theorem atN_of (h : H d = some (DN w d es)) (e : EntM H es M) (hk : NK H (lkK l) (.ref b)) : AtN w H (.ref d) (.ref b) d b es (lkK l) := ⟨rfl, rfl, h, e.ok, hk, lkK_depth l⟩
theorem wn_get (hs : Hs B L H) (h : H d = some (DN w d es)) (e : EntM B es M) (hk : NK B (lkK l) (.ref b)) (hv : valM M l = some n) (q : Q (.int n) H) : rNGet w (.ref d) (.ref b) H Q :=
  ⟨d, b, es, lkK l, .int n, atN_of h (e.same hs.same) (hk.same hs.same), by rw [e.at l, hv]; rfl, q⟩
theorem wn_in {R : Bool → Prop} (hs : Hs B L H) (h : H d = some (DN w d es)) (e : EntM B es M) (hk : NK B (lkK l) (.ref b)) (q : R (valM M l).isSome) : rNIn w (.ref d) (.ref b) H R :=
  ⟨d, b, es, lkK l, atN_of h (e.same hs.same) (hk.same hs.same), by rw [e.at l, Option.isSome_map]; exact q⟩
theorem wn_put {R : Hp → Prop} (hs : Hs B L H) (h : Put L d (DN w d es) (DN w d (putN es (lkK l) b (.int n))) L') (e : EntM B es M) (hk : NK B (lkK l) (.ref b)) (hl : M.length ≤ 1000) (q : ∀ H', Hs B L' H' → EntM B (putN es (lkK l) b (.int n)) (putM M l n) → R H') : rNPut w (.ref d) (.ref b) (.int n) H R :=
  ⟨d, b, es, lkK l, atN_of (hs.gets h) (e.same hs.same) (hk.same hs.same), by rw [e.len, sizeLine_eq]; omega, q _ (hs.puts h) (e.put n hk)⟩
theorem wn_del {R : V → Hp → Prop} (hs : Hs B L H) (h : Put L d (DN w d es) (DN w d (dropN es (lkK l))) L') (e : EntM B es M) (hk : NK B (lkK l) (.ref b)) (hv : valM M l = some n) (q : ∀ H', Hs B L' H' → EntM B (dropN es (lkK l)) (dropM M [l]) → R (.int n) H') : rNDel w (.ref d) (.ref b) H R :=
  ⟨d, b, es, lkK l, .int n, atN_of (hs.gets h) (e.same hs.same) (hk.same hs.same), by rw [e.at l, hv]; rfl, q _ (hs.puts h) e.drop⟩
theorem w_sortD (hs : Hs B L H) (h : H d = some (DN w d es)) (e : EntM B es M) (q : ∀ p ys H', LkL B ys (srt (keysM M)) → Hs B ((p, .lst ys) :: L) H' → Q (.ref p) H') : rSortDN w (some 2) [some 2] [.ref d] H Q := by
  have eH := e.same hs.same
  refine ⟨d, es, itK H, rfl, h, fun z hz => ?_, fun ys p h1 h2 hp => ?_⟩
  · have key : ∀ {es : List Ent} {M : Mp}, EntM H es M → ∀ z ∈ es, ∃ l, NK H (lkK l) (.ref z.2.1) := by
      intro es M e
      induction e with
      | nil => exact fun _ hz => nomatch hz
      | cons h _ ih =>
        intro z hz
        rcases List.mem_cons.mp hz with rfl | hz
        · exact ⟨_, h.2.2⟩
        · exact ih z hz
    obtain ⟨l, hl⟩ := key eH z hz
    rw [itK_eq (ks := itL l) hl]
    exact ⟨hl, rfl⟩
  · obtain ⟨ms, p1, p2⟩ := paired_perm h2.perm e.lkl
    have e1 := srt_uniq p1 (srtd_links (LkL.same hs.same p2) h1)
    subst e1
    exact q p ys _ p2 (hs.new hp)
theorem w_ltT {K : PySem.W.Frag} {p q : Addr} {ns ms : List Int} (h1 : H p = some (.tup (ns.map V.int))) (h2 : H q = some (.tup (ms.map V.int))) (k : Q (.bl (lexI ns ms)) H) : rLtT K (.ref p) (.ref q) H Q := ⟨p, q, ns, ms, rfl, rfl, SqT.of h1, SqT.of h2, k⟩
end
def ntQ : HO → Bool
  | .tup _ => false
  | _ => true
/-- what stands aside of our own objects, none a tuple, is the ground: all tuples stand there -/
theorem Hs.ground {B H : Hp} {L : List (Addr × HO)} (hs : Hs B L H) (nt : L.all (fun e => ntQ e.2) = true) : ∃ B1, Same B B1 ∧ Hs B1 L H ∧ ∀ p xs, H p = some (.tup xs) → B1 p = some (.tup xs) := by
  obtain ⟨h1, h2⟩ := hs.rebase
  refine ⟨_, h1, h2, fun p xs e => ?_⟩
  rw [around_out fun m => ?_]
  · exact e
  · obtain ⟨z, hz, rfl⟩ := List.mem_map.mp m
    have h3 := List.all_eq_true.mp nt z hz
    rw [hs.at_ z hz] at e
    rw [Option.some.inj e] at h3
    cases h3
theorem r64 {k : Nat} {A : Around} (r : Room k A) : A.units + 64 < cLine := by
  have := r.un
  omega
theorem r65 {k : Nat} {A : Around} (r : Room k A) : A.units + 65 < cLine := by
  have := r.un
  omega
theorem r0 {k : Nat} {A : Around} (r : Room k A) : A.units < cLine := by
  have := r.un
  omega
abbrev endO (x : E2) : HO := .tup [.int x.1, .int x.2]
theorem shp_end (x : E2) : SeqAt.shaped (.tuple [.int x.1, .int x.2]) = true := by simp [SeqAt.shaped, PyData.canLay0, PyData.canLayAll0, PyData.depth, PyData.depthAll]
theorem dp_end {K : PySem.W.Frag} {H : Hp} {p : Addr} {x : E2} (h : H p = some (endO x)) : Dp K H (.ref p) (.tuple [.int x.1, .int x.2]) := .tup (SqT.of h) (ImAll.cons (.int _) (.cons (.int _) .nil)).dp
theorem w_eqE {K : PySem.W.Frag} {H : Hp} {Q : VK} {p q : Addr} {x y : E2} (h1 : H p = some (endO x)) (h2 : H q = some (endO y)) (k : Q (.bl (decide (x = y))) H) : rEqD K (.ref p) (.ref q) H Q :=
  w_eqD (dp_end h1) (dp_end h2) (shp_end x) (shp_end y) (by rw [eqv_end]; exact k)
/-! ### what holds of the links -/
structure IM (M : Mp) : Prop where
  nd : (keysM M).Nodup
  ok : ∀ l ∈ keysM M, l.1.1 ≠ l.2.1 ∧ lexI [l.1.1, l.1.2] [l.2.1, l.2.2] = true
  dj : ∀ x ∈ keysM M, ∀ y ∈ keysM M, ∀ e : E2, has e x = true → has e y = true → x = y
theorem keys_drop {M : Mp} {ls : List Lk} : keysM (dropM M ls) = (keysM M).filter fun l => decide (l ∉ ls) := by
  unfold keysM dropM
  rw [List.filter_map]
  rfl
theorem mem_keys_drop {M : Mp} {ls : List Lk} {l : Lk} : l ∈ keysM (dropM M ls) ↔ l ∈ keysM M ∧ l ∉ ls := by
  rw [keys_drop, List.mem_filter, decide_eq_true_eq]
theorem IM.nil : IM [] := ⟨List.nodup_nil, (fun _ h => nomatch h), (fun _ h => nomatch h)⟩
theorem IM.drop {M : Mp} (h : IM M) (ls : List Lk) : IM (dropM M ls) := by
  refine ⟨?_, fun l hl => h.ok l (mem_keys_drop.mp hl).1, fun x hx y hy => h.dj x (mem_keys_drop.mp hx).1 y (mem_keys_drop.mp hy).1⟩
  rw [keys_drop]
  exact h.nd.filter _
theorem val_some {M : Mp} {l : Lk} : (valM M l).isSome = true ↔ l ∈ keysM M := by
  unfold valM
  rw [Option.isSome_map, List.find?_isSome]
  constructor
  · rintro ⟨x, hx, e⟩
    exact List.mem_map.mpr ⟨x, hx, of_decide_eq_true e⟩
  · intro h
    obtain ⟨x, hx, e⟩ := List.mem_map.mp h
    exact ⟨x, hx, decide_eq_true e⟩
theorem val_of {M : Mp} {l : Lk} (h : l ∈ keysM M) : ∃ n, valM M l = some n := Option.isSome_iff_exists.mp (val_some.mpr h)
theorem mem_at {M : Mp} {e : E2} {l : Lk} : l ∈ atM M e ↔ l ∈ keysM M ∧ has e l = true := by
  unfold atM
  rw [List.mem_filter, mem_srt]
theorem at_nodup {M : Mp} (h : IM M) (e : E2) : (atM M e).Nodup := ((srt_perm _).nodup_iff.mpr h.nd).filter _
theorem at_one {M : Mp} (h : IM M) (e : E2) : atM M e = [] ∨ ∃ l, atM M e = [l] := by
  have nd := at_nodup h e
  match hm : atM M e with
  | [] => exact .inl rfl
  | [l] => exact .inr ⟨l, rfl⟩
  | x :: y :: r =>
    have hx : x ∈ atM M e := by rw [hm]; exact List.mem_cons_self
    have hy : y ∈ atM M e := by rw [hm]; exact List.mem_cons_of_mem _ List.mem_cons_self
    obtain ⟨x1, x2⟩ := mem_at.mp hx
    obtain ⟨y1, y2⟩ := mem_at.mp hy
    have := h.dj x x1 y y1 e x2 y2
    subst this
    rw [hm] at nd
    exact absurd List.mem_cons_self (List.nodup_cons.mp nd).1
theorem find_at {M : Mp} (e : E2) : (srt (keysM M)).find? (has e) = (atM M e).head? := by
  unfold atM
  rw [List.head?_filter]
theorem at_drop {M : Mp} {ls : List Lk} {e : E2} : atM (dropM M ls) e = (atM M e).filter fun l => decide (l ∉ ls) := by
  unfold atM
  rw [keys_drop, ← srt_filter, List.filter_filter, List.filter_filter]
  congr 1
  funext l
  exact Bool.and_comm _ _
theorem drop_drop {M : Mp} {a b : List Lk} : dropM (dropM M a) b = dropM M (a ++ b) := by
  unfold dropM
  rw [List.filter_filter]
  congr 1
  funext x
  by_cases h1 : x.1 ∈ a <;> by_cases h2 : x.1 ∈ b <;> simp [h1, h2]
theorem drop_nil {M : Mp} : dropM M [] = M := by
  unfold dropM
  rw [List.filter_eq_self]
  exact fun _ _ => decide_eq_true (fun z => nomatch z)
theorem drop_len {M : Mp} {ls : List Lk} : (dropM M ls).length ≤ M.length := List.length_filter_le _ _
/-- the law's list is the program's -/
theorem at_two {M : Mp} {one other : E2} : (atM M one ++ (atM M other).filter fun l => decide (l ∉ atM M one)) = atM M one ++ atM (dropM M (atM M one)) other := by rw [at_drop]
/-- the link of two ends -/
def mkL (x y : E2) : Lk := if lexI [x.1, x.2] [y.1, y.2] = true then (x, y) else (y, x)
theorem lexI_ne {x y : E2} (h : x.1 ≠ y.1) : lexI [x.1, x.2] [y.1, y.2] = decide (x.1 < y.1) := by rw [lexI_cons, if_neg h]
theorem mkL_ok {x y : E2} (h : x.1 ≠ y.1) : (mkL x y).1.1 ≠ (mkL x y).2.1 ∧ lexI [(mkL x y).1.1, (mkL x y).1.2] [(mkL x y).2.1, (mkL x y).2.2] = true := by
  unfold mkL
  by_cases hc : lexI [x.1, x.2] [y.1, y.2] = true
  · rw [if_pos hc]
    exact ⟨h, hc⟩
  · rw [if_neg hc]
    refine ⟨fun z => h z.symm, ?_⟩
    rw [lexI_ne h] at hc
    show lexI [y.1, y.2] [x.1, x.2] = true
    rw [lexI_ne (fun z => h z.symm)]
    have : ¬ x.1 < y.1 := fun z => hc (decide_eq_true z)
    exact decide_eq_true (by omega)
theorem mkL_comm {x y : E2} (h : x.1 ≠ y.1) : mkL x y = mkL y x := by
  unfold mkL
  rw [lexI_ne h, lexI_ne (fun z => h z.symm)]
  by_cases hc : x.1 < y.1
  · rw [if_pos (decide_eq_true hc), if_neg (by rw [decide_eq_true_eq]; omega)]
  · rw [if_neg (by rw [decide_eq_true_eq]; exact hc), if_pos (decide_eq_true (by omega))]
theorem mkL_of {l : Lk} (h : l.1.1 ≠ l.2.1 ∧ lexI [l.1.1, l.1.2] [l.2.1, l.2.2] = true) : mkL l.1 l.2 = l := by
  unfold mkL
  rw [if_pos h.2]
theorem has_mkL {x y e : E2} : has e (mkL x y) = true ↔ e = x ∨ e = y := by
  unfold has mkL
  split
  · rw [Bool.or_eq_true, decide_eq_true_eq, decide_eq_true_eq]
    exact ⟨fun z => z.elim (fun q => .inl q.symm) (fun q => .inr q.symm), fun z => z.elim (fun q => .inl q.symm) (fun q => .inr q.symm)⟩
  · rw [Bool.or_eq_true, decide_eq_true_eq, decide_eq_true_eq]
    exact ⟨fun z => z.elim (fun q => .inr q.symm) (fun q => .inl q.symm), fun z => z.elim (fun q => .inr q.symm) (fun q => .inl q.symm)⟩
theorem keys_put {M : Mp} {l : Lk} {n : Int} : keysM (putM M l n) = if l ∈ keysM M then keysM M else keysM M ++ [l] := by
  unfold putM
  by_cases hc : l ∈ keysM M
  · rw [if_pos (val_some.mpr hc), if_pos hc]
    unfold keysM
    rw [List.map_map]
    refine List.map_congr_left fun x _ => ?_
    show (if x.1 = l then (x.1, n) else x).1 = x.1
    split <;> rfl
  · rw [if_neg (fun z => hc (val_some.mp z)), if_neg hc]
    unfold keysM
    rw [List.map_append]
    rfl
theorem IM.put_old {M : Mp} (h : IM M) {l : Lk} (n : Int) (hl : l ∈ keysM M) : IM (putM M l n) := by
  have e : keysM (putM M l n) = keysM M := by rw [keys_put, if_pos hl]
  exact ⟨by rw [e]; exact h.nd, by rw [e]; exact h.ok, by rw [e]; exact h.dj⟩
/-- a link that is seen, whose ends' links are lost -/
theorem IM.put_new {M : Mp} (h : IM M) {x y : E2} (n : Int) (hxy : x.1 ≠ y.1) (hx : ∀ l ∈ keysM M, has x l = false) (hy : ∀ l ∈ keysM M, has y l = false) : IM (putM M (mkL x y) n) ∧ mkL x y ∉ keysM M := by
  have hn : mkL x y ∉ keysM M := fun z => by
    have h1 : has x (mkL x y) = true := has_mkL.mpr (.inl rfl)
    rw [hx _ z] at h1
    cases h1
  have e : keysM (putM M (mkL x y) n) = keysM M ++ [mkL x y] := by rw [keys_put, if_neg hn]
  have no : ∀ e : E2, has e (mkL x y) = true → ∀ l ∈ keysM M, has e l = false := fun e he l hl => by
    rcases has_mkL.mp he with rfl | rfl
    · exact hx l hl
    · exact hy l hl
  refine ⟨⟨?_, fun l hl => ?_, fun u hu v hv e2 h1 h2 => ?_⟩, hn⟩
  · rw [e, List.nodup_append]
    refine ⟨h.nd, List.pairwise_singleton _ _, fun a ha b hb z => ?_⟩
    rw [List.mem_singleton.mp hb] at z
    subst z
    exact hn ha
  · rw [e] at hl
    rcases List.mem_append.mp hl with m | m
    · exact h.ok l m
    · rw [List.mem_singleton.mp m]
      exact mkL_ok hxy
  · rw [e] at hu hv
    rcases List.mem_append.mp hu with m | m <;> rcases List.mem_append.mp hv with m' | m'
    · exact h.dj u m v m' e2 h1 h2
    · rw [List.mem_singleton.mp m'] at h2 ⊢
      rw [no e2 h2 u m] at h1
      cases h1
    · rw [List.mem_singleton.mp m] at h1 ⊢
      rw [no e2 h1 v m'] at h2
      cases h2
    · rw [List.mem_singleton.mp m, List.mem_singleton.mp m']
theorem at_none {M : Mp} {ls : List Lk} {e : E2} (h : ∀ l ∈ atM M e, l ∈ ls) : ∀ l ∈ keysM (dropM M ls), has e l = false := fun l hl => by
  obtain ⟨h1, h2⟩ := mem_keys_drop.mp hl
  cases q : has e l with
  | false => rfl
  | true => exact absurd (h l (mem_at.mpr ⟨h1, q⟩)) h2
theorem put_len {M : Mp} {l : Lk} {n : Int} : (putM M l n).length ≤ M.length + 1 := by
  unfold putM
  split
  · rw [List.length_map]
    omega
  · rw [List.length_append]
    exact Nat.le_refl _
theorem srt_len {ls : List Lk} : (srt ls).length = ls.length := (srt_perm ls).length_eq
theorem keys_len {M : Mp} : (keysM M).length = M.length := List.length_map _
theorem at_len {M : Mp} {e : E2} : (atM M e).length ≤ M.length := by
  unfold atM
  refine Nat.le_trans (List.length_filter_le _ _) ?_
  rw [srt_len, keys_len]
  exact Nat.le_refl _
/-! ### lists of links, by a test -/
theorem take_filter {α : Type} {ls : List α} {i : Nat} {l : α} {p : α → Bool} (e : ls[i]? = some l) : (ls.take (i + 1)).filter p = (ls.take i).filter p ++ (if p l = true then [l] else []) := by
  rw [List.take_add_one, e, List.filter_append]
  congr 1
  show [l].filter p = _
  rw [List.filter_cons]
  split <;> rfl
theorem w_lcF {K : PySem.W.Frag} {σ : St} {H B : Hp} {Q : VK} {tl : TE} {a : Addr} {tt : TT} {us : List V} {ls : List Lk} {i : Nat} (p : Lk → Bool) (hx : SqL K H a us) (hL : LkL B us ls) (hz : us.length ≤ 1000) (htl : ∀ Q : VK, Q (.ref a) H → tl σ H Q)
    (hw : ∀ x, wipe ((wipe σ [i]).set i (some x)) [i] = wipe σ [i]) (hv : ∀ x, ((wipe σ [i]).set i (some x))[i]? = some (some x))
    (ht : ∀ t l H1, l ∈ ls → NK B (lkK l) (.ref t) → Same H H1 → ∀ R : Bool → Hp → Prop, (∀ H2, Same H1 H2 → R (p l) H2) → tt ((wipe σ [i]).set i (some (.ref t))) H1 R)
    (hq : ∀ D acc H', Hs H [(D, .lst acc)] H' → LkL B acc (ls.filter p) → Q (.ref D) H') : tLc (iList K tl) (gName i) tt (tVar i) [i] σ H Q := by
  refine w_lc hx (fun D j H' => ∃ acc, Hs H [(D, .lst acc)] H' ∧ LkL B acc ((ls.take j).filter p)) htl (fun D hD => ⟨[], (Hs.start H).new hD, .nil⟩) (fun D j H' _ ⟨_, h, _⟩ => h.same.seq hx) ?_ ?_
  · rintro D j x H' hj ⟨acc, h1, h2⟩
    obtain ⟨t, l, rfl, hl, hk⟩ := LkL.get hL hj
    refine ⟨hw _, ht t l H' (List.mem_of_getElem? hl) hk h1.same _ fun H2 sb => ?_⟩
    have hlen := LkL.len h2
    have hj2 := (List.getElem?_eq_some_iff.mp hl).1
    have hll := LkL.len hL
    have h3 : Hs H [(D, .lst acc)] H2 := ⟨h1.same.trans sb, h1.nd, h1.out, fun e he => sb _ _ (h1.at_ e he)⟩
    have e1 := take_filter (p := p) hl
    by_cases hp : p l = true
    · rw [if_pos hp]
      rw [if_pos hp] at e1
      refine ⟨_, hv _, acc, h3.g0, ?_, acc ++ [.ref t], h3.p0 _, ?_⟩
      · refine szl ?_
        have := List.length_filter_le p (ls.take j)
        rw [List.length_take] at this
        omega
      · rw [e1]
        exact h2.snoc hk
    · rw [if_neg hp]
      rw [if_neg hp, List.append_nil] at e1
      refine ⟨acc, h3, ?_⟩
      rw [e1]
      exact h2
  · rintro D H' ⟨acc, h1, h2⟩
    rw [LkL.len hL, List.take_length] at h2
    exact hq D acc H' h1 h2
/-- what is walked first, then the walk -/
theorem w_lcS {K : PySem.W.Frag} {σ : St} {H : Hp} {Q : VK} {tl : TE} {g : TG} {tt : TT} {te : TE} {vs : List Nat} (q : tl σ H fun v H1 => tLc (iList K (tC v)) g tt te vs σ H1 Q) : tLc (iList K tl) g tt te vs σ H Q := q
theorem w_forS {K : PySem.W.Frag} {σ : St} {H : Hp} {D : Ends} {tl : TE} {g : TG} {tb : TS} (q : tl σ H fun v H1 => tFor (iList K (tC v)) g tb D σ H1) : tFor (iList K tl) g tb D σ H := q
theorem w_isL {K : PySem.W.Frag} {H : Hp} {Q : VK} {p : Addr} {xs : List V} (h : H p = some (.lst xs)) (k : Q (.bl true) H) : rIsi K [.ref p, .ty "list"] H Q :=
  ⟨_, _, _, _, true, rfl, .ty "list", .base (.lst h), kit_ty (by decide +kernel), k⟩
end Hb

set_option Elab.async false
set_option linter.all false
set_option maxRecDepth 100000
set_option maxHeartbeats 4000000
/-! Sets whose elements are tuples of a kind of keys (nested tuples: KE's nestedKind), kept in the model's own table. -/
namespace Hb
open PySem L2 PyProof.Rows

section
variable {P : Program} {w : World} {κ : Type} [DecidableEq κ]
/-- what the model asks of an element besides its hash and its == -/
structure Els (knd : HeapKind P w κ) : Prop where
  ofA : ∀ {A : Around} {E : Value → Shared → Prop} {s : Shared} {k : κ} {b : Addr} {Q : Bool → Shared → Prop}, knd.is s.heap k b → Q false s → wpAny (model P w) A (ofAClassStatement 8 (.ref b)) Q E s
  byV : ∀ {A : Around} {E : Value → Shared → Prop} {s : Shared} {k : κ} {b : Addr} {Q : Bool → Shared → Prop}, knd.is s.heap k b → Q true s → wpAny (model P w) A (hashByValue 8 (.ref b)) Q E s
  stay : ∀ {h h' : Heap} {k : κ} {b d : Addr} {o : Obj} {es : Array (Int × Value)} {ep : Nat} {t : SetTable}, knd.is h k b → h.get? d = some o → o.data = .set es ep t → Heap.SameBut d h h' → knd.is h' k b
  grow : ∀ {h h' : Heap} {k : κ} {b : Addr}, knd.is h k b → (∀ c o, h.get? c = some o → h'.get? c = some o) → knd.is h' k b
end

/-! ### nested tuples are such elements -/
section
variable {P : Program} {w : World}
def NoCls (P : Program) (w : World) (n : Nat) (s : Shared) (v : Value) : Prop := ∀ (A : Around) (E : Value → Shared → Prop) (Q : Bool → Shared → Prop), Q false s → wpAny (model P w) A (ofAClassStatement n v) Q E s
def ByVal (P : Program) (w : World) (n : Nat) (s : Shared) (v : Value) : Prop := ∀ (A : Around) (E : Value → Shared → Prop) (Q : Bool → Shared → Prop), Q true s → wpAny (model P w) A (hashByValue n v) Q E s
theorem NoCls.pure {n : Nat} {s : Shared} {v : Value} (h : ofAClassStatement n v = Pure.pure false) : NoCls P w n s v := fun A E Q q => by
  rw [h]
  exact wpAny_pure q
theorem ByVal.pure {n : Nat} {s : Shared} {v : Value} (h : hashByValue n v = Pure.pure true) : ByVal P w n s v := fun A E Q q => by
  rw [h]
  exact wpAny_pure q
theorem NoCls.tup {n m : Nat} {s : Shared} {a : Addr} {o : Obj} {vs : Array Value} (ho : s.heap.get? a = some o) (hc : o.cls = .type "tuple") (hd : o.data = .seq vs m) (hv : ∀ v ∈ vs.toList, NoCls P w n s v) : NoCls P w (n + 1) s (.ref a) := fun A E Q q => by
  have hT : s.TypeIs (.ref a) "tuple" := ⟨o, ho, hc⟩
  unfold ofAClassStatement
  refine wpAny_bind (wpAny_typeOf hT ?_)
  dsimp only
  have e : (("tuple" : String) == "tuple") = true := by decide
  simp only [e, if_true, Bool.not_true, Bool.false_eq_true, if_false]
  try refine wpAny_bind (wpAny_pure ?_)
  try simp only [Bool.not_true, Bool.false_eq_true, if_false]
  show wpAny _ _ (seqItems? (.ref a) >>= _) _ _ s
  refine wpAny_bind (wpAny_seqItems ho hd ?_)
  dsimp only
  refine wpAny_bind ?_
  show wpAny _ _ (forIn vs _ _) _ _ s
  rw [← Array.forIn_toList]
  refine wpAny_forIn_list _ (fun rest r s' => r.1 = none ∧ s' = s ∧ ∀ v ∈ rest, NoCls P w n s v) _ ?_ ?_ _ _ ⟨rfl, rfl, hv⟩
  · rintro v rest r s' ⟨_, rfl, all⟩
    refine wpAny_bind (all v List.mem_cons_self _ _ _ ?_)
    simp only [Bool.false_eq_true, if_false]
    exact wpAny_pure ⟨rfl, rfl, fun u hu => all u (List.mem_cons_of_mem _ hu)⟩
  · rintro ⟨r1, r2⟩ s' ⟨hr, rfl, _⟩
    simp only at hr
    subst hr
    exact wpAny_pure q
theorem ByVal.tup {n m : Nat} {s : Shared} {a : Addr} {o : Obj} {vs : Array Value} (ho : s.heap.get? a = some o) (hc : o.cls = .type "tuple") (hd : o.data = .seq vs m) (hv : ∀ v ∈ vs.toList, ByVal P w n s v) : ByVal P w (n + 1) s (.ref a) := fun A E Q q => by
  have hT : s.TypeIs (.ref a) "tuple" := ⟨o, ho, hc⟩
  unfold hashByValue
  refine wpAny_bind (wpAny_specialOf hT F.slot_tuple_hash.lookup ?_)
  show wpAny _ _ (seqItems? (.ref a) >>= _) _ _ s
  refine wpAny_bind (wpAny_seqItems ho hd ?_)
  refine wpAny_bind ?_
  show wpAny _ _ (forIn vs _ _) _ _ s
  rw [← Array.forIn_toList]
  refine wpAny_forIn_list _ (fun rest r s' => r.1 = none ∧ s' = s ∧ ∀ v ∈ rest, ByVal P w n s v) _ ?_ ?_ _ _ ⟨rfl, rfl, hv⟩
  · rintro v rest r s' ⟨_, rfl, all⟩
    refine wpAny_bind (all v List.mem_cons_self _ _ _ ?_)
    simp only [Bool.not_true, Bool.false_eq_true, if_false]
    exact wpAny_pure ⟨rfl, rfl, fun u hu => all u (List.mem_cons_of_mem _ hu)⟩
  · rintro ⟨r1, r2⟩ s' ⟨hr, rfl, _⟩
    simp only at hr
    subst hr
    exact wpAny_pure q
theorem scal_ofA {v : Value} (h : v.onHeap = false) (n : Nat) (hv : v = .none ∨ (∃ b, v = .bool b) ∨ (∃ i t, v = .int i t) ∨ ∃ x t, v = .str x t) : ofAClassStatement n v = Pure.pure false := by
  rcases hv with rfl | ⟨b, rfl⟩ | ⟨i, t, rfl⟩ | ⟨x, t, rfl⟩ <;> cases n <;> rfl
theorem scal_byV {v : Value} (n : Nat) (hv : v = .none ∨ (∃ b, v = .bool b) ∨ (∃ i t, v = .int i t)) : hashByValue n v = Pure.pure true := by
  rcases hv with rfl | ⟨b, rfl⟩ | ⟨i, t, rfl⟩ <;> cases n <;> rfl
mutual
/-- no text is in it: its hash hangs on its value alone -/
def noTx : NestedKey → Bool
  | .none => true
  | .num _ => true
  | .text _ => false
  | .tup ks => noTxs ks
def noTxs : List NestedKey → Bool
  | [] => true
  | k :: ks => noTx k && noTxs ks
end
mutual
theorem nested_els : ∀ (k : NestedKey) (v : Value) (n : Nat) (s : Shared), NestedIs s.heap k v → k.depth ≤ n → noTx k = true → NoCls P w n s v ∧ ByVal P w n s v
  | .none, _, n, s, x, _, _ => by
    cases x
    exact ⟨.pure (scal_ofA rfl n (.inl rfl)), .pure (scal_byV n (.inl rfl))⟩
  | .num i, _, n, s, x, _, _ => by
    cases x with
    | bool e => exact ⟨.pure (scal_ofA rfl n (.inr (.inl ⟨_, rfl⟩))), .pure (scal_byV n (.inr (.inl ⟨_, rfl⟩)))⟩
    | int _ t => exact ⟨.pure (scal_ofA rfl n (.inr (.inr (.inl ⟨_, _, rfl⟩)))), .pure (scal_byV n (.inr (.inr ⟨_, _, rfl⟩)))⟩
  | .text y, _, n, s, x, _, h => by
    simp only [noTx, Bool.false_eq_true] at h
  | .tup ks, _, n, s, x, hn, h => by
    cases x with
    | tup hg hc hd hk =>
      simp only [NestedKey.depth] at hn
      simp only [noTx] at h
      cases n with
      | zero => omega
      | succ n =>
        have all := nested_elss ks _ n s hk (by omega) h
        exact ⟨.tup hg hc hd fun v hv => (all v hv).1, .tup hg hc hd fun v hv => (all v hv).2⟩
theorem nested_elss : ∀ (ks : List NestedKey) (vs : List Value) (n : Nat) (s : Shared), NestedAll s.heap ks vs → NestedKey.depthAll ks ≤ n → noTxs ks = true → ∀ v ∈ vs, NoCls P w n s v ∧ ByVal P w n s v
  | [], _, n, s, x, _, _, v, hv => by cases x; cases hv
  | k :: ks, _, n, s, x, hn, h, v, hv => by
    cases x with
    | cons x1 x2 =>
      simp only [NestedKey.depthAll] at hn
      simp only [noTxs, Bool.and_eq_true] at h
      rcases List.mem_cons.mp hv with e | hv
      · rw [e]
        exact nested_els k _ n s x1 (by omega) h.1
      · exact nested_elss ks _ n s x2 (by omega) h.2 v hv
end
/-- the kind of nested tuples without texts -/
def numKind (P : Program) (w : World) : HeapKind P w NestedKey where
  is := fun h k a => (nestedKind P w).is h k a ∧ noTx k = true
  hash := (nestedKind P w).hash
  draws := (nestedKind P w).draws
  room := (nestedKind P w).room
  inj := fun x y => (nestedKind P w).inj x.1 y.1
  keeps := fun x ho hd hs => ⟨(nestedKind P w).keeps x.1 ho hd hs, x.2⟩
  pyHash := fun hr x h => (nestedKind P w).pyHash hr x.1 h
  eqBool := fun hr x y h => (nestedKind P w).eqBool hr x.1 y.1 h
  quiet := fun x h => (nestedKind P w).quiet x.1 h
theorem els_num : Els (numKind P w) where
  ofA := fun {A E s k b Q} h q => (nested_els k _ 8 s h.1.1 h.1.2 h.2).1 A E Q q
  byV := fun {A E s k b Q} h q => (nested_els k _ 8 s h.1.1 h.1.2 h.2).2 A E Q q
  stay := fun {h h' k b d o es ep t} x ho hd hs => ⟨⟨NestedIs.at (fun c oc vs n hc hdc => by
    refine (hs.2 c fun e => ?_).trans hc
    subst e
    rw [ho] at hc
    cases hc
    rw [hd] at hdc
    cases hdc) k _ x.1.1, x.1.2⟩, x.2⟩
  grow := fun x k => ⟨⟨NestedIs.at (fun c o _ _ hc _ => k c o hc) _ _ x.1.1, x.1.2⟩, x.2⟩
end

/-! ### the table -/
section
variable {P : Program} {w : World} {κ : Type} [DecidableEq κ] {knd : HeapKind P w κ} {A : Around} {E : Value → Shared → Prop} {s : Shared}
/-- the elements as the table's rows -/
def rowsK (knd : HeapKind P w κ) (L : List (κ × Addr)) : List (Int × Value) := L.map fun p => (knd.hash p.1, Value.ref p.2)
/-- the set at a, of the elements L (in the table's order) -/
structure SetK (knd : HeapKind P w κ) (h : Heap) (a : Addr) (L : List (κ × Addr)) (es : Array (Int × Value)) (ep : Nat) (t : SetTable) : Prop where
  ob : ∃ o, h.get? a = some o ∧ o.ExactSet ∧ o.data = .set es ep t
  rows : es.toList = rowsK knd L
  tab : TabOk t (L.map fun p => knd.hash p.1)
  nd : (L.map (·.1)).Nodup
  els : ∀ p ∈ L, knd.is h p.1 p.2
  pl : t.plain = true
  led : w.params.followText "set-order" = true ∨ t.led = true
  room : L.length * 5 < t.mask * 3
  few : L.length < 64
variable {a : Addr} {L : List (κ × Addr)} {es : Array (Int × Value)} {ep : Nat} {t : SetTable}
theorem rowsK_size (e : es.toList = rowsK knd L) : es.size = L.length := by
  rw [← Array.length_toList, e]
  exact List.length_map _
theorem rowsK_at (e : es.toList = rowsK knd L) (i : Nat) : es[i]? = (L[i]?).map fun p => (knd.hash p.1, Value.ref p.2) := by
  rw [← Array.getElem?_toList, e]
  exact List.getElem?_map ..
theorem fitsK (T : TabOk t (L.map fun p => knd.hash p.1)) (e : es.toList = rowsK knd L) (hm : L.length ≤ t.mask) : t.fits es.size = true := by
  have h1 : t.place.size = L.length := by
    rw [T.sz]
    exact List.length_map _
  unfold SetTable.fits SetTable.fill
  rw [T.dm, rowsK_size e, Bool.and_eq_true, beq_iff_eq, decide_eq_true_eq]
  exact ⟨h1, by show t.place.size + 0 ≤ t.mask; omega⟩
theorem SetK.fits (R : SetK knd s.heap a L es ep t) : t.fits es.size = true := fitsK R.tab R.rows (by have := R.room; omega)
/-- a search shows nothing of the elements -/
theorem unseenK (el : Els knd) {k : κ} {b : Addr} {Q : Bool → Shared → Prop} (hk : knd.is s.heap k b) {ys : List Value} (hy : ∀ y ∈ ys, ∃ j c, y = Value.ref c ∧ knd.is s.heap j c) (h : Q false s) : wpAny (model P w) A (searchCouldBeSeen (.ref b) ys) Q E s := by
  unfold searchCouldBeSeen
  refine wpAny_bind ?_
  refine wpAny_forIn_list _ (fun rest r s' => r.1 = none ∧ s' = s ∧ ∀ y ∈ rest, y ∈ ys) _ ?_ ?_ _ _ ⟨rfl, rfl, fun _ z => z⟩
  · rintro v rest r s' ⟨_, rfl, sub⟩
    obtain ⟨j, c, rfl, hc⟩ := hy v (sub v List.mem_cons_self)
    have more : ∀ y ∈ rest, y ∈ ys := fun u hu => sub u (List.mem_cons_of_mem _ hu)
    dsimp only
    by_cases hv : (b == c || (carriedByValue (.ref b) && carriedByValue (.ref c))) = true
    · exact wp_if_pos hv (wpAny_pure ⟨rfl, rfl, more⟩)
    · refine wp_if_neg hv (wpAny_bind (knd.quiet hk ?_))
      simp only [Bool.not_true, Bool.false_eq_true, if_false]
      refine wpAny_bind (knd.quiet hc ?_)
      simp only [Bool.not_true, Bool.false_eq_true, if_false]
      refine wpAny_bind (el.ofA hk ?_)
      simp only [Bool.false_eq_true, if_false]
      refine wpAny_bind (el.ofA hc ?_)
      simp only [Bool.false_eq_true, if_false]
      exact wpAny_pure ⟨rfl, rfl, more⟩
  · rintro ⟨r1, r2⟩ s' ⟨hr, rfl, _⟩
    simp only at hr
    subst hr
    exact wpAny_pure h

/-- where a search for the hash h stands behind c steps -/
abbrev stepK (t : SetTable) (h : Int) (c : Nat) : SetTable.Probe := nth t.mask (runAt t.mask (SetTable.bits h % (t.mask + 1)) (SetTable.bits h)) c
theorem stepK_add (t : SetTable) (h : Int) (c q : Nat) : nth t.mask (stepK t h c) q = stepK t h (c + q) := (nth_add t.mask c _ q).symm
theorem stepK_j (t : SetTable) (h : Int) (c q : Nat) : (nth t.mask (stepK t h c) q).j = way t.mask h (c + q) := congrArg SetTable.Probe.j (stepK_add t h c q)
theorem dummy_nth (m : Nat) : ∀ (n : Nat) (p : SetTable.Probe), p.dummy = none → (nth m p n).dummy = none
  | 0, _, h => h
  | n + 1, p, h => dummy_nth m n (adv m p) (by
    unfold adv
    split <;> exact h)
/-- THE SEARCH: with n steps to go to the first free slot -/
theorem seekK (el : Els knd) (R : SetK knd s.heap a L es ep t) {x : Addr} {k : κ} (hx : knd.is s.heap k x) (hr : knd.room A) {N : Nat} (hN : N < 10 * SetTable.turns t.mask) (hfree : way t.mask (knd.hash k) N ∉ t.place.toList)
    (htak : ∀ c, c < N → way t.mask (knd.hash k) c ∈ t.place.toList) {Q : SetFound → Shared → Prop} (qin : k ∈ L.map (·.1) → Q (.there none) s) (qout : k ∉ L.map (·.1) → Q (.free (way t.mask (knd.hash k) N) false) s) (n : Nat) :
    ∀ (c f : Nat) (stand : Option SetTable.Probe), c + n = N → n < f → stand.getD (t.probeStart (knd.hash k)) = stepK t (knd.hash k) c →
      (∀ (i : Nat) (p : κ × Addr), L[i]? = some p → p.1 = k → ∃ q, q < n ∧ t.place.toList[i]? = some (way t.mask (knd.hash k) (c + q))) →
      wpAny (model P w) A (setSearchFrom a (.ref x) (knd.hash k) true f stand) Q E s := by
  induction n using Nat.strongRecOn with
  | ind n ih =>
    intro c f stand hc hf hst hre
    obtain ⟨f, rfl⟩ : ∃ g, f = g + 1 := ⟨f - 1, by omega⟩
    obtain ⟨o, ho, hex, hd⟩ := R.ob
    rw [setSearchFrom_succ]
    refine wpAny_bind (wpAny_setState_of ho hd R.fits ?_)
    dsimp only
    refine wp_if_neg (by unfold SetTable.gaveWay; rw [mask_odd R.tab.mok]; decide) ?_
    try refine wpAny_bind (wpAny_pure ?_)
    have hAt : ∀ (i : Nat) (p : κ × Addr), L[i]? = some p → (fun i => (es[i]?.map (·.1)).getD 0) i = knd.hash p.1 := fun i p hp => by
      show (es[i]?.map (·.1)).getD 0 = _
      rw [rowsK_at R.rows, hp]
      rfl
    have spec := go_spec t R.tab.ris R.tab.dm (fun i => (es[i]?.map (·.1)).getD 0) (knd.hash k) (10 * SetTable.turns t.mask) n (stepK t (knd.hash k) c) (dummy_nth _ _ _ rfl) (by omega)
      (fun q hq => by rw [stepK_j]; exact htak _ (by omega)) (by rw [stepK_j, hc]; exact hfree)
    have pr : t.probe (fun i => (es[i]?.map (·.1)).getD 0) (knd.hash k) (stand.getD (t.probeStart (knd.hash k))) = SetTable.probe.go t (fun i => (es[i]?.map (·.1)).getD 0) (knd.hash k) (10 * SetTable.turns t.mask) (stepK t (knd.hash k) c) := by
      rw [hst]
      rfl
    rw [pr]
    rcases spec with ⟨q, i, hq, hi, _, hno, e⟩ | ⟨hno, e⟩
    · rw [e, stepK_j, stepK_add]
      rw [stepK_j] at hi
      dsimp only
      have hil : i < L.length := by
        have h1 := (List.getElem?_eq_some_iff.mp hi).1
        rw [Array.length_toList, R.tab.sz, List.length_map] at h1
        exact h1
      obtain ⟨p, hp⟩ : ∃ p, L[i]? = some p := ⟨_, List.getElem?_eq_getElem hil⟩
      have hm : p ∈ L := List.mem_of_getElem? hp
      have hei : es[i]? = some (knd.hash p.1, Value.ref p.2) := by
        rw [rowsK_at R.rows, hp]
        rfl
      have hsl : t.slot (way t.mask (knd.hash k) (c + q)) = .live i := slot_live R.tab.ris hi
      have after : wpAny (model P w) A (searchRest a (.ref x) (knd.hash k) true f es t (way t.mask (knd.hash k) (c + q)) i (stepK t (knd.hash k) (c + (q + 1)))) Q E s := by
        unfold searchRest
        rw [hei]
        dsimp only
        refine wpAny_bind (wpAny_holding (knd.eqBool hr (R.els p hm) hx ?_))
        refine wpAny_bind (wpAny_setState_of ho hd R.fits ?_)
        dsimp only
        by_cases hk : p.1 = k
        · exact wp_if_pos (by simp [hk]) (wpAny_pure (qin (List.mem_map.mpr ⟨p, hm, hk⟩)))
        · refine wp_if_neg (by simp [hk]) ?_
          try refine wpAny_bind (wpAny_pure ?_)
          rw [sameMem]
          dsimp only
          simp only [if_true, hsl, hei]
          refine wpAny_bind (wpAny_isSame_ref_self (wpAny_bind (wpAny_pure ?_)))
          simp only [if_true]
          refine wp_if_neg (by simp [hk]) ?_
          refine ih (n - (q + 1)) (by omega) (c + (q + 1)) f _ (by omega) (by omega) rfl fun i0 p0 h0 hk0 => ?_
          obtain ⟨r, hrn, hpl⟩ := hre i0 p0 h0 hk0
          rcases Nat.lt_trichotomy r q with z | z | z
          · exact absurd ((hAt i0 p0 h0).trans (congrArg knd.hash hk0)) (hno r i0 z (by rw [stepK_j]; exact hpl))
          · subst z
            have s0 := slot_live R.tab.ris hpl
            rw [hsl] at s0
            injection s0 with s0
            rw [← s0, hp] at h0
            exact absurd ((congrArg Prod.fst (Option.some.inj h0)).trans hk0) hk
          · exact ⟨r - (q + 1), by omega, by rw [show c + (q + 1) + (r - (q + 1)) = c + r by omega]; exact hpl⟩
      by_cases hl : t.led = true
      · refine wp_if_neg (by simp [hl]) ?_
        try refine wpAny_bind (wpAny_pure ?_)
        exact after
      · refine wp_if_pos (by simp [hl]) ?_
        refine wpAny_bind (unseenK el hx (fun y hy => ?_) (wp_if_neg (by decide) ?_))
        · obtain ⟨z, hz, rfl⟩ := List.mem_map.mp hy
          have hz1 : z ∈ es ∧ z.1 = knd.hash k := by simpa using hz
          have hz2 : z ∈ es.toList := by simpa using hz1.1
          rw [R.rows] at hz2
          obtain ⟨p2, hp2, rfl⟩ := List.mem_map.mp hz2
          exact ⟨p2.1, p2.2, rfl, R.els p2 hp2⟩
        · try refine wpAny_bind (wpAny_pure ?_)
          exact after
    · rw [e, stepK_j, hc]
      dsimp only
      refine wpAny_pure (qout fun hm => ?_)
      obtain ⟨p0, h0, hk0⟩ := List.mem_map.mp hm
      obtain ⟨i0, hi0, e0⟩ := List.getElem_of_mem h0
      have h00 : L[i0]? = some p0 := by rw [List.getElem?_eq_getElem hi0, e0]
      obtain ⟨r, hrn, hpl⟩ := hre i0 p0 h00 hk0
      exact hno r i0 hrn (by rw [stepK_j]; exact hpl) ((hAt i0 p0 h00).trans (congrArg knd.hash hk0))
/-- the search as adding asks for it -/
theorem lookK (el : Els knd) (R : SetK knd s.heap a L es ep t) {x : Addr} {k : κ} (hx : knd.is s.heap k x) (hr : knd.room A) {Q : SetFound → Shared → Prop} (qin : k ∈ L.map (·.1) → Q (.there none) s)
    (qout : ∀ N, k ∉ L.map (·.1) → way t.mask (knd.hash k) N ∉ t.place.toList → (∀ c, c < N → way t.mask (knd.hash k) c ∈ t.place.toList) → Q (.free (way t.mask (knd.hash k) N) false) s) :
    wpAny (model P w) A (setSearch a (.ref x) (knd.hash k) true) Q E s := by
  have room := R.room
  obtain ⟨N, h1, h2, h3⟩ := R.tab.first (by rw [List.length_map]; omega) (knd.hash k)
  have few : N < 100000 := by
    have : 10 * SetTable.turns t.mask ≤ 1420 := by
      unfold SetTable.turns
      rcases R.tab.mok with e | e | e <;> omega
    omega
  unfold setSearch
  refine seekK el R hx hr h1 h2 h3 qin (fun z => qout N z h2 h3) N 0 100000 none (Nat.zero_add N) few rfl fun i p hp hk => ?_
  have hi : (L.map fun p => knd.hash p.1)[i]? = some (knd.hash k) := by
    rw [List.getElem?_map, hp, ← hk]
    rfl
  have hil : i < t.place.toList.length := by
    rw [Array.length_toList, R.tab.sz, List.length_map]
    exact (List.getElem?_eq_some_iff.mp hp).1
  have hj := List.getElem?_eq_getElem hil
  obtain ⟨q, hq, e⟩ := R.tab.before h2 hi hj
  exact ⟨q, hq, by rw [hj, Nat.zero_add, e]⟩

theorem range_pick {α : Type} : ∀ l : List α, (List.range l.length).filterMap (fun i => l[i]?) = l
  | [] => rfl
  | x :: l => by
    rw [List.length_cons, List.range_succ_eq_map, List.filterMap_cons]
    show x :: (List.map Nat.succ (List.range l.length)).filterMap (fun i => (x :: l)[i]?) = x :: l
    rw [List.filterMap_map]
    exact congrArg (x :: ·) (range_pick l)
theorem fm_congr {α β : Type} {f g : α → Option β} : ∀ {l : List α}, (∀ x ∈ l, f x = g x) → l.filterMap f = l.filterMap g
  | [], _ => rfl
  | x :: l, h => by rw [List.filterMap_cons, List.filterMap_cons, h x List.mem_cons_self, fm_congr fun y hy => h y (List.mem_cons_of_mem _ hy)]
/-- the rows in another order -/
theorem orderK (e : es.toList = rowsK knd L) {order : Array Nat} (hp : order.toList.Perm (List.range L.length)) :
    ∃ L2, (order.filterMap (es[·]?)).toList = rowsK knd L2 ∧ L2.Perm L ∧ (L2.map fun p => knd.hash p.1) = order.toList.map fun i => (es.map (·.1)).getD i 0 := by
  refine ⟨order.toList.filterMap fun i => L[i]?, ?_, ?_, ?_⟩
  · rw [Array.toList_filterMap]
    unfold rowsK
    rw [List.map_filterMap]
    exact fm_congr fun i _ => rowsK_at e i
  · exact (hp.filterMap _).trans (List.Perm.of_eq (range_pick L))
  · rw [List.map_filterMap, ← List.filterMap_eq_map]
    refine fm_congr fun i hi => ?_
    have hlt : i < L.length := List.mem_range.mp (hp.mem_iff.mp hi)
    have h1 : (es.map (·.1))[i]? = some (knd.hash (L[i]).1) := by
      rw [Array.getElem?_map, rowsK_at e, List.getElem?_eq_getElem hlt]
      rfl
    rw [List.getElem?_eq_getElem hlt]
    show some (knd.hash (L[i]).1) = some ((es.map (·.1)).getD i 0)
    rw [Array.getD_eq_getD_getElem?, h1]
    rfl
/-- all laid anew in a larger table -/
theorem relayK (el : Els knd) {o : Obj} (ho : s.heap.get? a = some o) (hex : o.ExactSet) (hd : o.data = .set es ep t) (hrows : es.toList = rowsK knd L) (T : TabOk t (L.map fun p => knd.hash p.1)) (hm : L.length ≤ t.mask)
    (nd : (L.map (·.1)).Nodup) (els : ∀ p ∈ L, knd.is s.heap p.1 p.2) (pl : t.plain = true) (led : w.params.followText "set-order" = true ∨ t.led = true) (few : L.length < 64) {wanted M : Nat}
    (hw : SetTable.sizeAbove wanted - 1 = M) (hM : MaskOk M) (hw2 : SetTable.sizeAbove wanted ≤ 128) (hn : L.length * 5 < M * 3) {Q : Unit → Shared → Prop}
    (hQ : ∀ h' L' es' ep' t', Heap.SameBut a s.heap h' → SetK knd h' a L' es' ep' t' → L'.Perm L → Q () { s with heap := h' }) : wpAny (model P w) A (setRelay a wanted) Q E s := by
  have hsz := rowsK_size hrows
  obtain ⟨t', order, e, hp, T', em, el', ep', _⟩ := relaid_ok t (hs := es.map (·.1)) (wanted := wanted) hw hM (by rw [Array.size_map, hsz]; omega)
  rw [Array.size_map, hsz] at hp
  obtain ⟨L2, r1, r2, r3⟩ := orderK hrows hp
  rw [← r3] at T'
  have hs2 : (order.filterMap (es[·]?)).size = es.size := by rw [rowsK_size r1, r2.length_eq, hsz]
  rw [setRelay_eq]
  refine wpAny_bind (wpAny_setState_of ho hd (fitsK T hrows hm) ?_)
  dsimp only
  refine wp_if_neg (by rw [sizeLine_eq]; omega) ?_
  try refine wpAny_bind (wpAny_pure ?_)
  rw [e]
  dsimp only
  refine wpAny_bind ?_
  refine wp_if_neg (by rw [hs2]; simp) ?_
  try refine wpAny_bind (wpAny_pure ?_)
  refine wpAny_pure ?_
  dsimp only
  refine wpAny_storeSet_of ho hd ?_ (by rw [hs2, hsz, sizeLine_eq]; omega)
  have sb : Heap.SameBut a s.heap (s.heap.update a (Obj.putSet (order.filterMap (es[·]?)) t')) := Heap.SameBut.update ..
  exact hQ _ L2 _ (ep + 1) t' sb ⟨⟨_, store_at ho hd, ⟨hex.1, hex.2.1, hex.2.2⟩, rfl⟩, r1, T', (r2.map (·.1)).nodup_iff.mpr nd, fun p hpm => el.stay (els p (r2.mem_iff.mp hpm)) ho hd sb, by rw [ep']; exact pl, by rw [el']; exact led, by rw [r2.length_eq, em]; exact hn, by rw [r2.length_eq]; exact few⟩ r2
/-- ADDING an element whose hash is known -/
theorem addK (el : Els knd) (R : SetK knd s.heap a L es ep t) {x : Addr} {k : κ} (hx : knd.is s.heap k x) (hr : knd.room A) (few : L.length + 1 < 64) {Q : Bool → Shared → Prop}
    (hQ : ∀ b h' L' es' ep' t', Heap.SameBut a s.heap h' → SetK knd h' a L' es' ep' t' → (k ∈ L.map (·.1) → L' = L) → (k ∉ L.map (·.1) → L'.Perm ((k, x) :: L)) → Q b { s with heap := h' }) :
    wpAny (model P w) A (setAddHashed a (.ref x) (knd.hash k)) Q E s := by
  obtain ⟨o, ho, hex, hd⟩ := R.ob
  have room := R.room
  unfold setAddHashed
  refine wpAny_holding ?_
  rw [show (100000 : Nat) = 99999 + 1 from rfl, setAddHashedIn_succ]
  refine wpAny_bind (wpAny_setState_of ho hd R.fits ?_)
  dsimp only
  refine wp_if_neg (by simp [byScan, Value.scannable]) ?_
  try refine wpAny_bind (wpAny_pure ?_)
  refine wpAny_bind (lookK el R hx hr (fun hm => ?_) fun N hm hN hb => ?_)
  · dsimp only
    exact wpAny_pure (hQ false s.heap L es ep t (Heap.SameBut.refl a s.heap) R (fun _ => rfl) fun z => absurd hm z)
  dsimp only
  refine wpAny_bind (wpAny_setState_of ho hd R.fits ?_)
  dsimp only
  obtain ⟨q1, q2, q3, q4, q5, q6, _, _, q9⟩ := R.tab.put hN hb
  rw [← List.map_take, ← List.map_drop, ← List.map_cons (f := fun p : κ × Addr => knd.hash p.1) (a := (k, x)), ← List.map_append] at q3
  rw [List.length_map] at q9
  generalize hpt : t.put (way t.mask (knd.hash k) N) = pt at q1 q3 q4 q5 q6 q9 ⊢
  obtain ⟨t1, p⟩ := pt
  dsimp only at q1 q3 q4 q5 q6 q9 ⊢
  have pl1 : t1.plain = true := q6.trans R.pl
  have ins : (SetTable.insertAt es p (knd.hash k, Value.ref x)).toList = rowsK knd (L.take p ++ (k, x) :: L.drop p) := by
    rw [SetTable.toList_insertAt, R.rows]
    unfold rowsK
    rw [List.map_append, List.map_cons, List.map_take, List.map_drop]
  rw [← q1] at q3
  have pm : (L.take p ++ (k, x) :: L.drop p).Perm ((k, x) :: L) := by
    have h : (L.take p ++ (k, x) :: L.drop p).Perm ((k, x) :: (L.take p ++ L.drop p)) := List.perm_middle
    rwa [List.take_append_drop] at h
  first
    | (refine wpAny_bind ?_; refine wp_if_pos pl1 ?_; refine el.byV hx ?_)
    | refine wp_if_pos pl1 (wpAny_bind (el.byV hx ?_))
  simp only [if_true]
  generalize SetTable.insertAt es p (knd.hash k, Value.ref x) = es1 at ins ⊢
  generalize L.take p ++ (k, x) :: L.drop p = L1 at pm q3 ins
  have len : L1.length = L.length + 1 := pm.length_eq
  have nd1 : (L1.map (·.1)).Nodup := (pm.map (·.1)).nodup_iff.mpr (by rw [List.map_cons]; exact List.nodup_cons.mpr ⟨hm, R.nd⟩)
  have hes : es1.size = L.length + 1 := (rowsK_size ins).trans len
  refine wpAny_bind (wpAny_storeSet_of ho hd ?_ (by rw [hes, sizeLine_eq]; omega))
  have sb : Heap.SameBut a s.heap (s.heap.update a (Obj.putSet es1 t1)) := Heap.SameBut.update ..
  have ho1 := store_at (es' := es1) (t' := t1) ho hd
  generalize s.heap.update a (Obj.putSet es1 t1) = h1 at sb ho1 ⊢
  have els1 : ∀ p ∈ L1, knd.is h1 p.1 p.2 := fun p hp => by
    rcases List.mem_cons.mp (pm.mem_iff.mp hp) with e | hp
    · rw [e]
      exact el.stay hx ho hd sb
    · exact el.stay (R.els p hp) ho hd sb
  have led1 : w.params.followText "set-order" = true ∨ t1.led = true := by rw [q5]; exact R.led
  by_cases hf : t1.tooFull = true
  · have full : (L.length + 1) * 5 ≥ t1.mask * 3 := by
      have h := hf
      unfold SetTable.tooFull at h
      rw [decide_eq_true_eq, q9] at h
      exact h
    have two : (t.mask = 7 ∧ L.length = 4) ∨ (t.mask = 31 ∧ L.length = 18) := by
      rw [q4] at full
      rcases R.tab.mok with e | e | e <;> rw [e] at full room
      · exact .inl ⟨e, by omega⟩
      · exact .inr ⟨e, by omega⟩
      · omega
    have go : ∀ M, SetTable.sizeAbove (SetTable.grown (L.length + 1)) - 1 = M → MaskOk M → SetTable.sizeAbove (SetTable.grown (L.length + 1)) ≤ 128 → (L.length + 1) * 5 < M * 3 →
        wpAny (model P w) A (setRelay a (SetTable.grown (L.length + 1))) (fun _ s' => wpAny (model P w) A (pure true) Q E s') E { s with heap := h1 } := fun M z1 z2 z3 z4 => by
      refine relayK (s := { s with heap := h1 }) el ho1 ⟨hex.1, hex.2.1, hex.2.2⟩ rfl ins q3 (by rw [len, q4]; rcases two with ⟨e, e2⟩ | ⟨e, e2⟩ <;> omega) nd1 els1 pl1 led1 (by rw [len]; exact few) z1 z2 z3 (by rw [len]; exact z4) ?_
      intro h2 L2 es2 ep2 t2 sb2 R2 pm2
      exact wpAny_pure (hQ true h2 L2 es2 ep2 t2 (sb.trans sb2) R2 (fun z => absurd z hm) fun _ => pm2.trans pm)
    rw [rowsK_size R.rows]
    first
      | (refine wpAny_bind ?_; refine wp_if_pos (by simp [hf]) ?_)
      | (refine wp_if_pos (by simp [hf]) ?_; refine wpAny_bind ?_)
    rcases two with ⟨_, e2⟩ | ⟨_, e2⟩
    · exact go 31 (by rw [e2, size_20]) (.inr (.inl rfl)) (by rw [e2, size_20]; decide) (by omega)
    · exact go 127 (by rw [e2, size_76]) (.inr (.inr rfl)) (by rw [e2, size_76]; decide) (by omega)
  · have notFull : ¬ (L.length + 1) * 5 ≥ t1.mask * 3 := fun z => hf (by
      unfold SetTable.tooFull
      rw [decide_eq_true_eq, q9]
      exact z)
    first
      | refine wp_if_neg (by simp [hf]) ?_
      | (refine wpAny_bind ?_; refine wp_if_neg (by simp [hf]) ?_; refine wpAny_pure ?_)
    exact wpAny_pure (hQ true h1 L1 es1 (ep + 1) t1 sb ⟨⟨_, ho1, ⟨hex.1, hex.2.1, hex.2.2⟩, rfl⟩, ins, q3, nd1, els1, pl1, led1, by rw [len]; omega, by rw [len]; exact few⟩ (fun z => absurd z hm) fun _ => pm)
/-- a new set -/
theorem freshK {h : Heap} {a : Addr} (ho : h.get? a = some { cls := .type "set", dict := none, data := .set #[] 0 (.fresh 0 0 (!w.params.followText "set-order")) }) : SetK knd h a [] #[] 0 (.fresh 0 0 (!w.params.followText "set-order")) where
  ob := ⟨_, ho, ⟨rfl, rfl, rfl⟩, rfl⟩
  rows := rfl
  tab := ⟨List.Pairwise.nil, rfl, rfl, .inl rfl, fun x hx => (by cases hx), fun i h j hi => (by simp at hi)⟩
  nd := List.nodup_nil
  els := fun p hp => (by cases hp)
  pl := rfl
  led := by
    show _ ∨ (!w.params.followText "set-order") = true
    cases w.params.followText "set-order"
    · exact .inr rfl
    · exact .inl rfl
  room := by
    show 0 * 5 < 7 * 3
    decide
  few := by
    show 0 < 64
    decide
end
end Hb

set_option Elab.async false
set_option linter.all false
set_option maxRecDepth 100000
set_option maxHeartbeats 4000000
/-! Sets of nested tuples over the abstract heap: add, the comprehension, sorted. -/
namespace Hb
open PySem L2 PyProof.Rows

/-- the set at a: its elements' keys and addresses, in the table's order -/
structure SetK0 (P : Program) (w : World) (h : Heap) (a : Addr) (L : List (NestedKey × Addr)) : Prop where
  ex : ∃ (es : Array (Int × Value)) (ep : Nat) (t : SetTable), (∃ o, h.get? a = some o ∧ o.ExactSet ∧ o.data = .set es ep t) ∧ es.toList = rowsK (numKind P w) L ∧ TabOk t (L.map fun p => (numKind P w).hash p.1) ∧ (L.map (·.1)).Nodup ∧ t.plain = true ∧
    (w.params.followText "set-order" = true ∨ t.led = true) ∧ L.length * 5 < t.mask * 3 ∧ L.length < 64
/-- .. as an object of the abstract heap -/
def SN (P : Program) (w : World) (a : Addr) (L : List (NestedKey × Addr)) : HO := .ext fun h => SetK0 P w h a L
theorem SetK.k0 {P : Program} {w : World} {h : Heap} {a : Addr} {L : List (NestedKey × Addr)} {es : Array (Int × Value)} {ep : Nat} {t : SetTable} (R : SetK (numKind P w) h a L es ep t) : SetK0 P w h a L := ⟨es, ep, t, R.ob, R.rows, R.tab, R.nd, R.pl, R.led, R.room, R.few⟩
theorem SetK0.full {P : Program} {w : World} {h : Heap} {a : Addr} {L : List (NestedKey × Addr)} (R : SetK0 P w h a L) (he : ∀ p ∈ L, (numKind P w).is h p.1 p.2) : ∃ es ep t, SetK (numKind P w) h a L es ep t := by
  obtain ⟨es, ep, t, h1, h2, h3, h4, h5, h6, h7, h8⟩ := R.ex
  exact ⟨es, ep, t, h1, h2, h3, h4, he, h5, h6, h7, h8⟩
theorem sn_new {P : Program} {w : World} {H : Hp} {h : Heap} {a : Addr} {L : List (NestedKey × Addr)} (R : SetK0 P w h a L) : ObjOk P w H h a (SN P w a L) := by
  have ⟨es, ep, t, ⟨o, ho, r⟩, q⟩ := R.ex
  refine ⟨R, ⟨o, ho⟩, fun h1 h2 p k => ?_⟩
  have ⟨es', ep', t', ⟨o', ho', r'⟩, q'⟩ := SetK0.ex p
  exact ⟨es', ep', t', ⟨o', k o' ho', r'⟩, q'⟩
/-- an element as the abstract heap tells it -/
def ElN (H : Hp) (p : NestedKey × Addr) : Prop := NK H p.1 (.ref p.2) ∧ p.1.depth ≤ 8 ∧ noTx p.1 = true
theorem ElN.is {P : Program} {w : World} {H : Hp} {h : Heap} (ok : HOk P w H h) {p : NestedKey × Addr} (e : ElN H p) : (numKind P w).is h p.1 p.2 := ⟨⟨NK.is ok e.1 rfl, e.2.1⟩, e.2.2⟩

section
variable {X : Cx} {pins : List (Addr × Obj)} {σ : L2.St} {H : Hp} {s : Shared} {E : Value → Shared → Prop} {D : Addr} {L : List (NestedKey × Addr)}
theorem sn_get (I : Inv X pins σ H s) (hD : H D = some (SN X.prog X.w D L)) : SetK0 X.prog X.w s.heap D L := (I.hok D _ hD).1
/-- what the set is behind the adding of p -/
def AddN (L : List (NestedKey × Addr)) (p : NestedKey × Addr) (L' : List (NestedKey × Addr)) : Prop := (p.1 ∈ L.map (·.1) → L' = L) ∧ (p.1 ∉ L.map (·.1) → L'.Perm (p :: L))
/-- set.add -/
theorem addN_ok {A : Around} {p : NestedKey × Addr} {Q : Value → Shared → Prop} (hu : A.units + 64 < cLine) (I : Inv X pins σ H s) (hD : H D = some (SN X.prog X.w D L)) (hL : ∀ e ∈ L, ElN H e) (hp : ElN H p) (few : L.length + 1 < 64)
    (h : ∀ L' s', AddN L p L' → Inv X pins σ (upd H D (SN X.prog X.w D L')) s' → Q .none s') : wpAny (model X.prog X.w) A (call (.builtin "set.add") [.ref D, .ref p.2]) Q E s := by
  obtain ⟨es, ep, t, R⟩ := (sn_get I hD).full fun e he => (hL e he).is I.hok
  obtain ⟨o, ho, hex, hd⟩ := R.ob
  have hk := hp.is (P := X.prog) (w := X.w) I.hok
  refine wpAny_call_entry F.slot_set_add ⟨o, ho, hex.1⟩ F.entry_set_add ?_ (F.args_set_add_2 _ _)
  unfold Builtin.«set.add» Builtin.Frozenset.oneOther
  simp only [List.isEmpty_nil, bind_assoc]
  unfold Builtin.Frozenset.addrOf setAdd
  refine wpAny_bind (wpAny_pure ?_)
  try dsimp only
  refine wpAny_bind (wpAny_pure ?_)
  try dsimp only
  refine wpAny_bind ?_
  refine wpAny_holding ?_
  refine wpAny_bind ((numKind X.prog X.w).pyHash (by show A.in1.units + 8 < cLine; rw [Around.in1_units]; omega) hk ?_)
  refine addK (s := { s with toks := s.toks + (numKind X.prog X.w).draws p.1 }) (knd := numKind X.prog X.w) els_num R hk (by show A.in1.units + 8 < cLine; rw [Around.in1_units]; omega) few fun b h' L' es' ep' t' sb R' e1 e2 => ?_
  show wpAny _ _ (ret Value.none) _ _ _
  refine wpAny_pure ⟨_, rfl, h L' _ ⟨e1, e2⟩ ?_⟩
  have ⟨o', ho', _⟩ := R'.ob
  exact I.write (e := D) (by rw [hD]; trivial) (.inl rfl) (fun b u hb hu => (sb.2 b hb).trans hu) ⟨o', ho'⟩ (sn_new R'.k0)
end

/-! ### the comprehension -/
/-- {elt for target in iter if ..}, each elt a nested tuple -/
def tSn (P : Program) (w : World) (wi : TI) (g : TG) (tt : TT) (te : TE) (vs : List Nat) : TE := fun σ H Q => wi σ H fun J H1 => ∀ D, H1 D = none → ∃ W : Nat → Nat → Hp → Prop, (∃ m, W 0 m (upd H1 D (SN P w D []))) ∧ ∀ i m H, W i m H →
  (J.stop i H ∧ Q (.ref D) H) ∨ (J.go i H ∧ ∃ Nx : Hp → Prop, (∀ H', Nx H' → ∃ m', m' < m ∧ W (i + 1) m' H') ∧ ∀ x H', J.yld i H x H' → g x (wipe σ vs) H' fun σ2 H2 => wipe σ2 vs = wipe σ vs ∧ tt σ2 H2 fun b H3 =>
    if b = true then te σ2 H3 fun y H4 => ∃ (L : List (NestedKey × Addr)) (p : NestedKey × Addr), y = .ref p.2 ∧ H4 D = some (SN P w D L) ∧ (∀ e ∈ L, ElN H4 e) ∧ ElN H4 p ∧ L.length + 1 < 64 ∧ ∀ L', AddN L p L' → Nx (upd H4 D (SN P w D L')) else Nx H3)
section
open PpSet
variable {X : Cx}
theorem pe_sn {elt tg iter : Expr} {ifs : List Expr} {scope : Scope} {own : List (Str × Nat)} {pos : Pos} {wi : TI} {g : TG} {tt : TT} {te : TE} (hc : X.calm = true) (hu : X.A.units + 64 < cLine) (hN : X.N.Nodup) (hi : PI X tg iter wi) (ok : BlkOk X.N X.env.scope scope own)
    (hg : ∀ (s : Shared) (H : Hp) (C : Addr) (cl : List (Str × Addr)) (fp : List Addr), PG (X.blk s H scope (compEnvC scope cl C X.env) fp) tg g) (ht : ∀ (s : Shared) (H : Hp) (C : Addr) (cl : List (Str × Addr)) (fp : List Addr), PTs (X.blk s H scope (compEnvC scope cl C X.env) fp) ifs tt)
    (he : ∀ (s : Shared) (H : Hp) (C : Addr) (cl : List (Str × Addr)) (fp : List Addr), PE (X.blk s H scope (compEnvC scope cl C X.env) fp) elt te) (hs : ∀ x, foldedSetIterable iter X.env x = pure x := by intro _; rfl) :
    PE X (.SetComp elt [⟨tg, iter, ifs, 0⟩] scope pos) (tSn X.prog X.w wi g tt te (own.map (·.2))) := by
  refine ⟨fun pins s σ H Q I h => ?_⟩
  rw [eval_SetComp]
  have hfree : ∀ y ∈ scope.names, y.2 = .free → ∃ c, X.env.cells.lookup y.1 = some c := fun y hy e => by
    rcases ok.free y hy e with k | k
    · exact I.ok.has _ (.inl k)
    · exact I.ok.has _ (.inr k)
  refine wpAny_comprehension_free (use := none) rfl hs (closure_ok hfree) ok.kind (fun y hy e => by rw [ok.uniq y hy, e]) (thn (hi.run pins s σ H _ I h) fun xv s1 hx => thn hx fun itv s2 h2 => ?_)
  obtain ⟨it, fp, tn, J, H2, rfl, I2, T, st2, f2, q⟩ := h2
  refine newSet_ok (newEnv_comp ?_)
  obtain ⟨D, hD⟩ : ∃ D, D = s2.heap.objs.size := ⟨_, rfl⟩
  rw [← hD]
  obtain ⟨W, ⟨m0, w0⟩, turn⟩ := q D (I2.hok.fresh (Nat.le_of_eq hD.symm))
  have grown : ∀ b o, s2.heap.get? b = some o → (s2.heap.push { cls := .type "set", dict := none, data := .set #[] 0 (.fresh 0 0 (!X.w.params.followText "set-order")) }).get? b = some o := fun b o e => Heap.get?_push_of_some _ e
  have I3 : Inv X pins σ (upd H2 D (SN X.prog X.w D [])) { s2 with heap := s2.heap.push { cls := .type "set", dict := none, data := .set #[] 0 (.fresh 0 0 (!X.w.params.followText "set-order")) } } :=
    I2.laid (t' := s2.toks) grown (Nat.le_of_eq hD.symm) (sn_new (freshK (knd := numKind X.prog X.w) (by rw [hD]; exact Heap.get?_push_size _ rfl)).k0)
  have f3 : ∀ b ∈ fp, FpOk X pins (upd H2 D (SN X.prog X.w D [])) b ∧ b < (s2.heap.push { cls := .type "set", dict := none, data := .set #[] 0 (.fresh 0 0 (!X.w.params.followText "set-order")) }).objs.size := fun b hb => by
    obtain ⟨o, e, _⟩ := T.obj _ _ st2 b hb
    have hlt := Heap.lt_size e
    refine ⟨⟨?_, (f2 b hb).2⟩, by rw [Heap.size_push]; exact Nat.lt_succ_of_lt hlt⟩
    rw [upd_ne (by rw [hD]; exact Nat.ne_of_lt hlt)]
    exact (f2 b hb).1
  have st3 := T.keep _ _ _ st2 fun b _ o e => grown b o e
  obtain ⟨s3, hs3⟩ : ∃ s3 : Shared, s3 = { s2 with heap := s2.heap.push { cls := .type "set", dict := none, data := .set #[] 0 (.fresh 0 0 (!X.w.params.followText "set-order")) } } := ⟨_, rfl⟩
  obtain ⟨H3, hH3⟩ : ∃ H3 : Hp, H3 = upd H2 D (SN X.prog X.w D []) := ⟨_, rfl⟩
  rw [← hH3] at I3 w0
  rw [← hs3] at I3
  have st3' : tn 0 s3.heap := by rw [hs3]; exact st3
  have f3' : ∀ b ∈ fp, FpOk X pins H3 b ∧ b < s3.heap.objs.size := fun b hb => by rw [hH3, hs3]; exact f3 b hb
  have I4 := block_start I3 ok hN f3'
  show codeAny _ _ (.compStart (.SetComp elt [⟨tg, iter, ifs, 0⟩] scope pos) 0 (.ref it) (.ref D) (compEnvC scope (cellsFrom ((s2.heap.push { cls := .type "set", dict := none, data := .set #[] 0 (.fresh 0 0 (!X.w.params.followText "set-order")) }).objs.size + 1) scope.names (cloFrom X.env.cells scope.names [])) (s2.heap.push { cls := .type "set", dict := none, data := .set #[] 0 (.fresh 0 0 (!X.w.params.followText "set-order")) }).objs.size X.env))
    (compPost (model X.prog X.w) X.A X.xe none (EP X pins σ Q) (.ref D) (s2.heap.push { cls := .type "set", dict := none, data := .set #[] 0 (.fresh 0 0 (!X.w.params.followText "set-order")) }).objs.size)
    { s2 with heap := pushCells ((s2.heap.push { cls := .type "set", dict := none, data := .set #[] 0 (.fresh 0 0 (!X.w.params.followText "set-order")) }).push { cls := .type "dict", data := .dict #[] }) scope.names }
  have hh3 : s2.heap.push { cls := .type "set", dict := none, data := .set #[] 0 (.fresh 0 0 (!X.w.params.followText "set-order")) } = s3.heap := by rw [hs3]
  have hst : ({ s2 with heap := pushCells ((s2.heap.push { cls := .type "set", dict := none, data := .set #[] 0 (.fresh 0 0 (!X.w.params.followText "set-order")) }).push { cls := .type "dict", data := .dict #[] }) scope.names } : Shared) = { s3 with heap := pushCells (s3.heap.push { cls := .type "dict", data := .dict #[] }) scope.names } := by rw [hs3]
  rw [hst, hh3]
  have pg := hg s3 H3 s3.heap.objs.size (cellsFrom (s3.heap.objs.size + 1) scope.names (cloFrom X.env.cells scope.names [])) fp
  have pt := ht s3 H3 s3.heap.objs.size (cellsFrom (s3.heap.objs.size + 1) scope.names (cloFrom X.env.cells scope.names [])) fp
  have pe := he s3 H3 s3.heap.objs.size (cellsFrom (s3.heap.objs.size + 1) scope.names (cloFrom X.env.cells scope.names [])) fp
  generalize hce : compEnvC scope (cellsFrom (s3.heap.objs.size + 1) scope.names (cloFrom X.env.cells scope.names [])) s3.heap.objs.size X.env = ce at I4 pg pt pe ⊢
  have cL : ce.locals = s3.heap.objs.size := by subst hce; rfl
  generalize hs4 : ({ s3 with heap := pushCells (s3.heap.push { cls := .type "dict", data := .dict #[] }) scope.names } : Shared) = s4 at I4 ⊢
  have st4 : tn 0 s4.heap := T.keep _ _ _ st3' fun b _ o e => by rw [← hs4]; exact pushCells_keeps _ _ _ _ (Heap.get?_push_of_some _ e)
  have nfp : ∀ b ∈ fp, H3 b = none := fun b hb => (f3' b hb).1.1
  have stat : ∀ {σ' : L2.St} {H' : Hp} {s' : Shared}, Inv (X.blk s3 H3 scope ce fp) [] σ' H' s' → (∀ b ∈ fp, H' b = none) → ∀ b ∈ fp, FpOk (X.blk s3 H3 scope ce fp) [] H' b := fun {σ' H' s'} I' hn b hb =>
    ⟨hn b hb, (I'.ok.exf b hb).1, I'.ok.exfs b hb, .inl hb, fun x c e => (I'.ok.exf b hb).2 x c e, fun p hp => absurd (show p ∈ ([] : List (Addr × Obj)) ++ [] from hp) (by simp)⟩
  have loop : codeAny (model X.prog X.w) X.A (.compLoop (.SetComp elt [⟨tg, iter, ifs, 0⟩] scope pos) 0 (.ref it) (.ref D) ce) (compPost (model X.prog X.w) X.A X.xe none (EP X pins σ Q) (.ref D) s3.heap.objs.size) s4 := by
    refine compLoopS_any (fun n s' => ∃ i H', Inv (X.blk s3 H3 scope ce fp) [] (wipe σ (own.map (·.2))) H' s' ∧ tn i s'.heap ∧ (∀ b ∈ fp, H' b = none) ∧ W i n H') ?_ m0 ⟨0, H3, I4, st4, nfp, w0⟩
    rintro n s5 ⟨i, H5, I5, st5, n5, w5⟩
    rcases turn i n H5 w5 with ⟨stop, qq⟩ | ⟨go, Nx, hNx, step⟩
    · refine thnF (T.done (X.blk s3 H3 scope ce fp) rfl rfl rfl hc i [] s5 _ H5 (fun _ _ => False) I5 (stat I5 n5) st5 stop) fun r s6 ⟨hr, I6⟩ => ?_
      subst hr
      have I7 : Inv X pins σ H5 s6 := I3.call' (ch := fp) I6.os I6.base I6.hok I6.bare fun b hb => ⟨(f3' b hb).1.2.2.2.1, (f3' b hb).1.2.1, (f3' b hb).1.2.2.2.2.1, (f3' b hb).1.2.2.2.2.2⟩
      have nC : H5 s3.heap.objs.size = none := by
        have z : H5 ce.locals = none := I6.free
        rwa [cL] at z
      obtain ⟨m, hn, _⟩ := I6.loc
      have hn' : s6.heap.Ns ce.locals m := hn
      rw [cL] at hn'
      obtain ⟨z0, z1, _, z3, z4, z5⟩ := I3.fpOk (Nat.le_refl _) nC
      exact ⟨m, hn', fun h'' sb => ⟨.ref D, H5, I7.turned (t' := s6.toks) (fun b o hb e => (sb.2 b hb).trans e) z0 z1 z3 z4 z5, rfl, qq⟩⟩
    · refine thnF (T.item (X.blk s3 H3 scope ce fp) rfl rfl rfl hc i [] s5 _ H5 (fun _ _ => False) I5 (stat I5 n5) st5 go) fun r s6 ⟨u, hr, h6⟩ => ?_
      subst hr
      refine thnF h6 fun _ s7 ⟨x, H7, I7, r7, y7, st7, n7⟩ => ?_
      refine thnF (pg.run _ s7 _ H7 x u _ (I7.pinned (stat I7 n7) (T.obj _ _ st7)) r7 (step x H7 y7)) fun _ s8 ⟨σ8, H8, I8, hw8, q8⟩ => ?_
      refine thnF (pt.run _ s8 σ8 H8 _ I8 q8) fun b s9 ⟨H9, I9, q9⟩ => ?_
      have fin : ∀ {s' : Shared} {H' : Hp}, Inv (X.blk s3 H3 scope ce fp) ([] ++ pinsAt fp s7.heap) σ8 H' s' → Nx H' → ∃ m, m < n ∧ ∃ i H', Inv (X.blk s3 H3 scope ce fp) [] (wipe σ (own.map (·.2))) H' s' ∧ tn i s'.heap ∧ (∀ b ∈ fp, H' b = none) ∧ W i m H' := fun {s' H'} I' nx => by
        obtain ⟨m', hm, w'⟩ := hNx H' nx
        have pin' : ∀ b ∈ fp, ∀ o, s7.heap.get? b = some o → s'.heap.get? b = some o ∧ H' b = none := fun b hb o e =>
          let z := I'.pin (b, o) (List.mem_append_right _ (List.mem_append_right _ (mem_pinsAt hb e)))
          ⟨z.1, z.2.1⟩
        have hl : (wipe σ (own.map (·.2))).length = σ8.length := by rw [← hw8, wipe_length]
        refine ⟨m', hm, i + 1, H', (I'.unpinned (pins := [])).weak hl (fun j v e => ?_), T.keep _ _ _ st7 fun b hb o e => (pin' b hb o e).1, fun b hb => ?_, w'⟩
        · rw [← hw8] at e
          exact (wipe_some e).1
        · obtain ⟨o, e, _⟩ := T.obj _ _ st7 b hb
          exact (pin' b hb o e).2
      cases b with
      | false =>
        simp only [Bool.false_eq_true, if_false] at q9 ⊢
        exact fin I9 q9
      | true =>
        simp only [if_true] at q9 ⊢
        refine thnF (pe.run _ s9 σ8 H9 _ I9 q9) fun z s10 ⟨yv, H10, I10, r10, L, p, ey, hDL, hL, hp, few, nx⟩ => ?_
        subst ey
        obtain rfl : z = Value.ref p.2 := r10
        exact addN_ok (X := X.blk s3 H3 scope ce fp) hu I10 hDL hL hp few fun L' s11 hA I11 => fin I11 (nx L' hA)
  exact codeAny_compStart_set loop (T.self X.A 0 _ _ _ st4 loop)
end

/-! ### sorted of such a set -/
/-- sorted(s): the elements by the order of their ints, all of one shape -/
def rSortSN (P : Program) (w : World) (c : Option Nat) (sh : List (Option Nat)) : List V → Hp → VK → Prop := fun vs H Q => ∃ (a : Addr) (L : List (NestedKey × Addr)) (k : V → List Itm), vs = [V.ref a] ∧ H a = some (SN P w a L) ∧ (∀ e ∈ L, NK H e.1 (.ref e.2) ∧ e.1 = nkK (k (.ref e.2)) ∧ (k (.ref e.2)).map shp = c :: sh) ∧
  ∀ ys p, SrtO.Srtd (ltK k) ys → ys.Perm (L.map fun e => V.ref e.2) → (L.map (·.1)).Nodup → H p = none → Q (.ref p) (upd H p (.lst ys))
section
variable {X : Cx} {c : Option Nat} {sh : List (Option Nat)} {P : Program} {w : World}
theorem cr_sortSN (hc : X.calm = true) (hu : X.A.units + 64 < cLine) (hP : X.prog = P := by rfl) (hw : X.w = w := by rfl) : CallR X (.builtin "sorted") (rSortSN P w c sh) := by
  subst hP hw
  intro pins s σ H vs us Q I r h
  obtain ⟨a, L, k, rfl, ha, hx, q⟩ := h
  obtain ⟨u, rfl, ru⟩ := vals1 r
  obtain rfl : u = Value.ref a := ru
  obtain ⟨es, ep, t, ⟨o, ho, hex, hd⟩, rows, T, nd, _, led, room, few⟩ := (sn_get I ha).ex
  have hu2 : X.A.in1.in1.units + 2 < cLine := by
    have e : X.A.in1.in1.units = X.A.units + 1 + 1 := rfl
    omega
  have hsz := rowsK_size rows
  refine Calls.call_function_entry kind_sorted plain_sorted entry_sorted (args_sorted1 _) ?_
  unfold Builtin.«sorted»
  refine wpAny_bind (m := checkCount "sorted" 1 1 _) (wpAny_pure ?_)
  refine wpAny_bind (collect_set (A := X.A.in1) (I.ok.hd hc) ⟨o, ho, hex.1, hd⟩ (fitsK T rows (by omega)) (by unfold scanBound; omega) T.ris led fun s1 acc hk hz g1 o1 pm => ?_)
  have hes : es.toList.map (·.2) = L.map fun e => Value.ref e.2 := by
    rw [rows]
    unfold rowsK
    rw [List.map_map]
    rfl
  rw [hes] at pm
  have hal : acc.length = L.length := by rw [pm.length_eq, List.length_map]
  have I1 : Inv X pins σ H s1 := I.call' (ch := []) o1 (Un.kept hk) (I.hok.kept hk) (by rw [g1]; exact I.bare) (fun _ z => nomatch z)
  have mem : ∀ v ∈ acc, ∃ e ∈ L, Value.ref e.2 = v := fun v hv => List.mem_map.mp (pm.mem_iff.mp hv)
  have hp : ∀ v ∈ acc, K2Is s1.heap (k (backV v)) v ∧ (k (backV v)).map shp = c :: sh := fun v hv => by
    obtain ⟨e, he, rfl⟩ := mem v hv
    obtain ⟨g1, g2, g3⟩ := hx e he
    rw [g2] at g1
    exact ⟨NK.k2 I1.hok g1, g3⟩
  refine wpAny_bind (wpAny_newList ?_ (by rw [hal, sizeLine_eq]; omega))
  have hoL : (s1.heap.push (seqObj "list" acc.toArray 0)).get? s1.heap.objs.size = some (seqObj "list" acc.toArray 0) := Heap.get?_push_size _ rfl
  refine wpAny_bind (wpAny_holding (wpAny_call_entry slot_list_sort ⟨_, hoL, rfl⟩ entry_list_sort
    (SrtO.list_sort_ord (s := { s1 with heap := s1.heap.push (seqObj "list" acc.toArray 0) }) (ltv := fun v u => lexI (flK (k (backV v))) (flK (k (backV u)))) (swo_lexI fun v => flK (k (backV v))) hoL (by rw [hal, sizeLine_eq]; omega) (fun g0 => ?_) fun out g1' g2 => ⟨_, rfl, ?_⟩) (args_list_sort _)))
  · refine k2_sortable (s := { s1 with heap := s1.heap.push (seqObj "list" acc.toArray 0) }) hu2 (by omega) (fun v hm => ⟨(hp v hm).1.keeps fun b o e _ => Heap.get?_push_of_some _ e, (hp v hm).2⟩) fun o e => ?_
    have e' : some o = some (seqObj "list" acc.toArray 0) := e.symm.trans hoL
    cases e'
    intro cc
    exact absurd (Value.type.inj cc) (by decide)
  · obtain ⟨e', he'⟩ := sortedHeap_at (vs := acc) (out := out.toArray) hoL
    have g3 : ∀ u ∈ out, ∃ a, u = Value.ref a := fun u hu => by
      obtain ⟨e, _, rfl⟩ := mem u (g2.perm.mem_iff.mp hu)
      exact ⟨_, rfl⟩
    have hb : (out.map backV).Perm (L.map fun e => V.ref e.2) := by
      have hm := (g2.perm.trans pm).map backV
      rw [List.map_map] at hm
      exact hm
    refine wpAny_pure ⟨_, rfl, .ref s1.heap.objs.size, upd H s1.heap.objs.size (.lst (out.map backV)), I1.laid (t' := s1.toks) (fun b u e => ?_) (Nat.le_refl _)
      (show ObjOk X.prog X.w _ _ _ (.lst (out.map backV)) from ⟨?_, out, e', vals_back g3, he'⟩), rfl, q _ _ (SrtO.srtd_map g1') hb nd (I1.hok.fresh (Nat.le_refl _))⟩
    · have hlt : b < s1.heap.objs.size := Heap.lt_size e
      rw [sortedHeap_old (Nat.ne_of_lt hlt) (by rw [size_push']; exact Nat.lt_succ_of_lt hlt)]
      exact Heap.get?_push_of_some _ e
    · rw [hb.length_eq, List.length_map, sizeLine_eq]
      omega
end
end Hb

set_option Elab.async false
set_option linter.all false
set_option maxRecDepth 100000
set_option maxHeartbeats 4000000
/-! More steps: zip over tuples, a star in a display, set comprehensions; a comprehension's turns for any body. -/
namespace Hb
open PySem L2 PyProof.Rows
theorem Hs.keep {B H H' : Hp} {L : List (Addr × HO)} (hs : Hs B L H) (e : Same H H') : Hs B L H' := ⟨hs.same.trans e, hs.nd, hs.out, fun x hx => e _ _ (hs.at_ x hx)⟩

/-! ### rules that name K -/
section
variable {X : Cx} {K : PySem.W.Frag}
theorem pi_zipK {e e2 : Expr} {ta : TA} {p pos tpos : Pos} {elts : List Expr} {kk : Nat} (hg : Gl X "zip") (hm : X.mg "zip" = none) (ha : PA X [e, e2] ta) (hK : X.K = K := by rfl)
    (hs : starEach [e, e2] X.env = (false, eval e X.env) :: starEach [e2] X.env := by rfl) (hpl : (backTo pos (starEach [e2] X.env)).any (·.1) = false := by rfl) :
    PI X (.Tuple elts kk tpos) (.Call (.Name "zip" p) [e, e2] [] pos) (RZ.iZipA K ta) := by
  subst hK
  exact RZ.pi_zipA hg hm ha hs hpl
theorem pa_starK {e : Expr} {es : List Expr} {te : TE} {t : TA} {p : Pos} (he : PE X e te) (hr : PA X es t) (hK : X.K = K := by rfl) (hs : starEach (.Starred e p :: es) X.env = (true, eval e X.env) :: starEach es X.env := by rfl) : PA X (.Starred e p :: es) (StX.tStar K te t) := by
  subst hK
  exact StX.pa_star he hr hs
theorem pe_snK {P : Program} {w : World} {elt tg iter : Expr} {ifs : List Expr} {scope : Scope} {own : List (Str × Nat)} {pos : Pos} {wi : TI} {g : TG} {tt : TT} {te : TE} (hc : X.calm = true) (hu : X.A.units + 64 < cLine) (hN : X.N.Nodup) (hi : PI X tg iter wi) (ok : BlkOk X.N X.env.scope scope own)
    (hg : ∀ (s : Shared) (H : Hp) (C : Addr) (cl : List (Str × Addr)) (fp : List Addr), PG (X.blk s H scope (compEnvC scope cl C X.env) fp) tg g) (ht : ∀ (s : Shared) (H : Hp) (C : Addr) (cl : List (Str × Addr)) (fp : List Addr), PTs (X.blk s H scope (compEnvC scope cl C X.env) fp) ifs tt)
    (he : ∀ (s : Shared) (H : Hp) (C : Addr) (cl : List (Str × Addr)) (fp : List Addr), PE (X.blk s H scope (compEnvC scope cl C X.env) fp) elt te) (hP : X.prog = P := by rfl) (hw : X.w = w := by rfl) (hs : ∀ x, foldedSetIterable iter X.env x = pure x := by intro _; rfl) :
    PE X (.SetComp elt [⟨tg, iter, ifs, 0⟩] scope pos) (tSn P w wi g tt te (own.map (·.2))) := by
  subst hP hw
  exact pe_sn hc hu hN hi ok hg ht he hs
theorem cr_sumK (hc : X.calm = true) (hK : X.K = K := by rfl) : CallR X (.builtin "sum") (rSum K) := by
  subst hK
  exact cr_sum hc
theorem cr_sortedIK (hK : X.K = K := by rfl) : CallR X (.builtin "sorted") (rSortedI K) := by
  subst hK
  exact cr_sortedI
end

/-! ### the turns of a comprehension, whatever is done in each -/
section
variable {K : PySem.W.Frag} {a b : Addr} {xs ys : List V} {H0 : Hp} {Qd : Hp → Prop} {Body : (Hp → Prop) → V → Hp → Prop}
/-- what tLc, tSn, tDc ask of an iterator J -/
def Turns (J : It) (Body : (Hp → Prop) → V → Hp → Prop) (H0 : Hp) (Qd : Hp → Prop) : Prop := ∃ W : Nat → Nat → Hp → Prop, (∃ m, W 0 m H0) ∧ ∀ i m H, W i m H →
  (J.stop i H ∧ Qd H) ∨ (J.go i H ∧ ∃ Nx : Hp → Prop, (∀ H', Nx H' → ∃ m', m' < m ∧ W (i + 1) m' H') ∧ ∀ x H', J.yld i H x H' → Body Nx x H')
theorem turns_list (Pv : Nat → Hp → Prop) (h0 : Pv 0 H0) (hl : ∀ i H, i ≤ xs.length → Pv i H → SqL K H a xs) (hs : ∀ i x H, xs[i]? = some x → Pv i H → Body (Pv (i + 1)) x H) (hd : ∀ H, Pv xs.length H → Qd H) : Turns (Itl K a) Body H0 Qd := by
  refine ⟨fun i m H => m = xs.length - i ∧ i ≤ xs.length ∧ Pv i H, ⟨xs.length, by simp, Nat.zero_le _, h0⟩, ?_⟩
  rintro i m H ⟨rfl, hi, p⟩
  have q := hl i H hi p
  by_cases hlt : i < xs.length
  · refine .inr ⟨⟨xs, xs[i], q, by simp [hlt]⟩, Pv (i + 1), fun H' p' => ⟨xs.length - (i + 1), by omega, rfl, hlt, p'⟩, fun x H' y => ?_⟩
    obtain ⟨e, y⟩ := y
    subst e
    exact hs i x _ (y xs q) p
  · have e : i = xs.length := by omega
    subst e
    exact .inl ⟨⟨xs, q, Nat.le_refl _⟩, hd H p⟩
theorem turns_zip (hl : xs.length = ys.length) (Pv : Nat → Hp → Prop) (h0 : Pv 0 H0) (hq : ∀ i H, i ≤ xs.length → Pv i H → H a = some (.tup xs) ∧ H b = some (.tup ys))
    (hs : ∀ i x y T H, xs[i]? = some x → ys[i]? = some y → Pv i H → H T = none → Body (Pv (i + 1)) (.ref T) (upd H T (.tup [x, y]))) (hd : ∀ H, Pv xs.length H → Qd H) : Turns (RZ.ItzT K a b) Body H0 Qd := by
  refine ⟨fun i m H => m = xs.length - i ∧ i ≤ xs.length ∧ Pv i H, ⟨xs.length, by simp, Nat.zero_le _, h0⟩, ?_⟩
  rintro i m H ⟨rfl, hi, p⟩
  obtain ⟨q1, q2⟩ := hq i H hi p
  have qx : SqT K H a xs := SqT.of q1
  have qy : SqT K H b ys := SqT.of q2
  by_cases hlt : i < xs.length
  · have hx : xs[i]? = some xs[i] := List.getElem?_eq_getElem hlt
    have hlt2 : i < ys.length := by omega
    have hy : ys[i]? = some ys[i] := List.getElem?_eq_getElem hlt2
    refine .inr ⟨⟨xs, ys, _, _, qx, qy, hx, hy⟩, Pv (i + 1), fun H' p' => ⟨xs.length - (i + 1), by omega, rfl, hlt, p'⟩, fun v H' y => ?_⟩
    obtain ⟨T, x', y', rfl, hT, rfl, f1, f2⟩ := y
    exact hs i x' y' T H (f1 xs qx) (f2 ys qy) p hT
  · have e : i = xs.length := by omega
    subst e
    exact .inl ⟨⟨xs, ys, qx, qy, Or.inl (Nat.le_refl _)⟩, hd H p⟩
end
section
variable {H0 : Hp} {Qd : Hp → Prop} {Body : (Hp → Prop) → V → Hp → Prop} {d : Addr} {o : Obj} {kvs : List (Key × V)}
theorem turns_vals (Pv : Nat → Hp → Prop) (h0 : Pv 0 H0) (hl : ∀ i H, i ≤ kvs.length → Pv i H → H d = some (.frz o (.dK kvs))) (hs : ∀ i k x H, kvs[i]? = some (k, x) → Pv i H → Body (Pv (i + 1)) x H) (hd : ∀ H, Pv kvs.length H → Qd H) : Turns (Itd d o kvs) Body H0 Qd := by
  refine ⟨fun i m H => m = kvs.length - i ∧ i ≤ kvs.length ∧ Pv i H, ⟨kvs.length, by simp, Nat.zero_le _, h0⟩, ?_⟩
  rintro i m H ⟨rfl, hi, p⟩
  have q := hl i H hi p
  by_cases hlt : i < kvs.length
  · refine .inr ⟨⟨q, hlt⟩, Pv (i + 1), fun H' p' => ⟨kvs.length - (i + 1), by omega, rfl, hlt, p'⟩, fun x H' y => ?_⟩
    obtain ⟨rfl, k, hk⟩ := y
    exact hs i k x _ hk p
  · have e : i = kvs.length := by omega
    subst e
    exact .inl ⟨⟨q, Nat.le_refl _⟩, hd H p⟩
theorem turns_keys (Pv : Nat → Hp → Prop) (h0 : Pv 0 H0) (hl : ∀ i H, i ≤ kvs.length → Pv i H → H d = some (.frz o (.dK kvs))) (hs : ∀ i k x H, kvs[i]? = some (k, x) → Pv i H → Body (Pv (i + 1)) (kV k) H) (hd : ∀ H, Pv kvs.length H → Qd H) : Turns (Itk d o kvs) Body H0 Qd := by
  refine ⟨fun i m H => m = kvs.length - i ∧ i ≤ kvs.length ∧ Pv i H, ⟨kvs.length, by simp, Nat.zero_le _, h0⟩, ?_⟩
  rintro i m H ⟨rfl, hi, p⟩
  have q := hl i H hi p
  by_cases hlt : i < kvs.length
  · refine .inr ⟨⟨q, hlt⟩, Pv (i + 1), fun H' p' => ⟨kvs.length - (i + 1), by omega, rfl, hlt, p'⟩, fun x H' y => ?_⟩
    obtain ⟨rfl, k, v, hk, rfl⟩ := y
    exact hs i k v _ hk p
  · have e : i = kvs.length := by omega
    subst e
    exact .inl ⟨⟨q, Nat.le_refl _⟩, hd H p⟩
end
section
variable {K : PySem.W.Frag} {σ : L2.St} {H : Hp} {Q : VK} {P : Program} {w : World}
/-! ### zip of two tuples -/
def ZipR (K : PySem.W.Frag) (vs : List V) (H1 : Hp) (R : It → Hp → Prop) : Prop := ∃ a b xs ys, vs = [.ref a, .ref b] ∧ ((SqL K H1 a xs ∧ SqL K H1 b ys ∧ R (Itz K a b) H1) ∨ (SqT K H1 a xs ∧ SqT K H1 b ys ∧ R (RZ.ItzT K a b) H1))
def ForR (g : TG) (tb : TS) (D : Ends) (σ : L2.St) (J : It) (H1 : Hp) : Prop := ∃ W : Nat → Nat → L2.St → Hp → Prop, (∃ m, W 0 m σ H1) ∧ ∀ i m σ H, W i m σ H →
  (J.stop i H ∧ D.nx σ H) ∨ (J.go i H ∧ ∃ N : L2.St → Hp → Prop, (∀ σ' H', N σ' H' → ∃ m', m' < m ∧ W (i + 1) m' σ' H') ∧ ∀ x H', J.yld i H x H' → g x σ H' fun σ2 H2 => tb { D with nx := N, ct := N, bk := D.nx } σ2 H2)
theorem w_zipF {ta : TA} {g : TG} {tb : TS} {D : Ends} (q : ta σ H fun vs H1 => ZipR K vs H1 (ForR g tb D σ)) : tFor (RZ.iZipA K ta) g tb D σ H := q
theorem w_zipT {g : TG} {tb : TS} {D : Ends} {a b : Addr} {xs ys : List V} (ha : H a = some (.tup xs)) (hb : H b = some (.tup ys)) (hl : xs.length = ys.length) (Pv : Nat → L2.St → Hp → Prop) (h0 : Pv 0 σ H) (hq : ∀ i σ H, Pv i σ H → H a = some (.tup xs) ∧ H b = some (.tup ys))
    (hs : ∀ (i : Nat) (x y : V) (T : Addr) (σ : L2.St) (H : Hp), xs[i]? = some x → ys[i]? = some y → Pv i σ H → H T = none → g (.ref T) σ (upd H T (.tup [x, y])) fun σ2 H2 => tb { D with nx := Pv (i + 1), ct := Pv (i + 1), bk := D.nx } σ2 H2) (hd : ∀ σ H, Pv xs.length σ H → D.nx σ H) :
    ZipR K [.ref a, .ref b] H (ForR g tb D σ) := ⟨a, b, xs, ys, rfl, .inr ⟨SqT.of ha, SqT.of hb, RZ.for_zipT hl Pv h0 (fun i σ H p => ⟨SqT.of (hq i σ H p).1, SqT.of (hq i σ H p).2⟩) hs hd⟩⟩
/-! ### comprehensions by their turns -/
def LcBody (g : TG) (tt : TT) (te : TE) (vs : List Nat) (σ : L2.St) (D : Addr) (Nx : Hp → Prop) (x : V) (H' : Hp) : Prop := g x (wipe σ vs) H' fun σ2 H2 => wipe σ2 vs = wipe σ vs ∧ tt σ2 H2 fun b H3 =>
    if b = true then te σ2 H3 fun y H4 => ∃ acc, H4 D = some (.lst acc) ∧ acc.length < sizeLine ∧ Nx (upd H4 D (.lst (acc ++ [y]))) else Nx H3
def LcR (g : TG) (tt : TT) (te : TE) (vs : List Nat) (σ : L2.St) (Q : VK) (J : It) (H1 : Hp) : Prop := ∀ D, H1 D = none → Turns J (LcBody g tt te vs σ D) (upd H1 D (.lst [])) fun H => Q (.ref D) H
theorem w_lcZ {ta : TA} {g : TG} {tt : TT} {te : TE} {vs : List Nat} (q : ta σ H fun us H1 => ZipR K us H1 (LcR g tt te vs σ Q)) : tLc (RZ.iZipA K ta) g tt te vs σ H Q := q
theorem w_lcZT {g : TG} {tt : TT} {te : TE} {vs : List Nat} {a b : Addr} {xs ys : List V} (ha : H a = some (.tup xs)) (hb : H b = some (.tup ys)) (hl : xs.length = ys.length) (Pv : Addr → Nat → Hp → Prop) (h0 : ∀ D, H D = none → Pv D 0 (upd H D (.lst [])))
    (hq : ∀ D i H, i ≤ xs.length → Pv D i H → H a = some (.tup xs) ∧ H b = some (.tup ys)) (hs : ∀ D i x y T H, xs[i]? = some x → ys[i]? = some y → Pv D i H → H T = none → LcBody g tt te vs σ D (Pv D (i + 1)) (.ref T) (upd H T (.tup [x, y]))) (hd : ∀ D H, Pv D xs.length H → Q (.ref D) H) :
    ZipR K [.ref a, .ref b] H (LcR g tt te vs σ Q) := ⟨a, b, xs, ys, rfl, .inr ⟨SqT.of ha, SqT.of hb, fun D hD => turns_zip hl (Pv D) (h0 D hD) (hq D) (hs D) (hd D)⟩⟩
def SnBody (P : Program) (w : World) (g : TG) (tt : TT) (te : TE) (vs : List Nat) (σ : L2.St) (D : Addr) (Nx : Hp → Prop) (x : V) (H' : Hp) : Prop := g x (wipe σ vs) H' fun σ2 H2 => wipe σ2 vs = wipe σ vs ∧ tt σ2 H2 fun b H3 =>
    if b = true then te σ2 H3 fun y H4 => ∃ (L : List (NestedKey × Addr)) (p : NestedKey × Addr), y = .ref p.2 ∧ H4 D = some (SN P w D L) ∧ (∀ e ∈ L, ElN H4 e) ∧ ElN H4 p ∧ L.length + 1 < 64 ∧ ∀ L', AddN L p L' → Nx (upd H4 D (SN P w D L')) else Nx H3
def SnR (P : Program) (w : World) (g : TG) (tt : TT) (te : TE) (vs : List Nat) (σ : L2.St) (Q : VK) (J : It) (H1 : Hp) : Prop := ∀ D, H1 D = none → Turns J (SnBody P w g tt te vs σ D) (upd H1 D (SN P w D [])) fun H => Q (.ref D) H
def ListR (K : PySem.W.Frag) (x : V) (H1 : Hp) (R : It → Hp → Prop) : Prop := ∃ a, x = .ref a ∧ (∃ xs, SqL K H1 a xs) ∧ R (Itl K a) H1
theorem w_snL {tl : TE} {g : TG} {tt : TT} {te : TE} {vs : List Nat} (q : tl σ H fun x H1 => ListR K x H1 (SnR P w g tt te vs σ Q)) : tSn P w (iList K tl) g tt te vs σ H Q := q
theorem w_listR {a : Addr} {xs : List V} {R : It → Hp → Prop} (h : SqL K H a xs) (q : R (Itl K a) H) : ListR K (.ref a) H R := ⟨a, rfl, ⟨xs, h⟩, q⟩
theorem w_star {te : TE} {t : TA} {Q : List V → Hp → Prop} (q : te σ H fun x H1 => ∃ p xs, x = V.ref p ∧ (SqT K H1 p xs ∨ SqL K H1 p xs) ∧ t σ H1 fun ys H2 => Q (xs ++ ys) H2) : StX.tStar K te t σ H Q := q
/-! ### dicts: values, keys, locked; get, pop, setdefault with a default -/
def ValR (x : V) (H1 : Hp) (R : It → Hp → Prop) : Prop := ∃ d o kvs, x = .ref d ∧ H1 d = some (.frz o (.dK kvs)) ∧ R (Itd d o kvs) H1
theorem w_lcV {td : TE} {g : TG} {tt : TT} {te : TE} {vs : List Nat} (q : td σ H fun x H1 => ValR x H1 (LcR g tt te vs σ Q)) : tLc (iVals td) g tt te vs σ H Q := q
theorem w_valR {d : Addr} {o : Obj} {kvs : List (Key × V)} {R : It → Hp → Prop} (h : H d = some (.frz o (.dK kvs))) (q : R (Itd d o kvs) H) : ValR (.ref d) H R := ⟨d, o, kvs, rfl, h, q⟩
def KeyR (x : V) (H1 : Hp) (R : It → Hp → Prop) : Prop := ∃ d o, x = .ref d ∧ ((∃ kvs, H1 d = some (.frz o (.dK kvs)) ∧ R (Itk d o kvs) H1) ∨ ∃ kvs, H1 d = some (.frz o (.dT kvs)) ∧ R (Itkt d o kvs) H1)
theorem w_lcK {td : TE} {g : TG} {tt : TT} {te : TE} {vs : List Nat} (q : td σ H fun x H1 => KeyR x H1 (LcR g tt te vs σ Q)) : tLc (iKeys td) g tt te vs σ H Q := q
theorem w_keyR {d : Addr} {o : Obj} {kvs : List (Key × V)} {R : It → Hp → Prop} (h : H d = some (.frz o (.dK kvs))) (q : R (Itk d o kvs) H) : KeyR (.ref d) H R := ⟨d, o, rfl, .inl ⟨kvs, h, q⟩⟩
def DcBody (g : TG) (tt : TT) (tk tv : TE) (vs : List Nat) (σ : L2.St) (D : Addr) (Nx : Hp → Prop) (x : V) (H' : Hp) : Prop := g x (wipe σ vs) H' fun σ2 H2 => wipe σ2 vs = wipe σ vs ∧ tt σ2 H2 fun b H3 =>
    if b = true then tk σ2 H3 fun y H4 => tv σ2 H4 fun z H5 => ∃ kvs k, y = kV k ∧ H5 D = some (.dK kvs) ∧ kvs.length < sizeLine ∧ Nx (upd H5 D (.dK (putK kvs k z))) else Nx H3
def DcR (g : TG) (tt : TT) (tk tv : TE) (vs : List Nat) (σ : L2.St) (Q : VK) (J : It) (H1 : Hp) : Prop := ∀ D, H1 D = none → Turns J (DcBody g tt tk tv vs σ D) (upd H1 D (.dK [])) fun H => Q (.ref D) H
theorem w_dcK {td : TE} {g : TG} {tt : TT} {tk tv : TE} {vs : List Nat} (q : td σ H fun x H1 => KeyR x H1 (DcR g tt tk tv vs σ Q)) : tDc (iKeys td) g tt tk tv vs σ H Q := q
theorem w_lockE {B : Hp} {L : List (Addr × HO)} {L' : Obj → List (Addr × HO)} {d : Addr} {kvs : List (Key × V)} {t : TE} (hs : Hs B L H) (h : ∀ od, Put L d (.dK kvs) (.frz od (.dK kvs)) (L' od)) (q : ∀ od H', Hs B (L' od) H' → t σ H' fun v H2 => H2 d = some (.frz od (.dK kvs)) ∧ Q v (upd H2 d (.dK kvs))) : tLockE t σ H Q :=
  ⟨d, .dK kvs, hs.gets (h default), True.intro, fun od => q od _ (hs.puts (h od))⟩
def RDg2 (a : Addr) (y z : V) (H : Hp) (Q : VK) : Prop := ∃ o, DGet H a y o ∧ Q (o.getD z) H
theorem w_dget2 {td ty tx : TE} (q : td σ H fun x H1 => RPopA x H1 fun a => ty σ H1 fun y H2 => tx σ H2 fun z H3 => RDg2 a y z H3 Q) : tDGet2 td ty tx σ H Q := q
theorem w_dg2 {p : Addr} {kvs : List (Key × V)} {n : Int} {z : V} (h : H p = some (.dK kvs)) (q : Q ((valV kvs (Sum.inl n)).getD z) H) : RDg2 p (.int n) z H Q := ⟨_, DGet.k (k := Sum.inl n) h, q⟩
def RPop2 (a : Addr) (y z : V) (H : Hp) (Q : VK) : Prop := ∃ kvs k, H a = some (.dK kvs) ∧ y = kV k ∧ (∀ v, valV kvs k = some v → Q v (upd H a (.dK (dropK kvs k)))) ∧ (valV kvs k = none → Q z H)
theorem w_dpop2 {td ty tx : TE} (q : td σ H fun x H1 => RPopA x H1 fun a => ty σ H1 fun y H2 => tx σ H2 fun z H3 => RPop2 a y z H3 Q) : tDPop2 td ty tx σ H Q := q
theorem w_pop2 {B : Hp} {L L' : List (Addr × HO)} {p : Addr} {kvs : List (Key × V)} {n : Int} {z : V} (hs : Hs B L H) (h : Put L p (.dK kvs) (.dK (dropK kvs (Sum.inl n))) L') (q1 : ∀ v H', valV kvs (Sum.inl n) = some v → Hs B L' H' → Q v H') (q2 : valV kvs (Sum.inl n) = none → Q z H) : RPop2 p (.int n) z H Q :=
  ⟨kvs, Sum.inl n, hs.gets h, rfl, fun v e => q1 v _ e (hs.puts h), q2⟩
def RSetd (a : Addr) (y z : V) (H : Hp) (Q : VK) : Prop := ∃ (kvs : List (Key × V)) (k : Key), H a = some (.dK kvs) ∧ y = kV k ∧ kvs.length < sizeLine ∧ (∀ v, valV kvs k = some v → Q v H) ∧ (valV kvs k = none → Q z (upd H a (.dK (putK kvs k z))))
theorem w_dsetd {td ty tx : TE} (q : td σ H fun x H1 => RPopA x H1 fun a => ty σ H1 fun y H2 => tx σ H2 fun z H3 => RSetd a y z H3 Q) : tDSetd td ty tx σ H Q := q
/-! ### a range whose end is reckoned -/
def RngR (us : List V) (H1 : Hp) (R : It → Hp → Prop) : Prop := ∃ j : Int, us = [.int j] ∧ -(2 ^ 62) ≤ j ∧ j < 2 ^ 62 ∧ R (Itr 0 j.toNat) H1
theorem w_lcG {ta : TA} {g : TG} {tt : TT} {te : TE} {vs : List Nat} (q : ta σ H fun us H1 => RngR us H1 (LcR g tt te vs σ Q)) : tLc (iRng1 ta) g tt te vs σ H Q := q
theorem turns_range {H0 : Hp} {Qd : Hp → Prop} {Body : (Hp → Prop) → V → Hp → Prop} {n : Nat} (Pv : Nat → Hp → Prop) (h0 : Pv 0 H0) (hs : ∀ i H, i < n → Pv i H → Body (Pv (i + 1)) (.int (i : Int)) H) (hd : ∀ H, Pv n H → Qd H) : Turns (Itr 0 n) Body H0 Qd := by
  refine ⟨fun i m H => m = n - i ∧ i ≤ n ∧ Pv i H, ⟨n, by simp, Nat.zero_le _, h0⟩, ?_⟩
  rintro i m H ⟨rfl, hi, p⟩
  by_cases hlt : i < n
  · refine .inr ⟨hlt, Pv (i + 1), fun H' p' => ⟨n - (i + 1), by omega, rfl, hlt, p'⟩, fun x H' y => ?_⟩
    obtain ⟨rfl, rfl⟩ := y
    rw [show (0 : Int) + (i : Int) = (i : Int) from Int.zero_add _]
    exact hs i _ hlt p
  · have e : i = n := by omega
    subst e
    exact .inl ⟨Nat.le_refl _, hd H p⟩
theorem w_rngR {n : Int} {R : It → Hp → Prop} (h0 : 0 ≤ n) (h1 : n < 1000000) (q : R (Itr 0 n.toNat) H) : RngR [.int n] H R := ⟨n, rfl, by omega, by omega, q⟩
end
end Hb

set_option Elab.async false
set_option linter.all false
set_option maxRecDepth 100000
set_option maxHeartbeats 4000000
/-! repr of data, in a law's own body: there no display is under way, which the promise of a def does not tell; so the law's def is run where it is called. -/
namespace Hb
open PySem PySem.Spec L2 PyProof.Rows
/-- data whose text is short -/
structure Shows (d : PyData) : Prop where
  lay : d.canLay0 = true
  dep : d.depth ≤ 40
  sho : d.showable = true
  blk : d.bulk ≤ 2 ^ 20
  lvs : d.leavesShort 13 = true
def rReprD (K : PySem.W.Frag) : List V → Hp → VK → Prop := fun xs H Q => ∃ (p : Addr) (d : PyData), xs = [.ref p] ∧ Dp K H (.ref p) d ∧ Shows d ∧ Q (.str d.shown) H
theorem call_reprD {X : Cx} (hg : X.A.guards = some []) (hu : X.A.units + 64 < cLine) : CallR X (.builtin "repr") (rReprD X.K) := by
  rintro pins s σ H xs us Q I r ⟨p, d, rfl, hd, hs, q⟩
  rw [Vals.ref1 r]
  obtain ⟨as, rd⟩ := Dp.reads I d (.ref p) (.ref p) hd rfl
  have hdep := hs.dep
  refine repr_of_reads' rd hs.sho (PyData.noDict_hsm (PyData.hasDict_of_canLay d hs.lay)) hg (by omega) (fun _ _ e => e) (fun h' u tk hk => ?_) (PyData.shown_fits_bulk (B := 13) (by decide) (by decide) hs.lvs hs.blk)
  exact ⟨.str d.shown, H, I.kept (t' := tk) hk, ⟨_, rfl⟩, q⟩
theorem call_reprDK {X : Cx} {K : PySem.W.Frag} (hg : X.A.guards = some [] := by rfl) (hu : X.A.units + 64 < cLine := by assumption) (hK : X.K = K := by rfl) : CallR X (.builtin "repr") (rReprD K) := by
  subst hK
  exact call_reprD hg hu
theorem w_reprD {K : PySem.W.Frag} {H : Hp} {Q : VK} {p : Addr} {d : PyData} (h : Dp K H (.ref p) d) (hs : Shows d) (q : Q (.str d.shown) H) : rReprD K [.ref p] H Q := ⟨p, d, rfl, h, hs, q⟩

/-! ### a law's def, run where it is called -/
/-- the promise of the law's def at the call itself -/
def LawRun (P : Program) (w : World) (K : PySem.W.Frag) (mg : Str → Option Value) (base : Heap) (k : Nat)
    (f : Addr) (fd : FuncData) (ps : List Str) (sp : Sp) : Prop :=
  ∀ (s : Shared) (H : Hp) (args : Args) (us : List Value)
    (vs : List V) (Q : VK) (E : XK), Room k callerA →
    Env0 P w K mg base callerA [] s H → BindsTo s fd args (ps.zip us) →
    Vals vs us → sp vs H Q E →
    codeAny (model P w) callerA (.call (.ref f) args)
      (CR CX0 [] P w H s Q E) s
section
variable {P : Program} {w : World} {K : PySem.W.Frag} {mg : Str → Option Value} {base : Heap}
theorem law_run {x qual : Str} {st : Stmt} {f : Addr} {fd : FuncData} {N ps : List Str} {k : Nat} {sp : Sp}
    (F : Fun K x qual st f fd) (S : FnScope N ps (defScope st))
    (len : ∀ vs H Q E, sp vs H Q E → vs.length = ps.length)
    (hbody : ∀ (cdv : Value) (s : Shared) (H : Hp) (vs : List V) (Q : VK) (E : XK),
      Room k (callerA.deeper (envOfC qual (defScope st) s.heap.objs.size f cdv)) → sp vs H Q E →
      ∃ t, PSs (cxOf CX0 P w K mg base N qual (defScope st) f cdv callerA [] s H E).nox (defBody st) t ∧
        t { nx := fun _ H' => Q .non H', rt := Q } (start N vs) H) :
    LawRun P w K mg base (k + 1) f fd ps sp := by
  intro s H args us vs Q E hr en hb rv hsp
  obtain ⟨oc, od, kV, doc, pm, an, cdv, ct, osl, rfl, lk, hcd⟩ := F.ex
  have hlen := len vs H Q E hsp
  have hold : ∀ b o, base.get? b = some o → s.heap.get? b = some o := fun b o e => (en.bs b o e).1
  have kin : K.In s.heap := en.mod.kin.keeps hold
  have nolim : s.heap.NoLimit := en.mod.nolimit.keeps hold
  refine codeAny_call_function hr.depth (kin _ _ lk) rfl S.co S.gen rfl (PySem.W.codeRec_of kin hcd) (hb _ _ _ _ ?_)
  refine wpAny_newFunctionEnv_cells S.kind ?_ ?_
  · rintro ⟨n, v⟩ hy
    cases S.par n (List.of_mem_zip hy).1 with
    | inl q => exact Or.inl q
    | inr q => exact Or.inr ⟨q, PySem.W.cellsFrom_some _ _ _ (Or.inl q)⟩
  · intro env he s1 hx
    subst he
    obtain ⟨t, ht, hq⟩ := hbody cdv s H vs Q E (hr.deeper _) hsp
    have i0 := inv_start (CX := CX0) (E := E) S hr.hd en hlen rv hx
    refine ⟨nolim.keeps hx.toInCall.keep, codeAny_func ?_⟩
    refine wpAny_mono (ht.nox.run [] s1 (start N vs) H _ i0 hq) ?_ (fun _ _ q => q)
    intro fl s' hs
    cases fl with
    | ret u =>
      obtain ⟨v, σ', H', j, r1, q1⟩ := hs
      exact ⟨v, H', j.os, j.bare, j.base, j.hok, r1, q1⟩
    | next =>
      obtain ⟨σ', H', j, q1⟩ := hs
      exact ⟨.non, H', j.os, j.bare, j.base, j.hok, rfl, q1⟩
    | brk => exact (hs.choose_spec.choose_spec.2 : False).elim
    | cont => exact (hs.choose_spec.choose_spec.2 : False).elim
end

section
variable {P : Program} {w : World} {K : PySem.W.Frag} {mg mb : Str → Option Value} {k : Nat} {fa a : Addr} {fd : FuncData} {x : Str} {sp : Sp}
/-- what a law's call must show -/
def LawEnd (s₁ : Shared) (r : Result) (s' : Shared) : Prop :=
  r = .ok (.ret (.bool true)) ∧ OldK s₁.heap s'.heap ∧ s'.os = s₁.os ∧ AllBare s'.gens
/-- an abstract heap that tells at most the script, as the machine has it -/
structure Lone (P : Program) (w : World) (K : PySem.W.Frag) (a : Addr) (H : Hp) (h : Heap) : Prop where
  only : Only H
  ok : HOk P w H h
  at_ : ∀ b, H b ≠ none → b = a
  off : H a ≠ none → K.lookup a = none
theorem Lone.free {H : Hp} {s : Shared} {vs : List Value} (L : Lone P w K a H s.heap)
    (ha : s.heap.get? a = some { cls := .type "list", data := .seq vs.toArray })
    {b : Addr} {o : Obj} {es : Array DictEntry} {n : Nat}
    (e : s.heap.get? b = some o) (d : o.data = .dict es n) : H b = none := by
  apply Classical.byContradiction
  intro z
  have q := L.at_ b z
  rw [q, ha] at e
  rw [← Option.some.inj e] at d
  cases d
theorem lone_call {H : Hp} {s : Shared} {vs : List Value} {ns : List Int}
    (L : Lone P w K a H s.heap) (hin : K.In s.heap) (hm : s.heap.Ns mainGlobals mg)
    (hbn : s.heap.Ns builtinsNs mb) (hbv : ∀ y : Str, y ≠ "__name__" → mb y = bootBuiltins y)
    (hno : s.heap.NoLimit) (hgen : s.gens = #[])
    (ha : s.heap.get? a = some { cls := .type "list", data := .seq vs.toArray })
    (hS : SqL K H a (ns.map V.int)) (hr : Room k callerA)
    (F : ∀ base : Heap, K.In base → base.Ns mainGlobals mg → LawRun P w K mg base k fa fd [x] sp)
    (hbind : ∀ (s : Shared) (u : Value), BindsTo s fd ⟨[u], []⟩ [(x, u)])
    (hsp : sp [.ref a] H (fun v _ => v = .bl true) fun _ _ _ => False) :
    codeAny (model P w) callerA (.call (.ref fa) ⟨[.ref a], []⟩) (LawEnd s) s := by
  have keepNs : ∀ {b : Addr} {m : Str → Option Value}, s.heap.Ns b m → (hidT s.heap H).Ns b m := by
    rintro b m ⟨o, es, n, e, d, rest⟩
    exact ⟨o, es, n, hidT_get e (L.free ha e d), d, rest⟩
  have keepK : K.In (hidT s.heap H) := by
    intro b o e
    refine hidT_get (hin b o e) ?_
    apply Classical.byContradiction
    intro z
    have q := L.at_ b z
    rw [q] at e z
    exact absurd ((L.off z).symm.trans e) (by simp)
  have mod : Mod K mg (hidT s.heap H) := by
    obtain ⟨mc, c1, c2⟩ := hno
    exact ⟨keepK, keepNs hm, ⟨mb, keepNs hbn, hbv⟩, mc, keepNs c1, c2⟩
  have none_in : ∀ b : Addr, b ∉ frs ([] : List Env) := fun b z => by
    have z2 : b ∈ ([] : List Addr) := z
    cases z2
  have en : Env0 P w K mg (hidT s.heap H) callerA [] s H := {
    frames := rfl
    mod := mod
    bs := fun b o e => of_hidT e
    bsz := Nat.le_of_eq (hidT_size _ _)
    funs := trivial
    frf := fun b z => (none_in b z).elim
    hok := L.ok
    bare := .of_eq hgen }
  have run := F _ keepK (keepNs hm) s H ⟨[.ref a], []⟩ [.ref a] [.ref a] _ _ hr en
    (hbind s (.ref a)) (.cons rfl .nil) hsp
  refine codeAny_mono run ?_
  intro r s' done
  match r, done with
  | .ok (.ret u), done =>
    obtain ⟨v, H', os, bare, un, ok', rel, hv⟩ := done
    have hv' : v = .bl true := hv
    rw [hv'] at rel
    have hu : u = Value.bool true := rel
    refine ⟨by rw [hu], OldK.of_keep ?_, os, bare⟩
    intro b o e
    rcases L.only b with z | ⟨ob, xs, z⟩
    · exact un.keep b o e z (none_in b) List.not_mem_nil
    · have e1 := (L.ok b _ z).1
      have e2 := (ok' b _ (un.frzs b ob _ z)).1
      rw [e1] at e
      rw [← e]
      exact e2
  | .error e, done => exact (show False from done).elim
  | .ok .next, done => exact (show False from done).elim
  | .ok .brk, done => exact (show False from done).elim
  | .ok .cont, done => exact (show False from done).elim
theorem law_at_call {s : Shared} {vs : List Value} {ns : List Int}
    (hin : K.In s.heap) (hm : s.heap.Ns mainGlobals mg) (hbn : s.heap.Ns builtinsNs mb)
    (hbv : ∀ y : Str, y ≠ "__name__" → mb y = bootBuiltins y) (hno : s.heap.NoLimit) (hgen : s.gens = #[])
    (ha : s.heap.get? a = some { cls := .type "list", data := .seq vs.toArray })
    (hi : IntsAre vs ns) (hl : ns.length ≤ sizeLine) (hr : Room k callerA)
    (F : ∀ base : Heap, K.In base → base.Ns mainGlobals mg → LawRun P w K mg base k fa fd [x] sp)
    (hbind : ∀ (s : Shared) (u : Value), BindsTo s fd ⟨[u], []⟩ [(x, u)])
    (hsp : ∀ H : Hp, Only H → SqL K H a (ns.map V.int) → sp [.ref a] H (fun v _ => v = .bl true) fun _ _ _ => False) :
    codeAny (model P w) callerA (.call (.ref fa) ⟨[.ref a], []⟩) (LawEnd s) s := by
  have rv := vals_ints hi
  cases hk : K.lookup a with
  | some o =>
    have e := hin a o hk
    rw [ha] at e
    have eo := Option.some.inj e
    subst eo
    have L : Lone P w K a (fun _ => none) s.heap :=
      ⟨fun _ => Or.inl rfl, fun _ u z => absurd (show none = some u from z) (by simp), fun _ z => (z rfl).elim, fun z => (z rfl).elim⟩
    have hS : SqL K (fun _ => none) a (ns.map V.int) :=
      Or.inr ⟨_, vs.toArray, _, hk, rfl, rfl, rfl, by rw [List.size_toArray, hi.length]; exact hl, by simpa using rv⟩
    exact lone_call L hin hm hbn hbv hno hgen ha hS hr F hbind (hsp _ L.only hS)
  | none =>
    let fz : HO := .frz { cls := .type "list", data := .seq vs.toArray } (.lst (ns.map V.int))
    have self : upd (fun _ => none) a fz a = some fz := upd_same
    have others : ∀ b, b ≠ a → upd (fun _ => none) a fz b = none := fun b n => upd_ne n
    have L : Lone P w K a (upd (fun _ => none) a fz) s.heap := by
      refine ⟨fun b => ?_, fun b u z => ?_, fun b z => ?_, fun _ => hk⟩
      · by_cases q : b = a
        · rw [q]
          exact Or.inr ⟨_, _, self⟩
        · exact Or.inl (others b q)
      · by_cases q : b = a
        · rw [q] at z ⊢
          have z2 := Option.some.inj (self.symm.trans z)
          subst z2
          exact ⟨ha, by rw [List.length_map]; exact hl, vs, _, rv, ha⟩
        · exact absurd ((others b q).symm.trans z) (by simp)
      · exact Classical.byContradiction fun q => z (others b q)
    have hS : SqL K (upd (fun _ => none) a fz) a (ns.map V.int) := Or.inl (Or.inr ⟨_, self⟩)
    exact lone_call L hin hm hbn hbv hno hgen ha hS hr F hbind (hsp _ L.only hS)
end
/-- the end of a law row from the law's run -/
theorem walk_run {l : PySem.W.OpenLaw} {n k : Nat} {q : Program} {loose : List Str} {XP : (Str → Option Value) → Heap → Prop}
    {YP : World → Heap → Prop} {d : DefRec} {K : Params → PySem.W.Frag} {sp : World → Sp} {x : Str}
    (hn : l.most = some n) (hn2 : n ≤ sizeLine) (hdf : d.params.defaults = []) (hr : Room k callerA)
    (hY : ∀ (w : World) (h : Heap), YP w h → (K w.params).In h)
    (F : ∀ (w : World) (mg : Str → Option Value) (fa : Addr) (h : Heap),
      (K w.params).In h → h.Ns mainGlobals mg → mg d.name = some (.ref fa) →
      ∃ fd : FuncData, (∀ (s : Shared) (u : Value), BindsTo s fd ⟨[u], []⟩ [(x, u)]) ∧
        ∀ base : Heap, (K w.params).In base → base.Ns mainGlobals mg →
          LawRun l.prog w (K w.params) mg base k fa fd [x] (sp w))
    (hsp : ∀ (w : World) (H : Hp) (a : Addr) (ns : List Int), ns.length ≤ n → Only H →
      SqL (K w.params) H a (ns.map V.int) → sp w [.ref a] H (fun v _ => v = .bl true) fun _ _ _ => False) :
    PySem.W.WalkO q loose XP YP l.row.toRowW d [] (fun f vs => PySem.call f vs) := by
  refine Att.attach_call hn hdf ?_
  intro w s₀ s₁ mg mb fa o pm cd doc a vs ns G Y _ _ _ hmg hobj hints hlen hgen
  have hin := hY w _ Y
  obtain ⟨fd, hb, hF⟩ := F w mg fa _ hin G.T.g hmg
  exact law_at_call hin G.T.g G.T.b G.T.builtins G.T.nolimit hgen hobj hints
    (Nat.le_trans hlen hn2) hr hF hb fun H hO hS => hsp w H a ns hlen hO hS
end Hb

set_option Elab.async false
set_option linter.all false
set_option maxRecDepth 100000
set_option maxHeartbeats 4000000
/-! More of dicts with nested tuple keys: get with and without a default, list(d); tuples joined, whatever they are; truth of lists of bools. -/
namespace Hb
open PySem L2 PyProof.Rows
section
variable {X : Cx} {w : World} {o e f : Expr} {apos cpos : Pos} {td ty tx : TE}
def rNG (w : World) (x y z : V) (H : Hp) (Q : VK) : Prop := ∃ a b es k, AtN w H x y a b es k ∧ Q ((atN es k).getD z) H
def tNGet1 (w : World) (td ty : TE) : TE := fun σ H Q => td σ H fun x H1 => (∃ a es, x = .ref a ∧ H1 a = some (DN w a es)) ∧ ty σ H1 fun y H2 => rNG w x y .non H2 Q
def tNGet2 (w : World) (td ty tx : TE) : TE := fun σ H Q => td σ H fun x H1 => (∃ a es, x = .ref a ∧ H1 a = some (DN w a es)) ∧ ty σ H1 fun y H2 => tx σ H2 fun z H3 => rNG w x y z H3 Q
theorem pe_nget1 (hu : X.A.units + 64 < cLine) (ho : PE X o td) (he : PE X e ty) (m : M1 X o "get" apos e cpos) (hw : X.w = w := by rfl) : PE X (.Call (.Attribute o "get" apos) [e] [] cpos) (tNGet1 w td ty) := by
  refine ⟨fun pins s σ H Q I h => ?_⟩
  refine wpAny_Call_method m.base m.few m.line PySem.F.plainAttrs_dict PySem.F.slot_dict_get PySem.F.type_dict_get (thn (ho.run pins s σ H _ I h) ?_)
  rintro u s1 ⟨x, H1, I1, rx, ⟨a0, es0, rfl, ea⟩, q1⟩
  obtain rfl : u = Value.ref a0 := rx
  subst hw
  obtain ⟨t1, t2⟩ := dn_type I1 ea
  have hd0 : (a0 == sysModules) = false := (show ObjOk X.prog X.w H1 s1.heap a0 (DN X.w a0 es0) from I1.hok _ _ ea).1.2.1
  refine ⟨t1, t2, ?_⟩
  rw [m.trees]
  refine wpAny_dict_get1_heap (knd := nestedKind X.prog X.w) (n_room hu) hd0 (thn (he.run pins s1 σ H1 _ I1 q1) ?_)
  rintro iv s2 ⟨y, H2, I2, ry, a, b, es, k, g, q2⟩
  obtain ⟨z, hd, xs, rr, dd, hk⟩ := g.dn I2 rfl
  cases g.ex
  cases g.ey
  refine ⟨b, k, xs, ry, hk, dd, ?_⟩
  exact ⟨_, H2, I2.tok _, (rr.at k).getD (show RelV .non .none from rfl), q2⟩
theorem pe_nget2 (hu : X.A.units + 64 < cLine) (ho : PE X o td) (he : PE X e ty) (hf : PE X f tx) (m : M2 X o "get" apos e f cpos) (hw : X.w = w := by rfl) : PE X (.Call (.Attribute o "get" apos) [e, f] [] cpos) (tNGet2 w td ty tx) := by
  refine ⟨fun pins s σ H Q I h => ?_⟩
  refine wpAny_Call_method m.base m.few m.line PySem.F.plainAttrs_dict PySem.F.slot_dict_get PySem.F.type_dict_get (thn (ho.run pins s σ H _ I h) ?_)
  rintro u s1 ⟨x, H1, I1, rx, ⟨a0, es0, rfl, ea⟩, q1⟩
  obtain rfl : u = Value.ref a0 := rx
  subst hw
  obtain ⟨t1, t2⟩ := dn_type I1 ea
  have hd0 : (a0 == sysModules) = false := (show ObjOk X.prog X.w H1 s1.heap a0 (DN X.w a0 es0) from I1.hok _ _ ea).1.2.1
  refine ⟨t1, t2, ?_⟩
  rw [m.trees]
  refine wpAny_dict_get2_heap (knd := nestedKind X.prog X.w) (n_room hu) hd0 (thn (he.run pins s1 σ H1 _ I1 q1) ?_)
  rintro iv s2 ⟨y, H2, I2, ry, q2⟩
  refine thn (hf.run pins s2 σ H2 _ I2 q2) ?_
  rintro fv s3 ⟨z0, H3, I3, rz, a, b, es, k, g, q3⟩
  obtain ⟨z, hd, xs, rr, dd, hk⟩ := g.dn I3 rfl
  cases g.ex
  cases g.ey
  refine ⟨b, k, xs, ry, hk, dd, ?_⟩
  exact ⟨_, H3, I3.tok _, (rr.at k).getD rz, q3⟩
/-- list(d) -/
def rListN (w : World) : List V → Hp → VK → Prop := fun xs H Q => ∃ (p : Addr) (es : List Ent), xs = [.ref p] ∧ H p = some (DN w p es) ∧ ∀ q, H q = none → Q (.ref q) (upd H q (.lst (es.map fun e => V.ref e.2.1)))
theorem call_listN (hc : X.calm = true) (hw : X.w = w := by rfl) : CallR X (.type "list") (rListN w) := by
  subst hw
  rintro pins s σ H xs us Q I r ⟨p, es, rfl, hp, q⟩
  rw [Vals.ref1 r]
  obtain ⟨⟨z, lo, vs, rel, ob, ds, ep, h1, h2, h3, h4, h5⟩, _, _⟩ := (show ObjOk X.prog X.w H s.heap p (DN X.w p es) from I.hok _ _ hp)
  have hsz : ds.size = es.length := by
    rw [← Array.length_toList, h4, List.length_map, rel.len]
  refine PySem.W.kdl_call (kdl_raw lo h2 h3) (I.ok.hd hc) h1 (by rw [hsz]; exact z) fun h' tk acc c hk hS hacc => ?_
  have hac : acc.toList = es.map fun e => Value.ref e.2.1 := by
    refine List.ext_getElem? fun j => ?_
    rw [List.getElem?_map]
    cases e1 : acc.toList[j]? with
    | none =>
      have g1 := List.getElem?_eq_none_iff.mp e1
      rw [Array.length_toList, hacc.1, hsz] at g1
      rw [List.getElem?_eq_none g1]
      rfl
    | some v =>
      obtain ⟨en, g1, g2⟩ := hacc.2 j v (by rw [← Array.getElem?_toList]; exact e1)
      rw [← Array.getElem?_toList, h4, List.getElem?_map] at g1
      obtain ⟨x, g3, g4⟩ := Option.map_eq_some_iff.mp g1
      have g5 := congrArg (fun l => l[j]?) rel.addrs
      simp only [List.getElem?_map, g3] at g5
      rw [g2, ← g4]
      cases e2 : es[j]? with
      | none =>
        rw [e2] at g5
        simp at g5
      | some y =>
        rw [e2] at g5
        simp only [Option.map_some, Option.some.injEq, Value.ref.injEq] at g5
        simp only [Option.map_some, entN, g5]
  have vals : ∀ l : List Ent, Vals (l.map fun e => V.ref e.2.1) (l.map fun e => Value.ref e.2.1) := fun l => by
    induction l with
    | nil => exact .nil
    | cons e l ih => exact .cons rfl ih
  refine ⟨.ref s.heap.objs.size, upd H s.heap.objs.size (.lst (es.map fun e => V.ref e.2.1)), I.laid hk (Nat.le_refl _) (show ObjOk X.prog X.w _ _ _ (.lst (es.map fun e => V.ref e.2.1)) from ⟨by rw [List.length_map]; exact z, acc.toList, c, ?_, hS⟩), rfl, q _ (I.hok.fresh (Nat.le_refl _))⟩
  rw [hac]
  exact vals es
theorem op_catAK {K : PySem.W.Frag} (hK : X.K = K := by rfl) : OpR X (binaryOp .Add) (rCatA K) := by
  subst hK
  exact op_catA
theorem sl_tupAK {K : PySem.W.Frag} (hK : X.K = K := by rfl) : SlR X (rSlA K) := by
  subst hK
  exact sl_tupA
theorem ix_kdictK {K : PySem.W.Frag} (hK : X.K = K := by rfl) (hw : X.w = w := by rfl) : IxR X (rIxD K w) := by
  subst hK hw
  exact ix_kdict
theorem cr_allK {K : PySem.W.Frag} (hc : X.calm = true) (hK : X.K = K := by rfl) : CallR X (.builtin "all") (rAll K) := by
  subst hK
  exact cr_all hc
theorem cr_anyK {K : PySem.W.Frag} (hc : X.calm = true) (hK : X.K = K := by rfl) : CallR X (.builtin "any") (rAny K) := by
  subst hK
  exact cr_any hc
theorem cr_minK {K : PySem.W.Frag} (hc : X.calm = true) (hK : X.K = K := by rfl) : CallR X (.builtin "min") (rMin K) := by
  subst hK
  exact cr_min hc
theorem cr_maxK {K : PySem.W.Frag} (hc : X.calm = true) (hK : X.K = K := by rfl) : CallR X (.builtin "max") (rMax K) := by
  subst hK
  exact cr_max hc
end
end Hb

set_option Elab.async false
set_option linter.all false
set_option maxRecDepth 100000
set_option maxHeartbeats 4000000
/-! Dicts whose keys are tuples of ints and of flat tuples of ints, with any values: a plain list of pairs. -/
namespace Hb
open PySem L2 PyProof.Rows
abbrev IK := List Itm
abbrev GM := List (IK × V)
theorem nkI_depth (x : Itm) : (nkI x).depth ≤ 3 := by
  cases x with
  | inl i => simp [nkI, NestedKey.depth]
  | inr ns =>
    have h : ∀ l : List Int, NestedKey.depthAll (l.map NestedKey.num) ≤ 1 := fun l => by
      induction l with
      | nil => simp [NestedKey.depthAll]
      | cons n l ih =>
        rw [List.map_cons]
        simp only [NestedKey.depthAll, NestedKey.depth]
        omega
    have := h ns
    simp only [nkI, NestedKey.depth]
    omega
theorem nkK_depth (ks : IK) : (nkK ks).depth ≤ 8 := by
  have h : ∀ l : List Itm, NestedKey.depthAll (l.map nkI) ≤ 3 := fun l => by
    induction l with
    | nil => simp [NestedKey.depthAll]
    | cons x l ih =>
      have := nkI_depth x
      rw [List.map_cons]
      simp only [NestedKey.depthAll]
      omega
  have := h ks
  simp only [nkK, NestedKey.depth]
  omega
/-- an item of a key, as it stands -/
def ItAt (H : Hp) (v : V) : Itm → Prop
  | .inl i => v = .int i
  | .inr ns => ∃ p : Addr, v = .ref p ∧ H p = some (.tup (ns.map V.int))
theorem nks_ints {H : Hp} : ∀ ns : List Int, NKs H (ns.map NestedKey.num) (ns.map V.int)
  | [] => .nil
  | n :: ns => .cons (.int n) (nks_ints ns)
theorem nks_ints_inv {H : Hp} : ∀ {ns : List Int} {vs : List V}, NKs H (ns.map NestedKey.num) vs → vs = ns.map V.int
  | [], _, h => by cases h; rfl
  | n :: ns, _, h => by
    cases h with
    | cons h1 h2 =>
      cases h1
      rw [nks_ints_inv h2]
      rfl
theorem ItAt.nk {H : Hp} {v : V} : ∀ {x : Itm}, ItAt H v x → NK H (nkI x) v
  | .inl i, h => by
    cases h
    exact .int i
  | .inr ns, ⟨p, h1, h2⟩ => by
    cases h1
    exact .tup h2 (nks_ints ns)
theorem ItAt.of {H : Hp} {v : V} : ∀ {x : Itm}, NK H (nkI x) v → ItAt H v x
  | .inl i, h => by
    cases h
    rfl
  | .inr ns, h => by
    cases h with
    | tup h1 h2 => exact ⟨_, rfl, by rw [h1, nks_ints_inv h2]⟩
/-- the key at an address: its items -/
def KAt (H : Hp) (p : Addr) (ks : IK) : Prop := ∃ vs, H p = some (.tup vs) ∧ Paired (fun v x => ItAt H v x) vs ks
theorem KAt.nk {H : Hp} {p : Addr} {ks : IK} (h : KAt H p ks) : NK H (nkK ks) (.ref p) := by
  obtain ⟨vs, h1, h2⟩ := h
  refine .tup h1 ?_
  clear h1
  induction h2 with
  | nil => exact .nil
  | cons h _ ih => exact .cons h.nk ih
theorem KAt.of {H : Hp} {p : Addr} {ks : IK} (h : NK H (nkK ks) (.ref p)) : KAt H p ks := by
  cases h with
  | @tup _ vs _ h1 h2 =>
    refine ⟨vs, h1, ?_⟩
    clear h1
    induction ks generalizing vs with
    | nil => cases h2; exact .nil
    | cons x ks ih =>
      cases h2 with
      | cons k1 k2 => exact .cons (ItAt.of k1) (ih k2)
theorem ItAt.mono {H H' : Hp} (e : ∀ p xs, H p = some (.tup xs) → H' p = some (.tup xs)) {v : V} : ∀ {x : Itm}, ItAt H v x → ItAt H' v x
  | .inl _, h => h
  | .inr _, ⟨p, h1, h2⟩ => ⟨p, h1, e _ _ h2⟩
theorem KAt.mono {H H' : Hp} (e : ∀ p xs, H p = some (.tup xs) → H' p = some (.tup xs)) {p : Addr} {ks : IK} (h : KAt H p ks) : KAt H' p ks := by
  obtain ⟨vs, h1, h2⟩ := h
  exact ⟨vs, e _ _ h1, Paired.mapP h2 fun _ _ => ItAt.mono e⟩
theorem KAt.same {H H' : Hp} (e : Same H H') {p : Addr} {ks : IK} (h : KAt H p ks) : KAt H' p ks := h.mono fun _ _ => e _ _
/-- a flat tuple of ints as a key -/
theorem kat_ints {H : Hp} {p : Addr} {ns : List Int} (h : H p = some (.tup (ns.map V.int))) : KAt H p (ns.map Sum.inl) := by
  refine ⟨_, h, ?_⟩
  clear h
  induction ns with
  | nil => exact .nil
  | cons n ns ih => exact .cons (show ItAt H (.int n) (.inl n) from rfl) ih
theorem kat_ints_inv {H : Hp} {p : Addr} {ns : List Int} (h : KAt H p (ns.map Sum.inl)) : H p = some (.tup (ns.map V.int)) := by
  obtain ⟨vs, h1, h2⟩ := h
  rw [h1]
  congr 2
  clear h1
  induction ns generalizing vs with
  | nil => cases h2; rfl
  | cons n ns ih =>
    cases h2 with
    | cons k1 k2 =>
      rw [ih _ k2, show _ = V.int n from k1]
      rfl
/-! ### the pairs -/
def valG (M : GM) (k : IK) : Option V := (M.find? fun x => decide (x.1 = k)).map (·.2)
def putG (M : GM) (k : IK) (v : V) : GM := if (valG M k).isSome then M.map (fun x => if x.1 = k then (x.1, v) else x) else M ++ [(k, v)]
def dropG (M : GM) (k : IK) : GM := M.filter fun x => decide (x.1 ≠ k)
abbrev EntG (H : Hp) : List Ent → GM → Prop := Paired fun e x => e.1 = nkK x.1 ∧ e.2.2 = x.2 ∧ KAt H e.2.1 x.1
theorem EntG.mono {H H' : Hp} (e : ∀ p xs, H p = some (.tup xs) → H' p = some (.tup xs)) {es : List Ent} {M : GM} (h : EntG H es M) : EntG H' es M := Paired.mapP h fun _ _ ⟨h1, h2, h3⟩ => ⟨h1, h2, h3.mono e⟩
theorem EntG.same {H H' : Hp} (e : Same H H') {es : List Ent} {M : GM} (h : EntG H es M) : EntG H' es M := h.mono fun _ _ => e _ _
theorem EntG.nil {H : Hp} : EntG H [] [] := Paired.nil
theorem EntG.ok {H : Hp} {es : List Ent} {M : GM} (h : EntG H es M) : EntsOk H es := by
  induction h with
  | nil => exact EntsOk.nil
  | cons h _ ih =>
    intro e he
    rcases List.mem_cons.mp he with rfl | he
    · rw [h.1]
      exact ⟨h.2.2.nk, nkK_depth _⟩
    · exact ih e he
theorem EntG.len {H : Hp} {es : List Ent} {M : GM} (h : EntG H es M) : es.length = M.length := Paired.length h
theorem EntG.at {H : Hp} {es : List Ent} {M : GM} (h : EntG H es M) (k : IK) : atN es (nkK k) = valG M k := by
  induction h with
  | nil => rfl
  | @cons e x es xs h _ ih =>
    unfold atN valG at ih ⊢
    rw [List.find?_cons, List.find?_cons, h.1]
    by_cases hc : x.1 = k
    · rw [decide_eq_true hc, decide_eq_true (by rw [hc])]
      show some e.2.2 = some x.2
      rw [h.2.1]
    · rw [decide_eq_false hc, decide_eq_false (fun z => hc (nkK_inj z))]
      exact ih
theorem entG_map {H : Hp} {k : IK} {v : V} : ∀ {es : List Ent} {M : GM}, EntG H es M → EntG H (es.map fun e => if e.1 = nkK k then (e.1, e.2.1, v) else e) (M.map fun x => if x.1 = k then (x.1, v) else x)
  | _, _, Paired.nil => Paired.nil
  | e :: es, x :: xs, Paired.cons h t => by
    refine Paired.cons ?_ (entG_map t)
    by_cases hc : x.1 = k
    · have hc2 : e.1 = nkK k := by rw [h.1, hc]
      simp only [if_pos hc2, if_pos hc]
      exact ⟨h.1, trivial, h.2.2⟩
    · have hc2 : ¬ e.1 = nkK k := fun z => hc (nkK_inj (h.1.symm.trans z))
      simp only [if_neg hc2, if_neg hc]
      exact h
theorem EntG.put {H : Hp} {es : List Ent} {M : GM} (h : EntG H es M) {k : IK} {b : Addr} (v : V) (hk : KAt H b k) : EntG H (putN es (nkK k) b v) (putG M k v) := by
  unfold putN putG
  rw [h.at k]
  by_cases hc : (valG M k).isSome = true
  · rw [if_pos hc, if_pos hc]
    exact entG_map h
  · rw [if_neg hc, if_neg hc]
    exact paired_app h (Paired.cons ⟨rfl, rfl, hk⟩ Paired.nil)
theorem putG_len {M : GM} {k : IK} {v : V} : (putG M k v).length ≤ M.length + 1 := by
  unfold putG
  by_cases h : (valG M k).isSome = true
  · rw [if_pos h, List.length_map]
    omega
  · rw [if_neg h, List.length_append]
    exact Nat.le_refl _
theorem valG_some {M : GM} {k : IK} : (valG M k).isSome = true ↔ k ∈ M.map (·.1) := by
  unfold valG
  rw [Option.isSome_map, List.find?_isSome, List.mem_map]
  exact ⟨fun ⟨x, h1, h2⟩ => ⟨x, h1, of_decide_eq_true h2⟩, fun ⟨x, h1, h2⟩ => ⟨x, h1, decide_eq_true h2⟩⟩
theorem putG_keys (M : GM) (k : IK) (v : V) : (putG M k v).map (·.1) = if (valG M k).isSome = true then M.map (·.1) else M.map (·.1) ++ [k] := by
  unfold putG
  by_cases h : (valG M k).isSome = true
  · rw [if_pos h, if_pos h, List.map_map]
    refine List.map_congr_left fun x _ => ?_
    by_cases hc : x.1 = k
    · simp [hc]
    · simp [hc]
  · rw [if_neg h, if_neg h, List.map_append]
    rfl
theorem valG_cons (x : IK × V) (M : GM) (k : IK) : valG (x :: M) k = if x.1 = k then some x.2 else valG M k := by
  unfold valG
  rw [List.find?_cons]
  by_cases h : x.1 = k
  · rw [decide_eq_true h, if_pos h]
    rfl
  · rw [decide_eq_false h, if_neg h]
theorem valG_nil (k : IK) : valG [] k = none := rfl
theorem valG_put (M : GM) (k : IK) (v : V) (j : IK) : valG (putG M k v) j = if j = k then some v else valG M j := by
  unfold putG
  by_cases h : (valG M k).isSome = true
  · rw [if_pos h]
    by_cases hj : j = k
    · subst hj
      rw [if_pos rfl]
      induction M with
      | nil => cases h
      | cons x M ih =>
        rw [List.map_cons, valG_cons]
        rw [valG_cons] at h
        by_cases hx : x.1 = j
        · rw [if_pos hx, if_pos hx]
        · rw [if_neg hx] at h
          rw [if_neg hx, if_neg hx]
          exact ih h
    · rw [if_neg hj]
      clear h
      induction M with
      | nil => rfl
      | cons x M ih =>
        rw [List.map_cons, valG_cons, valG_cons, ih]
        by_cases hx : x.1 = k
        · rw [if_pos hx]
          by_cases hxj : x.1 = j
          · exact absurd (hxj.symm.trans hx) hj
          · rw [if_neg hxj, if_neg hxj]
        · rw [if_neg hx]
  · rw [if_neg h]
    have hn : valG M k = none := by
      cases e : valG M k with
      | none => rfl
      | some _ => exact absurd (by rw [e]; rfl) h
    clear h
    induction M with
    | nil =>
      rw [List.nil_append, valG_cons]
      by_cases hj : k = j
      · rw [if_pos hj, if_pos hj.symm]
      · rw [if_neg hj, if_neg (fun z => hj z.symm)]
    | cons x M ih =>
      rw [valG_cons] at hn
      by_cases hx : x.1 = k
      · rw [if_pos hx] at hn
        cases hn
      · rw [if_neg hx] at hn
        rw [List.cons_append, valG_cons, ih hn, valG_cons]
        by_cases hxj : x.1 = j
        · rw [if_pos hxj]
          by_cases hj : j = k
          · exact absurd (hxj.trans hj) hx
          · rw [if_neg hj, if_pos hxj]
        · rw [if_neg hxj, if_neg hxj]
/-! ### the steps -/
section
variable {w : World} {σ : L2.St} {H B : Hp} {Q : VK} {D : Ends} {td ty tv tx : TE} {L L' : List (Addr × HO)} {es : List Ent} {M : GM} {k : IK} {d b : Addr} {v : V}
theorem atG_of (h : H d = some (DN w d es)) (e : EntG H es M) (hk : KAt H b k) : AtN w H (.ref d) (.ref b) d b es (nkK k) := ⟨rfl, rfl, h, e.ok, hk.nk, nkK_depth k⟩
theorem wg_get (hs : Hs B L H) (h : H d = some (DN w d es)) (e : EntG B es M) (hk : KAt H b k) (hv : valG M k = some v) (q : Q v H) : rNGet w (.ref d) (.ref b) H Q :=
  ⟨d, b, es, nkK k, v, atG_of h (e.same hs.same) hk, by rw [e.at k, hv], q⟩
theorem wg_in {R : Bool → Prop} (hs : Hs B L H) (h : H d = some (DN w d es)) (e : EntG B es M) (hk : KAt H b k) (q : R (valG M k).isSome) : rNIn w (.ref d) (.ref b) H R :=
  ⟨d, b, es, nkK k, atG_of h (e.same hs.same) hk, by rw [e.at k]; exact q⟩
theorem wg_put {R : Hp → Prop} (hs : Hs B L H) (h : Put L d (DN w d es) (DN w d (putN es (nkK k) b v)) L') (e : EntG B es M) (hk : KAt B b k) (hl : M.length ≤ 1000000) (q : ∀ H', Hs B L' H' → EntG B (putN es (nkK k) b v) (putG M k v) → R H') : rNPut w (.ref d) (.ref b) v H R :=
  ⟨d, b, es, nkK k, atG_of (hs.gets h) (e.same hs.same) (hk.same hs.same), by rw [e.len, sizeLine_eq]; omega, q _ (hs.puts h) (e.put v hk)⟩
theorem wg_def {z : V} (hs : Hs B L H) (h : H d = some (DN w d es)) (e : EntG B es M) (hk : KAt H b k) (q : Q ((valG M k).getD z) H) : rNG w (.ref d) (.ref b) z H Q :=
  ⟨d, b, es, nkK k, atG_of h (e.same hs.same) hk, by rw [e.at k]; exact q⟩
theorem w_ng1 (q : td σ H fun x H1 => (∃ a es, x = .ref a ∧ H1 a = some (DN w a es)) ∧ ty σ H1 fun y H2 => rNG w x y .non H2 Q) : tNGet1 w td ty σ H Q := q
theorem w_ng2 (q : td σ H fun x H1 => (∃ a es, x = .ref a ∧ H1 a = some (DN w a es)) ∧ ty σ H1 fun y H2 => tx σ H2 fun z H3 => rNG w x y z H3 Q) : tNGet2 w td ty tx σ H Q := q
theorem EntG.row {es : List Ent} {M : GM} (h : EntG H es M) : Paired (fun (v : V) (x : IK) => ∃ p : Addr, v = .ref p ∧ KAt H p x) (es.map fun e => V.ref e.2.1) (M.map (·.1)) := by
  induction h with
  | nil => exact .nil
  | cons h _ ih => exact .cons ⟨_, rfl, h.2.2⟩ ih
theorem wg_list (hs : Hs B L H) (h : H d = some (DN w d es)) (q : ∀ p H', Hs B ((p, .lst (es.map fun e => V.ref e.2.1)) :: L) H' → Q (.ref p) H') : rListN w [.ref d] H Q :=
  ⟨d, es, rfl, h, fun p hp => q p _ (hs.new hp)⟩
end
end Hb

set_option Elab.async false
set_option linter.all false
set_option maxRecDepth 100000
set_option maxHeartbeats 4000000
/-! Rows of items side by side with what they tell; sorted of keys; promises joined; objects that stand. -/
namespace Hb
open PySem L2 PyProof.Rows
/-! ## data side by side -/
def Row {α : Type} (R : V → α → Prop) (us : List V) (xs : List α) : Prop := us.length = xs.length ∧ ∀ (i : Nat) (u : V) (x : α), us[i]? = some u → xs[i]? = some x → R u x
theorem Row.mono {α : Type} {R R' : V → α → Prop} (h : ∀ u x, R u x → R' u x) {us : List V} {xs : List α} (r : Row R us xs) : Row R' us xs := ⟨r.1, fun i u x h1 h2 => h _ _ (r.2 i u x h1 h2)⟩
theorem Row.get {α : Type} {R : V → α → Prop} {us : List V} {xs : List α} (r : Row R us xs) {i : Nat} {u : V} (h : us[i]? = some u) : ∃ x, xs[i]? = some x ∧ R u x := by
  have hi := (List.getElem?_eq_some_iff.mp h).1
  have h2 : xs[i]? = some (xs[i]'(by have := r.1; omega)) := List.getElem?_eq_getElem _
  exact ⟨_, h2, r.2 i _ _ h h2⟩
theorem Row.nil {α : Type} {R : V → α → Prop} : Row R [] [] := ⟨rfl, fun _ _ _ z => nomatch z⟩
theorem Row.cons {α : Type} {R : V → α → Prop} {us : List V} {xs : List α} {u : V} {x : α} (h : R u x) (r : Row R us xs) : Row R (u :: us) (x :: xs) := by
  refine ⟨by rw [List.length_cons, List.length_cons, r.1], fun i y z h1 h2 => ?_⟩
  cases i with
  | zero =>
    cases h1
    cases h2
    exact h
  | succ i => exact r.2 i y z (by simpa using h1) (by simpa using h2)
theorem Row.snoc {α : Type} {R : V → α → Prop} {us : List V} {xs : List α} {u : V} {x : α} (r : Row R us xs) (h : R u x) : Row R (us ++ [u]) (xs ++ [x]) := by
  refine ⟨by rw [List.length_append, List.length_append, r.1]; rfl, fun i y z h1 h2 => ?_⟩
  by_cases hi : i < us.length
  · rw [List.getElem?_append_left hi] at h1
    rw [List.getElem?_append_left (by rw [← r.1]; exact hi)] at h2
    exact r.2 i y z h1 h2
  · rw [List.getElem?_append_right (by omega)] at h1
    rw [List.getElem?_append_right (by rw [← r.1]; omega)] at h2
    rw [r.1] at h1
    cases hj : i - xs.length with
    | zero =>
      rw [hj] at h1 h2
      cases h1
      cases h2
      exact h
    | succ n =>
      rw [hj] at h1
      simp at h1
theorem Row.take {α : Type} {R : V → α → Prop} {us : List V} {xs : List α} (r : Row R us xs) (n : Nat) : Row R (us.take n) (xs.take n) := by
  refine ⟨by rw [List.length_take, List.length_take, r.1], fun i u x h1 h2 => ?_⟩
  rw [List.getElem?_take] at h1 h2
  by_cases h : i < n
  · rw [if_pos h] at h1 h2
    exact r.2 i u x h1 h2
  · rw [if_neg h] at h1
    cases h1
theorem Row.drop {α : Type} {R : V → α → Prop} {us : List V} {xs : List α} (r : Row R us xs) (n : Nat) : Row R (us.drop n) (xs.drop n) := by
  refine ⟨by rw [List.length_drop, List.length_drop, r.1], fun i u x h1 h2 => ?_⟩
  rw [List.getElem?_drop] at h1 h2
  exact r.2 _ u x h1 h2
theorem Row.app {α : Type} {R : V → α → Prop} {us vs : List V} {xs ys : List α} (r : Row R us xs) (q : Row R vs ys) : Row R (us ++ vs) (xs ++ ys) := by
  refine ⟨by rw [List.length_append, List.length_append, r.1, q.1], fun i u x h1 h2 => ?_⟩
  by_cases hi : i < us.length
  · rw [List.getElem?_append_left hi] at h1
    rw [List.getElem?_append_left (by rw [← r.1]; exact hi)] at h2
    exact r.2 i u x h1 h2
  · rw [List.getElem?_append_right (by omega)] at h1
    rw [List.getElem?_append_right (by rw [← r.1]; omega), ← r.1] at h2
    exact q.2 _ u x h1 h2
theorem Row.dpAll {α : Type} {K : PySem.W.Frag} {H : Hp} {R : V → α → Prop} {d : α → PyData} (hd : ∀ u x, R u x → Dp K H u (d x)) : ∀ {us : List V} {xs : List α}, Row R us xs → DpAll K H us (xs.map d)
  | [], [], _ => .nil
  | [], _ :: _, h => by cases h.1
  | _ :: _, [], h => by cases h.1
  | u :: us, x :: xs, h => .cons (hd _ _ (h.2 0 u x rfl rfl)) (Row.dpAll hd ⟨Nat.succ.inj h.1, fun i y z h1 h2 => h.2 (i + 1) y z (by simpa using h1) (by simpa using h2)⟩)
/-- what is new and stands: from a callee that only makes -/
theorem Hs_own {B H H' : Hp} {L : List (Addr × HO)} {p : Addr} {o : HO} (hs : Hs B L H) (e : Same H H') (hn : H p = none) (h : H' p = some o) : Hs B ((p, o) :: L) H' := by
  refine ⟨hs.same.trans e, ?_, fun x hx => ?_, fun x hx => ?_⟩
  · rw [List.map_cons, List.nodup_cons]
    exact ⟨hs.fresh hn, hs.nd⟩
  · rcases List.mem_cons.mp hx with rfl | hx
    · exact hs.same.free hn
    · exact hs.out x hx
  · rcases List.mem_cons.mp hx with rfl | hx
    · exact h
    · exact e _ _ (hs.at_ x hx)
theorem w_lcLR {K : PySem.W.Frag} {σ : L2.St} {H : Hp} {Q : VK} {tl : TE} {g : TG} {tt : TT} {te : TE} {vs : List Nat} (q : tl σ H fun x H1 => ListR K x H1 (LcR g tt te vs σ Q)) : tLc (iList K tl) g tt te vs σ H Q := q
/-- [e for x in us], row by row: what is told of the new items hangs on tuples alone -/
theorem w_lcRow {α : Type} {K : PySem.W.Frag} {σ : L2.St} {H : Hp} {Q : VK} {tl : TE} {te : TE} {j : Nat} {vs : List Nat} {a : Addr} {us : List V} (R : Hp → V → α → Prop) (hm : ∀ H1 H2 v y, (∀ p xs, H1 p = some (.tup xs) → H2 p = some (.tup xs)) → R H1 v y → R H2 v y) (hx : SqL K H a us) (hz : us.length ≤ 1000000) (ys : List α) (hlen : us.length = ys.length)
    (htl : ∀ Q : VK, Q (.ref a) H → tl σ H Q) (hw : ∀ v, wipe ((wipe σ vs).set j (some v)) vs = wipe σ vs)
    (he : ∀ (i : Nat) (u : V) (y : α) (H' : Hp) (Q' : VK), us[i]? = some u → ys[i]? = some y → Same H H' → (∀ v H3, Same H' H3 → R H3 v y → Q' v H3) → te ((wipe σ vs).set j (some u)) H' Q')
    (hq : ∀ D acc H', Hs H [(D, .lst acc)] H' → Row (R H') acc ys → Q (.ref D) H') : tLc (iList K tl) (gName j) tYes te vs σ H Q := by
  refine w_lcLR (htl _ (w_listR hx fun D hD => ?_))
  refine turns_list (Body := LcBody (gName j) tYes te vs σ D) (fun i H' => ∃ acc, Hs H [(D, .lst acc)] H' ∧ Row (R H') acc (ys.take i)) ⟨[], (Hs.start H).new hD, Row.nil⟩ (fun i H' _ ⟨_, h, _⟩ => h.same.seq hx) ?_ ?_
  · rintro i u H' hu ⟨acc, h1, h2⟩
    have hi := (List.getElem?_eq_some_iff.mp hu).1
    have hy : ys[i]? = some (ys[i]'(by omega)) := List.getElem?_eq_getElem _
    refine w_name ⟨hw _, w_yes (iteT (he i u _ H' _ hu hy h1.same fun v H3 s3 r => ?_))⟩
    have hD3 : H3 D = some (.lst acc) := s3 _ _ h1.g0
    have hlt : acc.length ≤ i := by
      have := h2.1
      rw [List.length_take] at this
      omega
    refine ⟨acc, hD3, szl (by omega), acc ++ [v], (h1.keep s3).p0 _, ?_⟩
    rw [List.take_add_one, hy]
    refine Row.mono (fun u x => hm H3 _ u x fun a xs => tup_but hD3 (fun _ z => by cases z) a xs) ((h2.mono fun u x => hm _ _ u x fun a xs e => s3 _ _ e).snoc r)
  · rintro H' ⟨acc, h1, h2⟩
    rw [hlen, List.take_length] at h2
    exact hq D acc H' h1 h2
def spF : Sp := fun _ _ _ _ => False
theorem fn_F {P : Program} {w : World} {K : PySem.W.Frag} {mg : Str → Option Value} {base : Heap} {k : Nat} {f : Addr} {fd : FuncData} {ps : List Str} : FnOk P w K mg base CX0 k f fd ps spF := ⟨fun _ _ _ _ h => h.elim, fun _ _ _ _ _ _ _ _ _ _ _ _ _ h => h.elim⟩
theorem fn_or {P : Program} {w : World} {K : PySem.W.Frag} {mg : Str → Option Value} {base : Heap} {k : Nat} {f : Addr} {fd : FuncData} {ps : List Str} {sp1 sp2 : Sp} (F1 : FnOk P w K mg base CX0 k f fd ps sp1) (F2 : FnOk P w K mg base CX0 k f fd ps sp2) : FnOk P w K mg base CX0 k f fd ps (fun vs H Q E => sp1 vs H Q E ∨ sp2 vs H Q E) :=
  ⟨fun vs H Q E h => h.elim (F1.len vs H Q E) (F2.len vs H Q E), fun A outer s H args us vs Q E hr he hb hv h => h.elim (F1.run A outer s H args us vs Q E hr he hb hv) (F2.run A outer s H args us vs Q E hr he hb hv)⟩
theorem w_slA {K : PySem.W.Frag} {B H : Hp} {L : List (Addr × HO)} {Q : VK} {p : Addr} {xs : List V} {lo hi : Option Int} (hs : Hs B L H) (h : SqT K H p xs) (hw : ¬ (HT.sIx xs.length 0 lo = 0 ∧ HT.sIx xs.length xs.length hi = xs.length)) (q : ∀ l H', Hs B ((l, .tup (cutV xs lo hi)) :: L) H' → Q (.ref l) H') : rSlA K (.ref p) lo hi H Q :=
  ⟨p, xs, rfl, h, fun z => absurd z hw, fun _ => w_new hs q⟩

/-! ## sorted: keys of one shape -/
def ltQ (x y : IK) : Bool := lexI (flK x) (flK y)
def SortedK (l : List IK) : Prop := l.Pairwise fun x y => ltQ y x = false
def insK (x : IK) : List IK → List IK
  | [] => [x]
  | y :: ys => if ltQ y x then y :: insK x ys else x :: y :: ys
def srtK : List IK → List IK
  | [] => []
  | x :: xs => insK x (srtK xs)
theorem insK_perm (x : IK) : ∀ ys : List IK, (insK x ys).Perm (x :: ys)
  | [] => List.Perm.refl _
  | y :: ys => by
    unfold insK
    split
    · exact ((insK_perm x ys).cons y).trans (List.Perm.swap x y ys)
    · exact List.Perm.refl _
theorem srtK_perm : ∀ ls : List IK, (srtK ls).Perm ls
  | [] => List.Perm.refl _
  | x :: xs => (insK_perm x (srtK xs)).trans ((srtK_perm xs).cons x)
theorem insK_sorted (x : IK) : ∀ ys : List IK, SortedK ys → SortedK (insK x ys)
  | [], _ => List.pairwise_singleton _ _
  | y :: ys, h => by
    have h1 := List.pairwise_cons.mp h
    unfold insK
    by_cases hc : ltQ y x = true
    · rw [if_pos hc]
      refine List.pairwise_cons.mpr ⟨fun z hz => ?_, insK_sorted x ys h1.2⟩
      rcases List.mem_cons.mp ((insK_perm x ys).mem_iff.mp hz) with rfl | hz
      · exact lexI_asym _ _ hc
      · exact h1.1 z hz
    · rw [if_neg hc]
      have hc' : ltQ y x = false := by
        cases q : ltQ y x with
        | true => exact absurd q hc
        | false => rfl
      refine List.pairwise_cons.mpr ⟨fun z hz => ?_, h⟩
      rcases List.mem_cons.mp hz with rfl | hz
      · exact hc'
      · exact lexI_tr _ _ _ hc' (h1.1 z hz)
theorem srtK_sorted : ∀ ls : List IK, SortedK (srtK ls)
  | [] => List.Pairwise.nil
  | x :: xs => insK_sorted x _ (srtK_sorted xs)
/-- of one shape, the ints tell the key -/
theorem fl_shape : ∀ {x y : IK}, x.map shp = y.map shp → flK x = flK y → x = y
  | [], [], _, _ => rfl
  | [], _ :: _, h, _ => by cases h
  | _ :: _, [], h, _ => by cases h
  | a :: x, b :: y, h, e => by
    rw [List.map_cons, List.map_cons] at h
    injection h with h1 h2
    have hl := shp_len h1
    unfold flK at e
    rw [List.flatMap_cons, List.flatMap_cons] at e
    obtain ⟨e1, e2⟩ := List.append_inj e hl
    have hx := fl_shape h2 (show flK x = flK y from e2)
    have ha : a = b := by
      cases a with
      | inl i =>
        cases b with
        | inl j =>
          injection e1 with e1
          rw [e1]
        | inr ms => cases h1
      | inr ns =>
        cases b with
        | inl j => cases h1
        | inr ms => exact congrArg Sum.inr e1
    rw [hx, ha]
theorem sortedK_uniq {sh : List (Option Nat)} : ∀ {l m : List IK}, l.Perm m → (∀ x ∈ l, x.map shp = sh) → SortedK l → SortedK m → l = m
  | [], m, p, _, _, _ => (List.Perm.eq_nil p.symm).symm
  | x :: l, [], p, _, _, _ => absurd p.length_eq (by simp)
  | x :: l, y :: m, p, hs, hl, hm => by
    have h1 := List.pairwise_cons.mp hl
    have h2 := List.pairwise_cons.mp hm
    have e : x = y := by
      rcases List.mem_cons.mp (p.mem_iff.mp List.mem_cons_self) with e | hx
      · exact e
      · have hy2 := p.mem_iff.mpr (List.mem_cons_self (a := y) (l := m))
        rcases List.mem_cons.mp hy2 with e | hy
        · exact e.symm
        · exact fl_shape ((hs x List.mem_cons_self).trans (hs y hy2).symm) (lexI_total _ _ (h2.1 x hx) (h1.1 y hy))
    subst e
    rw [sortedK_uniq p.cons_inv (fun z hz => hs z (List.mem_cons_of_mem _ hz)) h1.2 h2.2]
theorem srtK_uniq {sh : List (Option Nat)} {l ls : List IK} (p : l.Perm ls) (hs : ∀ x ∈ ls, x.map shp = sh) (h : SortedK l) : l = srtK ls :=
  sortedK_uniq (p.trans (srtK_perm ls).symm) (fun x hx => hs x (p.mem_iff.mp hx)) h (srtK_sorted ls)
/-- an item of a list that is a key -/
def KeyAt (H : Hp) (v : V) (k : IK) : Prop := ∃ p : Addr, v = .ref p ∧ KAt H p k
theorem KeyAt.mono {H H' : Hp} (e : ∀ p xs, H p = some (.tup xs) → H' p = some (.tup xs)) {v : V} {k : IK} (h : KeyAt H v k) : KeyAt H' v k := by
  obtain ⟨p, h1, h2⟩ := h
  exact ⟨p, h1, h2.mono e⟩
theorem KeyAt.inj {H : Hp} {v : V} {k k' : IK} (h : KeyAt H v k) (h' : KeyAt H v k') : k = k' := by
  obtain ⟨p, rfl, h1⟩ := h
  obtain ⟨q, e, h2⟩ := h'
  cases e
  exact nkK_inj (NK.inj h1.nk h2.nk)
theorem KeyAt.it {H : Hp} {v : V} {k : IK} (h : KeyAt H v k) : itK H v = k := by
  obtain ⟨p, rfl, h1⟩ := h
  exact itK_eq h1.nk
theorem row_perm {α : Type} {R : V → α → Prop} {us ys : List V} (p : ys.Perm us) {xs : List α} (r : Row R us xs) : ∃ zs, zs.Perm xs ∧ Row R ys zs := by
  have toP : ∀ {us : List V} {xs : List α}, Row R us xs → Paired R us xs := by
    intro us
    induction us with
    | nil =>
      intro xs r
      cases xs with
      | nil => exact .nil
      | cons _ _ => cases r.1
    | cons u us ih =>
      intro xs r
      cases xs with
      | nil => cases r.1
      | cons x xs => exact .cons (r.2 0 u x rfl rfl) (ih ⟨Nat.succ.inj r.1, fun i y z h1 h2 => r.2 (i + 1) y z (by simpa using h1) (by simpa using h2)⟩)
  have ofP : ∀ {us : List V} {xs : List α}, Paired R us xs → Row R us xs := by
    intro us xs h
    induction h with
    | nil => exact Row.nil
    | cons h _ ih => exact Row.cons h ih
  obtain ⟨zs, h1, h2⟩ := paired_perm p (toP r)
  exact ⟨zs, h1, ofP h2⟩
theorem w_sortK2 {K : PySem.W.Frag} {B H : Hp} {L : List (Addr × HO)} {Q : VK} {a : Addr} {us : List V} {ks : List IK} {c : Option Nat} {sh : List (Option Nat)} (hs : Hs B L H) (h : SqL K H a us) (r : Row (KeyAt H) us ks) (hsh : ∀ k ∈ ks, k.map shp = c :: sh)
    (q : ∀ p ys H', ys.Perm us → Hs B ((p, .lst ys) :: L) H' → Row (KeyAt H') ys (srtK ks) → Q (.ref p) H') : rSortN K c sh [.ref a] H Q := by
  refine ⟨a, us, itK H, rfl, h, fun x hx => ?_, fun ys p h1 h2 hp => ?_⟩
  · obtain ⟨i, hi, rfl⟩ := List.getElem_of_mem hx
    obtain ⟨k, hk, hat⟩ := r.get (List.getElem?_eq_getElem hi)
    rw [hat.it]
    obtain ⟨b, e, hb⟩ := hat
    exact ⟨⟨b, e⟩, by rw [e]; exact hb.nk, hsh k (List.mem_of_getElem? hk)⟩
  · obtain ⟨zs, p1, p2⟩ := row_perm h2.perm r
    have srt : SortedK zs := by
      refine List.pairwise_iff_getElem.mpr fun i j hi hj hij => ?_
      have hi' : i < ys.length := by rw [p2.1]; exact hi
      have hj' : j < ys.length := by rw [p2.1]; exact hj
      have a1 := p2.2 i ys[i] zs[i] (List.getElem?_eq_getElem hi') (List.getElem?_eq_getElem hi)
      have a2 := p2.2 j ys[j] zs[j] (List.getElem?_eq_getElem hj') (List.getElem?_eq_getElem hj)
      have := List.pairwise_iff_getElem.mp h1 i j hi' hj' hij
      unfold ltK at this
      rw [a1.it, a2.it] at this
      exact this
    have e := srtK_uniq p1 hsh srt
    subst e
    have hs2 := hs.new (o := .lst ys) hp
    exact q p ys _ h2.perm hs2 (p2.mono fun u k => KeyAt.mono fun b xs e => by rw [upd_ne (ne_of_none e hp)]; exact e)
theorem frz_hs {B H : Hp} {p : Addr} {o : HO} {L : List (Addr × HO)} (hs : Hs B ((p, o) :: L) H) : ∃ B2, Same B B2 ∧ B2 p = some o ∧ Hs B2 L H := ⟨_, hs.freeze.1, upd_same, hs.freeze.2⟩
theorem shp_can {d : PyData} (h : SeqAt.shaped d = true) : d.canLay0 = true := by
  unfold SeqAt.shaped at h
  exact (Bool.and_eq_true_iff.mp h).1
theorem w_neRefl {K : PySem.W.Frag} {H : Hp} {Q : VK} {p q : V} {d : PyData} (h1 : Dp K H p d) (h2 : Dp K H q d) (hs : SeqAt.shaped d = true) (k : Q (.bl false) H) : rNeD K p q H Q :=
  ⟨d, d, h1, h2, hs, hs, by
    rw [SeqAt.eqv_refl _ (shp_can hs)]
    exact k⟩

/-! ## for i, x in enumerate(xs) -/
theorem w_enumF {K : PySem.W.Frag} {σ : L2.St} {H : Hp} {ta : TA} {g : TG} {tb : TS} {D : Ends} {a : Addr} {xs : List V} (hx : SqL K H a xs) (Pv : Nat → L2.St → Hp → Prop) (hta : ∀ Q : List V → Hp → Prop, Q [.ref a] H → ta σ H Q) (h0 : Pv 0 σ H) (hl : ∀ i σ H, i ≤ xs.length → Pv i σ H → SqL K H a xs)
    (hs : ∀ i x T σ H, xs[i]? = some x → Pv i σ H → H T = none → g (.ref T) σ (upd H T (.tup [.int (i : Int), x])) fun σ2 H2 => tb { D with nx := Pv (i + 1), ct := Pv (i + 1), bk := D.nx } σ2 H2) (hd : ∀ σ H, Pv xs.length σ H → D.nx σ H) : tFor (iEnum K ta) g tb D σ H := by
  refine hta _ ⟨a, xs, rfl, hx, fun i m σ H => m = xs.length - i ∧ i ≤ xs.length ∧ Pv i σ H, ⟨xs.length, by simp, Nat.zero_le _, h0⟩, ?_⟩
  rintro i m σ' H' ⟨rfl, hi, p⟩
  have q := hl i σ' H' hi p
  by_cases hlt : i < xs.length
  · refine .inr ⟨⟨xs, xs[i], q, List.getElem?_eq_getElem hlt⟩, Pv (i + 1), fun σ2 H2 p2 => ⟨xs.length - (i + 1), by omega, rfl, hlt, p2⟩, fun v H2 y => ?_⟩
    obtain ⟨T, x, rfl, hT, rfl, hx2⟩ := y
    exact hs i x T _ _ (hx2 xs q) p hT
  · have e : i = xs.length := by omega
    subst e
    exact .inl ⟨⟨xs, q, Nat.le_refl _⟩, hd σ' H' p⟩
theorem w_sortK {K : PySem.W.Frag} {B H : Hp} {L : List (Addr × HO)} {Q : VK} {a : Addr} {us : List V} {ks : List IK} {c : Option Nat} {sh : List (Option Nat)} (hs : Hs B L H) (h : SqL K H a us) (r : Row (KeyAt H) us ks) (hsh : ∀ k ∈ ks, k.map shp = c :: sh)
    (q : ∀ p ys H', Hs B ((p, .lst ys) :: L) H' → Row (KeyAt H') ys (srtK ks) → Q (.ref p) H') : rSortN K c sh [.ref a] H Q := w_sortK2 hs h r hsh fun p ys H' _ => q p ys H'
/-! ## ranges with a lower end -/
theorem w_forR2 {σ : L2.St} {H : Hp} {D : Ends} {ta : TA} {g : TG} {tb : TS} {lo hi : Int} (b1 : -(2 ^ 62) ≤ lo ∧ lo < 2 ^ 62 ∧ -(2 ^ 62) ≤ hi ∧ hi < 2 ^ 62) (Pv : Nat → L2.St → Hp → Prop) (hta : ∀ Q : List V → Hp → Prop, Q [.int lo, .int hi] H → ta σ H Q) (h0 : Pv 0 σ H)
    (hs : ∀ (i : Nat) σ H, lo + (i : Int) < hi → Pv i σ H → g (.int (lo + (i : Int))) σ H fun σ2 H2 => tb { D with nx := Pv (i + 1), ct := Pv (i + 1), bk := D.nx } σ2 H2) (hd : ∀ σ H, Pv (hi - lo).toNat σ H → D.nx σ H) : tFor (iRng2 ta) g tb D σ H :=
  hta _ ⟨lo, hi, rfl, b1, for_range (lo := lo) (n := (hi - lo).toNat) Pv h0 (fun i σ' H' hi' p => hs i σ' H' (by omega) p) hd⟩
def RngR2 (us : List V) (H1 : Hp) (R : It → Hp → Prop) : Prop := ∃ lo hi : Int, us = [.int lo, .int hi] ∧ (-(2 ^ 62) ≤ lo ∧ lo < 2 ^ 62 ∧ -(2 ^ 62) ≤ hi ∧ hi < 2 ^ 62) ∧ R (Itr lo (hi - lo).toNat) H1
theorem w_lcG2 {σ : L2.St} {H : Hp} {Q : VK} {ta : TA} {g : TG} {tt : TT} {te : TE} {vs : List Nat} (q : ta σ H fun us H1 => RngR2 us H1 (LcR g tt te vs σ Q)) : tLc (iRng2 ta) g tt te vs σ H Q := q
theorem turns_rangeL {H0 : Hp} {Qd : Hp → Prop} {Body : (Hp → Prop) → V → Hp → Prop} {lo : Int} {n : Nat} (Pv : Nat → Hp → Prop) (h0 : Pv 0 H0) (hs : ∀ i H, i < n → Pv i H → Body (Pv (i + 1)) (.int (lo + (i : Int))) H) (hd : ∀ H, Pv n H → Qd H) : Turns (Itr lo n) Body H0 Qd := by
  refine ⟨fun i m H => m = n - i ∧ i ≤ n ∧ Pv i H, ⟨n, by simp, Nat.zero_le _, h0⟩, ?_⟩
  rintro i m H ⟨rfl, hi, p⟩
  by_cases hlt : i < n
  · refine .inr ⟨hlt, Pv (i + 1), fun H' p' => ⟨n - (i + 1), by omega, rfl, hlt, p'⟩, fun x H' y => ?_⟩
    obtain ⟨rfl, rfl⟩ := y
    exact hs i _ hlt p
  · have e : i = n := by omega
    subst e
    exact .inl ⟨Nat.le_refl _, hd H p⟩

/-! ## [e for x in us if t], index by index -/
theorem w_lcIx {K : PySem.W.Frag} {σ : L2.St} {H : Hp} {Q : VK} {tl : TE} {te : TE} {tt : TT} {j : Nat} {vs : List Nat} {a : Addr} {us : List V} (f : Nat → Option V) (hx : SqL K H a us) (hz : us.length ≤ 1000000)
    (htl : ∀ Q : VK, Q (.ref a) H → tl σ H Q) (hw : ∀ v, wipe ((wipe σ vs).set j (some v)) vs = wipe σ vs)
    (he : ∀ (i : Nat) (u : V) (H' : Hp) (Nx : Hp → Prop) (Ap : VK), us[i]? = some u → Same H H' → (f i = none → ∀ H2, Same H' H2 → Nx H2) → (∀ y, f i = some y → ∀ H2, Same H' H2 → Ap y H2) → tt ((wipe σ vs).set j (some u)) H' fun b H2 => if b = true then te ((wipe σ vs).set j (some u)) H2 Ap else Nx H2)
    (hq : ∀ D acc H', Hs H [(D, .lst acc)] H' → acc = (List.range us.length).filterMap f → Q (.ref D) H') : tLc (iList K tl) (gName j) tt te vs σ H Q := by
  refine w_lcLR (htl _ (w_listR hx fun D hD => ?_))
  refine turns_list (Body := LcBody (gName j) tt te vs σ D) (fun i H' => ∃ acc, Hs H [(D, .lst acc)] H' ∧ acc = (List.range i).filterMap f) ⟨[], (Hs.start H).new hD, rfl⟩ (fun i H' _ ⟨_, h, _⟩ => h.same.seq hx) ?_ ?_
  · rintro i u H' hu ⟨acc, h1, rfl⟩
    have hi := (List.getElem?_eq_some_iff.mp hu).1
    have hst : (List.range (i + 1)).filterMap f = (List.range i).filterMap f ++ (f i).toList := by
      have e1 : List.filterMap f [i] = (f i).toList := by
        rw [List.filterMap_cons]
        cases f i with
        | none => rfl
        | some y => rfl
      rw [List.range_succ, List.filterMap_append, e1]
    refine w_name ⟨hw _, he i u H' _ _ hu h1.same (fun hn H2 s2 => ?_) fun y hy H2 s2 => ?_⟩
    · refine ⟨_, h1.keep s2, ?_⟩
      rw [hst, hn]
      exact (List.append_nil _).symm
    · have hl : ((List.range i).filterMap f).length ≤ i := by
        refine Nat.le_trans (List.length_filterMap_le _ _) ?_
        rw [List.length_range]
        exact Nat.le_refl _
      refine ⟨_, s2 _ _ h1.g0, szl (by omega), _, (h1.keep s2).p0 _, ?_⟩
      rw [hst, hy]
      rfl
  · rintro H' ⟨acc, h1, h2⟩
    exact hq D acc H' h1 h2
/-- a part of the rows -/
theorem row_filter {α : Type} {R : V → α → Prop} {us : List V} {xs : List α} (r : Row R us xs) (q : α → Bool) (f : Nat → Option V) (hf : ∀ i x u, us[i]? = some u → xs[i]? = some x → f i = if q x = true then some u else none) : Row R ((List.range us.length).filterMap f) (xs.filter q) := by
  have key : ∀ n, n ≤ us.length → Row R ((List.range n).filterMap f) ((xs.take n).filter q) := fun n => by
    induction n with
    | zero => exact fun _ => Row.nil
    | succ n ih =>
      intro hn
      have hu : us[n]? = some (us[n]'(by omega)) := List.getElem?_eq_getElem _
      have hx : xs[n]? = some (xs[n]'(by have := r.1; omega)) := List.getElem?_eq_getElem _
      generalize us[n]'(by omega) = u at hu
      generalize xs[n]'(by have := r.1; omega) = x at hx
      rw [List.range_succ, List.filterMap_append, List.take_add_one, hx, List.filter_append]
      have e1 : List.filterMap f [n] = (f n).toList := by
        rw [List.filterMap_cons]
        cases f n with
        | none => rfl
        | some y => rfl
      have e2 : List.filter q (some x).toList = if q x = true then [x] else [] := by
        show List.filter q [x] = _
        rw [List.filter_cons]
        rfl
      rw [e1, e2, hf n x u hu hx]
      by_cases h : q x = true
      · rw [if_pos h, if_pos h]
        exact (ih (by omega)).snoc (r.2 n u x hu hx)
      · rw [if_neg h, if_neg h]
        show Row R (_ ++ []) (_ ++ [])
        rw [List.append_nil, List.append_nil]
        exact ih (by omega)
  have := key us.length (Nat.le_refl _)
  rw [r.1, List.take_length, ← r.1] at this
  exact this
end Hb

set_option Elab.async false
set_option linter.all false
set_option maxRecDepth 100000
set_option maxHeartbeats 4000000
/-! len(set(xs)) of tuples of ints, comprehensions with two fors -/
namespace Hb
open PySem PySem.Spec L2 PyProof.Rows
def tLenSetT (K : PySem.W.Frag) (ta : TE) : TE := fun σ H Q => ta σ H fun x H1 => ∃ (l : Addr) (ks : List (Addr × List Int)), x = V.ref l ∧ SqL K H1 l (ks.map fun p => V.ref p.1) ∧ (∀ p ∈ ks, SqT K H1 p.1 (p.2.map V.int)) ∧ ks.length < 64 ∧
  ∀ L : List (List Int), L.Nodup → (∀ x, x ∈ L ↔ x ∈ ks.map (·.2)) → Q (.int L.length) H1
section
variable {X : Cx}
theorem pe_lenSetT {a : Expr} {ta : TE} {p p2 q pos : Pos} {K : PySem.W.Frag} (hc : X.calm = true) (hu : X.A.units + 64 < cLine) (hg : Gl X "len") (hm : X.mg "len" = none) (hg2 : Gl X "set") (hm2 : X.mg "set" = none) (ha : PE X a ta)
    (na : starEach [a] X.env = (false, eval a X.env) :: starEach [] X.env := by rfl) (hK : X.K = K := by rfl) : PE X (.Call (.Name "len" p) [.Call (.Name "set" p2) [a] [] q] [] pos) (tLenSetT K ta) := by
  subst hK
  refine ⟨fun pins s σ H Q I h => ?_⟩
  refine Call_ (ld_blt I hg hm PySem.boot_len ?_)
  refine PyProof.Rows.callWith_builtin1 (PyProof.Rows.args_cons ?_ rfl) rfl rfl
  refine Call_ (ld_blt I hg2 hm2 PyProof.Rows.boot_set ?_)
  refine PyProof.Rows.callWith_type1 (PyProof.Rows.args_cons (thn (ha.run pins s σ H _ I h) fun v s1 ⟨x, H1, I1, r1, q1⟩ => PyProof.Rows.args_nil ?_) na) na rfl
  obtain ⟨l, ks, rfl, hq, hk, h1, q1⟩ := q1
  cases r1
  obtain ⟨its, rv, pl, hz⟩ := I1.list hq
  refine call_set_tups (P := X.prog) (w := X.w) ks (I1.ok.hd hc) pl.isList (by simpa using refs_of_vals rv) (fun p hp => I1.isT (hk p hp)) h1 (by omega) fun h' tk L es ep t R g hkk => ?_
  refine PyProof.Rows.args_nil ?_
  have I2 : Inv X pins σ H1 { s1 with heap := h', toks := tk } := I1.kept fun b o e => hkk b o e
  obtain ⟨o, ho, hex, hd⟩ := R.ob
  have hz2 : es.size = L.length := SetTR.size (s := { s1 with heap := h', toks := tk }) R
  refine call_len_set ho hex hd (SetTR.fits (s := { s1 with heap := h', toks := tk }) R) (by have := R.few; omega) ⟨.int (L.map (·.2)).length, H1, I2.tok _, ⟨_, by rw [hz2, List.length_map]⟩, q1 _ R.nd fun x => ⟨fun hx => ?_, fun hx => ?_⟩⟩
  · obtain ⟨p, hp, rfl⟩ := List.mem_map.mp hx
    exact List.mem_map.mpr ⟨p, List.mem_of_mem_take (g.sub p hp), rfl⟩
  · obtain ⟨p, hp, rfl⟩ := List.mem_map.mp hx
    exact g.all p (by rw [List.take_length]; exact hp)
end
/-! ### [v for t in ts for v in t if ..] -/
theorem turns_tup {K : PySem.W.Frag} {a : Addr} {xs : List V} {H0 : Hp} {Qd : Hp → Prop} {Body : (Hp → Prop) → V → Hp → Prop} (Pv : Nat → Hp → Prop) (h0 : Pv 0 H0) (hl : ∀ i H, i ≤ xs.length → Pv i H → SqT K H a xs) (hs : ∀ i x H, xs[i]? = some x → Pv i H → Body (Pv (i + 1)) x H) (hd : ∀ H, Pv xs.length H → Qd H) : Turns (Itt K a) Body H0 Qd := by
  refine ⟨fun i m H => m = xs.length - i ∧ i ≤ xs.length ∧ Pv i H, ⟨xs.length, by simp, Nat.zero_le _, h0⟩, ?_⟩
  rintro i m H ⟨rfl, hi, p⟩
  have q := hl i H hi p
  by_cases hlt : i < xs.length
  · refine .inr ⟨⟨xs, xs[i], q, by simp [hlt]⟩, Pv (i + 1), fun H' p' => ⟨xs.length - (i + 1), by omega, rfl, hlt, p'⟩, fun x H' y => ?_⟩
    obtain ⟨e, y⟩ := y
    subst e
    exact hs i x _ (y xs q) p
  · have e : i = xs.length := by omega
    subst e
    exact .inl ⟨⟨xs, q, Nat.le_refl _⟩, hd H p⟩
def Lc2In (g1 : TG) (tt1 : TT) (te : TE) (vs1 : List Nat) (σ2 : L2.St) (D : Addr) (Nx1 : Hp → Prop) (x : V) (H : Hp) : Prop := g1 x (wipe σ2 vs1) H fun σ3 H5 => wipe σ3 vs1 = wipe σ2 vs1 ∧ tt1 σ3 H5 fun b H6 =>
  if b = true then te σ3 H6 fun y H7 => ∃ acc, H7 D = some (.lst acc) ∧ acc.length < sizeLine ∧ Nx1 (upd H7 D (.lst (acc ++ [y]))) else Nx1 H6
def Lc2Out (g : TG) (tt : TT) (wi1 : TI) (g1 : TG) (tt1 : TT) (te : TE) (vs vs1 : List Nat) (σ : L2.St) (D : Addr) (Nx : Hp → Prop) (x : V) (H : Hp) : Prop := g x (wipe σ vs) H fun σ2 H2 => wipe σ2 vs = wipe σ vs ∧ tt σ2 H2 fun b H3 =>
  if b = true then wi1 σ2 H3 fun J1 H4 => Turns J1 (Lc2In g1 tt1 te vs1 σ2 D) H4 Nx else Nx H3
theorem w_lc2R {K : PySem.W.Frag} {σ : L2.St} {H : Hp} {Q : VK} {tl : TE} {g : TG} {tt : TT} {wi1 : TI} {g1 : TG} {tt1 : TT} {te : TE} {vs vs1 : List Nat} (q : tl σ H fun x H1 => ListR K x H1 fun J H1 => ∀ D, H1 D = none → Turns J (Lc2Out g tt wi1 g1 tt1 te vs vs1 σ D) (upd H1 D (.lst [])) fun H => Q (.ref D) H) : tLc2 (iList K tl) g tt wi1 g1 tt1 te vs vs1 σ H Q := q
/-- the rows are tuples; what is kept of them, in order -/
theorem w_lc2T {K : PySem.W.Frag} {σ : L2.St} {H : Hp} {Q : VK} {tl tm : TE} {tt1 : TT} {te : TE} {j j1 : Nat} {vs vs1 : List Nat} {a : Addr} {us : List V} (it : Nat → List V) (keep : Nat → Nat → Bool) (hx : SqL K H a us) (hz : us.length ≤ 100000) (h2 : ∀ i, (it i).length ≤ 10)
    (hu : ∀ (i : Nat) (u : V), us[i]? = some u → ∃ p, u = .ref p ∧ H p = some (.tup (it i)))
    (htl : ∀ Q : VK, Q (.ref a) H → tl σ H Q) (hw : ∀ v, wipe ((wipe σ vs).set j (some v)) vs = wipe σ vs)
    (htm : ∀ (v : V) (H' : Hp) (Q' : VK), Q' v H' → tm ((wipe σ vs).set j (some v)) H' Q')
    (hw1 : ∀ u v, wipe ((wipe ((wipe σ vs).set j (some u)) vs1).set j1 (some v)) vs1 = wipe ((wipe σ vs).set j (some u)) vs1)
    (he : ∀ (i k : Nat) (p : Addr) (v : V) (H' : Hp) (Nx : Hp → Prop) (Ap : VK), us[i]? = some (.ref p) → (it i)[k]? = some v → Same H H' → (keep i k = false → ∀ H2, Same H' H2 → Nx H2) → (keep i k = true → ∀ H2, Same H' H2 → Ap v H2) →
      tt1 ((wipe ((wipe σ vs).set j (some (.ref p))) vs1).set j1 (some v)) H' fun b H2 => if b = true then te ((wipe ((wipe σ vs).set j (some (.ref p))) vs1).set j1 (some v)) H2 Ap else Nx H2)
    (hq : ∀ D acc H', Hs H [(D, .lst acc)] H' → acc = (List.range us.length).flatMap (fun i => (List.range (it i).length).filterMap fun k => if keep i k = true then (it i)[k]? else none) → Q (.ref D) H') :
    tLc2 (iList K tl) (gName j) tYes (iTup K tm) (gName j1) tt1 te vs vs1 σ H Q := by
  refine w_lc2R (htl _ (w_listR hx fun D hD => ?_))
  let row : Nat → Nat → List V := fun i n => (List.range n).filterMap fun k => if keep i k = true then (it i)[k]? else none
  let done : Nat → List V := fun n => (List.range n).flatMap fun i => row i (it i).length
  have rowz : ∀ i n, (row i n).length ≤ n := fun i n => by
    refine Nat.le_trans (List.length_filterMap_le _ _) ?_
    rw [List.length_range]
    exact Nat.le_refl _
  have donez : ∀ n, (done n).length ≤ n * 10 := fun n => by
    induction n with
    | zero => exact Nat.le_refl _
    | succ n ih =>
      show ((List.range (n + 1)).flatMap fun i => row i (it i).length).length ≤ _
      rw [List.range_succ, List.flatMap_append, List.length_append]
      have h1 := rowz n (it n).length
      have h3 := h2 n
      have h4 : ([n].flatMap fun i => row i (it i).length).length = (row n (it n).length).length := by simp
      rw [h4]
      have : (List.flatMap (fun i => row i (it i).length) (List.range n)).length ≤ n * 10 := ih
      omega
  refine turns_list (Body := Lc2Out (gName j) tYes (iTup K tm) (gName j1) tt1 te vs vs1 σ D) (fun i H' => Hs H [(D, .lst (done i))] H') ((Hs.start H).new hD) (fun i H' _ h => h.same.seq hx) ?_ ?_
  · intro i u H' hui hs
    obtain ⟨p, rfl, hp⟩ := hu i u hui
    have hi := (List.getElem?_eq_some_iff.mp hui).1
    refine w_name ⟨hw _, w_yes (iteT (htm _ _ _ ⟨p, rfl, ⟨_, SqT.of (hs.same _ _ hp)⟩, ?_⟩))⟩
    refine turns_tup (xs := it i) (Body := Lc2In (gName j1) tt1 te vs1 _ D) (fun k H2 => Hs H [(D, .lst (done i ++ row i k))] H2) ?_ (fun k H2 _ h => SqT.of (h.same _ _ hp)) ?_ ?_
    · show Hs H [(D, .lst (done i ++ []))] H'
      rw [List.append_nil]
      exact hs
    · intro k v H2 hv hs2
      have hst : row i (k + 1) = row i k ++ (if keep i k = true then [v] else []) := by
        show (List.range (k + 1)).filterMap _ = _
        rw [List.range_succ, List.filterMap_append]
        congr 1
        rw [List.filterMap_cons, hv]
        cases keep i k with
        | true => rfl
        | false => rfl
      refine w_name ⟨hw1 _ _, he i k p v H2 _ _ hui hv hs2.same (fun hn H3 s3 => ?_) fun hy H3 s3 => ?_⟩
      · rw [hst, hn]
        simp only [Bool.false_eq_true, if_false, List.append_nil]
        exact hs2.keep s3
      · have z1 := donez i
        have z2 := rowz i k
        have z3 := h2 i
        have z4 := (List.getElem?_eq_some_iff.mp hv).1
        refine ⟨_, s3 _ _ hs2.g0, szl (by rw [List.length_append]; omega), ?_⟩
        rw [hst, hy]
        simp only [if_true]
        rw [← List.append_assoc]
        exact (hs2.keep s3).p0 _
    · intro H2 hs2
      have : done (i + 1) = done i ++ row i (it i).length := by
        show (List.range (i + 1)).flatMap _ = _
        rw [List.range_succ, List.flatMap_append]
        simp [done]
      show Hs H [(D, .lst (done (i + 1)))] H2
      rw [this]
      exact hs2
  · intro H' hs
    exact hq D _ H' hs rfl
end Hb

set_option Elab.async false
set_option linter.all false
set_option maxRecDepth 100000
set_option maxHeartbeats 4000000
/-! for over a tuple; a number in a list of numbers -/
namespace Hb
open PySem PySem.Spec L2 PyProof.Rows
section
variable {K : PySem.W.Frag} {σ : L2.St} {H : Hp} {Q : VK} {D : Ends} {g : TG} {tb : TS}
def TupR (K : PySem.W.Frag) (x : V) (H1 : Hp) (R : It → Hp → Prop) : Prop := ∃ a, x = V.ref a ∧ (∃ xs, SqT K H1 a xs) ∧ R (Itt K a) H1
theorem w_forTF {tl : TE} (q : tl σ H fun x H1 => TupR K x H1 (ForR g tb D σ)) : tFor (iTup K tl) g tb D σ H := q
theorem w_tupR {a : Addr} {xs : List V} {R : It → Hp → Prop} (h : SqT K H a xs) (q : R (Itt K a) H) : TupR K (.ref a) H R := ⟨a, rfl, ⟨xs, h⟩, q⟩
theorem for_tupR {a : Addr} {xs : List V} (Pv : Nat → L2.St → Hp → Prop) (h0 : Pv 0 σ H) (hl : ∀ i σ H, i ≤ xs.length → Pv i σ H → SqT K H a xs)
    (hs : ∀ i x σ H, xs[i]? = some x → Pv i σ H → g x σ H fun σ2 H2 => tb { D with nx := Pv (i + 1), ct := Pv (i + 1), bk := D.nx } σ2 H2) (hd : ∀ σ H, Pv xs.length σ H → D.nx σ H) : ForR g tb D σ (Itt K a) H := by
  refine ⟨fun i m σ H => m = xs.length - i ∧ i ≤ xs.length ∧ Pv i σ H, ⟨xs.length, by simp, Nat.zero_le _, h0⟩, ?_⟩
  rintro i m σ' H' ⟨rfl, hi, p⟩
  have q := hl i σ' H' hi p
  by_cases hlt : i < xs.length
  · refine .inr ⟨⟨xs, xs[i], q, List.getElem?_eq_getElem hlt⟩, Pv (i + 1), fun σ2 H2 p2 => ⟨xs.length - (i + 1), by omega, rfl, hlt, p2⟩, fun v H2 y => ?_⟩
    obtain ⟨rfl, y⟩ := y
    exact hs i v _ _ (y xs q) p
  · have e : i = xs.length := by omega
    subst e
    exact .inl ⟨⟨xs, q, Nat.le_refl _⟩, hd σ' H' p⟩
theorem inV_ints {n : Int} : ∀ ns : List Int, inV (.int n) (ns.map V.int) = decide (n ∈ ns)
  | [] => rfl
  | m :: ns => by
    have ih := inV_ints (n := n) ns
    unfold inV at ih ⊢
    rw [List.map_cons, List.any_cons, ih]
    have e : eqV (.int m) (.int n) = decide (n = m) := by
      by_cases h : m = n
      · subst h
        simp [eqV]
      · rw [decide_eq_false (Ne.symm h)]
        simp [eqV, h]
    rw [e]
    simp
theorem flat_ints : ∀ ns : List Int, (ns.map V.int).all flatV = true
  | [] => rfl
  | _ :: ns => by
    rw [List.map_cons, List.all_cons, flat_ints ns]
    rfl
theorem w_inIs {neg : Bool} {n : Int} {ns : List Int} {p : Addr} (h : SqL K H p (ns.map V.int)) (q : Q (.bl (if neg then !decide (n ∈ ns) else decide (n ∈ ns))) H) : rIn K neg (.int n) (.ref p) H Q := by
  refine ⟨p, _, rfl, .inl h, rfl, flat_ints ns, ?_⟩
  rw [inV_ints]
  exact q
theorem Hs.down {B B1 H : Hp} {L : List (Addr × HO)} (e : Same B B1) (hs : Hs B1 L H) : Hs B L H := ⟨e.trans hs.same, hs.nd, fun x hx => e.free (hs.out x hx), hs.at_⟩
theorem Hs.tups {B H : Hp} {L : List (Addr × HO)} (hs : Hs B L H) : ∀ p xs, B p = some (.tup xs) → H p = some (.tup xs) := fun _ _ => hs.same _ _
/-- what stands, owned for a while -/
theorem Hs.own {H : Hp} {d : Addr} {o : HO} (h : H d = some o) : ∃ B, Hs B [(d, o)] H ∧ (∀ p o', p ≠ d → H p = some o' → B p = some o') ∧ ∀ L H', Hs B (L ++ [(d, o)]) H' → Hs H L H' := by
  refine ⟨fun a => if a = d then none else H a, ⟨fun b o' hb => ?_, by simp, fun x hx => ?_, fun x hx => ?_⟩, fun p o' hp e => ?_, fun L H' hs => ⟨fun b o' hb => ?_, ?_, fun x hx => ?_, fun x hx => hs.at_ x (List.mem_append_left _ hx)⟩⟩
  · by_cases hd : b = d
    · rw [if_pos hd] at hb
      cases hb
    · rwa [if_neg hd] at hb
  · rw [List.mem_singleton.mp hx]
    exact if_pos rfl
  · rw [List.mem_singleton.mp hx]
    exact h
  · exact (if_neg hp).trans e
  · by_cases hd : b = d
    · subst hd
      rw [h] at hb
      cases hb
      exact hs.at_ (b, o) (List.mem_append_right _ (List.mem_singleton.mpr rfl))
    · exact hs.same b o' (by rw [if_neg hd]; exact hb)
  · have := hs.nd
    rw [List.map_append] at this
    exact (List.nodup_append.mp this).1
  · have h1 := hs.out x (List.mem_append_left _ hx)
    have h2 := hs.nd
    rw [List.map_append, List.nodup_append] at h2
    have h3 : x.1 ≠ d := fun e => h2.2.2 x.1 (List.mem_map_of_mem hx) d (by simp) e
    rwa [if_neg h3] at h1
/-! a dict read while it is walked -/
theorem w_dgetF {p : Addr} {kvs : List (Key × V)} {n : Int} {v : V} {od : Obj} (h : H p = some (.frz od (.dK kvs))) (hv : valV kvs (Sum.inl n) = some v) (q : Q v H) : RDget (.ref p) (.int n) H Q := ⟨p, v, rfl, .inl ⟨kvs, Sum.inl n, .inr ⟨od, h⟩, rfl, hv.symm⟩, q⟩
theorem w_ext2 {B : Hp} {L : List (Addr × HO)} {l b : Addr} {xs zs : List V} (hs : Hs B ((b, .lst zs) :: (l, .lst xs) :: L) H) (hl : xs.length + zs.length ≤ 1000000) (q : ∀ H', Hs B ((l, .lst (xs ++ zs)) :: L) H' → Q .non H') : rExtend (.ref l) [.ref b] H Q :=
  ⟨l, b, xs, zs, rfl, rfl, hs.g1, hs.g0, Nat.le_of_lt (szl (by omega)), q _ (hs.p1 _).tl⟩
theorem w_listDK {B : Hp} {L : List (Addr × HO)} {d : Addr} {kvs : List (Key × V)} (hs : Hs B L H) (h : H d = some (.dK kvs)) (q : ∀ p H', Hs B ((p, .lst (kvs.map fun kv => kV kv.1)) :: L) H' → Q (.ref p) H') : rListD [.ref d] H Q := ⟨d, kvs, rfl, h, w_new hs q⟩
theorem Hs.allin {B H : Hp} {L : List (Addr × HO)} (hs : Hs B L H) : ∃ B2, Same B B2 ∧ Hs B2 L H ∧ (∀ p o, H p = some o → p ∉ L.map (·.1) → B2 p = some o) := by
  have h := (show Hs B (L ++ []) H by rw [List.append_nil]; exact hs).frame L
  exact ⟨around L H, h.1, h.2.1, fun p o e n => by rw [around_out n]; exact e⟩
/-- a part stays one's own, the others go into the ground -/
theorem Hs.rest {B H : Hp} {R : List (Addr × HO)} (L : List (Addr × HO)) (hs : Hs B (L ++ R) H) : ∃ B2, Same B B2 ∧ Hs B2 L H ∧ ∀ e ∈ R, B2 e.1 = some e.2 := by
  have h := hs.frame L
  refine ⟨around L H, h.1, h.2.1, fun e he => ?_⟩
  have nd := hs.nd
  rw [List.map_append, List.nodup_append] at nd
  rw [around_out fun z => nd.2.2 e.1 z e.1 (List.mem_map_of_mem he) rfl]
  exact hs.at_ e (List.mem_append_right _ he)
/-! what repr shows -/
def IB (n : Int) : Prop := 0 ≤ n ∧ n ≤ 100
structure Sh (D b : Nat) (d : PyData) : Prop where
  lay : d.canLay0 = true
  dep : d.depth ≤ D
  sho : d.showable = true
  blk : d.bulk ≤ b
  lvs : d.leavesShort 13 = true
theorem Sh.mono {D D' b b' : Nat} (h1 : D ≤ D') (h2 : b ≤ b') {d : PyData} (h : Sh D b d) : Sh D' b' d := ⟨h.lay, Nat.le_trans h.dep h1, h.sho, Nat.le_trans h.blk h2, h.lvs⟩
structure ShA (D b : Nat) (xs : List PyData) : Prop where
  lay : PyData.canLayAll0 xs = true
  dep : PyData.depthAll xs ≤ D
  sho : PyData.showableAll xs = true
  blk : PyData.bulkAll xs ≤ b
  lvs : PyData.leavesShortAll 13 xs = true
theorem ShA.nil {D b : Nat} : ShA D b [] := ⟨rfl, Nat.zero_le _, rfl, Nat.zero_le _, rfl⟩
theorem ShA.cons {D b c : Nat} {x : PyData} {xs : List PyData} (h : Sh D b x) (t : ShA D c xs) : ShA D (b + 1 + c) (x :: xs) := by
  have h1 := h.dep
  have h2 := t.dep
  have h3 := h.blk
  have h4 := t.blk
  refine ⟨?_, ?_, ?_, ?_, ?_⟩
  · simp only [PyData.canLayAll0, h.lay, t.lay, Bool.and_self]
  · simp only [PyData.depthAll]
    omega
  · simp only [PyData.showableAll, h.sho, t.sho, Bool.and_self]
  · simp only [PyData.bulkAll]
    omega
  · simp only [PyData.leavesShortAll, h.lvs, t.lvs, Bool.and_self]
theorem ShA.all {D b : Nat} : ∀ {xs : List PyData}, (∀ x ∈ xs, Sh D b x) → ShA D (xs.length * (b + 1)) xs
  | [], _ => ShA.nil
  | x :: xs, h => by
    have := (h x (List.mem_cons_self ..)).dep
    have t := ShA.cons (h x (List.mem_cons_self ..)) (ShA.all fun y hy => h y (List.mem_cons_of_mem _ hy))
    rw [List.length_cons, Nat.add_mul, Nat.one_mul, Nat.add_comm]
    exact t
theorem Sh.tup {D b : Nat} {xs : List PyData} (h : ShA D b xs) : Sh (D + 1) b (.tuple xs) := by
  have := h.dep
  exact ⟨by simp only [PyData.canLay0, h.lay], by simp only [PyData.depth]; omega, by simp only [PyData.showable, h.sho], by simp only [PyData.bulk]; exact h.blk, by simp only [PyData.leavesShort, h.lvs]⟩
theorem Sh.lst {D b : Nat} {xs : List PyData} (h : ShA D b xs) : Sh (D + 1) b (.list xs) := by
  have := h.dep
  exact ⟨by simp only [PyData.canLay0, h.lay], by simp only [PyData.depth]; omega, by simp only [PyData.showable, h.sho], by simp only [PyData.bulk]; exact h.blk, by simp only [PyData.leavesShort, h.lvs]⟩
theorem small_ints : ∀ n : Fin 101, (PyData.int ((n.val : Nat) : Int)).showable = true ∧ (PyData.int ((n.val : Nat) : Int)).leavesShort 13 = true := by decide +kernel
theorem Sh.int {n : Int} (h : IB n) : Sh 0 0 (.int n) := by
  have := small_ints ⟨n.toNat, by have := h.2; omega⟩
  have e : ((n.toNat : Nat) : Int) = n := by have := h.1; omega
  rw [e] at this
  exact ⟨rfl, Nat.le_refl _, this.1, Nat.le_refl _, this.2⟩
theorem Sh.ints {ns : List Int} (h : ∀ x ∈ ns, IB x) : Sh 1 (ns.length * 1) (.tuple (ns.map .int)) := by
  have := Sh.tup (ShA.all (D := 0) (b := 0) (xs := ns.map .int) fun d hd => by
    obtain ⟨x, hx, rfl⟩ := List.mem_map.mp hd
    exact Sh.int (h x hx))
  rw [List.length_map] at this
  exact this
/-! != of two dicts that map alike: the values are data -/
theorem kv_at {ls : List (Key × V)} {vs : List (Key × Value)} (r : KV ls vs) {k : Key} {u : V} (h : valV ls k = some u) : ∃ y, valueAt vs k = some y ∧ RelV u y := by
  induction r with
  | nil => cases h
  | @cons p q ps qs h1 _ ih =>
    unfold valV at h
    rw [List.find?_cons] at h
    unfold valueAt
    rw [List.find?_cons]
    by_cases hk : q.1 = k
    · have e1 : decide (p.1 = k) = true := decide_eq_true (h1.1.trans hk)
      rw [e1] at h
      cases h
      rw [decide_eq_true hk]
      exact ⟨q.2, rfl, h1.2⟩
    · have e1 : decide (p.1 = k) = false := decide_eq_false fun z => hk (h1.1.symm.trans z)
      rw [e1] at h
      rw [decide_eq_false hk]
      exact ih h
def rNeDD (K : PySem.W.Frag) : R2 := fun x y H Q => ∃ (a b : Addr) (ks ls : List (Key × V)), x = .ref a ∧ y = .ref b ∧ H a = some (.dK ks) ∧ H b = some (.dK ls) ∧ ks.length = ls.length ∧ (∀ p ∈ ks, ∃ u d, valV ls p.1 = some u ∧ Dp K H p.2 d ∧ Dp K H u d ∧ SeqAt.shaped d = true) ∧ Q (.bl false) H
theorem op_neDD {X : Cx} (hu : X.A.units + 65 < cLine) (hK : X.K = K := by rfl) : OpR X (compareOp .NotEq) (rNeDD K) := by
  subst hK
  intro pins s σ H x y v u Q I rx ry h
  obtain ⟨a, b, ks, ls, rfl, rfl, ha, hb, hl, hall, q⟩ := h
  cases rx
  cases ry
  obtain ⟨_, na, va, ra, da⟩ := dk_of I.hok ha
  obtain ⟨_, nb, vb, rb, db⟩ := dk_of I.hok hb
  have hits : ∀ {ks : List (Key × V)} {va : List (Key × Value)}, KV ks va → (∀ p ∈ ks, ∃ u d, valV ls p.1 = some u ∧ Dp X.K H p.2 d ∧ Dp X.K H u d ∧ SeqAt.shaped d = true) → PySem.W.KeqHits X.A.in1 s vb va true := fun {ks va} r => by
    induction r with
    | nil => exact fun _ => .nil
    | @cons p z ps zs h1 _ ih =>
      intro hall
      obtain ⟨u, d, h2, h3, h4, h5⟩ := hall p List.mem_cons_self
      obtain ⟨y, hy, ry⟩ := kv_at rb h2
      obtain ⟨as, g1⟩ := Dp.reads I d _ _ h3 h1.2
      obtain ⟨bs, g2⟩ := Dp.reads I d _ _ h4 ry
      have e := PySem.W.keq_at (A := X.A) g1 g2 h5 h5 (by show X.A.units + 1 + 64 < cLine; omega)
      rw [SeqAt.eqv_refl _ (shp_can h5)] at e
      have hz : z = (z.1, z.2) := rfl
      have := PySem.W.KeqHits.hit (k := z.1) (v := z.2) (by rw [← h1.1]; exact hy) e (ih fun p hp => hall p (List.mem_cons_of_mem _ hp))
      exact this
  have len : va.length = vb.length := by
    have h1 := Paired.length ra
    have h2 := Paired.length rb
    omega
  refine PySem.W.keq_ne na nb da db (by omega) (fun _ => hits ra hall) ?_
  have e : (!(va.length == vb.length && true)) = false := by rw [len]; simp
  rw [e]
  exact ⟨.bl false, H, I, rfl, q⟩
/-! two ways to one place -/
theorem w_orD {b1 b2 : Bool} {tb : TE} (h : b1 = false → ∀ R : VK, R (.bl b2) H → tb σ H R) (q : Q (.bl (b1 || b2)) H) : ∃ k, V.bl b1 = .bl k ∧ if k = true then Q (.bl true) H else tb σ H Q := by
  refine ⟨b1, rfl, ?_⟩
  cases b1 with
  | true => exact q
  | false => exact h rfl _ q
theorem join {A G : Prop} (f : A → G) (a : A) : G := f a
/-! [x for x in us if ..], what is told of a row -/
theorem w_lcFR {α : Type} {RR : V → α → Prop} {σ : L2.St} {tl : TE} {a : Addr} {tt : TT} {us : List V} {xs : List α} {i : Nat} (p : α → Bool) (hx : SqL K H a us) (hL : Row RR us xs) (hz : us.length ≤ 1000) (htl : ∀ Q : VK, Q (.ref a) H → tl σ H Q)
    (hw : ∀ x, wipe ((wipe σ [i]).set i (some x)) [i] = wipe σ [i]) (hv : ∀ x, ((wipe σ [i]).set i (some x))[i]? = some (some x))
    (ht : ∀ u x H1, x ∈ xs → RR u x → Same H H1 → ∀ R : Bool → Hp → Prop, (∀ H2, Same H1 H2 → R (p x) H2) → tt ((wipe σ [i]).set i (some u)) H1 R)
    (hq : ∀ D acc H', Hs H [(D, .lst acc)] H' → Row RR acc (xs.filter p) → Q (.ref D) H') : tLc (iList K tl) (gName i) tt (tVar i) [i] σ H Q := by
  refine w_lc hx (fun D j H' => ∃ acc, Hs H [(D, .lst acc)] H' ∧ Row RR acc ((xs.take j).filter p)) htl (fun D hD => ⟨[], (Hs.start H).new hD, Row.nil⟩) (fun D j H' _ ⟨_, h, _⟩ => h.same.seq hx) ?_ ?_
  · rintro D j u H' hj ⟨acc, h1, h2⟩
    obtain ⟨x, hxj, hk⟩ := hL.get hj
    refine ⟨hw _, ht u x H' (List.mem_of_getElem? hxj) hk h1.same _ fun H2 sb => ?_⟩
    have hlen := h2.1
    have hj2 := (List.getElem?_eq_some_iff.mp hj).1
    have h3 : Hs H [(D, .lst acc)] H2 := h1.keep sb
    have e1 := take_filter (p := p) hxj
    by_cases hp : p x = true
    · rw [if_pos hp]
      rw [if_pos hp] at e1
      refine ⟨_, hv _, acc, h3.g0, ?_, acc ++ [u], h3.p0 _, ?_⟩
      · refine szl ?_
        have := List.length_filter_le p (xs.take j)
        rw [List.length_take] at this
        omega
      · rw [e1]
        exact h2.snoc hk
    · rw [if_neg hp]
      rw [if_neg hp, List.append_nil] at e1
      refine ⟨acc, h3, ?_⟩
      rw [e1]
      exact h2
  · rintro D H' ⟨acc, h1, h2⟩
    rw [hL.1, List.take_length] at h2
    exact hq D acc H' h1 h2
theorem op_niDT {X : Cx} (hu : X.A.units + 65 < cLine) (hK : X.K = K := by rfl) : OpR X (compareOp .NotIn) (rInDT K true) := by
  subst hK
  intro pins s σ H x y v u Q I rx ry h
  obtain ⟨d, ds, hd, he, sd, se, q⟩ := h
  obtain ⟨as, r1⟩ := Dp.reads I d x v hd rx
  obtain ⟨bs, r2⟩ := Dp.reads I (.tuple ds) y u he ry
  exact SeqAt.notIn_tuple_reads r2 r1 (SeqAt.canLay_of_shaped se) (SeqAt.canLay_of_shaped sd) (room_in_shaped sd hu) ⟨.bl _, H, I, rfl, q⟩
theorem w_isTu {p : Addr} {xs : List V} (h : H p = some (.tup xs)) (k : Q (.bl true) H) : rIsi K [.ref p, .ty "tuple"] H Q :=
  ⟨_, _, _, _, true, rfl, .ty "tuple", .base (.tup h), kit_ty (by decide +kernel), k⟩
theorem w_notBl {a b : Bool} (q : Q (.bl (!decide (a = b))) H) : rNotB (.bl a) (.bl b) H Q := ⟨a, b, rfl, rfl, q⟩
/-! one tuple of ints > another one -/
def rGtT : R2 := fun x y H Q => ∃ (a b : Addr) (ns ms : List Int), x = .ref a ∧ y = .ref b ∧ H a = some (.tup (ns.map V.int)) ∧ H b = some (.tup (ms.map V.int)) ∧ ns.length = ms.length ∧ Q (.bl (lexI ms ns)) H
theorem op_gtT {X : Cx} (hu : X.A.units + 64 < cLine) : OpR X (compareOp .Gt) rGtT := by
  intro pins s σ H x y v u Q I rx ry h
  obtain ⟨a, b, ns, ms, rfl, rfl, ha, hb, hl, q⟩ := h
  obtain ⟨as, r1⟩ := Dp.reads I (.tuple (ns.map .int)) _ _ (.tup (SqT.of ha) (im_ints ns).dp) rx
  obtain ⟨bs, r2⟩ := Dp.reads I (.tuple (ms.map .int)) _ _ (.tup (SqT.of hb) (im_ints ms).dp) ry
  refine PySem.W.gt_data r1 r2 (alike_ints hl) (by intro z; cases z) ?_ ⟨.bl (lexI ms ns), H, I, ?_, q⟩
  · have h1 := depth_ints ns
    have h2 := depth_ints ms
    simp only [PyData.depth]
    omega
  · rw [dataLt_ints]
    rfl
theorem w_gtT {a b : Addr} {ns ms : List Int} (ha : H a = some (.tup (ns.map V.int))) (hb : H b = some (.tup (ms.map V.int))) (hl : ns.length = ms.length) (q : Q (.bl (lexI ms ns)) H) : rGtT (.ref a) (.ref b) H Q := ⟨a, b, ns, ms, rfl, rfl, ha, hb, hl, q⟩
/-! a comprehension within another one's block -/
theorem look_rel {env : Env} {n : Str} : ∀ {l : List (Str × NameKind)} {k : NameKind}, l.lookup n = some k → k = .cell ∨ k = .free →
    (l.map fun x => match x with
      | (n, k) => if (k == NameKind.free && env.scope.kind == ScopeKind.function && env.kindOf n == some NameKind.cell) = true then (n, NameKind.cell) else (n, k)).lookup n = some .cell ∨
    (l.map fun x => match x with
      | (n, k) => if (k == NameKind.free && env.scope.kind == ScopeKind.function && env.kindOf n == some NameKind.cell) = true then (n, NameKind.cell) else (n, k)).lookup n = some .free
  | [], _, h, _ => nomatch h
  | (m, j) :: l, k, h, hk => by
    rw [List.lookup_cons] at h
    rw [List.map_cons]
    by_cases hm : n = m
    · subst hm
      have e : (n == n) = true := by simp
      rw [e] at h
      cases h
      by_cases hc : (j == NameKind.free && env.scope.kind == ScopeKind.function && env.kindOf n == some NameKind.cell) = true
      · left
        show List.lookup n ((if _ then _ else _) :: _) = _
        rw [if_pos hc, List.lookup_cons, e]
      · rcases hk with rfl | rfl
        · left
          show List.lookup n ((if _ then _ else _) :: _) = _
          rw [if_neg hc, List.lookup_cons, e]
        · right
          show List.lookup n ((if _ then _ else _) :: _) = _
          rw [if_neg hc, List.lookup_cons, e]
    · have e : (n == m) = false := by simpa using hm
      rw [e] at h
      have ih := look_rel (env := env) (l := l) h hk
      by_cases hc : (j == NameKind.free && env.scope.kind == ScopeKind.function && env.kindOf m == some NameKind.cell) = true
      · show List.lookup n ((if _ then _ else _) :: _) = _ ∨ List.lookup n ((if _ then _ else _) :: _) = _
        rw [if_pos hc, List.lookup_cons, e]
        exact ih
      · show List.lookup n ((if _ then _ else _) :: _) = _ ∨ List.lookup n ((if _ then _ else _) :: _) = _
        rw [if_neg hc, List.lookup_cons, e]
        exact ih
theorem blkOk_in {N : List Str} {scO scope : Scope} {own : List (Str × Nat)} {env : Env} {cl : List (Str × Addr)} {C : Addr} (h : blkC N scO scope own = true) : BlkOk N (Env.scope (compEnvC scO cl C env)) scope own := by
  have b : BlkOk N scO scope own := blkOk_by h
  exact ⟨b.kind, b.uniq, b.ix, fun y hy hk => (b.free y hy hk).elim (fun z => look_rel z (.inl rfl)) (fun z => look_rel z (.inr rfl)), b.own⟩
/-! xs[::-1] -/
theorem pe_revLK {X : Cx} {e : Expr} {te : TE} {k p1 p2 p3 pos} (he : PE X e te) (hK : X.K = K := by rfl) : PE X (.Subscript e (.Slice none none (some (.UnaryOp .USub (.Constant (.int 1) k p1) p2)) p3) pos) (tRevL K te) := by
  subst hK
  exact pe_revL he
def RevR (K : PySem.W.Frag) (x : V) (H1 : Hp) (Q : VK) : Prop := ∃ a xs, x = .ref a ∧ SqL K H1 a xs ∧ ∀ p, H1 p = none → Q (.ref p) (upd H1 p (.lst xs.reverse))
theorem w_revL {te : TE} (q : te σ H fun x H1 => RevR K x H1 Q) : tRevL K te σ H Q := q
theorem w_revR {B : Hp} {L : List (Addr × HO)} {a : Addr} {xs : List V} (hs : Hs B L H) (h : SqL K H a xs) (q : ∀ l H', Hs B ((l, .lst xs.reverse) :: L) H' → Q (.ref l) H') : RevR K (.ref a) H Q := ⟨a, xs, rfl, h, w_new hs q⟩
end
end Hb

set_option Elab.async false
set_option linter.all false
set_option maxRecDepth 100000
set_option maxHeartbeats 4000000
/-! Walks over dicts with tuple keys. -/
namespace Hb
open PySem L2 PyProof.Rows
/-- the keys' tuples of the locked dict at d, in its order -/
def Itn (w : World) (d : Addr) (o : Obj) (es : List Ent) : It :=
  ⟨fun i H => H d = some (.frz o (DN w d es)) ∧ i < es.length, fun i H x H' => H' = H ∧ ∃ e : Ent, es[i]? = some e ∧ x = .ref e.2.1, fun i H => H d = some (.frz o (DN w d es)) ∧ es.length ≤ i⟩
theorem dn_raw {X : Cx} {pins : List (Addr × Obj)} {σ : L2.St} {H : Hp} {s : Shared} {w : World} {d : Addr} {o : Obj} {es : List Ent} (I : Inv X pins σ H s) (h : H d = some (.frz o (DN w d es))) :
    (d == sysModules) = false ∧ s.heap.get? d = some o ∧ o.ExactDict ∧ ∃ (ds : Array DictEntry) (ep : Nat), o.data = .dict ds ep ∧ ds.size = es.length ∧ ∀ (i : Nat) (e : Ent), es[i]? = some e → ∃ en : DictEntry, ds[i]? = some en ∧ en.key = .ref e.2.1 := by
  obtain ⟨hd, ⟨_, hs, xs, r, o', ds, ep, ho, hx, hdt, he, _⟩, _⟩ := (show ObjOk X.prog X.w H s.heap d (.frz o (DN w d es)) from I.hok _ _ h)
  rw [hd] at ho
  cases ho
  have l1 : ds.size = xs.length := by rw [← Array.length_toList, he, List.length_map]
  refine ⟨hs, hd, hx, ds, ep, hdt, by rw [l1, r.len], fun i e hi => ?_⟩
  obtain ⟨b, hb, _, e2, _⟩ := paired_get r hi
  refine ⟨entN w b, ?_, congrArg Value.ref e2.symm⟩
  rw [← Array.getElem?_toList, he, List.getElem?_map, hb]
  rfl
section
variable {P : Program} {w : World} {K : PySem.W.Frag} {tg : Expr} {d : Addr} {o : Obj} {ds : Array DictEntry} {ep : Nat}
theorem turn_keysN {w0 : World} {es : List Ent} (it : Addr) (hod : o.data = .dict ds ep) : Turn P w K tg (Itn w0 d o es) [it] it (fun i h => h.IsKeyIter it d i es.length ep) where
  mem := List.mem_singleton.mpr rfl
  obj := fun i h st b hb => by
    obtain rfl := List.mem_singleton.mp hb
    obtain ⟨oi, e, c, dd⟩ := st
    exact ⟨oi, e, fun v z => by rw [dd] at z; cases z⟩
  keep := fun i h h' st k => st.at fun oi e => k it (List.mem_singleton.mpr rfl) oi e
  item := by
    intro X hP hw hK hc i pins s σ H E I hf st hg
    subst hP hw hK
    obtain ⟨hd, hi⟩ := hg
    obtain ⟨f0, f1, f2, f3, f4, f5⟩ := hf it (List.mem_singleton.mpr rfl)
    obtain ⟨hs, hgd, hx, ds', ep', hdt, hsz, ent⟩ := dn_raw I hd
    obtain ⟨rfl, rfl⟩ := dict_ep hod hdt
    obtain ⟨en, hen, hkey⟩ := ent i es[i] (List.getElem?_eq_getElem hi)
    refine next_key_item st hgd hdt hsz hen fun h' st' sb => ?_
    have I1 : Inv X pins σ H { s with heap := h' } := I.turned (t' := s.toks) (fun b ob hb e => (sb.2 b hb).trans e) f0 f1 f3 f4 f5
    obtain ⟨oi, e, c, dd⟩ := id st'
    exact ⟨en.key, rfl, go_of (s := { s with heap := h' }) e c dd (by decide) ⟨.ref es[i].2.1, H, I1, hkey, ⟨rfl, es[i], List.getElem?_eq_getElem hi, rfl⟩, st', fun b hb => (hf b hb).1⟩⟩
  done := by
    intro X hP hw hK hc i pins s σ H E I hf st hg
    subst hP hw hK
    obtain ⟨hd, hi⟩ := hg
    obtain ⟨f0, f1, f2, f3, f4, f5⟩ := hf it (List.mem_singleton.mpr rfl)
    obtain ⟨hs, hgd, hx, ds', ep', hdt, hsz, ent⟩ := dn_raw I hd
    obtain ⟨rfl, rfl⟩ := dict_ep hod hdt
    exact next_key_end (I.ok.hd hc) st hgd hdt hsz hi fun h' eb => ⟨rfl, I.turned (t' := s.toks) (fun b ob hb e => eb b ob hb e) f0 f1 f3 f4 f5⟩
  self := fun A i s Q E st h => wpAny_pyIter_keyiter st h
end
/-- the dict is locked where the walk begins, and stays so -/
def iKeysN (w : World) (td : TE) : TI := fun σ H R => td σ H fun x H1 => ∃ d es, x = .ref d ∧ H1 d = some (DN w d es) ∧ ∀ o, R (Itn w d o es) (upd H1 d (.frz o (DN w d es)))
theorem pi_keysN {X : Cx} {tg e : Expr} {td : TE} {w : World} (he : PE X e td) : PI X tg e (iKeysN w td) := by
  refine ⟨fun pins s σ H R I h => ?_⟩
  refine thn (he.run pins s σ H _ I h) fun u s1 ⟨x, H1, I1, rx, d, es, ex, hd1, q⟩ => ?_
  subst ex
  obtain rfl : u = Value.ref d := rx
  obtain ⟨o, I2⟩ := I1.lock hd1 True.intro
  obtain ⟨hs, hgd, hx, ds, ep, hdt, hsz, ent⟩ := dn_raw I2 upd_same
  refine iter_keys hs hgd hx hdt (pi_one (tk := s1.toks) I2 _ (turn_keysN _ hdt) ⟨_, Heap.get?_push_size _ rfl, rfl, ?_⟩ (q o))
  rw [hsz] <;> rfl
/-! {k: v for target in iter if ..}, the keys nested tuples -/
def tDcN (w : World) (wi : TI) (g : TG) (tt : TT) (tk tv : TE) (vs : List Nat) : TE := fun σ H Q => wi σ H fun J H1 => ∀ D, H1 D = none → ∃ W : Nat → Nat → Hp → Prop, (∃ m, W 0 m (upd H1 D (DN w D []))) ∧ ∀ i m H, W i m H →
  (J.stop i H ∧ Q (.ref D) H) ∨ (J.go i H ∧ ∃ Nx : Hp → Prop, (∀ H', Nx H' → ∃ m', m' < m ∧ W (i + 1) m' H') ∧ ∀ x H', J.yld i H x H' → g x (wipe σ vs) H' fun σ2 H2 => wipe σ2 vs = wipe σ vs ∧ tt σ2 H2 fun b H3 =>
    if b = true then tk σ2 H3 fun y H4 => tv σ2 H4 fun z H5 => ∃ (b : Addr) (es : List Ent) (k : NestedKey), y = .ref b ∧ H5 D = some (DN w D es) ∧ EntsOk H5 es ∧ NK H5 k (.ref b) ∧ k.depth ≤ 8 ∧ es.length < sizeLine ∧ Nx (upd H5 D (DN w D (putN es k b z))) else Nx H3)
theorem dn_dictSet {X : Cx} {pins : List (Addr × Obj)} {σ : L2.St} {H : Hp} {s : Shared} {E : Value → Shared → Prop} {D b : Addr} {es : List Ent} {k : NestedKey} {v : V} {r : Value} {Q : Unit → Shared → Prop} (hu : X.A.units + 64 < cLine) (I : Inv X pins σ H s) (hD : H D = some (DN X.w D es)) (hes : EntsOk H es) (hk : NK H k (.ref b)) (hd : k.depth ≤ 8) (hz : es.length < sizeLine)
    (rv : RelV v r) (h : ∀ s', Inv X pins σ (upd H D (DN X.w D (putN es k b v))) s' → Q () s') : wpAny (model X.prog X.w) X.A (dictSet D (.ref b) r) Q E s := by
  obtain ⟨z, y, xs, rel, dd⟩ := dn_of I.hok hD hes
  have hzv : xs.length ≤ sizeLine := by rw [← rel.len]; exact z
  have hl : (putN es k b v).length ≤ sizeLine := Nat.le_trans putN_len hz
  have hr : (nestedKind X.prog X.w).room X.A := by
    show X.A.units + 8 < cLine
    omega
  refine wpAny_dictSet_heap (hsz := hzv) hr (show (nestedKind X.prog X.w).is s.heap k b from ⟨hk.is I.hok rfl, hd⟩) dd fun h' dd' hs => h _ ?_
  have he : ∃ q, h'.get? D = some q := let ⟨q, _, _, hq, _⟩ := dd'; ⟨q, hq⟩
  exact d_write I (by rw [hD]; exact True.intro) hs he (dn_obj hl y (rel.put k b rv) dd')
section
variable {X : Cx}
theorem pe_dcN {kx vx tg iter : Expr} {ifs : List Expr} {scope : Scope} {own : List (Str × Nat)} {pos : Pos} {wi : TI} {g : TG} {tt : TT} {tk tv : TE} (hc : X.calm = true) (hu : X.A.units + 64 < cLine) (hN : X.N.Nodup) (hi : PI X tg iter wi) (ok : BlkOk X.N X.env.scope scope own)
    (hg : ∀ (s : Shared) (H : Hp) (C : Addr) (cl : List (Str × Addr)) (fp : List Addr), PG (X.blk s H scope (compEnvC scope cl C X.env) fp) tg g) (ht : ∀ (s : Shared) (H : Hp) (C : Addr) (cl : List (Str × Addr)) (fp : List Addr), PTs (X.blk s H scope (compEnvC scope cl C X.env) fp) ifs tt)
    (hk : ∀ (s : Shared) (H : Hp) (C : Addr) (cl : List (Str × Addr)) (fp : List Addr), PE (X.blk s H scope (compEnvC scope cl C X.env) fp) kx tk)
    (he : ∀ (s : Shared) (H : Hp) (C : Addr) (cl : List (Str × Addr)) (fp : List Addr), PE (X.blk s H scope (compEnvC scope cl C X.env) fp) vx tv) (hs : ∀ x, foldedSetIterable iter X.env x = pure x := by intro _; rfl) :
    PE X (.DictComp kx vx [⟨tg, iter, ifs, 0⟩] scope pos) (tDcN X.w wi g tt tk tv (own.map (·.2))) := by
  refine ⟨fun pins s σ H Q I h => ?_⟩
  rw [arm_eval_DictComp]
  have hfree : ∀ y ∈ scope.names, y.2 = .free → ∃ c, X.env.cells.lookup y.1 = some c := fun y hy e => by
    rcases ok.free y hy e with k | k
    · exact I.ok.has _ (.inl k)
    · exact I.ok.has _ (.inr k)
  refine wpAny_comprehension_free (use := none) rfl hs (closure_ok hfree) ok.kind (fun y hy e => by rw [ok.uniq y hy, e]) (thn (hi.run pins s σ H _ I h) fun xv s1 hx => thn hx fun itv s2 h2 => ?_)
  obtain ⟨it, fp, tn, J, H2, rfl, I2, T, st2, f2, q⟩ := h2
  refine wpAny_newObj_type (newEnv_comp ?_)
  obtain ⟨D, hD⟩ : ∃ D, D = s2.heap.objs.size := ⟨_, rfl⟩
  rw [← hD]
  obtain ⟨W, ⟨m0, w0⟩, turn⟩ := q D (I2.hok.fresh (Nat.le_of_eq hD.symm))
  have grown : ∀ b o, s2.heap.get? b = some o → (s2.heap.push { cls := .type "dict", data := .dict #[] }).get? b = some o := fun b o e => Heap.get?_push_of_some _ e
  have I3 : Inv X pins σ (upd H2 D (DN X.w D [])) { s2 with heap := s2.heap.push { cls := .type "dict", data := .dict #[] } } :=
    I2.laid (t' := s2.toks) grown (Nat.le_of_eq hD.symm) (hD ▸ dn_empty s2.heap I2.big)
  have f3 : ∀ b ∈ fp, FpOk X pins (upd H2 D (DN X.w D [])) b ∧ b < (s2.heap.push { cls := .type "dict", data := .dict #[] }).objs.size := fun b hb => by
    obtain ⟨o, e, _⟩ := T.obj _ _ st2 b hb
    have hlt := Heap.lt_size e
    refine ⟨⟨?_, (f2 b hb).2⟩, by rw [Heap.size_push]; exact Nat.lt_succ_of_lt hlt⟩
    rw [upd_ne (by rw [hD]; exact Nat.ne_of_lt hlt)]
    exact (f2 b hb).1
  have st3 := T.keep _ _ _ st2 fun b _ o e => grown b o e
  obtain ⟨s3, hs3⟩ : ∃ s3 : Shared, s3 = { s2 with heap := s2.heap.push { cls := .type "dict", data := .dict #[] } } := ⟨_, rfl⟩
  obtain ⟨H3, hH3⟩ : ∃ H3 : Hp, H3 = upd H2 D (DN X.w D []) := ⟨_, rfl⟩
  rw [← hH3] at I3 w0
  rw [← hs3] at I3
  have st3' : tn 0 s3.heap := by rw [hs3]; exact st3
  have f3' : ∀ b ∈ fp, FpOk X pins H3 b ∧ b < s3.heap.objs.size := fun b hb => by rw [hH3, hs3]; exact f3 b hb
  have I4 := block_start I3 ok hN f3'
  show codeAny _ _ (.compStart (.DictComp kx vx [⟨tg, iter, ifs, 0⟩] scope pos) 0 (.ref it) (.ref D) (compEnvC scope (cellsFrom ((s2.heap.push { cls := .type "dict", data := .dict #[] }).objs.size + 1) scope.names (cloFrom X.env.cells scope.names [])) (s2.heap.push { cls := .type "dict", data := .dict #[] }).objs.size X.env))
    (compPost (model X.prog X.w) X.A X.xe none (EP X pins σ Q) (.ref D) (s2.heap.push { cls := .type "dict", data := .dict #[] }).objs.size)
    { s2 with heap := pushCells ((s2.heap.push { cls := .type "dict", data := .dict #[] }).push { cls := .type "dict", data := .dict #[] }) scope.names }
  have hh3 : s2.heap.push { cls := .type "dict", data := .dict #[] } = s3.heap := by rw [hs3]
  have hst : ({ s2 with heap := pushCells ((s2.heap.push { cls := .type "dict", data := .dict #[] }).push { cls := .type "dict", data := .dict #[] }) scope.names } : Shared) = { s3 with heap := pushCells (s3.heap.push { cls := .type "dict", data := .dict #[] }) scope.names } := by rw [hs3]
  rw [hst, hh3]
  have pg := hg s3 H3 s3.heap.objs.size (cellsFrom (s3.heap.objs.size + 1) scope.names (cloFrom X.env.cells scope.names [])) fp
  have pt := ht s3 H3 s3.heap.objs.size (cellsFrom (s3.heap.objs.size + 1) scope.names (cloFrom X.env.cells scope.names [])) fp
  have pk := hk s3 H3 s3.heap.objs.size (cellsFrom (s3.heap.objs.size + 1) scope.names (cloFrom X.env.cells scope.names [])) fp
  have pe := he s3 H3 s3.heap.objs.size (cellsFrom (s3.heap.objs.size + 1) scope.names (cloFrom X.env.cells scope.names [])) fp
  generalize hce : compEnvC scope (cellsFrom (s3.heap.objs.size + 1) scope.names (cloFrom X.env.cells scope.names [])) s3.heap.objs.size X.env = ce at I4 pg pt pk pe ⊢
  have cL : ce.locals = s3.heap.objs.size := by subst hce; rfl
  generalize hs4 : ({ s3 with heap := pushCells (s3.heap.push { cls := .type "dict", data := .dict #[] }) scope.names } : Shared) = s4 at I4 ⊢
  have st4 : tn 0 s4.heap := T.keep _ _ _ st3' fun b _ o e => by rw [← hs4]; exact pushCells_keeps _ _ _ _ (Heap.get?_push_of_some _ e)
  have nfp : ∀ b ∈ fp, H3 b = none := fun b hb => (f3' b hb).1.1
  have stat : ∀ {σ' : L2.St} {H' : Hp} {s' : Shared}, Inv (X.blk s3 H3 scope ce fp) [] σ' H' s' → (∀ b ∈ fp, H' b = none) → ∀ b ∈ fp, FpOk (X.blk s3 H3 scope ce fp) [] H' b := fun {σ' H' s'} I' hn b hb =>
    ⟨hn b hb, (I'.ok.exf b hb).1, I'.ok.exfs b hb, .inl hb, fun x c e => (I'.ok.exf b hb).2 x c e, fun p hp => absurd (show p ∈ ([] : List (Addr × Obj)) ++ [] from hp) (by simp)⟩
  have loop : codeAny (model X.prog X.w) X.A (.compLoop (.DictComp kx vx [⟨tg, iter, ifs, 0⟩] scope pos) 0 (.ref it) (.ref D) ce) (compPost (model X.prog X.w) X.A X.xe none (EP X pins σ Q) (.ref D) s3.heap.objs.size) s4 := by
    refine compLoop_anyD (fun n s' => ∃ i H', Inv (X.blk s3 H3 scope ce fp) [] (wipe σ (own.map (·.2))) H' s' ∧ tn i s'.heap ∧ (∀ b ∈ fp, H' b = none) ∧ W i n H') ?_ m0 ⟨0, H3, I4, st4, nfp, w0⟩
    rintro n s5 ⟨i, H5, I5, st5, n5, w5⟩
    rcases turn i n H5 w5 with ⟨stop, qq⟩ | ⟨go, Nx, hNx, step⟩
    · refine thnF (T.done (X.blk s3 H3 scope ce fp) rfl rfl rfl hc i [] s5 _ H5 (fun _ _ => False) I5 (stat I5 n5) st5 stop) fun r s6 ⟨hr, I6⟩ => ?_
      subst hr
      have I7 : Inv X pins σ H5 s6 := I3.call' (ch := fp) I6.os I6.base I6.hok I6.bare fun b hb => ⟨(f3' b hb).1.2.2.2.1, (f3' b hb).1.2.1, (f3' b hb).1.2.2.2.2.1, (f3' b hb).1.2.2.2.2.2⟩
      have nC : H5 s3.heap.objs.size = none := by
        have z : H5 ce.locals = none := I6.free
        rwa [cL] at z
      obtain ⟨m, hn, _⟩ := I6.loc
      have hn' : s6.heap.Ns ce.locals m := hn
      rw [cL] at hn'
      obtain ⟨z0, z1, _, z3, z4, z5⟩ := I3.fpOk (Nat.le_refl _) nC
      exact ⟨m, hn', fun h'' sb => ⟨.ref D, H5, I7.turned (t' := s6.toks) (fun b o hb e => (sb.2 b hb).trans e) z0 z1 z3 z4 z5, rfl, qq⟩⟩
    · refine thnF (T.item (X.blk s3 H3 scope ce fp) rfl rfl rfl hc i [] s5 _ H5 (fun _ _ => False) I5 (stat I5 n5) st5 go) fun r s6 ⟨u, hr, h6⟩ => ?_
      subst hr
      refine thnF h6 fun _ s7 ⟨x, H7, I7, r7, y7, st7, n7⟩ => ?_
      refine thnF (pg.run _ s7 _ H7 x u _ (I7.pinned (stat I7 n7) (T.obj _ _ st7)) r7 (step x H7 y7)) fun _ s8 ⟨σ8, H8, I8, hw8, q8⟩ => ?_
      refine thnF (pt.run _ s8 σ8 H8 _ I8 q8) fun b s9 ⟨H9, I9, q9⟩ => ?_
      have fin : ∀ {s' : Shared} {H' : Hp}, Inv (X.blk s3 H3 scope ce fp) ([] ++ pinsAt fp s7.heap) σ8 H' s' → Nx H' → ∃ m, m < n ∧ ∃ i H', Inv (X.blk s3 H3 scope ce fp) [] (wipe σ (own.map (·.2))) H' s' ∧ tn i s'.heap ∧ (∀ b ∈ fp, H' b = none) ∧ W i m H' := fun {s' H'} I' nx => by
        obtain ⟨m', hm, w'⟩ := hNx H' nx
        have pin' : ∀ b ∈ fp, ∀ o, s7.heap.get? b = some o → s'.heap.get? b = some o ∧ H' b = none := fun b hb o e =>
          let z := I'.pin (b, o) (List.mem_append_right _ (List.mem_append_right _ (mem_pinsAt hb e)))
          ⟨z.1, z.2.1⟩
        have hl : (wipe σ (own.map (·.2))).length = σ8.length := by rw [← hw8, wipe_length]
        refine ⟨m', hm, i + 1, H', (I'.unpinned (pins := [])).weak hl (fun j v e => ?_), T.keep _ _ _ st7 fun b hb o e => (pin' b hb o e).1, fun b hb => ?_, w'⟩
        · rw [← hw8] at e
          exact (wipe_some e).1
        · obtain ⟨o, e, _⟩ := T.obj _ _ st7 b hb
          exact (pin' b hb o e).2
      cases b with
      | false =>
        simp only [Bool.false_eq_true, if_false] at q9 ⊢
        exact fin I9 q9
      | true =>
        simp only [if_true] at q9 ⊢
        refine thnF (pk.run _ s9 σ8 H9 _ I9 q9) fun z s10 ⟨yk, H10, I10, r10, q10⟩ => ?_
        refine thnF (pe.run _ s10 σ8 H10 _ I10 q10) fun z2 s11 ⟨yv, H11, I11, r11, b, es, k, ek, hD11, hes, hkk, hdep, hz11, nx⟩ => ?_
        subst ek
        obtain rfl : z = Value.ref b := r10
        exact dn_dictSet (X := X.blk s3 H3 scope ce fp) hu I11 hD11 hes hkk hdep hz11 r11 fun s12 I12 => fin I12 nx
  exact codeAny_compStart_dict loop (T.self X.A 0 _ _ _ st4 loop)
end
section
variable {X : Cx}
theorem pe_dcNK {w : World} {kx vx tg iter : Expr} {ifs : List Expr} {scope : Scope} {own : List (Str × Nat)} {pos : Pos} {wi : TI} {g : TG} {tt : TT} {tk tv : TE} (hc : X.calm = true) (hu : X.A.units + 64 < cLine) (hN : X.N.Nodup) (hi : PI X tg iter wi) (ok : BlkOk X.N X.env.scope scope own)
    (hg : ∀ (s : Shared) (H : Hp) (C : Addr) (cl : List (Str × Addr)) (fp : List Addr), PG (X.blk s H scope (compEnvC scope cl C X.env) fp) tg g) (ht : ∀ (s : Shared) (H : Hp) (C : Addr) (cl : List (Str × Addr)) (fp : List Addr), PTs (X.blk s H scope (compEnvC scope cl C X.env) fp) ifs tt)
    (hk : ∀ (s : Shared) (H : Hp) (C : Addr) (cl : List (Str × Addr)) (fp : List Addr), PE (X.blk s H scope (compEnvC scope cl C X.env) fp) kx tk)
    (he : ∀ (s : Shared) (H : Hp) (C : Addr) (cl : List (Str × Addr)) (fp : List Addr), PE (X.blk s H scope (compEnvC scope cl C X.env) fp) vx tv) (hw : X.w = w := by rfl) (hs : ∀ x, foldedSetIterable iter X.env x = pure x := by intro _; rfl) :
    PE X (.DictComp kx vx [⟨tg, iter, ifs, 0⟩] scope pos) (tDcN w wi g tt tk tv (own.map (·.2))) := by
  subst hw
  exact pe_dcN hc hu hN hi ok hg ht hk he hs
end
/-! ### their readings -/
section
variable {K : PySem.W.Frag} {w : World} {σ : L2.St} {H : Hp} {Q : VK}
def KeyNR (w : World) (x : V) (H1 : Hp) (R : It → Hp → Prop) : Prop := ∃ d es, x = .ref d ∧ H1 d = some (DN w d es) ∧ ∀ o, R (Itn w d o es) (upd H1 d (.frz o (DN w d es)))
theorem w_keyNR {d : Addr} {es : List Ent} {R : It → Hp → Prop} (h : H d = some (DN w d es)) (q : ∀ o, R (Itn w d o es) (upd H d (.frz o (DN w d es)))) : KeyNR w (.ref d) H R := ⟨d, es, rfl, h, q⟩
theorem turns_keysN {H0 : Hp} {Qd : Hp → Prop} {Body : (Hp → Prop) → V → Hp → Prop} {d : Addr} {o : Obj} {es : List Ent} (Pv : Nat → Hp → Prop) (h0 : Pv 0 H0) (hl : ∀ i H, i ≤ es.length → Pv i H → H d = some (.frz o (DN w d es)))
    (hs : ∀ i (e : Ent) H, es[i]? = some e → Pv i H → Body (Pv (i + 1)) (.ref e.2.1) H) (hd : ∀ H, Pv es.length H → Qd H) : Turns (Itn w d o es) Body H0 Qd := by
  refine ⟨fun i m H => m = es.length - i ∧ i ≤ es.length ∧ Pv i H, ⟨es.length, by simp, Nat.zero_le _, h0⟩, ?_⟩
  rintro i m H ⟨rfl, hi, p⟩
  by_cases hlt : i < es.length
  · refine .inr ⟨⟨hl i H hi p, hlt⟩, Pv (i + 1), fun H' p' => ⟨es.length - (i + 1), by omega, rfl, hlt, p'⟩, fun x H' y => ?_⟩
    obtain ⟨rfl, e, he, rfl⟩ := y
    exact hs i e _ he p
  · have e : i = es.length := by omega
    subst e
    exact .inl ⟨⟨hl _ H hi p, Nat.le_refl _⟩, hd H p⟩
def DcNBody (w : World) (g : TG) (tt : TT) (tk tv : TE) (vs : List Nat) (σ : L2.St) (D : Addr) (Nx : Hp → Prop) (x : V) (H' : Hp) : Prop := g x (wipe σ vs) H' fun σ2 H2 => wipe σ2 vs = wipe σ vs ∧ tt σ2 H2 fun b H3 =>
  if b = true then tk σ2 H3 fun y H4 => tv σ2 H4 fun z H5 => ∃ (b : Addr) (es : List Ent) (k : NestedKey), y = .ref b ∧ H5 D = some (DN w D es) ∧ EntsOk H5 es ∧ NK H5 k (.ref b) ∧ k.depth ≤ 8 ∧ es.length < sizeLine ∧ Nx (upd H5 D (DN w D (putN es k b z))) else Nx H3
def DcNR (w : World) (g : TG) (tt : TT) (tk tv : TE) (vs : List Nat) (σ : L2.St) (Q : VK) (J : It) (H1 : Hp) : Prop := ∀ D, H1 D = none → Turns J (DcNBody w g tt tk tv vs σ D) (upd H1 D (DN w D [])) fun H => Q (.ref D) H
theorem w_dcNN {td : TE} {g : TG} {tt : TT} {tk tv : TE} {vs : List Nat} (q : td σ H fun x H1 => KeyNR w x H1 (DcNR w g tt tk tv vs σ Q)) : tDcN w (iKeysN w td) g tt tk tv vs σ H Q := q
theorem w_dcNL {tl : TE} {g : TG} {tt : TT} {tk tv : TE} {vs : List Nat} (q : tl σ H fun x H1 => ListR K x H1 (DcNR w g tt tk tv vs σ Q)) : tDcN w (iList K tl) g tt tk tv vs σ H Q := q
theorem w_lcNN {td : TE} {g : TG} {tt : TT} {te : TE} {vs : List Nat} (q : td σ H fun x H1 => KeyNR w x H1 (LcR g tt te vs σ Q)) : tLc (iKeysN w td) g tt te vs σ H Q := q
theorem w_forKN {D : Ends} {td : TE} {g : TG} {tb : TS} (q : td σ H fun x H1 => KeyNR w x H1 (ForR g tb D σ)) : tFor (iKeysN w td) g tb D σ H := q
/-- the entry is put: the keys told as IK -/
theorem dcn_put {B : Hp} {L L' : List (Addr × HO)} {D b : Addr} {es : List Ent} {M : GM} {k : IK} {z : V} {Nx : Hp → Prop} (hs : Hs B L H) (h : Put L D (DN w D es) (DN w D (putN es (nkK k) b z)) L') (e : EntG B es M) (hk : KAt B b k) (hl : M.length ≤ 1000000) (q : ∀ H', Hs B L' H' → EntG B (putN es (nkK k) b z) (putG M k z) → Nx H') :
    ∃ (b' : Addr) (es' : List Ent) (k' : NestedKey), V.ref b = .ref b' ∧ H D = some (DN w D es') ∧ EntsOk H es' ∧ NK H k' (.ref b') ∧ k'.depth ≤ 8 ∧ es'.length < sizeLine ∧ Nx (upd H D (DN w D (putN es' k' b' z))) :=
  ⟨b, es, nkK k, rfl, hs.gets h, (e.same hs.same).ok, (hk.same hs.same).nk, nkK_depth k, by rw [e.len]; exact Nat.lt_of_le_of_lt hl (by decide), q _ (hs.puts h) (e.put z hk)⟩
end
end Hb

set_option Elab.async false
set_option linter.all false
set_option maxRecDepth 100000
set_option maxHeartbeats 4000000
/-! Dicts with tuple keys: `in` while locked, setdefault; list.index of a text; min of keys with a default; set(list of keys). -/
namespace Hb
open PySem L2 PyProof.Rows
/-! ### in, while it is walked -/
structure AtNF (w : World) (H : Hp) (x y : V) (a b : Addr) (o : Obj) (es : List Ent) (k : NestedKey) : Prop where
  ex : x = .ref a
  ey : y = .ref b
  ha : H a = some (.frz o (DN w a es))
  he : EntsOk H es
  hk : NK H k (.ref b)
  hd : k.depth ≤ 8
def rNInF (w : World) (x y : V) (H : Hp) (Q : Bool → Prop) : Prop := ∃ a b o es k, AtNF w H x y a b o es k ∧ Q (atN es k).isSome
def tNInF (w : World) (ty td : TE) : TE := fun σ H Q => ty σ H fun y H1 => td σ H1 fun x H2 => rNInF w x y H2 fun b => Q (.bl b) H2
section
variable {P : Program} {w : World} {H : Hp} {h : Heap} {a : Addr} {es : List Ent}
theorem dnx_dict (ok : HOk P w H h) (d : DNx w a es h) (hk : EntsOk H es) : es.length ≤ sizeLine ∧ (a == sysModules) = false ∧ ∃ xs, RelEs es xs ∧ h.DictOfH (nestedKind P w) a xs := by
  obtain ⟨z, y, xs, r, o, ds, ep, h1, h2, h3, h4, h5⟩ := d
  refine ⟨z, y, xs, r, o, ds, ep, h1, h2, h3, h4, ?_, h5⟩
  have all : ∀ {l : List Ent} {m : List (NestedKey × Addr × Value)}, RelEs l m → EntsOk H l → ∀ x ∈ m, (nestedKind P w).is h x.1 x.2.1 := by
    intro l m r
    induction r with
    | nil => exact fun _ _ hx => nomatch hx
    | @cons p q ps qs hpq _ ih =>
      intro hl x hx
      rcases List.mem_cons.mp hx with rfl | hx
      · obtain ⟨k1, k2⟩ := hl p List.mem_cons_self
        rw [← hpq.1, ← hpq.2.1]
        exact ⟨k1.is ok rfl, k2⟩
      · exact ih (fun e he => hl e (List.mem_cons_of_mem _ he)) x hx
  exact all r hk
end
section
variable {X : Cx} {w : World} {o i : Expr} {pos apos cpos : Pos} {td ty tx : TE}
theorem pc_ninF (hu : X.A.units + 64 < cLine) (hi : PE X i ty) (ho : PE X o td) (hw : X.w = w := by rfl) : PC X .In i o (tNInF w ty td) := by
  subst hw
  refine ⟨fun pins s σ H Q I h => ?_⟩
  refine thn (hi.run pins s σ H _ I h) fun iv s1 h1 => ?_
  obtain ⟨y, H1, I1, ry, q1⟩ := h1
  refine thn (ho.run pins s1 σ H1 _ I1 q1) fun u s2 h2 => ?_
  obtain ⟨x, H2, I2, rx, a, b, ob, es, k, g, q2⟩ := h2
  have dx : DNx X.w a es s2.heap := (show ObjOk X.prog X.w H2 s2.heap a (.frz ob (DN X.w a es)) from I2.hok _ _ g.ha).2.1
  obtain ⟨z, hd, xs, r, dd⟩ := dnx_dict I2.hok dx g.he
  cases g.ex
  cases g.ey
  obtain rfl : u = Value.ref a := rx
  obtain rfl : iv = Value.ref b := ry
  refine wpAny_in_heap (n_room hu) ⟨g.hk.is I2.hok rfl, g.hd⟩ hd dd ?_
  rw [← r.some k]
  exact ⟨.bl _, H2, I2.tok _, rfl, q2⟩
/-! ### setdefault -/
def rNSetd (w : World) (x y v : V) (H : Hp) (Q : VK) : Prop := ∃ a b es k, AtN w H x y a b es k ∧ es.length < sizeLine ∧ (∀ u, atN es k = some u → Q u H) ∧ (atN es k = none → Q v (upd H a (DN w a (putN es k b v))))
def tNSetd (w : World) (td ty tx : TE) : TE := fun σ H Q => td σ H fun x H1 => (∃ a es, x = .ref a ∧ H1 a = some (DN w a es)) ∧ ty σ H1 fun y H2 => tx σ H2 fun z H3 => rNSetd w x y z H3 Q
theorem pe_nsetd {e f : Expr} (hu : X.A.units + 64 < cLine) (ho : PE X o td) (he : PE X e ty) (hf : PE X f tx) (m : M2 X o "setdefault" apos e f cpos) (hw : X.w = w := by rfl) : PE X (.Call (.Attribute o "setdefault" apos) [e, f] [] cpos) (tNSetd w td ty tx) := by
  subst hw
  refine ⟨fun pins s σ H Q I h => ?_⟩
  refine wpAny_Call_method m.base m.few m.line PySem.F.plainAttrs_dict PySem.F.slot_dict_setdefault PySem.F.type_dict_setdefault (thn (ho.run pins s σ H _ I h) ?_)
  rintro u s1 ⟨x, H1, I1, rx, ⟨a0, es0, rfl, ea⟩, q1⟩
  obtain rfl : u = Value.ref a0 := rx
  obtain ⟨t1, t2⟩ := dn_type I1 ea
  refine ⟨t1, t2, ?_⟩
  rw [m.trees]
  refine Calls.callWith_builtin rfl (Calls.evalArgs_plain (Calls.spliced_cons (thn (he.run pins s1 σ H1 _ I1 q1) ?_)))
  rintro iv s2 ⟨y, H2, I2, ry, q2⟩
  refine Calls.spliced_cons (thn (hf.run pins s2 σ H2 _ I2 q2) ?_)
  rintro fv s3 ⟨v, H3, I3, rv, a, b, es, k, g, hl, q3, q4⟩
  refine Calls.spliced_nil ?_
  obtain ⟨z, hd, xs, rr, dd, hk⟩ := g.dn I3 rfl
  cases g.ex
  cases g.ey
  obtain rfl : iv = Value.ref b := ry
  have hz : xs.length ≤ sizeLine := by rw [← rr.len]; exact z
  have hl2 : (putN es k b v).length ≤ sizeLine := Nat.le_trans putN_len hl
  refine call_setdefault_heap (hsz := hz) (n_room hu) hk hd dd (fun p hp => ?_) fun hn h' dd' hs => ?_
  · obtain ⟨u', hu', ru'⟩ : ∃ u', atN es k = some u' ∧ RelV u' p.2 := by
      have h1 := rr.at k
      rw [hp] at h1
      cases e : atN es k with
      | none =>
        rw [e] at h1
        cases h1
      | some u' =>
        rw [e] at h1
        obtain ⟨x2, hx2, rx2⟩ := RelO.some_of h1
        cases hx2
        exact ⟨u', rfl, rx2⟩
    exact ⟨u', H3, I3.tok _, ru', q3 u' hu'⟩
  · have hne : atN es k = none := by
      have h1 := rr.some k
      rw [hn] at h1
      cases e : atN es k with
      | none => rfl
      | some _ =>
        rw [e] at h1
        cases h1
    have he : ∃ q, h'.get? a0 = some q := let ⟨q, _, _, hq, _⟩ := dd'; ⟨q, hq⟩
    exact ⟨v, _, d_write I3 (by rw [g.ha]; exact True.intro) hs he (dn_obj hl2 hd (rr.put k b rv) dd'), rv, q4 hne⟩
end
section
variable {w : World} {σ : L2.St} {H B : Hp} {Q : VK} {td ty tx : TE} {L L' : List (Addr × HO)} {es : List Ent} {M : GM} {k : IK} {d b : Addr} {v : V}
theorem w_nsetd (q : td σ H fun x H1 => (∃ a es, x = .ref a ∧ H1 a = some (DN w a es)) ∧ ty σ H1 fun y H2 => tx σ H2 fun z H3 => rNSetd w x y z H3 Q) : tNSetd w td ty tx σ H Q := q
theorem wg_inF {R : Bool → Prop} {o : Obj} (hs : Hs B L H) (h : H d = some (.frz o (DN w d es))) (e : EntG B es M) (hk : KAt H b k) (q : R (valG M k).isSome) : rNInF w (.ref d) (.ref b) H R :=
  ⟨d, b, o, es, nkK k, ⟨rfl, rfl, h, (e.same hs.same).ok, hk.nk, nkK_depth k⟩, by rw [e.at k]; exact q⟩
theorem wg_setd (hs : Hs B L H) (h : Put L d (DN w d es) (DN w d (putN es (nkK k) b v)) L') (e : EntG B es M) (hk : KAt B b k) (hl : M.length ≤ 1000000) (q1 : ∀ u, valG M k = some u → Q u H) (q2 : valG M k = none → ∀ H', Hs B L' H' → EntG B (putN es (nkK k) b v) (putG M k v) → Q v H') : rNSetd w (.ref d) (.ref b) v H Q :=
  ⟨d, b, es, nkK k, atG_of (hs.gets h) (e.same hs.same) (hk.same hs.same), by rw [e.len, sizeLine_eq]; omega, fun u hu => q1 u (by rw [← e.at k]; exact hu), fun hn => q2 (by rw [← e.at k]; exact hn) _ (hs.puts h) (e.put v hk)⟩
end
/-! ### list.index of a text -/
def rIdxS (K : PySem.W.Frag) : V → List V → Hp → VK → Prop := fun x vs H Q => ∃ (l : Addr) (xs : List PySem.Str) (t : PySem.Str), x = .ref l ∧ vs = [.str t] ∧ SqL K H l (xs.map V.str) ∧ t ∈ xs ∧ Q (.int (xs.idxOf t : Nat)) H

theorem strs_of : ∀ {xs : List PySem.Str} {us : List Value}, Vals (xs.map V.str) us → StrsAre us xs
  | [], _, h => by
    cases h
    exact .nil
  | x :: xs, _, h => by
    cases h with
    | cons h1 h2 =>
      obtain ⟨t, rfl⟩ := h1
      exact .cons x t (strs_of h2)
section
variable {X : Cx} {K : PySem.W.Frag} {P : Program} {w : World}
theorem mt_indexS (hK : X.K = K := by rfl) : MtR X "list.index" (rIdxS K) := by
  subst hK
  intro pins s σ H x vs v us Q I rx rv h
  obtain ⟨l, xs, t, rfl, rfl, hs, hm, q⟩ := h
  cases rx
  obtain ⟨u, rfl, ru⟩ := rv.one
  obtain ⟨tk, rfl⟩ := ru
  obtain ⟨its, r, hl, hz⟩ := I.list hs
  exact PySem.SeqAt.list_index_strs (vs := its) hl.isList (strs_of r) (by simpa using hz) hm ⟨.int _, H, I.tok _, ⟨_, rfl⟩, q⟩
/-! ### min(keys, default=d) -/
open PySem.SeqAt
open PySem.W (keyToksAll dataLt alike alikeAll dataLt_cons dataLt_int AlikeAll reads_keeps)
def dI : Itm → PyData
  | .inl n => .int n
  | .inr ns => .tuple (ns.map .int)
def dK (k : IK) : PyData := .tuple (k.map dI)
theorem eqvA_ints : ∀ ns ms : List Int, PyData.eqvAll (ns.map .int) (ms.map .int) = decide (ns = ms)
  | [], [] => by simp [PyData.eqvAll]
  | [], m :: ms => by simp [PyData.eqvAll]
  | n :: ns, [] => by simp [PyData.eqvAll]
  | n :: ns, m :: ms => by
    have e : PyData.eqvAll ((n :: ns).map PyData.int) ((m :: ms).map .int) = ((n == m) && PyData.eqvAll (ns.map .int) (ms.map .int)) := by simp only [List.map_cons, PyData.eqvAll, PyData.eqv]
    rw [e, eqvA_ints ns ms]
    by_cases h1 : n = m <;> by_cases h2 : ns = ms <;> simp [h1, h2]
theorem eqv_ints (ns ms : List Int) : PyData.eqv (.tuple (ns.map .int)) (.tuple (ms.map .int)) = decide (ns = ms) := by
  rw [← eqvA_ints]
  simp only [PyData.eqv]
theorem eqv_it (x y : Itm) : PyData.eqv (dI x) (dI y) = decide (x = y) := by
  cases x with
  | inl n =>
    cases y with
    | inl m =>
      have e : PyData.eqv (.int n) (.int m) = (n == m) := by simp only [PyData.eqv]
      show PyData.eqv (.int n) (.int m) = _
      rw [e]
      by_cases h : n = m <;> simp [h]
    | inr ms =>
      have e : PyData.eqv (.int n) (.tuple (ms.map .int)) = false := by simp only [PyData.eqv]
      show PyData.eqv (.int n) (.tuple (ms.map .int)) = _
      rw [e]
      simp
  | inr ns =>
    cases y with
    | inl m =>
      have e : PyData.eqv (.tuple (ns.map .int)) (.int m) = false := by simp only [PyData.eqv]
      show PyData.eqv (.tuple (ns.map .int)) (.int m) = _
      rw [e]
      simp
    | inr ms =>
      show PyData.eqv (.tuple (ns.map .int)) (.tuple (ms.map .int)) = _
      rw [eqv_ints]
      by_cases h : ns = ms <;> simp [h]
theorem eqvA_its : ∀ x y : IK, PyData.eqvAll (x.map dI) (y.map dI) = decide (x = y)
  | [], [] => by simp [PyData.eqvAll]
  | [], m :: ms => by simp [PyData.eqvAll]
  | n :: ns, [] => by simp [PyData.eqvAll]
  | n :: ns, m :: ms => by
    have e : PyData.eqvAll ((n :: ns).map dI) ((m :: ms).map dI) = (PyData.eqv (dI n) (dI m) && PyData.eqvAll (ns.map dI) (ms.map dI)) := by simp only [List.map_cons, PyData.eqvAll]
    rw [e, eqvA_its ns ms, eqv_it]
    by_cases h1 : n = m <;> by_cases h2 : ns = ms <;> simp [h1, h2]
theorem eqv_K (x y : IK) : PyData.eqv (dK x) (dK y) = decide (x = y) := by
  rw [← eqvA_its]
  show PyData.eqv (.tuple _) (.tuple _) = _
  simp only [PyData.eqv]
theorem dI_inj {x y : Itm} (h : dI x = dI y) : x = y := by
  have e := eqv_it x y
  rw [h, eqv_it] at e
  exact of_decide_eq_true (e.symm.trans (decide_eq_true rfl))
theorem dK_inj {x y : IK} (h : dK x = dK y) : x = y := by
  have e := eqv_K x y
  rw [h, eqv_K] at e
  exact of_decide_eq_true (e.symm.trans (decide_eq_true rfl))
theorem ItAt.im {H : Hp} {v : V} {x : Itm} (h : ItAt H v x) : Im K H v (dI x) := by
  cases x with
  | inl n =>
    cases h
    exact .int n
  | inr ns =>
    obtain ⟨t, rfl, ht⟩ := h
    exact .tup ht (im_ints ns)
theorem im_its {H : Hp} {vs : List V} {k : IK} (h : Paired (fun v x => ItAt H v x) vs k) : ImAll K H vs (k.map dI) := by
  induction h with
  | nil => exact .nil
  | cons h _ ih => exact .cons h.im ih
theorem KeyAt.dp {H : Hp} {v : V} {k : IK} (h : KeyAt H v k) : Dp K H v (dK k) := by
  obtain ⟨p, rfl, vs, hp, hv⟩ := h
  exact (Im.tup hp (im_its hv)).dp
theorem alike_it {x y : Itm} (h : shp x = shp y) : alike (dI x) (dI y) = true := by
  cases x with
  | inl n =>
    cases y with
    | inl m => simp only [dI, alike]
    | inr ms => cases h
  | inr ns =>
    cases y with
    | inl m => cases h
    | inr ms =>
      simp only [dI, alike]
      exact alike_ints (Option.some.inj h)
theorem toks_K : ∀ {x y : IK}, x.map shp = y.map shp → PyProof.Rows.lexLt itemOrd (keyToksAll (x.map dI)) (keyToksAll (y.map dI)) = lexI (flK x) (flK y)
  | [], [], _ => lex_irrefl _
  | [], y :: ys, h => by cases h
  | x :: xs, [], h => by cases h
  | x :: xs, y :: ys, h => by
    rw [List.map_cons, List.map_cons] at h
    injection h with h1 h2
    rw [List.map_cons, List.map_cons, dataLt_cons (alike_it h1), toks_K h2]
    show _ = lexI (flI x ++ flK xs) (flI y ++ flK ys)
    rw [lexI_app (shp_len h1)]
    cases x with
    | inl n =>
      cases y with
      | inr ms => cases h1
      | inl m =>
        show (if PyData.eqv (.int n) (.int m) = true then _ else dataLt (.int n) (.int m)) = if [n] = [m] then _ else lexI [n] [m]
        have e : PyData.eqv (.int n) (.int m) = (n == m) := by simp only [PyData.eqv]
        rw [e, dataLt_int]
        by_cases hh : n = m
        · rw [if_pos (by rw [hh]; exact beq_self_eq_true m), if_pos (by rw [hh])]
        · rw [if_neg (fun z => hh (by simpa using z)), if_neg (fun z => hh (by simpa using z)), lexI_cons, if_neg hh]
    | inr ns =>
      cases y with
      | inl m => cases h1
      | inr ms =>
        show (if PyData.eqv (.tuple (ns.map .int)) (.tuple (ms.map .int)) = true then _ else dataLt (.tuple (ns.map .int)) (.tuple (ms.map .int))) = if ns = ms then _ else lexI ns ms
        rw [dataLt_ints]
        have e : PyData.eqv (.tuple (ns.map .int)) (.tuple (ms.map .int)) = decide (ns = ms) := eqv_ints ns ms
        rw [e]
        by_cases hh : ns = ms
        · rw [if_pos (decide_eq_true hh), if_pos hh]
        · rw [if_neg (fun z => hh (of_decide_eq_true z)), if_neg hh]
theorem dataLt_K {x y : IK} (h : x.map shp = y.map shp) : dataLt (dK x) (dK y) = ltQ x y := toks_K h
theorem depth_it (x : Itm) : (dI x).depth ≤ 2 := by
  cases x with
  | inl n => simp [dI, PyData.depth]
  | inr ns =>
    have := depth_ints ns
    simp only [dI, PyData.depth]
    omega
theorem depth_its : ∀ k : IK, PyData.depthAll (k.map dI) ≤ 3
  | [] => by simp [PyData.depthAll]
  | x :: xs => by
    have := depth_its xs
    have := depth_it x
    simp only [List.map_cons, PyData.depthAll]
    omega
theorem depth_Ks : ∀ ks : List IK, PyData.depthAll (ks.map dK) ≤ 5
  | [] => by simp [PyData.depthAll]
  | x :: xs => by
    have := depth_Ks xs
    have := depth_its x
    simp only [List.map_cons, PyData.depthAll, dK, PyData.depth]
    omega
theorem alikeAll_its : ∀ {x y : IK}, x.map shp = y.map shp → alikeAll (x.map dI) (y.map dI) = true
  | [], [], _ => by simp [alikeAll]
  | [], y :: ys, h => by cases h
  | x :: xs, [], h => by cases h
  | x :: xs, y :: ys, h => by
    rw [List.map_cons, List.map_cons] at h
    injection h with h1 h2
    simp only [List.map_cons, alikeAll, alike_it h1, alikeAll_its h2, Bool.and_self]
theorem alike_Ks {ks : List IK} {sh : List (Option Nat)} (h : ∀ k ∈ ks, k.map shp = sh) : AlikeAll (ks.map dK) := by
  refine ⟨fun x hx y hy => ?_, fun x hx => ?_⟩
  · obtain ⟨a, ha, rfl⟩ := List.mem_map.mp hx
    obtain ⟨b, hb, rfl⟩ := List.mem_map.mp hy
    show alike (.tuple _) (.tuple _) = true
    simp only [alike]
    exact alikeAll_its ((h a ha).trans (h b hb).symm)
  · obtain ⟨a, ha, rfl⟩ := List.mem_map.mp hx
    exact fun z => nomatch z
def rMinDN (K : PySem.W.Frag) : List V → List V → Hp → VK → Prop := fun xs zs H Q => ∃ (a : Addr) (us : List V) (ks : List IK) (d : V) (sh : List (Option Nat)), xs = [.ref a] ∧ zs = [d] ∧ SqL K H a us ∧ Row (KeyAt H) us ks ∧ (∀ k ∈ ks, k.map shp = sh) ∧ (ks = [] → Q d H) ∧
  ∀ (k : IK) (u : V), k ∈ ks → KeyAt H u k → (∀ k' ∈ ks, ltQ k' k = false) → Q u H
theorem minK_of {sh : List (Option Nat)} : ∀ (ks : List IK) (k : IK), (∀ z ∈ k :: ks, z.map shp = sh) → ∃ m ∈ k :: ks, PySem.W.minD (dK k) (ks.map dK) = dK m ∧ ∀ z ∈ k :: ks, ltQ z m = false
  | [], k, _ => ⟨k, List.mem_cons_self, rfl, fun z hz => by
    rw [List.mem_singleton.mp hz]
    exact lexI_self _⟩
  | y :: ys, k, h => by
    have hk := h k List.mem_cons_self
    have hy := h y (List.mem_cons_of_mem _ List.mem_cons_self)
    have e : PySem.W.minD (dK k) ((y :: ys).map dK) = PySem.W.minD (if ltQ y k = true then dK y else dK k) (ys.map dK) := by
      rw [← dataLt_K (hy.trans hk.symm)]
      rfl
    rw [e]
    by_cases hc : ltQ y k = true
    · rw [if_pos hc]
      obtain ⟨m, hm, e1, e2⟩ := minK_of ys y fun z hz => h z (List.mem_cons_of_mem _ hz)
      refine ⟨m, List.mem_cons_of_mem _ hm, e1, fun z hz => ?_⟩
      rcases List.mem_cons.mp hz with rfl | hz
      · exact lexI_tr _ _ _ (e2 y List.mem_cons_self) (lexI_asym _ _ hc)
      · exact e2 z hz
    · rw [if_neg hc]
      obtain ⟨m, hm, e1, e2⟩ := minK_of ys k fun z hz => by
        rcases List.mem_cons.mp hz with rfl | hz
        · exact hk
        · exact h z (List.mem_cons_of_mem _ (List.mem_cons_of_mem _ hz))
      refine ⟨m, ?_, e1, fun z hz => ?_⟩
      · rcases List.mem_cons.mp hm with rfl | hm
        · exact List.mem_cons_self
        · exact List.mem_cons_of_mem _ (List.mem_cons_of_mem _ hm)
      · rcases List.mem_cons.mp hz with rfl | hz
        · exact e2 _ List.mem_cons_self
        · rcases List.mem_cons.mp hz with rfl | hz
          · exact lexI_tr _ _ _ (e2 k List.mem_cons_self) (Bool.not_eq_true _ ▸ hc)
          · exact e2 z (List.mem_cons_of_mem _ hz)
theorem cr_minDN (hc : X.calm = true) (hu : X.A.units + 64 < cLine) (hK : X.K = K := by rfl) : CallRK X (.builtin "min") [PySem.Str.ofString "default"] (rMinDN K) := by
  subst hK
  intro pins s σ H xs zs us ws Q I rx rz h
  obtain ⟨a, vs, ks, d, sh, rfl, rfl, hs, hr, hsh, q0, q⟩ := h
  obtain ⟨u, rfl, ru⟩ := vals1 rx
  obtain ⟨dv, rfl, rd⟩ := vals1 rz
  obtain rfl : u = Value.ref a := ru
  obtain ⟨its, rv, hl, hz⟩ := I.list hs
  have hrd : ∃ as, ReadsAll s.heap its ((ks.map dK)) as := by
    have go : ∀ {vs : List V} {its : List Value} {ks : List IK}, Vals vs its → Row (KeyAt H) vs ks → ∃ as, ReadsAll s.heap its (ks.map dK) as := by
      intro vs its ks rv
      induction rv generalizing ks with
      | nil =>
        intro hr
        have : ks = [] := List.eq_nil_of_length_eq_zero hr.1.symm
        subst this
        exact ⟨[], .nil⟩
      | @cons v u vs its h1 h2 ih =>
        intro hr
        cases ks with
        | nil => exact absurd hr.1 (by simp)
        | cons k ks =>
          obtain ⟨as, g⟩ := ih ⟨Nat.succ.inj hr.1, fun i u x e1 e2 => hr.2 (i + 1) u x e1 e2⟩
          obtain ⟨bs, g1⟩ := Dp.reads I (dK k) _ _ (hr.2 0 v k rfl rfl).dp h1
          exact ⟨_, .cons g1 g⟩
    exact go rv hr
  obtain ⟨as, g⟩ := hrd
  refine PySem.W.min_list_default (I.ok.hd hc) hl.isList (by simpa using g) (alike_Ks hsh) (by have := depth_Ks ks; omega) (fun e h' tk k => ?_) fun y ys i v h' tk bs e hi r k => ?_
  · exact ⟨d, H, I.kept k, rd, q0 (List.map_eq_nil_iff.mp e)⟩
  · cases ks with
    | nil => cases e
    | cons k0 ks =>
      rw [List.map_cons] at e
      injection e with e1 e2
      subst e1
      subst e2
      obtain ⟨m, hm, e1, e2⟩ := minK_of ks k0 hsh
      rw [e1] at r
      have hi' : its[i]? = some v := by simpa using hi
      obtain ⟨v0, hv0⟩ : ∃ v0, vs[i]? = some v0 := ⟨_, List.getElem?_eq_getElem (by rw [rv.length]; exact (List.getElem?_eq_some_iff.mp hi').1)⟩
      obtain ⟨v1, hv1, rv0⟩ := rv.get hv0
      rw [hi'] at hv1
      cases hv1
      obtain ⟨k1, hk1, hkv⟩ := hr.get hv0
      have : k1 = m := by
        obtain ⟨bs2, r2⟩ := Dp.reads I (dK k1) _ _ hkv.dp rv0
        exact dK_inj (reads_det (fun b o e _ => k b o e) r2 r).1.symm
      subst this
      exact ⟨v0, H, I.kept k, rv0, q k1 v0 hm hkv e2⟩
end

section
variable {K : PySem.W.Frag} {w : World} {σ : L2.St} {H B : Hp} {Q : VK} {L : List (Addr × HO)}
theorem w_idxS {l : Addr} {xs : List PySem.Str} {us : List V} {t : PySem.Str} (h : SqL K H l us) (e : us = xs.map V.str) (m : t ∈ xs) (q : Q (.int (xs.idxOf t : Nat)) H) : rIdxS K (.ref l) [.str t] H Q := ⟨l, xs, t, rfl, rfl, e ▸ h, m, q⟩
theorem w_minDN {l : Addr} {us : List V} {ks : List IK} {d : V} {sh : List (Option Nat)} (h : SqL K H l us) (r : Row (KeyAt H) us ks) (hs : ∀ k ∈ ks, k.map shp = sh) (q0 : ks = [] → Q d H) (q : ∀ (k : IK) (u : V), k ∈ ks → KeyAt H u k → (∀ k' ∈ ks, ltQ k' k = false) → Q u H) : rMinDN K [.ref l] [d] H Q := ⟨l, us, ks, d, sh, rfl, rfl, h, r, hs, q0, q⟩
end
/-! ### set(keys) -/
section
open PpSet
variable {P : Program} {w : World} {A : Around} {E : Value → Shared → Prop} {s : Shared}
/-- what the set holds behind i of the items -/
structure GotK (ks : List (NestedKey × Addr)) (i : Nat) (L : List (NestedKey × Addr)) : Prop where
  sub : ∀ p ∈ L, p ∈ ks.take i
  all : ∀ p ∈ ks.take i, p.1 ∈ L.map (·.1)
theorem GotK.zero (ks : List (NestedKey × Addr)) : GotK ks 0 [] := ⟨(fun p h => nomatch h), (fun p h => nomatch h)⟩
theorem GotK.next {ks : List (NestedKey × Addr)} {i : Nat} {L L' : List (NestedKey × Addr)} {p : NestedKey × Addr} (g : GotK ks i L) (hp : ks[i]? = some p) (a : AddN L p L') : GotK ks (i + 1) L' := by
  have tk : ks.take (i + 1) = ks.take i ++ [p] := by rw [List.take_add_one, hp]; rfl
  have z : (∀ q ∈ L', q ∈ ks.take i ++ [p]) ∧ ∀ q ∈ ks.take i ++ [p], q.1 ∈ L'.map (·.1) := by
    by_cases c : p.1 ∈ L.map (·.1)
    · rw [a.1 c]
      refine ⟨fun q hq => List.mem_append_left _ (g.sub q hq), fun q hq => ?_⟩
      rcases List.mem_append.mp hq with hq | hq
      · exact g.all q hq
      · rw [List.mem_singleton.mp hq]
        exact c
    · have pm := a.2 c
      refine ⟨fun q hq => ?_, fun q hq => ?_⟩
      · rcases List.mem_cons.mp (pm.mem_iff.mp hq) with rfl | hq
        · exact List.mem_append_right _ List.mem_cons_self
        · exact List.mem_append_left _ (g.sub q hq)
      · rw [(pm.map (·.1)).mem_iff, List.map_cons, List.mem_cons]
        rcases List.mem_append.mp hq with hq | hq
        · exact .inr (g.all q hq)
        · exact .inl (by rw [List.mem_singleton.mp hq])
  rw [← tk] at z
  exact ⟨z.1, z.2⟩
theorem SetK.moved {h h' : Heap} {a : Addr} {L : List (NestedKey × Addr)} {es : Array (Int × Value)} {ep : Nat} {t : SetTable} (R : SetK (numKind P w) h a L es ep t) (ha : ∀ o, h.get? a = some o → h'.get? a = some o) (hl : ∀ p ∈ L, (numKind P w).is h' p.1 p.2) : SetK (numKind P w) h' a L es ep t := by
  obtain ⟨o, ho, r⟩ := R.ob
  exact ⟨⟨o, ha o ho, r⟩, R.rows, R.tab, R.nd, hl, R.pl, R.led, R.room, R.few⟩
/-- the walk of set.update -/
theorem upd_loopK {I : Addr} {fp wr : List Addr} {G : Array GenState → Array GenState → Prop} {n : Nat} {Pv : Nat → Value → Prop} {St : Nat → Shared → Prop} {R : Result → Shared → Prop} (W : WalksS P w A.in1 I fp wr G n Pv St) (S : Addr) (hSf : S ∉ fp)
    (ks : List (NestedKey × Addr)) (hn : n = ks.length) (few : ∀ l : List NestedKey, l.Nodup → (∀ x ∈ l, x ∈ ks.map (·.1)) → l.length < 63) (hv : ∀ i v, Pv i v → ∃ p, ks[i]? = some p ∧ v = .ref p.2)
    (g0 : Heap) (hk : ∀ p ∈ ks, (numKind P w).is g0 p.1 p.2) (hS0 : g0.get? S = none) (hw0 : ∀ b ∈ wr, g0.get? b = none) (hu : A.units + 40 < cLine) :
    ∀ (m i : Nat) (s : Shared), n - i = m → i ≤ n → St i s → (∀ b o, g0.get? b = some o → s.heap.get? b = some o) → (∃ L es ep t, SetK (numKind P w) s.heap S L es ep t ∧ GotK ks i L) →
      (∀ s' L es ep t, Moved (S :: wr) G s s' → SetK (numKind P w) s'.heap S L es ep t → GotK ks n L → (∀ b o, g0.get? b = some o → s'.heap.get? b = some o) → R (.ok (.ret .none)) s') →
      codeAny (model P w) A (.builtin "set.update.loop" ⟨[.ref S, .ref I], []⟩) R s := by
  have hSw : S ∉ wr := fun z => hSf (W.sub _ z)
  have more : ∀ b ∈ wr, b ∈ S :: wr := fun b hb => List.mem_cons_of_mem _ hb
  have carry : ∀ {s s' : Shared}, Moved wr G s s' → (∀ b o, g0.get? b = some o → s.heap.get? b = some o) → ∀ b o, g0.get? b = some o → s'.heap.get? b = some o := fun hm q b o e =>
    hm.heap b o (fun hb => by rw [hw0 b hb] at e; cases e) (q b o e)
  have is_at : ∀ {h : Heap} {p : NestedKey × Addr}, (∀ b o, g0.get? b = some o → h.get? b = some o) → p ∈ ks → (numKind P w).is h p.1 p.2 := fun q hp => els_num.grow (hk _ hp) q
  intro m
  induction m with
  | zero =>
    intro i s hm hi hst hq ⟨L, es, ep, t, hS, g⟩ hR
    obtain rfl : i = n := by omega
    refine codeAny_builtin F.entry_set_update_loop ?_
    rw [Around.under_plainId F.plain_set_update_loop _]
    show wpAny _ A.in1 (pyNext (.ref I) >>= _) _ _ s
    refine wpAny_bind (W.done s _ _ hst fun s' mv => ?_)
    show wpAny _ A.in1 (ret Value.none) _ _ s'
    have q' := carry mv hq
    exact wpAny_pure (hR s' L es ep t (mv.mono more) (hS.moved (fun o e => mv.heap S o hSw e) fun p hp => is_at q' (List.mem_of_mem_take (g.sub p hp))) g q')
  | succ m ih =>
    intro i s hm hi hst hq ⟨L, es, ep, t, hS, g⟩ hR
    have hlt : i < n := by omega
    refine codeAny_builtin F.entry_set_update_loop ?_
    rw [Around.under_plainId F.plain_set_update_loop _]
    show wpAny _ A.in1 (pyNext (.ref I) >>= _) _ _ s
    refine wpAny_bind (W.item i s _ _ hlt hst fun v s' hP hst' mv => ?_)
    obtain ⟨p, hp, rfl⟩ := hv i v hP
    have q' := carry mv hq
    have hS' := hS.moved (h' := s'.heap) (fun o e => mv.heap S o hSw e) fun x hx => is_at q' (List.mem_of_mem_take (g.sub x hx))
    have hx : (numKind P w).is s'.heap p.1 p.2 := is_at q' (List.mem_of_getElem? hp)
    have room : (numKind P w).room A.in1 := by
      show A.in1.units + 8 < cLine
      have e : A.in1.units = A.units + 1 := rfl
      omega
    have hl : L.length + 1 < 64 := by
      have := few (L.map (·.1)) hS.nd fun x hx => by
        obtain ⟨y, hy, rfl⟩ := List.mem_map.mp hx
        exact List.mem_map_of_mem (List.mem_of_mem_take (g.sub y hy))
      rw [List.length_map] at this
      omega
    show wpAny _ A.in1 (holding [Value.ref p.2] (setAdd S (.ref p.2)) >>= _) _ _ s'
    refine wpAny_bind (wpAny_holding ?_)
    unfold setAdd
    refine wpAny_holding ?_
    refine wpAny_bind ((numKind P w).pyHash room hx ?_)
    refine addK (s := { s' with toks := s'.toks + (numKind P w).draws p.1 }) (knd := numKind P w) els_num hS' hx room hl fun b h' L' es' ep' t' sb hS2 c1 c2 => ?_
    have q2 : ∀ b o, g0.get? b = some o → h'.get? b = some o := fun b o e => (sb.2 b (fun z => by rw [z, hS0] at e; cases e)).trans (q' b o e)
    refine wpAny_pure ⟨plainId_quiet F.plain_set_update_loop _, ih (i + 1) _ (by omega) hlt (W.frame _ s' _ _ hst' (Nat.le_add_right _ _) fun b hb o e => ?_) q2 ⟨L', es', ep', t', hS2, g.next hp ⟨c1, c2⟩⟩ fun s'' L2 es2 ep2 t2 mv2 hS3 g3 q3 => ?_⟩
    · rw [sb.2 b (fun z : b = S => hSf (z ▸ hb))]
      exact e
    · refine hR s'' L2 es2 ep2 t2 (Moved.trans W.gtrans ((mv.mono more).then_heap (Nat.le_add_right _ _) fun b o hb e => ?_) mv2) hS3 g3 q3
      rw [sb.2 b (fun z : b = S => hb (z ▸ List.mem_cons_self))]
      exact e

theorem call_setK {l : Addr} {items : Array Value} (ks : List (NestedKey × Addr)) {Q : Value → Shared → Prop} (hh : A.handled = none) (hl : s.heap.IsList l items) (hit : items.toList = ks.map fun p => Value.ref p.2) (hk : ∀ p ∈ ks, (numKind P w).is s.heap p.1 p.2)
    (few : ∀ l : List NestedKey, l.Nodup → (∀ x ∈ l, x ∈ ks.map (·.1)) → l.length < 63) (hu : A.units + 50 < cLine)
    (h : ∀ (h' : Heap) (tk : Nat) L es ep t, SetK (numKind P w) h' s.heap.objs.size L es ep t → GotK ks ks.length L → (∀ b o, s.heap.get? b = some o → h'.get? b = some o) → Q (.ref s.heap.objs.size) { s with heap := h', toks := tk }) : wpAny (model P w) A (call (.type "set") [.ref l]) Q E s := by
  have hsz : items.size = ks.length := by
    rw [← Array.length_toList, hit, List.length_map]
  obtain ⟨c, tl, hmro⟩ := F.called_set.mro
  have m1 := F.called_set.made
  have m2 := F.called_set.sub
  refine wpAny_call (codeAny_of_tree ?_)
  show wpAny _ _ (callAny (.type "set") _) _ _ _
  refine wpAny_pure ⟨Code.quiet_builtin _ (by decide +kernel), codeAny_builtin F.entry_type_call ?_⟩
  rw [Around.under_plain (weight_type_call_type "set" [.ref l] []) rfl]
  have k1 := F.called_set.notType
  have k2 := F.called_set.canCreate
  have k3 := F.typeCall_set_1 (.ref l)
  repeat (any_goals (first | assumption | wp_step))
  generalize hN : s.heap.push { cls := .type "set", dict := none, data := .set #[] 0 (.fresh 0 0 (!w.params.followText "set-order")) } = hp
  have hS : hp.get? s.heap.objs.size = some { cls := .type "set", dict := none, data := .set #[] 0 (.fresh 0 0 (!w.params.followText "set-order")) } := hN ▸ Heap.get?_push_size _ rfl
  have hsP : hp.objs.size = s.heap.objs.size + 1 := by rw [← hN, Heap.size_push]
  have grow : ∀ b o, s.heap.get? b = some o → hp.get? b = some o := fun b o e => hN ▸ Heap.get?_push_of_some _ e
  refine codeAny_mono (code_set_led1 (.ref l) (E := E) (Q₁ := fun obj s₁ => obj = .ref s.heap.objs.size ∧ s₁ = { s with heap := hp }) ⟨rfl, by rw [← hN]⟩) fun r s₁ hr => ?_
  cases r with
  | error e => exact hr
  | ok fl =>
    cases fl with
    | ret obj =>
      obtain ⟨rfl, rfl⟩ := hr
      have hT : Shared.TypeIs { s with heap := hp } (.ref s.heap.objs.size) "set" := ⟨_, hS, rfl⟩
      have hli := F.called_set.init.lookup
      have hbi := F.called_set.init.bind (.ref s.heap.objs.size)
      repeat (any_goals (first | assumption | wp_step))
      refine codeAny_mono (codeAny_call_builtin (R := wants (fun r s₂ => r = .none ∧ ∃ h' tk L es ep t, s₂ = { s with heap := h', toks := tk } ∧ SetK (numKind P w) h' s.heap.objs.size L es ep t ∧ GotK ks ks.length L ∧
          (∀ b o, s.heap.get? b = some o → h'.get? b = some o)) E) F.called_set.init.plain F.entry_set_init (check_set_init_1 hT ?_)) fun r₂ s₂ hr₂ => ?_
      · obtain ⟨ol, hol, hcl, nl, hdl⟩ := hl
        obtain ⟨ocls, odict, odata, oslots⟩ := ol
        simp only at hcl hdl
        subst hcl; subst hdl
        have hl1 : hp.IsList l items := ⟨_, grow _ _ hol, rfl, nl, rfl⟩
        have hol' := grow _ _ hol
        have z1 := F.sub_list_set
        have z2 := F.sub_list_frozenset
        have z3 : (Value.type "list" == Value.type "dict") = false := by decide
        unfold Builtin.«set.__init__» noKeywords Builtin.Frozenset.updateFrom
        generalize hPI : pyIter = PI
        wp_walk
        subst hPI
        refine wpAny_pyIter_list hl1 ?_
        refine wpAny_bind (wpAny_runValue ?_)
        have hlS : l < s.heap.objs.size := Heap.lt_size hol
        have hI : l ≠ hp.objs.size := by
          rw [hsP]
          exact Nat.ne_of_lt (Nat.lt_succ_of_lt hlS)
        have hh3 : A.in1.in1.in1.handled = none := by simp [hh]
        have hSf : s.heap.objs.size ∉ [hp.objs.size, l] := by
          simp only [List.mem_cons, List.not_mem_nil, or_false, not_or]
          exact ⟨by rw [hsP]; exact Nat.ne_of_lt (Nat.lt_succ_self _), Nat.ne_of_gt hlS⟩
        have hval : ∀ (i : Nat) (v : Value), items[i]? = some v → ∃ p, ks[i]? = some p ∧ v = .ref p.2 := fun i v hv => by
          rw [← Array.getElem?_toList, hit, List.getElem?_map] at hv
          obtain ⟨p, hp1, hp2⟩ := Option.map_eq_some_iff.mp hv
          exact ⟨p, hp1, hp2.symm⟩
        have fresh : ∀ b, s.heap.objs.size ≤ b → s.heap.get? b = none := fun b hb => by
          cases q : s.heap.get? b with
          | none => rfl
          | some o => exact absurd (Nat.lt_of_lt_of_le (Heap.lt_size q) hb) (Nat.lt_irrefl _)
        have hl2 := hl1.push (o := { cls := .type "list_iterator", data := .fields #[.ref l, .int 0 0] })
        refine upd_loopK ((Walks.list hh3 _ l hI items).toS) s.heap.objs.size hSf ks hsz few hval s.heap hk (fresh _ (Nat.le_refl _)) (fun b hb => fresh b (by rw [List.mem_singleton.mp hb, hsP]; exact Nat.le_succ _)) (by
          show A.in1.in1.units + 40 < cLine
          have e : A.in1.in1.units = A.units + 1 + 1 := rfl
          omega) (items.size - 0) 0 _ (by omega) (Nat.zero_le _) ⟨⟨_, Heap.get?_push_size _ rfl, rfl, rfl⟩, hl2⟩ (fun b o e => Heap.get?_push_of_some _ (grow b o e)) ?_ ?_
        · exact ⟨[], #[], 0, _, freshK (Heap.get?_push_of_some _ hS), GotK.zero ks⟩
        · intro s' L es ep t hm hS' g' hq
          obtain ⟨h', g2, d', tk', os'⟩ := s'
          have eg : g2 = s.gens := hm.gens
          have ed : d' = s.drawn := hm.drawn
          have eo : os' = s.os := hm.os
          subst eg; subst ed; subst eo
          show wpAny _ _ _ _ _ _
          refine wpAny_pure ?_
          show wpAny _ _ (ret Value.none) _ _ _
          exact wpAny_pure ⟨rfl, h', tk', L, es, ep, t, rfl, hS', hsz ▸ g', hq⟩
      · cases r₂ with
        | error e => exact hr₂
        | ok fl₂ =>
          cases fl₂ with
          | ret r =>
            obtain ⟨rfl, h', tk, L, es, ep, t, rfl, hS', g', hk'⟩ := hr₂
            repeat (any_goals (first | assumption | wp_step))
            exact h h' tk L es ep t hS' g' hk'
          | _ => exact hr₂.elim
    | _ => exact hr.elim
end
end Hb

set_option Elab.async false
set_option linter.all false
set_option maxRecDepth 100000
set_option maxHeartbeats 4000000
/-! Sets of keys, told as IK; set(xs). -/
namespace Hb
open PySem L2 PyProof.Rows
/-! ## sets of keys -/
theorem noTxI (x : Itm) : noTx (nkI x) = true := by
  cases x with
  | inl n => rfl
  | inr ns =>
    show noTxs (ns.map NestedKey.num) = true
    induction ns with
    | nil => rfl
    | cons n ns ih =>
      rw [List.map_cons]
      simp only [noTxs, noTx, Bool.true_and]
      exact ih
theorem noTxK (k : IK) : noTx (nkK k) = true := by
  show noTxs (k.map nkI) = true
  induction k with
  | nil => rfl
  | cons n ns ih =>
    rw [List.map_cons]
    simp only [noTxs, noTxI, Bool.true_and]
    exact ih
theorem KAt.el {H : Hp} {p : Addr} {k : IK} (h : KAt H p k) : ElN H (nkK k, p) := ⟨h.nk, nkK_depth k, noTxK k⟩
/-- each once -/
def ndp : List IK → List IK
  | [] => []
  | x :: xs => if xs.any (fun y => decide (y = x)) then ndp xs else x :: ndp xs
theorem ndp_cons (x : IK) (xs : List IK) : ndp (x :: xs) = if xs.any (fun y => decide (y = x)) then ndp xs else x :: ndp xs := by rw [ndp]
theorem any_in {x : IK} {xs : List IK} : xs.any (fun y => decide (y = x)) = true ↔ x ∈ xs := by
  rw [List.any_eq_true]
  exact ⟨fun ⟨y, h1, h2⟩ => of_decide_eq_true h2 ▸ h1, fun h => ⟨x, h, decide_eq_true rfl⟩⟩
theorem ndp_mem : ∀ (xs : List IK) (x : IK), x ∈ ndp xs ↔ x ∈ xs
  | [], x => Iff.rfl
  | y :: xs, x => by
    have ih := ndp_mem xs
    rw [ndp_cons]
    split
    · rename_i h
      have h := any_in.mp h
      rw [ih, List.mem_cons]
      exact ⟨.inr, fun z => z.elim (fun e => e ▸ h) id⟩
    · rw [List.mem_cons, List.mem_cons, ih]
theorem ndp_nodup : ∀ xs : List IK, (ndp xs).Nodup
  | [] => List.Pairwise.nil
  | y :: xs => by
    have ih := ndp_nodup xs
    rw [ndp_cons]
    split
    · exact ih
    · rename_i h
      exact List.nodup_cons.mpr ⟨fun z => h (any_in.mpr ((ndp_mem xs y).mp z)), ih⟩
structure SK (H : Hp) (L : List (NestedKey × Addr)) (ks : List IK) : Prop where
  el : ∀ e ∈ L, ∃ x, e.1 = nkK x ∧ KAt H e.2 x
  mem : ∀ x, nkK x ∈ L.map (·.1) ↔ x ∈ ks
  len : L.length ≤ ks.length
theorem SK.nil {H : Hp} : SK H [] [] := ⟨(fun _ z => nomatch z), (fun _ => ⟨(fun z => nomatch z), (fun z => nomatch z)⟩), Nat.le_refl 0⟩
theorem SK.mono {H H' : Hp} (e : ∀ p xs, H p = some (.tup xs) → H' p = some (.tup xs)) {L : List (NestedKey × Addr)} {ks : List IK} (h : SK H L ks) : SK H' L ks :=
  ⟨fun x hx => (h.el x hx).elim fun k ⟨h1, h2⟩ => ⟨k, h1, h2.mono e⟩, h.mem, h.len⟩
theorem SK.add {H : Hp} {L L' : List (NestedKey × Addr)} {ks : List IK} {x : IK} {p : Addr} (h : SK H L ks) (hp : KAt H p x) (hA : AddN L (nkK x, p) L') : SK H L' (ks ++ [x]) := by
  by_cases hk : nkK x ∈ L.map (·.1)
  · rw [hA.1 hk]
    refine ⟨h.el, fun y => ?_, by rw [List.length_append]; exact Nat.le_add_right_of_le h.len⟩
    rw [List.mem_append, List.mem_singleton, ← h.mem]
    exact ⟨.inl, fun z => z.elim id fun e => e ▸ hk⟩
  · have pm := hA.2 hk
    refine ⟨fun e he => ?_, fun y => ?_, ?_⟩
    · rcases List.mem_cons.mp (pm.mem_iff.mp he) with rfl | he
      · exact ⟨x, rfl, hp⟩
      · exact h.el e he
    · rw [(pm.map (·.1)).mem_iff, List.map_cons, List.mem_cons, List.mem_append, List.mem_singleton, ← h.mem]
      exact ⟨fun z => z.elim (fun e => .inr (nkK_inj e)) .inl, fun z => z.elim .inr fun e => .inl (by rw [e])⟩
    · rw [pm.length_eq, List.length_cons, List.length_append]
      exact Nat.succ_le_succ h.len
theorem w_sortSK {P : Program} {w : World} {B H : Hp} {M : List (Addr × HO)} {Q : VK} {a : Addr} {L : List (NestedKey × Addr)} {ks : List IK} {c : Option Nat} {sh : List (Option Nat)} (hs : Hs B M H) (ha : H a = some (SN P w a L)) (h : SK H L ks) (hks : ∀ x ∈ ks, x.map shp = c :: sh)
    (q : ∀ p ys H', Hs B ((p, .lst ys) :: M) H' → Row (KeyAt H') ys (srtK (ndp ks)) → Q (.ref p) H') : rSortSN P w c sh [.ref a] H Q := by
  have hin : ∀ e ∈ L, ∃ x ∈ ks, e.1 = nkK x ∧ KeyAt H (.ref e.2) x := fun e he => by
    obtain ⟨x, h1, h2⟩ := h.el e he
    exact ⟨x, (h.mem x).mp (h1 ▸ List.mem_map_of_mem he), h1, _, rfl, h2⟩
  refine ⟨a, L, itK H, rfl, ha, fun e he => ?_, fun ys p hsrt hpm hnd hp => ?_⟩
  · obtain ⟨x, hx, h1, h2⟩ := hin e he
    rw [h2.it]
    obtain ⟨_, e', h3⟩ := h2
    cases e'
    exact ⟨h1 ▸ h3.nk, h1, hks x hx⟩
  · have hat : ∀ v ∈ ys, ∃ e ∈ L, v = .ref e.2 ∧ itK H v ∈ ks ∧ e.1 = nkK (itK H v) ∧ KeyAt H v (itK H v) := fun v hv => by
      obtain ⟨e, he, rfl⟩ := List.mem_map.mp (hpm.mem_iff.mp hv)
      obtain ⟨x, hx, h1, h2⟩ := hin e he
      rw [h2.it]
      exact ⟨e, he, rfl, hx, h1, h2⟩
    have hr : Row (KeyAt H) ys (ys.map (itK H)) := ⟨(List.length_map _).symm, fun i u x h1 h2 => by
      rw [List.getElem?_map, h1] at h2
      cases h2
      exact (hat u (List.mem_of_getElem? h1)).elim fun _ z => z.2.2.2.2⟩
    have hkL : ((ys.map (itK H)).map nkK).Perm (L.map (·.1)) := by
      rw [List.map_map]
      refine (hpm.map _).trans (List.Perm.of_eq ?_)
      rw [List.map_map]
      refine List.map_congr_left fun e he => ?_
      obtain ⟨x, hx, h1, h2⟩ := hin e he
      show nkK (itK H (.ref e.2)) = e.1
      rw [h2.it, h1]
    have nd : (ys.map (itK H)).Nodup := nodup_of_map (f := nkK) (hkL.nodup_iff.mpr hnd)
    have pm : (ys.map (itK H)).Perm (ndp ks) := (List.perm_ext_iff_of_nodup nd (ndp_nodup ks)).mpr fun x => by
      rw [ndp_mem, ← h.mem x, ← hkL.mem_iff]
      exact ⟨fun z => List.mem_map_of_mem z, fun z => by
        obtain ⟨y, hy, e⟩ := List.mem_map.mp z
        rw [← nkK_inj e]
        exact hy⟩
    have srt : SortedK (ys.map (itK H)) := List.pairwise_map.mpr (hsrt.imp fun z => z)
    have e := srtK_uniq (sh := c :: sh) pm (fun x hx => hks x ((ndp_mem _ _).mp hx)) srt
    rw [e] at hr
    have hs2 := hs.new (o := .lst ys) hp
    exact q p ys _ hs2 (hr.mono fun u k => KeyAt.mono fun b xs e => by rw [upd_ne (ne_of_none e hp)]; exact e)
theorem ndp_len : ∀ xs : List IK, (ndp xs).length ≤ xs.length
  | [] => Nat.le_refl _
  | x :: xs => by
    rw [ndp_cons]
    have := ndp_len xs
    split
    · exact Nat.le_succ_of_le this
    · exact Nat.succ_le_succ this

/-! ### set(xs), xs a list of keys -/
def rSetL (P : Program) (w : World) (K : PySem.W.Frag) : List V → Hp → VK → Prop := fun xs H Q => ∃ (l : Addr) (ks : List (NestedKey × Addr)), xs = [.ref l] ∧ SqL K H l (ks.map fun p => V.ref p.2) ∧ (∀ p ∈ ks, ElN H p) ∧ (∀ l : List NestedKey, l.Nodup → (∀ x ∈ l, x ∈ ks.map (·.1)) → l.length < 63) ∧
  ∀ D L, H D = none → (L.map (·.1)).Nodup → (∀ e ∈ L, e ∈ ks) → (∀ p ∈ ks, p.1 ∈ L.map (·.1)) → Q (.ref D) (upd H D (SN P w D L))
theorem call_setN {X : Cx} {P : Program} {w : World} {K : PySem.W.Frag} (hc : X.calm = true) (hu : X.A.units + 64 < cLine) (hP : X.prog = P := by rfl) (hw : X.w = w := by rfl) (hK : X.K = K := by rfl) : CallR X (.type "set") (rSetL P w K) := by
  subst hP
  subst hw
  subst hK
  intro pins s σ H xs us Q I r h
  obtain ⟨l, ks, rfl, hs, he, few, q⟩ := h
  obtain ⟨u, rfl, ru⟩ := vals1 r
  obtain rfl : u = Value.ref l := ru
  obtain ⟨its, rv, hl, hz⟩ := I.list hs
  have hit : its = ks.map fun p => Value.ref p.2 := by
    have go : ∀ {ks : List (NestedKey × Addr)} {us : List Value}, Vals (ks.map fun p => V.ref p.2) us → us = ks.map fun p => Value.ref p.2 := by
      intro ks
      induction ks with
      | nil =>
        intro us h
        cases h
        rfl
      | cons k ks ih =>
        intro us h
        cases h with
        | @cons _ u _ _ h1 h2 =>
          obtain rfl : u = Value.ref k.2 := h1
          rw [ih h2, List.map_cons]
    exact go rv
  refine call_setK ks (I.ok.hd hc) hl.isList (by simpa using hit) (fun p hp => (he p hp).is I.hok) few (by omega) fun h' tk L es ep t R g keep => ?_
  have g' : GotK ks ks.length L := g
  refine ⟨.ref s.heap.objs.size, _, I.laid (a := s.heap.objs.size) (t' := tk) keep (Nat.le_refl _) (sn_new R.k0), rfl, q _ L (I.hok.fresh (Nat.le_refl _)) R.nd (fun e m => List.mem_of_mem_take (g'.sub e m)) fun p m => g'.all p (by rw [List.take_length]; exact m)⟩
theorem w_setK {P : Program} {w : World} {K : PySem.W.Frag} {B H : Hp} {M : List (Addr × HO)} {Q : VK} {l : Addr} {us : List V} {ks : List IK} (hs : Hs B M H) (h : SqL K H l us) (r : Row (KeyAt H) us ks) (few : (ndp ks).length ≤ 60)
    (q : ∀ D L H', Hs B ((D, SN P w D L) :: M) H' → SK H' L ks → Q (.ref D) H') : rSetL P w K [.ref l] H Q := by
  obtain ⟨es, e1, e2, e3⟩ : ∃ es : List (NestedKey × Addr), us = es.map (fun p => V.ref p.2) ∧ ks.map nkK = es.map (·.1) ∧ ∀ p ∈ es, ∃ x ∈ ks, p.1 = nkK x ∧ KAt H p.2 x := by
    have go : ∀ {us : List V} {ks : List IK}, Row (KeyAt H) us ks → ∃ es : List (NestedKey × Addr), us = es.map (fun p => V.ref p.2) ∧ ks.map nkK = es.map (·.1) ∧ ∀ p ∈ es, ∃ x ∈ ks, p.1 = nkK x ∧ KAt H p.2 x := by
      intro us
      induction us with
      | nil =>
        intro ks r
        have : ks = [] := List.eq_nil_of_length_eq_zero r.1.symm
        subst this
        exact ⟨[], rfl, rfl, (fun _ z => nomatch z)⟩
      | cons u us ih =>
        intro ks r
        cases ks with
        | nil => exact absurd r.1 (by simp)
        | cons k ks =>
          obtain ⟨es, e1, e2, e3⟩ := ih (ks := ks) ⟨Nat.succ.inj r.1, fun i u x h1 h2 => r.2 (i + 1) u x h1 h2⟩
          obtain ⟨p, rfl, hp⟩ := r.2 0 u k rfl rfl
          refine ⟨(nkK k, p) :: es, by rw [List.map_cons, ← e1], by rw [List.map_cons, List.map_cons, e2], fun z hz => ?_⟩
          rcases List.mem_cons.mp hz with rfl | hz
          · exact ⟨k, List.mem_cons_self, rfl, hp⟩
          · obtain ⟨x, h1, h2⟩ := e3 z hz
            exact ⟨x, List.mem_cons_of_mem _ h1, h2⟩
    exact go r
  subst e1
  refine ⟨l, es, rfl, h, fun p hp => ?_, fun l hl hm => ?_, fun D L hD nd sub all => ?_⟩
  · obtain ⟨x, _, h1, h2⟩ := e3 p hp
    have := h2.el
    rw [← h1] at this
    exact this
  · have : ∃ ls : List IK, l = ls.map nkK ∧ ls.Nodup ∧ ∀ x ∈ ls, x ∈ ks := by
      have hm2 : ∀ x ∈ l, ∃ y ∈ ks, x = nkK y := fun x hx => by
        have := hm x hx
        rw [← e2] at this
        obtain ⟨y, hy, rfl⟩ := List.mem_map.mp this
        exact ⟨y, hy, rfl⟩
      clear hm
      induction l with
      | nil => exact ⟨[], rfl, .nil, (fun _ z => nomatch z)⟩
      | cons x l ih =>
        obtain ⟨ls, e, nd, m⟩ := ih (List.nodup_cons.mp hl).2 fun y hy => hm2 y (List.mem_cons_of_mem _ hy)
        obtain ⟨y, hy, rfl⟩ := hm2 x List.mem_cons_self
        refine ⟨y :: ls, by rw [List.map_cons, ← e], List.nodup_cons.mpr ⟨fun z => (List.nodup_cons.mp hl).1 (e ▸ List.mem_map_of_mem z), nd⟩, fun z hz => ?_⟩
        rcases List.mem_cons.mp hz with rfl | hz
        · exact hy
        · exact m z hz
    obtain ⟨ls, rfl, nd, m⟩ := this
    rw [List.length_map]
    have := nd.length_le_of_subset fun x hx => (ndp_mem ks x).mpr (m x hx)
    omega
  · refine q D L _ (hs.new hD) ⟨fun e he => ?_, fun x => ⟨fun hx => ?_, fun hx => ?_⟩, ?_⟩
    · obtain ⟨x, _, h1, h2⟩ := e3 e (sub e he)
      refine ⟨x, h1, h2.mono fun b xs e => ?_⟩
      rw [upd_ne (ne_of_none e hD)]
      exact e
    · obtain ⟨e, he, e4⟩ := List.mem_map.mp hx
      obtain ⟨y, hy, h1, _⟩ := e3 e (sub e he)
      rw [nkK_inj (e4.symm.trans h1)]
      exact hy
    · have : nkK x ∈ es.map (·.1) := e2 ▸ List.mem_map_of_mem hx
      obtain ⟨e, he, e4⟩ := List.mem_map.mp this
      rw [← e4]
      exact all e he
    · have h1 := nd.length_le_of_subset (l₂ := ks.map nkK) fun x hx => by
        obtain ⟨e, he, rfl⟩ := List.mem_map.mp hx
        rw [e2]
        exact List.mem_map_of_mem (sub e he)
      rw [List.length_map, List.length_map] at h1
      exact h1

/-! ### a walk over a dict that is locked around it -/
def iKeysNL (w : World) (td : TE) : TI := fun σ H R => td σ H fun x H1 => ∃ d o es, x = .ref d ∧ H1 d = some (.frz o (DN w d es)) ∧ R (Itn w d o es) H1
theorem pi_keysNL {X : Cx} {tg e : Expr} {td : TE} {w : World} (he : PE X e td) : PI X tg e (iKeysNL w td) := by
  refine ⟨fun pins s σ H R I h => ?_⟩
  refine thn (he.run pins s σ H _ I h) fun u s1 h1 => ?_
  obtain ⟨x, H1, I1, rx, d, o, es, ex, hd1, q⟩ := h1
  subst ex
  obtain rfl : u = Value.ref d := rx
  obtain ⟨hs, hgd, hx, ds, ep, hdt, hsz, ent⟩ := dn_raw I1 hd1
  refine iter_keys hs hgd hx hdt (pi_one (tk := s1.toks) I1 _ (turn_keysN _ hdt) ⟨_, Heap.get?_push_size _ rfl, rfl, ?_⟩ q)
  rw [hsz] <;> rfl
section
variable {K : PySem.W.Frag} {w : World} {σ : L2.St} {H B : Hp} {Q : VK} {L : List (Addr × HO)}
def KeyNLR (w : World) (x : V) (H1 : Hp) (R : It → Hp → Prop) : Prop := ∃ d o es, x = .ref d ∧ H1 d = some (.frz o (DN w d es)) ∧ R (Itn w d o es) H1
theorem w_keyNLR {d : Addr} {o : Obj} {es : List Ent} {R : It → Hp → Prop} (h : H d = some (.frz o (DN w d es))) (q : R (Itn w d o es) H) : KeyNLR w (.ref d) H R := ⟨d, o, es, rfl, h, q⟩
theorem w_lcNL {td : TE} {g : TG} {tt : TT} {te : TE} {vs : List Nat} (q : td σ H fun x H1 => KeyNLR w x H1 (LcR g tt te vs σ Q)) : tLc (iKeysNL w td) g tt te vs σ H Q := q
theorem w_forKNL {D : Ends} {td : TE} {g : TG} {tb : TS} (q : td σ H fun x H1 => KeyNLR w x H1 (ForR g tb D σ)) : tFor (iKeysNL w td) g tb D σ H := q
theorem w_lockN {L' : Obj → List (Addr × HO)} {d : Addr} {es : List Ent} {t : TE} (hs : Hs B L H) (h : ∀ od, Put L d (DN w d es) (.frz od (DN w d es)) (L' od)) (q : ∀ od H', Hs B (L' od) H' → t σ H' fun v H2 => H2 d = some (.frz od (DN w d es)) ∧ Q v (upd H2 d (DN w d es))) : tLockE t σ H Q :=
  ⟨d, _, hs.gets (h default), True.intro, fun od => q od _ (hs.puts (h od))⟩
theorem w_lockSN {D : Ends} {L' : Obj → List (Addr × HO)} {d : Addr} {es : List Ent} {t : TS} (hs : Hs B L H) (h : ∀ od, Put L d (DN w d es) (.frz od (DN w d es)) (L' od))
    (q : ∀ od H', Hs B (L' od) H' → t ⟨fun σ' H' => H' d = some (.frz od (DN w d es)) ∧ D.nx σ' (upd H' d (DN w d es)), fun v H' => H' d = some (.frz od (DN w d es)) ∧ D.rt v (upd H' d (DN w d es)), fun σ' H' => H' d = some (.frz od (DN w d es)) ∧ D.bk σ' (upd H' d (DN w d es)), fun σ' H' => H' d = some (.frz od (DN w d es)) ∧ D.ct σ' (upd H' d (DN w d es))⟩ σ H') : tLock t D σ H :=
  ⟨d, _, hs.gets (h default), True.intro, fun od => q od _ (hs.puts (h od))⟩
end

section
variable {K : PySem.W.Frag} {w : World} {σ : L2.St} {H : Hp} {Q : VK}
theorem w_ninF {ty td : TE} (q : ty σ H fun y H1 => td σ H1 fun x H2 => rNInF w x y H2 fun b => Q (.bl b) H2) : tNInF w ty td σ H Q := q
theorem w_ckw {r : List V → List V → Hp → VK → Prop} {t tk : TA} (q : t σ H fun vs H1 => tk σ H1 fun zs H2 => r vs zs H2 Q) : tCKw r t tk σ H Q := q
theorem w_lc2NN {td : TE} {g : TG} {tt : TT} {wi1 : TI} {g1 : TG} {tt1 : TT} {te : TE} {vs vs1 : List Nat} (q : td σ H fun x H1 => KeyNR w x H1 fun J H1 => ∀ D, H1 D = none → Turns J (Lc2Out g tt wi1 g1 tt1 te vs vs1 σ D) (upd H1 D (.lst [])) fun H => Q (.ref D) H) : tLc2 (iKeysN w td) g tt wi1 g1 tt1 te vs vs1 σ H Q := q
theorem w_allB {a : Addr} {bs : List Bool} {us : List V} (h : SqL K H a us) (e : us = bs.map V.bl) (q : Q (.bl (bs.all id)) H) : rAll K [.ref a] H Q := ⟨a, bs, rfl, e ▸ h, q⟩
/-- the walked row within a comprehension with two fors -/
theorem w_inL {D : Addr} {tl : TE} {g : TG} {tt : TT} {te : TE} {vs : List Nat} {Nx : Hp → Prop} (q : tl σ H fun x H1 => ListR K x H1 fun J1 H4 => Turns J1 (Lc2In g tt te vs σ D) H4 Nx) : iList K tl σ H fun J1 H4 => Turns J1 (Lc2In g tt te vs σ D) H4 Nx := q
end

theorem EntG.rowK {H : Hp} {es : List Ent} {M : GM} (h : EntG H es M) : Row (KeyAt H) (es.map fun e => V.ref e.2.1) (M.map (·.1)) := by
  induction h with
  | nil => exact Row.nil
  | cons h _ ih => exact ih.cons ⟨_, rfl, h.2.2⟩
theorem w_sortDK {w : World} {B H : Hp} {L : List (Addr × HO)} {Q : VK} {d : Addr} {es : List Ent} {M : GM} {c : Option Nat} {sh : List (Option Nat)} (hs : Hs B L H) (h : H d = some (DN w d es)) (e : EntG H es M) (hsh : ∀ x ∈ M, x.1.map shp = c :: sh)
    (q : ∀ p ys H', Hs B ((p, .lst ys) :: L) H' → Row (KeyAt H') ys (srtK (M.map (·.1))) → Q (.ref p) H') : rSortDN w c sh [.ref d] H Q := by
  have hr := e.rowK
  refine ⟨d, es, itK H, rfl, h, fun z hz => ?_, fun ys p h1 h2 hp => ?_⟩
  · obtain ⟨i, hi⟩ := List.mem_iff_getElem?.mp hz
    obtain ⟨x, hx, e1, e2, e3⟩ := paired_get e hi
    have : itK H (.ref z.2.1) = x.1 := KeyAt.it ⟨_, rfl, e3⟩
    rw [this]
    exact ⟨e3.nk, hsh x (List.mem_of_getElem? hx)⟩
  · obtain ⟨zs, pz, rz⟩ := row_perm h2.perm hr
    have hzs : zs = ys.map (itK H) := by
      refine List.ext_getElem? fun i => ?_
      rw [List.getElem?_map]
      cases hy : ys[i]? with
      | none =>
        have := List.getElem?_eq_none_iff.mp hy
        rw [rz.1] at this
        rw [List.getElem?_eq_none this]
        rfl
      | some y =>
        obtain ⟨x, hx, hk⟩ := rz.get hy
        rw [hx]
        exact congrArg some hk.it.symm
    have srt : SortedK zs := by
      rw [hzs]
      exact List.pairwise_map.mpr (h1.imp fun z => z)
    have e1 := srtK_uniq (sh := c :: sh) pz (fun x hx => by
      obtain ⟨y, hy, rfl⟩ := List.mem_map.mp hx
      exact hsh y hy) srt
    rw [e1] at rz
    exact q p ys _ (hs.new hp) (rz.mono fun u k => KeyAt.mono fun b xs e => by rw [upd_ne (ne_of_none e hp)]; exact e)
theorem w_slTF {K : PySem.W.Frag} {B H : Hp} {L : List (Addr × HO)} {Q : VK} {p : Addr} {xs : List V} {lo hi : Option Int} (hs : Hs B L H) (h : B p = some (.tup xs)) (hw : ¬ (HT.sIx xs.length 0 lo = 0 ∧ HT.sIx xs.length xs.length hi = xs.length)) (q : ∀ l B2 H', Same B B2 → Hs B2 L H' → B2 l = some (.tup (cutV xs lo hi)) → Q (.ref l) H') : rSlA K (.ref p) lo hi H Q :=
  w_slA hs (SqT.of (hs.same _ _ h)) hw fun l H' h1 => by
    obtain ⟨B2, sm, h2, h3⟩ := frz_hs h1
    exact q l B2 H' sm h3 h2
theorem w_catTF {K : PySem.W.Frag} {B H : Hp} {L : List (Addr × HO)} {Q : VK} {a b : Addr} {xs ys : List V} (hs : Hs B L H) (ha : B a = some (.tup xs)) (hb : B b = some (.tup ys)) (hz : xs.length + ys.length ≤ 100) (q : ∀ p B2 H', Same B B2 → Hs B2 L H' → B2 p = some (.tup (xs ++ ys)) → Q (.ref p) H') : rCatA K (.ref a) (.ref b) H Q := by
  refine ⟨a, b, xs, ys, rfl, rfl, SqT.of (hs.same _ _ ha), SqT.of (hs.same _ _ hb), Nat.le_trans hz (by decide), fun z => ?_, fun _ z => ?_, fun _ _ p hp => ?_⟩
  · subst z
    exact q b B H (Same.refl _) hs hb
  · subst z
    exact q a B H (Same.refl _) hs (by rw [List.append_nil]; exact ha)
  · obtain ⟨B2, sm, h1, h2⟩ := frz_hs (hs.new (o := .tup (xs ++ ys)) hp)
    exact q p B2 _ sm h2 h1

theorem for_keysN {w : World} {σ : L2.St} {H : Hp} {D : Ends} {g : TG} {tb : TS} {d : Addr} {o : Obj} {es : List Ent} (Pv : Nat → L2.St → Hp → Prop) (h0 : Pv 0 σ H) (hl : ∀ i σ H, i ≤ es.length → Pv i σ H → H d = some (.frz o (DN w d es)))
    (hs : ∀ i (e : Ent) σ H, es[i]? = some e → Pv i σ H → g (.ref e.2.1) σ H fun σ2 H2 => tb { D with nx := Pv (i + 1), ct := Pv (i + 1), bk := D.nx } σ2 H2) (hd : ∀ σ H, Pv es.length σ H → D.nx σ H) : ForR g tb D σ (Itn w d o es) H := by
  refine ⟨fun i m σ H => m = es.length - i ∧ i ≤ es.length ∧ Pv i σ H, ⟨es.length, by simp, Nat.zero_le _, h0⟩, ?_⟩
  rintro i m σ H ⟨rfl, hi, p⟩
  by_cases hlt : i < es.length
  · refine .inr ⟨⟨hl i σ H hi p, hlt⟩, Pv (i + 1), fun σ' H' p' => ⟨es.length - (i + 1), by omega, rfl, hlt, p'⟩, fun x H' y => ?_⟩
    obtain ⟨rfl, e, he, rfl⟩ := y
    exact hs i e σ _ he p
  · have e : i = es.length := by omega
    subst e
    exact .inl ⟨⟨hl _ σ H hi p, Nat.le_refl _⟩, hd σ H p⟩
end Hb

set_option Elab.async false
set_option linter.all false
set_option maxRecDepth 100000
set_option maxHeartbeats 4000000
/-! Dicts with tuple keys: read while locked, changed by an operator, len, copies; list.index of a key. -/
namespace Hb
open PySem L2 PyProof.Rows
def rNGetF (w : World) (x y : V) (H : Hp) (Q : VK) : Prop := ∃ a b o es k v, AtNF w H x y a b o es k ∧ atN es k = some v ∧ Q v H
def tNGetF (w : World) (td ty : TE) : TE := fun σ H Q => td σ H fun x H1 => ty σ H1 fun y H2 => rNGetF w x y H2 Q
def tNNotF (w : World) (ty td : TE) : TE := fun σ H Q => ty σ H fun y H1 => td σ H1 fun x H2 => rNInF w x y H2 fun b => Q (.bl (!b)) H2
section
variable {X : Cx} {w : World} {o i value : Expr} {pos pos' apos cpos : Pos} {td ty tv : TE}
theorem pe_ndgetF (hu : X.A.units + 64 < cLine) (ho : PE X o td) (hi : PE X i ty) (hs : NoSl i) (hw : X.w = w := by rfl) : PE X (.Subscript o i pos) (tNGetF w td ty) := by
  subst hw
  refine ⟨fun pins s σ H Q I h => ?_⟩
  refine subD_of PySem.F.slot_dict_getitem.lookup hs (thn (ho.run pins s σ H _ I h) fun u s1 h1 => ?_)
  obtain ⟨x, H1, I1, rx, q1⟩ := h1
  refine thn (hi.run pins s1 σ H1 _ I1 q1) fun iv s2 h2 => ?_
  obtain ⟨y, H2, I2, ry, a, b, ob, es, k, v, g, hv, q2⟩ := h2
  have dx : DNx X.w a es s2.heap := (show ObjOk X.prog X.w H2 s2.heap a (.frz ob (DN X.w a es)) from I2.hok _ _ g.ha).2.1
  obtain ⟨z, hd, xs, r, dd⟩ := dnx_dict I2.hok dx g.he
  cases g.ex
  cases g.ey
  obtain rfl : u = Value.ref a := rx
  obtain rfl : iv = Value.ref b := ry
  obtain ⟨w', hw', rw'⟩ := RelO.some_of (v := v) (o := (atKey xs k).map (·.2)) (by rw [← hv]; exact r.at k)
  obtain ⟨p, hp, hp2⟩ := Option.map_eq_some_iff.mp hw'
  refine ⟨dd.typeIs, wpAny_getItem_heap (n_room hu) ⟨g.hk.is I2.hok rfl, g.hd⟩ dd hp ?_⟩
  rw [hp2]
  exact ⟨v, H2, I2.tok _, rw', q2⟩
theorem pc_nnotF (hu : X.A.units + 64 < cLine) (hi : PE X i ty) (ho : PE X o td) (hw : X.w = w := by rfl) : PC X .NotIn i o (tNNotF w ty td) := by
  subst hw
  refine ⟨fun pins s σ H Q I h => ?_⟩
  refine thn (hi.run pins s σ H _ I h) fun iv s1 h1 => ?_
  obtain ⟨y, H1, I1, ry, q1⟩ := h1
  refine thn (ho.run pins s1 σ H1 _ I1 q1) fun u s2 h2 => ?_
  obtain ⟨x, H2, I2, rx, a, b, ob, es, k, g, q2⟩ := h2
  have dx : DNx X.w a es s2.heap := (show ObjOk X.prog X.w H2 s2.heap a (.frz ob (DN X.w a es)) from I2.hok _ _ g.ha).2.1
  obtain ⟨z, hd, xs, r, dd⟩ := dnx_dict I2.hok dx g.he
  cases g.ex
  cases g.ey
  obtain rfl : u = Value.ref a := rx
  obtain rfl : iv = Value.ref b := ry
  refine PyProof.Rows.wpAny_notIn_heap (n_room hu) ⟨g.hk.is I2.hok rfl, g.hd⟩ hd dd ?_
  rw [← r.some k]
  exact ⟨.bl _, H2, I2.tok _, rfl, q2⟩
/-! ### d[k] op= v -/
def sNAug (w : World) (td ty tv : TE) (rd : V → V → Hp → VK → Prop) : TS := fun D σ H => td σ H fun x H1 => ty σ H1 fun y H2 => rNGet w x y H2 fun u H3 => tv σ H3 fun z H4 => rd u z H4 fun v H5 => rNPut w x y v H5 fun H6 => D.nx σ H6
theorem ps_naug {op : Operator} {rd : V → V → Hp → VK → Prop} (hu : X.A.units + 64 < cLine) (ho : PE X o td) (hi : PE X i ty) (hv : PE X value tv) (hop : InOp X op rd) (hs : NoSl i)
    (ha : ∀ ov iv new, augStore i ov iv new = (do holding [new, ov, iv] (setItem ov iv new); release [new, ov, iv] []; pure .next) := by intros; rfl) (hw : X.w = w := by rfl) : PS X (.AugAssign (.Subscript o i pos') op value pos) (sNAug w td ty tv rd) := by
  subst hw
  refine ⟨fun pins s σ H D I h => ?_⟩
  refine wpAny_AugAssign_SubscriptAny (thn (ho.run pins s σ H _ I h) fun u s1 h1 => ?_) ha
  obtain ⟨x, H1, I1, rx, q1⟩ := h1
  refine thn (hi.run pins s1 σ H1 _ I1 q1) fun iv s2 h2 => ?_
  obtain ⟨y, H2, I2, ry, a, b, es, k, v, g, hv1, q2⟩ := h2
  obtain ⟨z, hd, xs, r, dd, hk⟩ := g.dn I2 rfl
  cases g.ex
  cases g.ey
  obtain rfl : u = Value.ref a := rx
  obtain rfl : iv = Value.ref b := ry
  obtain ⟨w', hw', rw'⟩ := RelO.some_of (v := v) (o := (atKey xs k).map (·.2)) (by rw [← hv1]; exact r.at k)
  obtain ⟨p, hp, hp2⟩ := Option.map_eq_some_iff.mp hw'
  refine wpAny_getItem_heap (n_room hu) hk dd hp ?_
  rw [hp2]
  refine thn (hv.run pins _ σ H2 _ (I2.tok _) q2) fun nv s3 h3 => ?_
  obtain ⟨zv, H4, I4, rz, q3⟩ := h3
  refine thn (hop pins s3 σ H4 v zv w' nv _ I4 rw' rz q3) fun new s4 h4 => ?_
  obtain ⟨nvv, H5, I5, rn, a2, b2, es2, k2, g2, hl, q4⟩ := h4
  obtain ⟨z2, hd2, xs2, r2, dd2, hk2⟩ := g2.dn I5 rfl
  cases g2.ex
  cases g2.ey
  have hz : xs2.length ≤ sizeLine := by rw [← r2.len]; exact z2
  have hl2 : (putN es2 k2 b nvv).length ≤ sizeLine := Nat.le_trans putN_len hl
  refine wpAny_setItem_heap (hsz := hz) (n_room hu) hk2 dd2 fun h' dd' hs' => ⟨σ, _, ?_, q4⟩
  have he : ∃ q, h'.get? a = some q := let ⟨q, _, _, hq, _⟩ := dd'; ⟨q, hq⟩
  exact d_write I5 (by rw [g2.ha]; exact True.intro) hs' he (dn_obj hl2 hd2 (r2.put k2 b rn) dd')
/-! ### len(d) -/
def rLenN (w : World) : List V → Hp → VK → Prop := fun xs H Q => ∃ (p : Addr) (es : List Ent), xs = [.ref p] ∧ H p = some (DN w p es) ∧ EntsOk H es ∧ Q (.int ((es.length : Nat) : Int)) H
theorem call_lenN (hw : X.w = w := by rfl) : CallR X (.builtin "len") (rLenN w) := by
  subst hw
  intro pins s σ H xs us Q I r h
  obtain ⟨p, es, rfl, hp, he, q⟩ := h
  obtain ⟨u, rfl, rx⟩ := vals1 r
  obtain rfl : u = .ref p := rx
  obtain ⟨z, hd, ys, rel, dd⟩ := dn_of I.hok hp he
  have hl : es.length = ys.length := rel.len
  refine call_len_dictH hd dd (by rw [← hl]; rw [sizeLine_eq] at z; omega) ?_
  rw [← hl]
  exact ⟨.int ((es.length : Nat) : Int), H, I.tok _, ⟨_, rfl⟩, q⟩
end

/-! ### dict(d) -/
section
open Sem (wp)
variable {P : Program} {w : World} {A : Around} {E : Value → Shared → Prop} {s : Shared} {κ : Type} [DecidableEq κ] {knd : HeapKind P w κ}
theorem call_dict_ofH {o : Addr} {xs : List (κ × Addr × Value)} {Q : Value → Shared → Prop} (hu : knd.room A.in1.in1) (hoS : (o == sysModules) = false) (ho : s.heap.DictOfH knd o xs) (hty : ∀ x ∈ xs, s.TypeIs (.ref x.2.1) "tuple") (hap : (xs.map fun x => knd.hash x.1).Nodup) (hsz : xs.length ≤ sizeLine)
    (stay : ∀ h', (∀ b o, s.heap.get? b = some o → h'.get? b = some o) → ∀ x ∈ xs, knd.is h' x.1 x.2.1)
    (h : ∀ h', h'.DictOfH knd s.heap.objs.size xs → (∀ b o, s.heap.get? b = some o → h'.get? b = some o) → Q (.ref s.heap.objs.size) { s with heap := h' }) : wpAny (model P w) A (call (.type "dict") [.ref o]) Q E s := by
  refine callType_codes (Q₁ := fun v t => v = .ref s.heap.objs.size ∧ t = { s with heap := s.heap.push { cls := .type "dict", data := .dict #[] } }) F.kt_called_dict (F.kt_typeCall_dict_1 _) F.entry_dict_init (kt_code_dict_new _ ⟨rfl, rfl⟩) ?_
  rintro v t ⟨rfl, rfl⟩
  have grow : ∀ b ob, s.heap.get? b = some ob → (s.heap.push { cls := .type "dict", data := .dict #[] }).get? b = some ob := fun b ob e => Heap.get?_push_of_some _ e
  have hT : Shared.TypeIs { s with heap := s.heap.push { cls := .type "dict", data := .dict #[] } } (.ref s.heap.objs.size) "dict" := ⟨_, Heap.get?_push_size _ rfl, rfl⟩
  refine ⟨hT, F.args_dict_init_2 _ _, ?_⟩
  unfold Builtin.«dict.__init__» Builtin.Dict.selfAndRest
  refine wpAny_bind (wpAny_bind (wpAny_notOrdered_dict hT ?_))
  show wpAny _ _ (pure (s.heap.objs.size, [Value.ref o])) _ _ _
  refine wpAny_pure ?_
  have hlt : o < s.heap.objs.size := by
    obtain ⟨ob, _, _, e, _⟩ := ho
    exact Heap.lt_size e
  have ho2 : (s.heap.push { cls := .type "dict", data := .dict #[] }).DictOfH knd o xs := by
    obtain ⟨ob, ds, ep, e1, e2, e3, e4, e5, e6⟩ := ho
    exact ⟨ob, ds, ep, grow _ _ e1, e2, e3, e4, stay _ grow, e6⟩
  refine updateFrom_dictH (knd := knd) (kvs := []) .none hu (Nat.ne_of_gt hlt) hoS (Heap.DictOfH.new s.heap) ho2 (.inr ⟨fun x hx => ?_, hap⟩) (by simpa using hsz) fun h' hd' _ hs' => ?_
  · obtain ⟨ob, e1, e2⟩ := hty x hx
    exact ⟨ob, grow _ _ e1, e2⟩
  · have nd : (xs.map (·.1)).Nodup := ho.nodup
    rw [storedAllH_nil_of_nodup xs nd] at hd'
    refine ⟨rfl, h h' hd' fun b ob e => ?_⟩
    rw [hs'.2 b (Nat.ne_of_lt (Heap.lt_size e))]
    exact grow b ob e
end

def rDictN (w : World) : List V → Hp → VK → Prop := fun xs H Q => ∃ (p : Addr) (es : List Ent), xs = [.ref p] ∧ H p = some (DN w p es) ∧ EntsOk H es ∧ (es.map fun e => e.1.hash w).Nodup ∧ ∀ q, H q = none → Q (.ref q) (upd H q (DN w q es))
theorem call_dictN {X : Cx} {w : World} (hu : X.A.units + 64 < cLine) (hw : X.w = w := by rfl) : CallR X (.type "dict") (rDictN w) := by
  subst hw
  intro pins s σ H xs us Q I r h
  obtain ⟨p, es, rfl, hp, he, hh, q⟩ := h
  obtain ⟨u, rfl, rx⟩ := vals1 r
  obtain rfl : u = .ref p := rx
  obtain ⟨z, hd, ys, rel, dd⟩ := dn_of I.hok hp he
  have hl : es.length = ys.length := rel.len
  have hk : ∀ x ∈ ys, NK H x.1 (.ref x.2.1) ∧ x.1.depth ≤ 8 := by
    have go : ∀ {l : List Ent} {m : List (NestedKey × Addr × Value)}, RelEs l m → EntsOk H l → ∀ x ∈ m, NK H x.1 (.ref x.2.1) ∧ x.1.depth ≤ 8 := by
      intro l m r
      induction r with
      | nil => exact fun _ x hx => nomatch hx
      | @cons a b as bs hab _ ih =>
        intro hl x hx
        rcases List.mem_cons.mp hx with rfl | hx
        · have := hl a List.mem_cons_self
          rw [hab.1, hab.2.1] at this
          exact this
        · exact ih (fun e he => hl e (List.mem_cons_of_mem _ he)) x hx
    exact go rel he
  have hhs : (ys.map fun x => (nestedKind X.prog X.w).hash x.1).Nodup := by
    have e : (ys.map fun x => (nestedKind X.prog X.w).hash x.1) = es.map fun e => e.1.hash X.w := by
      have := congrArg (List.map fun k : NestedKey => k.hash X.w) rel.keys
      rw [List.map_map, List.map_map] at this
      exact this
    rw [e]
    exact hh
  have tys : ∀ x ∈ ys, s.TypeIs (.ref x.2.1) "tuple" := fun x hx => by
    obtain ⟨h1, _⟩ := hk x hx
    generalize x.1 = k1 at h1
    cases h1 with
    | tup e _ =>
      obtain ⟨its, _, ht, _⟩ := I.tuple (SqT.of e)
      obtain ⟨o, ho, hc, _⟩ := ht
      exact ⟨o, ho, hc⟩
  refine call_dict_ofH (knd := nestedKind X.prog X.w) (by show X.A.in1.in1.units + 8 < cLine; have e : X.A.in1.in1.units = X.A.units + 1 + 1 := rfl; omega) hd dd tys hhs (by rw [← hl]; exact z) (fun h' keep x hx => ?_) fun h' dd' keep => ?_
  · obtain ⟨h1, h2⟩ := hk x hx
    exact ⟨NestedIs.at (fun c o _ _ hc _ => keep c o hc) _ _ (h1.is I.hok rfl), h2⟩
  · exact ⟨.ref s.heap.objs.size, _, I.laid (a := s.heap.objs.size) (t' := s.toks) keep (Nat.le_refl _) (dn_obj z (beq_eq_false_iff_ne.mpr (Ne.symm (Nat.ne_of_lt I.big))) rel dd'), rfl, q _ (I.hok.fresh (Nat.le_refl _))⟩
/-! ### list.index of a key -/
def rIdxN (K : PySem.W.Frag) : V → List V → Hp → VK → Prop := fun x vs H Q => ∃ (l : Addr) (us : List V) (ks : List IK) (v : V) (k : IK) (i : Nat), x = .ref l ∧ vs = [v] ∧ SqL K H l us ∧ Row (KeyAt H) us ks ∧ KeyAt H v k ∧ ks.Nodup ∧ ks[i]? = some k ∧ Q (.int (i : Nat)) H
theorem mt_indexN {X : Cx} {K : PySem.W.Frag} (hu : X.A.units + 64 < cLine) (hK : X.K = K := by rfl) : MtR X "list.index" (rIdxN K) := by
  subst hK
  intro pins s σ H x vs v us Q I rx rv h
  obtain ⟨l, xs, ks, y, k, i, rfl, rfl, hs, hr, hy, nd, hi, q⟩ := h
  cases rx
  obtain ⟨u, rfl, ru⟩ := rv.one
  obtain ⟨its, r, hl, hz⟩ := I.list hs
  obtain ⟨p, rfl, hp⟩ := hy
  obtain rfl : u = .ref p := ru
  have hall : NestedAll s.heap (ks.map nkK) its := by
    have go : ∀ {xs : List V} {its : List Value} {ks : List IK}, Vals xs its → Row (KeyAt H) xs ks → NestedAll s.heap (ks.map nkK) its := by
      intro xs its ks rv
      induction rv generalizing ks with
      | nil =>
        intro hr
        have : ks = [] := List.eq_nil_of_length_eq_zero hr.1.symm
        subst this
        exact .nil
      | @cons v u vs its h1 h2 ih =>
        intro hr
        cases ks with
        | nil => exact absurd hr.1 (by simp)
        | cons k ks =>
          obtain ⟨b, rfl, hb⟩ := hr.2 0 v k rfl rfl
          obtain rfl : u = .ref b := h1
          exact .cons (hb.nk.is I.hok rfl) (ih ⟨Nat.succ.inj hr.1, fun i u x e1 e2 => hr.2 (i + 1) u x e1 e2⟩)
    exact go r hr
  have hx : NestedIs s.heap (nkK k) (.ref p) := hp.nk.is I.hok rfl
  have hm : nkK k ∈ ks.map nkK := List.mem_map_of_mem (List.mem_of_getElem? hi)
  refine PySem.SeqAt.call_list_index (vs := its) (ks := ks.map nkK) hl.isList (PySem.SeqAt.ItemsEq.nested hall hx (by have := nkK_depth k; show X.A.in1.units + _ < _; have e : X.A.in1.units = X.A.units + 1 := rfl; omega)) (by rw [List.length_map, ← hr.1]; exact hz) hm ?_
  have hix : (ks.map nkK).idxOf (nkK k) = i := by
    have nd2 : (ks.map nkK).Nodup := List.pairwise_map.mpr (nd.imp fun z e => z (nkK_inj e))
    have hi2 : (ks.map nkK)[i]? = some (nkK k) := by rw [List.getElem?_map, hi]; rfl
    have h1 := List.idxOf_lt_length_iff.mpr hm
    have h2 : (ks.map nkK)[(ks.map nkK).idxOf (nkK k)]? = some (nkK k) := by
      rw [List.getElem?_eq_getElem h1, List.getElem_idxOf h1]
    have h3 := (List.getElem?_eq_some_iff.mp hi2).1
    have e1 : (ks.map nkK)[(ks.map nkK).idxOf (nkK k)]'h1 = (ks.map nkK)[i]'h3 := (List.getElem_idxOf h1).trans (List.getElem?_eq_some_iff.mp hi2).2.symm
    rcases Nat.lt_trichotomy ((ks.map nkK).idxOf (nkK k)) i with g | g | g
    · exact absurd e1 (List.pairwise_iff_getElem.mp nd2 _ _ h1 h3 g)
    · exact g
    · exact absurd e1.symm (List.pairwise_iff_getElem.mp nd2 _ _ h3 h1 g)
  rw [hix]
  exact ⟨.int _, H, I.tok _, ⟨_, rfl⟩, q⟩

section
variable {K : PySem.W.Frag} {w : World} {σ : L2.St} {H B : Hp} {Q : VK} {D : Ends} {td ty tv : TE} {L L' : List (Addr × HO)} {es : List Ent} {M : GM} {k : IK} {d b : Addr} {v : V}
theorem w_ngetF (q : td σ H fun x H1 => ty σ H1 fun y H2 => rNGetF w x y H2 Q) : tNGetF w td ty σ H Q := q
theorem w_nnotF (q : ty σ H fun y H1 => td σ H1 fun x H2 => rNInF w x y H2 fun b => Q (.bl (!b)) H2) : tNNotF w ty td σ H Q := q
theorem w_naug {rd : V → V → Hp → VK → Prop} (q : td σ H fun x H1 => ty σ H1 fun y H2 => rNGet w x y H2 fun u H3 => tv σ H3 fun z H4 => rd u z H4 fun v H5 => rNPut w x y v H5 fun H6 => D.nx σ H6) : sNAug w td ty tv rd D σ H := q
theorem wg_getF {o : Obj} (hs : Hs B L H) (h : H d = some (.frz o (DN w d es))) (e : EntG B es M) (hk : KAt H b k) (hv : valG M k = some v) (q : Q v H) : rNGetF w (.ref d) (.ref b) H Q :=
  ⟨d, b, o, es, nkK k, v, ⟨rfl, rfl, h, (e.same hs.same).ok, hk.nk, nkK_depth k⟩, by rw [e.at k, hv], q⟩
theorem w_lenN (h : H d = some (DN w d es)) (e : EntG H es M) (q : Q (.int (M.length : Nat)) H) : rLenN w [.ref d] H Q := ⟨d, es, rfl, h, e.ok, by rw [e.len]; exact q⟩
theorem w_dictN (hs : Hs B L H) (h : H d = some (DN w d es)) (e : EntG H es M) (hh : (M.map fun x => (nkK x.1).hash w).Nodup) (q : ∀ p H', Hs B ((p, DN w p es) :: L) H' → Q (.ref p) H') : rDictN w [.ref d] H Q := by
  refine ⟨d, es, rfl, h, e.ok, ?_, fun p hp => q p _ (hs.new hp)⟩
  have key : ∀ {es : List Ent} {M : GM}, EntG H es M → (es.map fun e => e.1.hash w) = M.map fun x => (nkK x.1).hash w := by
    intro es M e
    induction e with
    | nil => rfl
    | cons h _ ih => rw [List.map_cons, List.map_cons, ih, h.1]
  rw [key e]
  exact hh
theorem w_idxN {l : Addr} {us : List V} {ks : List IK} {x : V} {i : Nat} (h : SqL K H l us) (r : Row (KeyAt H) us ks) (hx : KeyAt H x k) (nd : ks.Nodup) (hi : ks[i]? = some k) (q : Q (.int (i : Nat)) H) : rIdxN K (.ref l) [x] H Q := ⟨l, us, ks, x, k, i, rfl, rfl, h, r, hx, nd, hi, q⟩
end

/-! ### name = {k: v for ..}, the keys nested tuples -/
section
variable {X : Cx}
theorem dcn_core {pins : List (Addr × Obj)} {s : Shared} {σ : L2.St} {H : Hp} {Q : VK} {use : Option (Value → Sem Unit)} {Qf : Value → Shared → Prop} {kx vx tg iter : Expr} {ifs : List Expr} {scope : Scope} {own : List (Str × Nat)} {pos pos' : Pos} {wi : TI} {g : TG} {tt : TT} {tk tv : TE} (I : Inv X pins σ H s) (hc : X.calm = true) (hu : X.A.units + 64 < cLine) (hN : X.N.Nodup) (hi : PI X tg iter wi) (ok : BlkOk X.N X.env.scope scope own)
    (hg : ∀ (s : Shared) (H : Hp) (C : Addr) (cl : List (Str × Addr)) (fp : List Addr), PG (X.blk s H scope (compEnvC scope cl C X.env) fp) tg g) (ht : ∀ (s : Shared) (H : Hp) (C : Addr) (cl : List (Str × Addr)) (fp : List Addr), PTs (X.blk s H scope (compEnvC scope cl C X.env) fp) ifs tt)
    (hk : ∀ (s : Shared) (H : Hp) (C : Addr) (cl : List (Str × Addr)) (fp : List Addr), PE (X.blk s H scope (compEnvC scope cl C X.env) fp) kx tk)
    (he : ∀ (s : Shared) (H : Hp) (C : Addr) (cl : List (Str × Addr)) (fp : List Addr), PE (X.blk s H scope (compEnvC scope cl C X.env) fp) vx tv) (hs : ∀ x, foldedSetIterable iter X.env x = pure x) (h : tDcN X.w wi g tt tk tv (own.map (·.2)) σ H Q)
    (hRR : ∀ D C s' m H', Inv X pins σ H' s' → Q (.ref D) H' → s'.heap.Ns C m → FpOk X pins H' C → compPost (model X.prog X.w) X.A X.xe use Qf (.ref D) C (.ok .next) s') :
    wpAny (model X.prog X.w) X.A (comprehension (.DictComp kx vx [⟨tg, iter, ifs, 0⟩] scope pos) scope X.env pos' (newObj (.type "dict") (.dict #[])) false (eval iter X.env) use) Qf X.xe s := by
  have hfree : ∀ y ∈ scope.names, y.2 = .free → ∃ c, X.env.cells.lookup y.1 = some c := fun y hy e => by
    rcases ok.free y hy e with k | k
    · exact I.ok.has _ (.inl k)
    · exact I.ok.has _ (.inr k)
  refine wpAny_comprehension_free (use := use) rfl hs (closure_ok hfree) ok.kind (fun y hy e => by rw [ok.uniq y hy, e]) (thn (hi.run pins s σ H _ I h) fun xv s1 hx => thn hx fun itv s2 h2 => ?_)
  obtain ⟨it, fp, tn, J, H2, rfl, I2, T, st2, f2, q⟩ := h2
  refine wpAny_newObj_type (newEnv_comp ?_)
  obtain ⟨D, hD⟩ : ∃ D, D = s2.heap.objs.size := ⟨_, rfl⟩
  rw [← hD]
  obtain ⟨W, ⟨m0, w0⟩, turn⟩ := q D (I2.hok.fresh (Nat.le_of_eq hD.symm))
  have grown : ∀ b o, s2.heap.get? b = some o → (s2.heap.push { cls := .type "dict", data := .dict #[] }).get? b = some o := fun b o e => Heap.get?_push_of_some _ e
  have I3 : Inv X pins σ (upd H2 D (DN X.w D [])) { s2 with heap := s2.heap.push { cls := .type "dict", data := .dict #[] } } :=
    I2.laid (t' := s2.toks) grown (Nat.le_of_eq hD.symm) (hD ▸ dn_empty s2.heap I2.big)
  have f3 : ∀ b ∈ fp, FpOk X pins (upd H2 D (DN X.w D [])) b ∧ b < (s2.heap.push { cls := .type "dict", data := .dict #[] }).objs.size := fun b hb => by
    obtain ⟨o, e, _⟩ := T.obj _ _ st2 b hb
    have hlt := Heap.lt_size e
    refine ⟨⟨?_, (f2 b hb).2⟩, by rw [Heap.size_push]; exact Nat.lt_succ_of_lt hlt⟩
    rw [upd_ne (by rw [hD]; exact Nat.ne_of_lt hlt)]
    exact (f2 b hb).1
  have st3 := T.keep _ _ _ st2 fun b _ o e => grown b o e
  obtain ⟨s3, hs3⟩ : ∃ s3 : Shared, s3 = { s2 with heap := s2.heap.push { cls := .type "dict", data := .dict #[] } } := ⟨_, rfl⟩
  obtain ⟨H3, hH3⟩ : ∃ H3 : Hp, H3 = upd H2 D (DN X.w D []) := ⟨_, rfl⟩
  rw [← hH3] at I3 w0
  rw [← hs3] at I3
  have st3' : tn 0 s3.heap := by rw [hs3]; exact st3
  have f3' : ∀ b ∈ fp, FpOk X pins H3 b ∧ b < s3.heap.objs.size := fun b hb => by rw [hH3, hs3]; exact f3 b hb
  have I4 := block_start I3 ok hN f3'
  show codeAny _ _ (.compStart (.DictComp kx vx [⟨tg, iter, ifs, 0⟩] scope pos) 0 (.ref it) (.ref D) (compEnvC scope (cellsFrom ((s2.heap.push { cls := .type "dict", data := .dict #[] }).objs.size + 1) scope.names (cloFrom X.env.cells scope.names [])) (s2.heap.push { cls := .type "dict", data := .dict #[] }).objs.size X.env))
    (compPost (model X.prog X.w) X.A X.xe use Qf (.ref D) (s2.heap.push { cls := .type "dict", data := .dict #[] }).objs.size)
    { s2 with heap := pushCells ((s2.heap.push { cls := .type "dict", data := .dict #[] }).push { cls := .type "dict", data := .dict #[] }) scope.names }
  have hh3 : s2.heap.push { cls := .type "dict", data := .dict #[] } = s3.heap := by rw [hs3]
  have hst : ({ s2 with heap := pushCells ((s2.heap.push { cls := .type "dict", data := .dict #[] }).push { cls := .type "dict", data := .dict #[] }) scope.names } : Shared) = { s3 with heap := pushCells (s3.heap.push { cls := .type "dict", data := .dict #[] }) scope.names } := by rw [hs3]
  rw [hst, hh3]
  have pg := hg s3 H3 s3.heap.objs.size (cellsFrom (s3.heap.objs.size + 1) scope.names (cloFrom X.env.cells scope.names [])) fp
  have pt := ht s3 H3 s3.heap.objs.size (cellsFrom (s3.heap.objs.size + 1) scope.names (cloFrom X.env.cells scope.names [])) fp
  have pk := hk s3 H3 s3.heap.objs.size (cellsFrom (s3.heap.objs.size + 1) scope.names (cloFrom X.env.cells scope.names [])) fp
  have pe := he s3 H3 s3.heap.objs.size (cellsFrom (s3.heap.objs.size + 1) scope.names (cloFrom X.env.cells scope.names [])) fp
  generalize hce : compEnvC scope (cellsFrom (s3.heap.objs.size + 1) scope.names (cloFrom X.env.cells scope.names [])) s3.heap.objs.size X.env = ce at I4 pg pt pk pe ⊢
  have cL : ce.locals = s3.heap.objs.size := by subst hce; rfl
  generalize hs4 : ({ s3 with heap := pushCells (s3.heap.push { cls := .type "dict", data := .dict #[] }) scope.names } : Shared) = s4 at I4 ⊢
  have st4 : tn 0 s4.heap := T.keep _ _ _ st3' fun b _ o e => by rw [← hs4]; exact pushCells_keeps _ _ _ _ (Heap.get?_push_of_some _ e)
  have nfp : ∀ b ∈ fp, H3 b = none := fun b hb => (f3' b hb).1.1
  have stat : ∀ {σ' : L2.St} {H' : Hp} {s' : Shared}, Inv (X.blk s3 H3 scope ce fp) [] σ' H' s' → (∀ b ∈ fp, H' b = none) → ∀ b ∈ fp, FpOk (X.blk s3 H3 scope ce fp) [] H' b := fun {σ' H' s'} I' hn b hb =>
    ⟨hn b hb, (I'.ok.exf b hb).1, I'.ok.exfs b hb, .inl hb, fun x c e => (I'.ok.exf b hb).2 x c e, fun p hp => absurd (show p ∈ ([] : List (Addr × Obj)) ++ [] from hp) (by simp)⟩
  have loop : codeAny (model X.prog X.w) X.A (.compLoop (.DictComp kx vx [⟨tg, iter, ifs, 0⟩] scope pos) 0 (.ref it) (.ref D) ce) (compPost (model X.prog X.w) X.A X.xe use Qf (.ref D) s3.heap.objs.size) s4 := by
    refine compLoop_anyD (fun n s' => ∃ i H', Inv (X.blk s3 H3 scope ce fp) [] (wipe σ (own.map (·.2))) H' s' ∧ tn i s'.heap ∧ (∀ b ∈ fp, H' b = none) ∧ W i n H') ?_ m0 ⟨0, H3, I4, st4, nfp, w0⟩
    rintro n s5 ⟨i, H5, I5, st5, n5, w5⟩
    rcases turn i n H5 w5 with ⟨stop, qq⟩ | ⟨go, Nx, hNx, step⟩
    · refine thnF (T.done (X.blk s3 H3 scope ce fp) rfl rfl rfl hc i [] s5 _ H5 (fun _ _ => False) I5 (stat I5 n5) st5 stop) fun r s6 ⟨hr, I6⟩ => ?_
      subst hr
      have I7 : Inv X pins σ H5 s6 := I3.call' (ch := fp) I6.os I6.base I6.hok I6.bare fun b hb => ⟨(f3' b hb).1.2.2.2.1, (f3' b hb).1.2.1, (f3' b hb).1.2.2.2.2.1, (f3' b hb).1.2.2.2.2.2⟩
      have nC : H5 s3.heap.objs.size = none := by
        have z : H5 ce.locals = none := I6.free
        rwa [cL] at z
      obtain ⟨m, hn, _⟩ := I6.loc
      have hn' : s6.heap.Ns ce.locals m := hn
      rw [cL] at hn'
      exact hRR D _ s6 m H5 I7 qq hn' (I3.fpOk (Nat.le_refl _) nC)
    · refine thnF (T.item (X.blk s3 H3 scope ce fp) rfl rfl rfl hc i [] s5 _ H5 (fun _ _ => False) I5 (stat I5 n5) st5 go) fun r s6 ⟨u, hr, h6⟩ => ?_
      subst hr
      refine thnF h6 fun _ s7 ⟨x, H7, I7, r7, y7, st7, n7⟩ => ?_
      refine thnF (pg.run _ s7 _ H7 x u _ (I7.pinned (stat I7 n7) (T.obj _ _ st7)) r7 (step x H7 y7)) fun _ s8 ⟨σ8, H8, I8, hw8, q8⟩ => ?_
      refine thnF (pt.run _ s8 σ8 H8 _ I8 q8) fun b s9 ⟨H9, I9, q9⟩ => ?_
      have fin : ∀ {s' : Shared} {H' : Hp}, Inv (X.blk s3 H3 scope ce fp) ([] ++ pinsAt fp s7.heap) σ8 H' s' → Nx H' → ∃ m, m < n ∧ ∃ i H', Inv (X.blk s3 H3 scope ce fp) [] (wipe σ (own.map (·.2))) H' s' ∧ tn i s'.heap ∧ (∀ b ∈ fp, H' b = none) ∧ W i m H' := fun {s' H'} I' nx => by
        obtain ⟨m', hm, w'⟩ := hNx H' nx
        have pin' : ∀ b ∈ fp, ∀ o, s7.heap.get? b = some o → s'.heap.get? b = some o ∧ H' b = none := fun b hb o e =>
          let z := I'.pin (b, o) (List.mem_append_right _ (List.mem_append_right _ (mem_pinsAt hb e)))
          ⟨z.1, z.2.1⟩
        have hl : (wipe σ (own.map (·.2))).length = σ8.length := by rw [← hw8, wipe_length]
        refine ⟨m', hm, i + 1, H', (I'.unpinned (pins := [])).weak hl (fun j v e => ?_), T.keep _ _ _ st7 fun b hb o e => (pin' b hb o e).1, fun b hb => ?_, w'⟩
        · rw [← hw8] at e
          exact (wipe_some e).1
        · obtain ⟨o, e, _⟩ := T.obj _ _ st7 b hb
          exact (pin' b hb o e).2
      cases b with
      | false =>
        simp only [Bool.false_eq_true, if_false] at q9 ⊢
        exact fin I9 q9
      | true =>
        simp only [if_true] at q9 ⊢
        refine thnF (pk.run _ s9 σ8 H9 _ I9 q9) fun z s10 ⟨yk, H10, I10, r10, q10⟩ => ?_
        refine thnF (pe.run _ s10 σ8 H10 _ I10 q10) fun z2 s11 ⟨yv, H11, I11, r11, b, es, k, ek, hD11, hes, hkk, hdep, hz11, nx⟩ => ?_
        subst ek
        obtain rfl : z = Value.ref b := r10
        exact dn_dictSet (X := X.blk s3 H3 scope ce fp) hu I11 hD11 hes hkk hdep hz11 r11 fun s12 I12 => fin I12 nx
  exact codeAny_compStart_dict loop (T.self X.A 0 _ _ _ st4 loop)
theorem sw_trueD {kx vx : Expr} {gs : List Comprehension} {scope : Scope} {pos py : Pos} {y : Str} {l : Nat} {env : Env} (hk : env.scope.kind = .function) (hy : env.scope.names.lookup y = some .local) (hl : (py.line == pos.line) = true)
    (ha : (scope.names.any fun (n, k) => n == y && (k == .local || k == .cell)) = false) : swapsWith (.DictComp kx vx gs scope pos) (some (.Name y py)) l env = pure true := by
  have ky : env.kindOf y = some .local := hy
  have hb : env.blockKind = .function := by unfold Env.blockKind; rw [hk]; rfl
  unfold swapsWith
  simp only [hb, ky, ha, Expr.pos, hl]
  rfl
theorem ps_setDcN {w : World} {i : Nat} {y : Str} {py spos : Pos} {kx vx tg iter : Expr} {ifs : List Expr} {scope : Scope} {own : List (Str × Nat)} {pos : Pos} {wi : TI} {g : TG} {tt : TT} {tk tv : TE} (hc : X.calm = true) (hu : X.A.units + 64 < cLine) (hN : X.N.Nodup) (hy : X.N[i]? = some y) (hyl : X.env.scope.names.lookup y = some .local)
    (hsw : swapsWith (.DictComp kx vx [⟨tg, iter, ifs, 0⟩] scope pos) (some (.Name y py)) spos.line X.env = pure true) (hi : PI X tg iter wi) (ok : BlkOk X.N X.env.scope scope own)
    (hg : ∀ (s : Shared) (H : Hp) (C : Addr) (cl : List (Str × Addr)) (fp : List Addr), PG (X.blk s H scope (compEnvC scope cl C X.env) fp) tg g) (ht : ∀ (s : Shared) (H : Hp) (C : Addr) (cl : List (Str × Addr)) (fp : List Addr), PTs (X.blk s H scope (compEnvC scope cl C X.env) fp) ifs tt)
    (hk : ∀ (s : Shared) (H : Hp) (C : Addr) (cl : List (Str × Addr)) (fp : List Addr), PE (X.blk s H scope (compEnvC scope cl C X.env) fp) kx tk)
    (he : ∀ (s : Shared) (H : Hp) (C : Addr) (cl : List (Str × Addr)) (fp : List Addr), PE (X.blk s H scope (compEnvC scope cl C X.env) fp) vx tv) (hw : X.w = w := by rfl) (hs : ∀ x, foldedSetIterable iter X.env x = pure x := by intro _; rfl) :
    PS X (.Assign [.Name y py] (.DictComp kx vx [⟨tg, iter, ifs, 0⟩] scope pos) spos) (tAsg (tDcN w wi g tt tk tv (own.map (·.2))) (gName i)) := by
  subst hw
  refine ⟨fun pins s σ H D I h => ?_⟩
  rw [exec_Assign_Name_used _ _ _ _ hsw]
  refine wpAny_bind (wpAny_standAt (wpAny_bind ?_))
  have h : tDcN X.w wi g tt tk tv (own.map (·.2)) σ H (fun x H1 => gName i x σ H1 D.nx) := h
  refine wpAny_bind (thn (dcn_core (Qf := fun _ s' => SP X pins D .next s') (use := some (assign (.Name y py) X.env)) I hc hu hN hi ok hg ht hk he hs h fun L C s' m H' I' q hn f => ?_) fun _ s' hq => wpAny_pure (wpAny_pure hq))
  refine (show wpAny _ _ (assign (.Name y py) X.env (.ref L)) _ _ _ from ?_)
  refine wpAny_assign_Name (store_ok2 (v := V.ref L) I' hN hy (.inl hyl) rfl (fun s2 I2 ⟨a, sb, ha⟩ => ?_) (.inr hyl))
  obtain ⟨z0, z1, z2, z3, z4, z5⟩ := f
  have haC : C ≠ a := by
    rcases ha with z | z
    · exact z ▸ z1
    · exact fun e => z4 y a z e.symm
  refine ⟨m, hn.sameBut sb haC, fun h3 sb3 => ?_⟩
  exact ⟨_, H', I2.turned (t' := s2.toks) (fun b o hb e => (sb3.2 b hb).trans e) z0 z1 z3 z4 z5, q⟩
end
end Hb

set_option Elab.async false
set_option linter.all false
set_option maxRecDepth 100000
set_option maxHeartbeats 4000000
/-! Dicts with tuple keys: isinstance; the keys' hashes, no world in them. -/
namespace Hb
open PySem L2 PyProof.Rows
/-! ### isinstance(x, c) of such a dict -/
section
variable {X : Cx}
def rIsiN (K : PySem.W.Frag) (w : World) : List V → Hp → VK → Prop := fun xs H Q => ∃ (a : Addr) (es : List Ent) (c : V) (u : Value) (b : Bool), xs = [.ref a, c] ∧ ClsV c u ∧ H a = some (DN w a es) ∧ PySem.W.kitOne K (.type "dict") u = some b ∧ Q (.bl b) H
theorem call_isiN {K : PySem.W.Frag} {w : World} (hK : X.K = K := by rfl) (hw : X.w = w := by rfl) : CallR X (.builtin "isinstance") (rIsiN K w) := by
  subst hK
  subst hw
  intro pins s σ H xs us Q I r h
  obtain ⟨a, es, c, u, b, rfl, k, hD, e, q⟩ := h
  obtain ⟨u1, u2, rfl, r1, r2⟩ := vals2 r
  have e2 := k.eq r2
  subst e2
  cases (show u1 = Value.ref a from r1)
  obtain ⟨⟨z, y, xs, r, o, ds, ep, h1, h2, h3, h4, h5⟩, _, _⟩ := (show ObjOk X.prog X.w H s.heap a (DN X.w a es) from I.hok _ _ hD)
  exact PySem.W.kia_one PySem.W.kitx_dict I.kIn ⟨o, h1, h2.1⟩ e (fun z => nomatch z) fun tk => ⟨.bl b, H, I.tok tk, rfl, q⟩
end
section
variable {K : PySem.W.Frag} {w : World} {H : Hp} {Q : VK}
theorem w_isiN {a : Addr} {es : List Ent} (h : H a = some (DN w a es)) (q : Q (.bl true) H) : rIsiN K w [.ref a, .ty "dict"] H Q := ⟨a, es, _, _, true, rfl, .ty "dict", h, kit_ty (by decide +kernel), q⟩
end

def hI : Itm → Int
  | .inl n => hashInt n
  | .inr ns => reduceHash (Builtin.Tuple.tupleHashOf (ns.map hashInt))
def hK (k : IK) : Int := reduceHash (Builtin.Tuple.tupleHashOf (k.map hI))
theorem hashes_num (w : World) : ∀ ns : List Int, NestedKey.hashes w (ns.map .num) = ns.map hashInt
  | [] => by rw [List.map_nil, List.map_nil, NestedKey.hashes]
  | n :: ns => by rw [List.map_cons, List.map_cons, NestedKey.hashes, NestedKey.hash, hashes_num w ns]
theorem hash_nkI (w : World) : ∀ x : Itm, (nkI x).hash w = hI x
  | .inl n => by rw [nkI, NestedKey.hash, hI]
  | .inr ns => by rw [nkI, NestedKey.hash, hashes_num, hI]
theorem hashes_nkI (w : World) : ∀ k : IK, NestedKey.hashes w (k.map nkI) = k.map hI
  | [] => by rw [List.map_nil, List.map_nil, NestedKey.hashes]
  | x :: k => by rw [List.map_cons, List.map_cons, NestedKey.hashes, hash_nkI, hashes_nkI w k]
theorem hash_nkK (w : World) (k : IK) : (nkK k).hash w = hK k := by
  unfold nkK hK
  rw [NestedKey.hash, hashes_nkI]
/-- keys among those of a list whose hashes differ -/
theorem hash_nodup {w : World} {A : List IK} (hA : (A.map hK).Nodup) {ks : List IK} (nd : ks.Nodup) (h : ∀ k ∈ ks, k ∈ A) : (ks.map fun k => (nkK k).hash w).Nodup := by
  have inj : ∀ a b, a ∈ A → b ∈ A → hK a = hK b → a = b := by
    clear h nd
    induction A with
    | nil => exact fun _ _ z => nomatch z
    | cons x A ih =>
      rw [List.map_cons, List.nodup_cons] at hA
      intro a b ha hb e
      rcases List.mem_cons.mp ha with ha | ha <;> rcases List.mem_cons.mp hb with hb | hb
      · rw [ha, hb]
      · exact absurd (List.mem_map.mpr ⟨b, hb, by rw [← e, ha]⟩) hA.1
      · exact absurd (List.mem_map.mpr ⟨a, ha, by rw [e, hb]⟩) hA.1
      · exact ih hA.2 a b ha hb e
  refine List.pairwise_map.mpr ?_
  refine List.Pairwise.imp_of_mem (fun {a b} ha hb hne e => ?_) nd
  rw [hash_nkK, hash_nkK] at e
  exact hne (inj a b (h a ha) (h b hb) e)
end Hb

set_option Elab.async false
set_option linter.all false
set_option maxRecDepth 100000
set_option maxHeartbeats 4000000
/-! {x} in an f-string: a text, an int, or a tuple of a text and an int. -/
namespace Hb
open PySem PySem.Spec L2 PyProof.Rows
section
variable {X : Cx}
def RFmt2 (K : PySem.W.Frag) (x : V) (H : Hp) (Q : VK) : Prop := RFmt x H Q ∨ ∃ (a : Addr) (y : Str) (n : Int), x = .ref a ∧ SqT K H a [.str y, .int n] ∧ (∀ c ∈ y.cps.toList, c < 16 ^ 8) ∧ y.length ≤ 100 ∧ 0 ≤ n ∧ n < 10 ^ 10 ∧ ∀ m : Str, m.length ≤ 2000 → Q (.str m) H
def tFmt2 (K : PySem.W.Frag) (te : TE) : TE := fun σ H Q => te σ H fun x H1 => RFmt2 K x H1 Q
theorem pe_fmt2 {K : PySem.W.Frag} {e : Expr} {te : TE} {pos : Pos} {k : Nat} (hr : Room k X.A) (he : PE X e te) (hK : X.K = K := by rfl) : PE X (.FormattedValue e (-1) none pos) (tFmt2 K te) := by
  subst hK
  refine ⟨fun pins s σ H Q I h => ?_⟩
  refine wpAny_FormattedValue_plain (thn (he.run pins s σ H _ I h) fun v s1 hv => ?_)
  obtain ⟨x, H1, I1, r1, q⟩ := hv
  rcases q with (⟨y, rfl, hz, q⟩ | ⟨i, rfl, hz, q⟩) | ⟨a, y, n, rfl, ht, hc, hy, n0, n1, q⟩
  · obtain ⟨t, rfl⟩ := r1
    exact wpAny_formatField_str ⟨.str y, H1, I1, ⟨t, rfl⟩, q⟩ ⟨.str y, H1, I1.tok _, ⟨_, rfl⟩, q⟩ hz
  · obtain ⟨t, rfl⟩ := r1
    exact wpAny_formatField_int hz ⟨.str (toString i), H1, I1.tok _, ⟨_, rfl⟩, q⟩
  · cases r1
    obtain ⟨its, rv, ⟨o, ho, hcl, m, hd⟩, _⟩ := I1.tuple ht
    obtain ⟨u1, u2, rfl, ⟨t1, r1⟩, ⟨t2, r2⟩⟩ := rv.two
    subst r1
    subst r2
    have h1 : (reprText y).length ≤ 1002 := Nat.le_trans (StrLaws.reprText_len y hc) (by omega)
    have h2 : (Str.ofString (toString n)).length ≤ 10 := toString_length_le n0 (by decide) n1
    have hp : piled [reprText y, Str.ofString (toString n)] ≤ 1016 := by
      rw [piled_cons, piled_cons, piled_nil]
      omega
    have htx := fmt_text [reprText y, Str.ofString (toString n)]
    have hu := hr.units
    refine fmt_tuple (ts := [reprText y, Str.ofString (toString n)]) (by omega) ho hcl hd (.cons (ReprIs.str y t1 (Nat.le_trans h1 (by decide))) (.cons (ReprIs.int t2 (Nat.lt_of_lt_of_le (PySem.Flt.log2_lt_of (k := 64) (by decide) (show n.natAbs < 2 ^ 64 by omega)) (by decide))) .nil)) (Nat.le_trans htx (Nat.le_trans (Nat.add_le_add_right hp 2) (by decide))) fun m u tk hm => ⟨.str m, H1, I1.tok _, ⟨u, rfl⟩, q m (by omega)⟩
theorem w_fmt2 {K : PySem.W.Frag} {te : TE} {σ : L2.St} {H : Hp} {Q : VK} (q : te σ H fun x H1 => RFmt2 K x H1 Q) : tFmt2 K te σ H Q := q
end
/-! ## an own exception whose promise hangs on the heap -/
section
variable {K : PySem.W.Frag} {H B : Hp} {L : List (Addr × HO)} {C : Addr} {f : Str} {v : V}
def spXinitG (C : Addr) (f : Str) (ok : Hp → V → Prop) : Sp := fun vs H Q _ => ∃ (B : Hp) (e : Addr) (v : V), vs = [.ref e, v] ∧ Hs B [(e, exo e C none)] H ∧ ok B v ∧ ∀ dx H', Hs B [(dx, exd dx [(f, v)]), (e, exo e C (some dx))] H' → Q .non H'
theorem w_mkXG {ok : Hp → V → Prop} {Q : XK} (hs : Hs B L H) (hm : ∀ B', Same B B' → ok B v → ok B' v) (hv : ok B v) (q : ∀ d H', Hs B ((d, .xd [(f, v)]) :: L) H' → Q (.ref C) (some d) H') : MkO C (spXinitG C f ok) [v] [] H Q := by
  refine ⟨by simp, fun a ha => ?_⟩
  have h1 := hs.new (o := exo a C none) ha
  obtain ⟨sB, h2, back⟩ := h1.frame [(a, exo a C none)]
  refine ⟨_, a, v, rfl, h2, hm _ sB hv, fun dx H2 h3 => ⟨rfl, dx, [(f, v)], h3.g1, h3.g0, ?_, ?_⟩⟩
  · have n : dx ≠ a := fun e => by
      have := h3.nd
      rw [e] at this
      simp at this
    have z := h3.out _ List.mem_cons_self
    have nm : dx ∉ [(a, exo a C none)].map (·.1) := by
      simp only [List.map_cons, List.map_nil, List.mem_singleton]
      exact n
    have z2 : upd H a (exo a C none) dx = none := (around_out nm).symm.trans z
    rwa [upd_ne n] at z2
  · have h4 := back _ _ h3
    have nd := h4.nd
    have hda : dx ≠ a := fun e => by
      rw [e] at nd
      simp at nd
    have nL : ∀ e ∈ L, e.1 ≠ dx ∧ e.1 ≠ a := fun e he => by
      simp only [List.cons_append, List.nil_append, List.map_cons, List.nodup_cons, List.mem_cons, not_or] at nd
      refine ⟨fun z => nd.1.2 ?_, fun z => nd.2.1 ?_⟩
      · rw [← z]
        exact List.mem_map.mpr ⟨e, he, rfl⟩
      · rw [← z]
        exact List.mem_map.mpr ⟨e, he, rfl⟩
    have ba : B a = none := hs.same.free ha
    have bd : B dx = none := h4.out _ List.mem_cons_self
    refine q dx _ ⟨fun b o e => ?_, ?_, fun e he => ?_, fun e he => ?_⟩
    · have n1 : b ≠ dx := fun z => by
        rw [z, bd] at e
        cases e
      have n2 : b ≠ a := fun z => by
        rw [z, ba] at e
        cases e
      rw [upd_ne n1, del_ne n2]
      exact h4.same b o e
    · simp only [List.cons_append, List.nil_append, List.map_cons, List.nodup_cons, List.mem_cons, not_or] at nd ⊢
      exact ⟨nd.1.2, nd.2.2⟩
    · rcases List.mem_cons.mp he with rfl | he
      · exact bd
      · exact hs.out e he
    · rcases List.mem_cons.mp he with rfl | he
      · exact upd_same
      · obtain ⟨n1, n2⟩ := nL e he
        rw [upd_ne n1, del_ne n2]
        exact h4.at_ e (List.mem_cons_of_mem _ (List.mem_cons_of_mem _ he))
end
/-! ## a callee that owns A and adds to the ground -/
def noTup : HO → Bool
  | .tup _ => false
  | _ => true
theorem Hs.frameG {B H : Hp} {R : List (Addr × HO)} (A : List (Addr × HO)) (hs : Hs B (A ++ R) H) (hR : R.all (fun e => noTup e.2) = true) : ∃ B', Same B B' ∧ Hs B' A H ∧ ∀ A' B2 H', Same B' B2 → Hs B2 A' H' → ∃ B3, Same B B3 ∧ Hs B3 (A' ++ R) H' ∧ ∀ p xs, B2 p = some (.tup xs) → B3 p = some (.tup xs) := by
  have fr := hs.frame A
  have nd := hs.nd
  rw [List.map_append, List.nodup_append] at nd
  obtain ⟨n1, n2, n3⟩ := nd
  refine ⟨around A H, fr.1, fr.2.1, fun A' B2 H' sm h => ?_⟩
  have rin : ∀ e ∈ R, B2 e.1 = some e.2 := fun e he => sm _ _ (by
    rw [around_out fun m => n3 _ m _ (List.mem_map.mpr ⟨e, he, rfl⟩) rfl]
    exact hs.at_ e (List.mem_append_right _ he))
  refine ⟨around R B2, fun b u e => ?_, ⟨fun b u e => ?_, ?_, fun e he => ?_, fun e he => ?_⟩, fun p xs e => ?_⟩
  · rw [around_out fun m => ?_]
    · exact sm _ _ (fr.1 _ _ e)
    · obtain ⟨z, hz, rfl⟩ := List.mem_map.mp m
      rw [hs.out z (List.mem_append_right _ hz)] at e
      cases e
  · unfold around at e
    split at e
    · cases e
    · exact h.same _ _ e
  · rw [List.map_append, List.nodup_append]
    refine ⟨h.nd, n2, fun a ha b hb q => ?_⟩
    subst q
    obtain ⟨x, hx, rfl⟩ := List.mem_map.mp ha
    obtain ⟨y, hy, q⟩ := List.mem_map.mp hb
    have h1 := h.out x hx
    rw [← q, rin y hy] at h1
    cases h1
  · rcases List.mem_append.mp he with he | he
    · unfold around
      split
      · rfl
      · exact h.out e he
    · exact if_pos (List.mem_map.mpr ⟨e, he, rfl⟩)
  · rcases List.mem_append.mp he with he | he
    · exact h.at_ e he
    · exact h.same _ _ (rin e he)
  · rw [around_out fun m => ?_]
    · exact e
    · obtain ⟨z, hz, rfl⟩ := List.mem_map.mp m
      have h1 := rin z hz
      rw [e] at h1
      have h2 := List.all_eq_true.mp hR z hz
      rw [← Option.some.inj h1] at h2
      cases h2
/-- all else into the ground; the tuples with it -/
theorem Hs.allinT {B H : Hp} {L : List (Addr × HO)} (hs : Hs B L H) (hL : L.all (fun e => noTup e.2) = true) : ∃ B2, Same B B2 ∧ Hs B2 L H ∧ ∀ p xs, H p = some (.tup xs) → B2 p = some (.tup xs) := by
  obtain ⟨B2, sm, h, hin⟩ := hs.allin
  refine ⟨B2, sm, h, fun p xs e => hin _ _ e fun m => ?_⟩
  obtain ⟨z, hz, rfl⟩ := List.mem_map.mp m
  have h1 := h.at_ z hz
  rw [e] at h1
  have h2 := List.all_eq_true.mp hL z hz
  rw [← Option.some.inj h1] at h2
  cases h2
theorem put_ix {R : List (Addr × HO)} {i : Nat} {p : Addr} {o : HO} (o' : HO) : R[i]? = some (p, o) → Put R p o o' (R.set i (p, o')) := by
  induction R generalizing i with
  | nil => intro h; simp at h
  | cons x R ih =>
    cases i with
    | zero =>
      intro h
      have e : x = (p, o) := by simpa using h
      subst e
      exact .here
    | succ i =>
      intro h
      exact .there (ih (by simpa using h))
/-! ## a test that is a if t else b -/
section
variable {X : Cx} {c a b : Expr} {pos : Pos}
def tIfT (t tA tB : TT) : TT := fun σ H Q => t σ H fun c H1 => if c = true then tA σ H1 Q else tB σ H1 Q
theorem pt_ifE {t tA tB : TT} (hc : PT X c t) (ha : PT X a tA) (hb : PT X b tB) : PT X (.IfExp c a b pos) (tIfT t tA tB) := by
  refine ⟨fun pins s σ H Q I h => ?_⟩
  refine isTrue_IfExp (thn (hc.run pins s σ H _ I h) fun d s1 ⟨H1, I1, q1⟩ => ?_)
  cases d with
  | true => exact ha.run pins s1 σ H1 Q I1 q1
  | false => exact hb.run pins s1 σ H1 Q I1 q1
theorem w_ifT {t tA tB : TT} {σ : L2.St} {H : Hp} {Q : Bool → Hp → Prop} (q : t σ H fun c H1 => if c = true then tA σ H1 Q else tB σ H1 Q) : tIfT t tA tB σ H Q := q
end
end Hb

set_option Elab.async false
set_option linter.all false
set_option maxRecDepth 100000
set_option maxHeartbeats 4000000
/-! Texts, and what else the laws of the first stage want: (a, .., *b) = a list; zip of a list and a tuple. -/
namespace Hb
open PySem PySem.Spec L2 PyProof.Rows TL
/-! ## (a, .., *b) = a list -/
section
variable {P : Program} {w : World} {A : Around} {E : Value → Shared → Prop} {s : Shared}
theorem unpack_star {l : Addr} {vs : Array Value} {i : Nat} {Q : List Value → Shared → Prop} (hL : s.heap.IsList l vs) (hh : A.handled = none) (hi : i ≤ vs.size) (hz : vs.size ≤ 16384)
    (q : ∀ (h' : Heap) (tk : Nat), (∀ b o, s.heap.get? b = some o → h'.get? b = some o) → Q (vs.toList.take i ++ [.ref h'.objs.size]) { s with heap := h'.push { cls := .type "list", data := .seq (vs.toList.drop i).toArray }, toks := tk }) : wpAny (model P w) A (unpackItems (.ref l) (i + 1) (some i)) Q E s := by
  have ne : l ≠ s.heap.objs.size := by
    obtain ⟨o, ho, _⟩ := hL
    exact Nat.ne_of_lt (Heap.lt_size ho)
  unfold unpackItems notIterableAtAll
  refine wpAny_bind (wpAny_bind (wpAny_specialOf hL.typeIs slot_list_iter.lookup (wpAny_pure ?_)))
  simp only [if_false, Bool.false_eq_true]
  refine wpAny_bind (wpAny_holding (wpAny_pyIter_list hL ?_))
  refine wpAny_bind (wpAny_holding (PySem.W.kun_draw ne i 0 _ _ ⟨_, Heap.get?_push_size _ rfl, rfl, rfl⟩ (hL.push _) (by omega) fun h1 it1 sb1 => ?_))
  have hL1 : h1.IsList l vs := (hL.push _).extBut sb1.extBut ne
  rw [Nat.zero_add] at it1
  obtain ⟨oi, hoi, _⟩ := id it1
  obtain ⟨ol, hol, _⟩ := id hL1
  rw [List.drop_zero]
  have e1 : (vs.toList.take i).length = i := by rw [List.length_take, Array.length_toList]; omega
  rw [if_neg (by omega : ¬ (vs.toList.take i).length < i)]
  refine wpAny_bind (wpAny_holding (PySem.W.kun_collect (s := { s with heap := h1 }) (T := "list_iterator") (k := i) (.inr (.inr (.inl rfl))) (Walks.list (A := A.in1) hh s.heap.objs.size l ne vs) (fun _ _ st => st.1.typeIs) hi ⟨it1, hL1⟩ (Heap.lt_size hoi) (Heap.lt_size hol) (fun h2 tk kp => ?_) (by rw [sizeLine_eq]; omega)))
  have e2 : (vs.toList.drop i).length = vs.size - i := by rw [List.length_drop, Array.length_toList]
  have ee : i + 1 - 1 - i = 0 := by omega
  have kp0 : ∀ b o, s.heap.get? b = some o → h2.get? b = some o := fun b o e => kp b o (Nat.ne_of_lt (Heap.lt_size e)) (sb1.extBut b o (Nat.ne_of_lt (Heap.lt_size e)) (Heap.get?_push_of_some _ e))
  show wpAny _ _ (if (vs.toList.drop i).length < i + 1 - 1 - i then _ else newList ((vs.toList.drop i).take ((vs.toList.drop i).length - (i + 1 - 1 - i))) >>= fun d => pure (vs.toList.take i ++ [d] ++ (vs.toList.drop i).drop ((vs.toList.drop i).length - (i + 1 - 1 - i)))) _ _ _
  rw [ee, if_neg (Nat.not_lt_zero _), Nat.sub_zero, List.take_length, List.drop_length]
  refine wpAny_bind (wpAny_newList (wpAny_pure ?_) (by
    show (vs.toList.drop i).length ≤ sizeLine
    rw [e2, sizeLine_eq]
    omega))
  rw [List.append_nil]
  exact q h2 tk kp0
end
section
variable {X : Cx} {K : PySem.W.Frag} {pos : Pos}
def gStar (K : PySem.W.Frag) (i : Nat) (t : TGs) : TG := fun v σ H Q => ∃ (a : Addr) (xs : List V), v = .ref a ∧ SqL K H a xs ∧ i ≤ xs.length ∧ xs.length ≤ 16384 ∧ ∀ D, H D = none → t (xs.take i ++ [.ref D]) σ (upd H D (.lst (xs.drop i))) Q
theorem vals_take {xs : List V} {us : List Value} (r : Vals xs us) (i : Nat) : Vals (xs.take i) (us.take i) := by
  induction r generalizing i with
  | nil => rw [List.take_nil, List.take_nil]; exact .nil
  | cons h _ ih =>
    cases i with
    | zero => exact .nil
    | succ i => exact .cons h (ih i)
theorem vals_drop {xs : List V} {us : List Value} (r : Vals xs us) (i : Nat) : Vals (xs.drop i) (us.drop i) := by
  induction r generalizing i with
  | nil => rw [List.drop_nil, List.drop_nil]; exact .nil
  | cons h t ih =>
    cases i with
    | zero => exact .cons h t
    | succ i => exact ih i
theorem vals_app {xs ys : List V} {us vs : List Value} (r : Vals xs us) (q : Vals ys vs) : Vals (xs ++ ys) (us ++ vs) := by
  induction r with
  | nil => exact q
  | cons h _ ih => exact .cons h ih
theorem pg_star {es : List Expr} {k i : Nat} {t : TGs} (hc : X.calm = true) (h : PGs X es t) (hn : (assignEach es X.env).length = i + 1 := by rfl) (hst : (assignEach es X.env).findIdx? (·.1) = some i := by rfl) (hK : X.K = K := by rfl) : PG X (.Tuple es k pos) (gStar K i t) := by
  subst hK
  refine ⟨fun pins s σ H v u Q I r hw => ?_⟩
  obtain ⟨a, xs, e1, hq, hi, hz, hw⟩ := hw
  subst e1
  cases r
  obtain ⟨its, rv, pl, _⟩ := I.list hq
  have len := rv.length
  rw [PyProof.Rows.assign_Tuple]
  refine wpAny_bind (wpAny_standAt ?_)
  unfold unpack
  rw [hn, hst]
  refine wpAny_bind (wpAny_holding (unpack_star pl.isList (I.ok.hd hc) (by simp; omega) (by simp; omega) fun h' tk kp => ?_))
  have I1 : Inv X pins σ H { s with heap := h', toks := tk } := I.kept (t' := tk) kp
  have zd : (xs.drop i).length ≤ sizeLine := by
    rw [List.length_drop, sizeLine_eq]
    omega
  have I2 := I1.laid (a := h'.objs.size) (o := .lst (xs.drop i)) (h' := h'.push { cls := .type "list", data := .seq (its.drop i).toArray }) (t' := tk) (fun b u e => Heap.get?_push_of_some _ e) (Nat.le_refl _) ⟨zd, its.drop i, 0, vals_drop rv i, Heap.get?_push_size _ rfl⟩
  have r2 : Vals (xs.take i ++ [.ref h'.objs.size]) (its.take i ++ [.ref h'.objs.size]) := vals_app (vals_take rv i) (.cons (show RelV (.ref h'.objs.size) (.ref h'.objs.size) from rfl) .nil)
  exact h.run pins _ σ _ _ _ Q I2 r2 (hw _ (I1.hok.fresh (Nat.le_refl _)))
theorem pgs_star {e : Expr} {es : List Expr} {t : TG} {u : TGs} {p : Pos} (h1 : PG X e t) (h2 : PGs X es u)
    (hs : (assignEach (.Starred e p :: es) X.env).map (·.2) = assign e X.env :: (assignEach es X.env).map (·.2) := by rfl) : PGs X (.Starred e p :: es) (gCons t u) := by
  refine ⟨fun pins s σ H vs us Q I r h => ?_⟩
  obtain ⟨v, vr, e1, h⟩ := h
  subst e1
  cases r with
  | cons r rr =>
    rw [hs]
    exact assignInOrder_cons (thn (h1.run pins s σ H _ _ _ I r h) fun _ s1 ⟨σ1, H1, I1, q1⟩ => h2.run pins s1 σ1 H1 _ _ Q I1 rr q1)
theorem w_star1 {σ : L2.St} {H : Hp} {Q : L2.St → Hp → Prop} {t : TGs} {i : Nat} {a : Addr} {xs : List V} {B : Hp} {L : List (Addr × HO)} (hs : Hs B L H) (h : SqL K H a xs) (hi : i ≤ xs.length) (hz : xs.length ≤ 16384) (q : ∀ D H', Hs B ((D, .lst (xs.drop i)) :: L) H' → t (xs.take i ++ [.ref D]) σ H' Q) : gStar K i t (.ref a) σ H Q :=
  ⟨a, xs, rfl, h, hi, hz, fun D hD => q D _ (hs.new hD)⟩
end
/-! ## zip of a list and a tuple -/
def ItzM (K : PySem.W.Frag) (a b : Addr) : It :=
  ⟨fun i H => ∃ (xs ys : List V) (x y : V), SqL K H a xs ∧ SqT K H b ys ∧ xs[i]? = some x ∧ ys[i]? = some y,
    fun i H v H' => ∃ N x y, v = .ref N ∧ H N = none ∧ H' = upd H N (.tup [x, y]) ∧ (∀ xs, SqL K H a xs → xs[i]? = some x) ∧ ∀ ys, SqT K H b ys → ys[i]? = some y,
    fun i H => ∃ xs ys : List V, SqL K H a xs ∧ SqT K H b ys ∧ xs.length = ys.length ∧ xs.length = i⟩
theorem five_or {c a1 a2 a3 a4 a5 : Addr} (h : c ∈ [a1, a2, a3, a4, a5]) : c = a1 ∨ c = a2 ∨ c = a3 ∨ c = a4 ∨ c = a5 := by simpa using h
theorem turn_zipM {P : Program} {w : World} {K : PySem.W.Frag} {elts : List Expr} {kk : Nat} {tpos : Pos} {a b z T0 T1 j1 j2 : Addr} (D : ZipApart z T0 T1 j1 j2 a b) :
    Turn P w K (.Tuple elts kk tpos) (ItzM K a b) [z, T0, T1, j1, j2] z (fun i h => IsZip h z T0 T1 .none ∧ PySem.IsTupOf2 h T0 (.ref j1) (.ref j2) ∧ (∃ x y, PySem.IsTupOf2 h T1 x y) ∧ h.IsListIter j1 a i ∧ h.IsTupleIter j2 b i) where
  mem := List.mem_cons_self
  obj := fun i h st c hc => by
    obtain ⟨s1, s2, ⟨x, y, s3⟩, ⟨o1, e1, _, d1⟩, o2, e2, _, d2⟩ := st
    rcases five_or hc with rfl | rfl | rfl | rfl | rfl
    · exact ⟨_, s1, fun v q => nomatch q⟩
    · exact ⟨_, s2, fun v q => nomatch q⟩
    · exact ⟨_, s3, fun v q => nomatch q⟩
    · exact ⟨o1, e1, fun v q => nomatch (d1.symm.trans q)⟩
    · exact ⟨o2, e2, fun v q => nomatch (d2.symm.trans q)⟩
  keep := fun i h h' st k => by
    obtain ⟨s1, s2, ⟨x, y, s3⟩, s4, s5⟩ := st
    exact ⟨k z (by simp) _ s1, k T0 (by simp) _ s2, ⟨x, y, k T1 (by simp) _ s3⟩, s4.at fun o q => k j1 (by simp) o q, s5.at fun o q => k j2 (by simp) o q⟩
  item := by
    rintro X rfl rfl rfl hc i pins s σ H E I hf ⟨s1, s2, ⟨x0, y0, s3⟩, s4, s5⟩ ⟨xs, ys, x, y, q1, q2, g1, g2⟩
    obtain ⟨us, ru, pu, _⟩ := I.list q1
    obtain ⟨vs, rv, pv, _⟩ := I.tuple q2
    obtain ⟨u, hu, r1⟩ := ru.get g1
    obtain ⟨v, hv, r2⟩ := rv.get g2
    have zl : z < s.heap.objs.size := Heap.lt_size s1
    have l1 : a ≠ j1 := D.l1i1
    have l2 : b ≠ j2 := D.l2i2
    have S : PySem.ZipSep2 z T0 T1 j1 j2 [j1, a] [j2, b] := ⟨D.TIz, D.TOz, D.TITO, D.TIi1, List.mem_cons_self, by simp [Ne.symm D.i1z, Ne.symm D.l1z], by simp [D.TOi1, Ne.symm D.l1TO], D.TIi2, List.mem_cons_self, by simp [Ne.symm D.i2z, Ne.symm D.l2z], by simp [D.TOi2, Ne.symm D.l2TO], by simp [D.i12, Ne.symm D.l2i1], by simp [Ne.symm D.i12, Ne.symm D.l1i2]⟩
    have nh : X.A.in1.handled = none := I.ok.hd hc
    refine PySem.wpAny_pyNext_zipD2_item S (Draws.list nh j1 a l1 us.toArray) (Draws.tuple nh j2 b l2 vs.toArray) s1 s2 s3 ⟨s4, pu.isList⟩ ⟨s5, pv⟩ (by have := (List.getElem?_eq_some_iff.mp hu).1; simpa using this) (by have := (List.getElem?_eq_some_iff.mp hv).1; simpa using this) fun x1 x2 h' tk p1 p2 z' t1 d1 d2 hT sz kp => ?_
    obtain rfl : u = x1 := Option.some.inj (by rw [← hu]; simpa using p1)
    obtain rfl : v = x2 := Option.some.inj (by rw [← hv]; simpa using p2)
    refine ⟨_, rfl, wpAny_letOwnedTupleGo_zip (s := { s with heap := h', toks := tk }) z' fun h2 z2 sb => ?_⟩
    have nz : s.heap.objs.size ≠ z := Nat.ne_of_gt zl
    have hT2 : h2.get? s.heap.objs.size = some { cls := .type "tuple", data := .seq #[u, v] } := (sb.2 _ nz).trans hT
    have kp2 : ∀ c o, c ∉ [z, T0, T1, j1, j2] → s.heap.get? c = some o → h2.get? c = some o := fun c o hb q => by
      simp only [List.mem_cons, List.not_mem_nil, or_false, not_or] at hb
      exact (sb.2 c hb.1).trans (kp c o hb.1 hb.2.2.1 hb.2.2.2.1 hb.2.2.2.2 q)
    have nw : ObjOk X.prog X.w (upd H s.heap.objs.size (.tup [x, y])) h2 s.heap.objs.size (.tup [x, y]) := ⟨by show 2 ≤ sizeLine; rw [sizeLine_eq]; decide, [u, v], .cons r1 (.cons r2 .nil), ⟨_, hT2, rfl, _, rfl⟩⟩
    have I1 := I.turnedNew (t' := tk) (T := s.heap.objs.size) kp2 hf (Nat.le_refl _) nw
    have kz : ∀ c o, c ≠ z → h'.get? c = some o → h2.get? c = some o := fun c o n q => (sb.2 c n).trans q
    refine ⟨.ref s.heap.objs.size, _, I1, rfl, ⟨_, x, y, rfl, I.hok.fresh (Nat.le_refl _), rfl, fun l hl => by rw [I.list_inj hl q1]; exact g1, fun l hl => by rw [I.tuple_inj hl q2]; exact g2⟩, ⟨z2, kz _ _ D.TIz (kp _ _ D.TIz D.TITO D.TIi1 D.TIi2 s2), ⟨u, v, kz _ _ D.TOz t1⟩, d1.1.at fun o q => kz _ _ D.i1z q, d2.1.at fun o q => kz _ _ D.i2z q⟩, fun c hcm => ?_⟩
    have ltc : c < s.heap.objs.size := by
      rcases five_or hcm with rfl | rfl | rfl | rfl | rfl
      · exact zl
      · exact Heap.lt_size s2
      · exact Heap.lt_size s3
      · obtain ⟨_, e, _⟩ := s4
        exact Heap.lt_size e
      · obtain ⟨_, e, _⟩ := s5
        exact Heap.lt_size e
    rw [upd_ne (Nat.ne_of_lt ltc)]
    exact (hf c hcm).1
  done := by
    rintro X rfl rfl rfl hc i pins s σ H E I hf ⟨s1, s2, ⟨x0, y0, s3⟩, s4, s5⟩ ⟨xs, ys, q1, q2, el, ei⟩
    obtain ⟨us, ru, pu, _⟩ := I.list q1
    obtain ⟨vs, rv, pv, _⟩ := I.tuple q2
    have n1 := ru.length
    have n2 := rv.length
    have S : PySem.ZipSep2 z T0 T1 j1 j2 [j1, a] [j2, b] := ⟨D.TIz, D.TOz, D.TITO, D.TIi1, List.mem_cons_self, by simp [Ne.symm D.i1z, Ne.symm D.l1z], by simp [D.TOi1, Ne.symm D.l1TO], D.TIi2, List.mem_cons_self, by simp [Ne.symm D.i2z, Ne.symm D.l2z], by simp [D.TOi2, Ne.symm D.l2TO], by simp [D.i12, Ne.symm D.l2i1], by simp [Ne.symm D.i12, Ne.symm D.l1i2]⟩
    have nh : X.A.in1.handled = none := I.ok.hd hc
    refine PySem.wpAny_pyNext_zipD2_end S (Draws.list nh j1 a D.l1i1 us.toArray) (Draws.tuple nh j2 b D.l2i2 vs.toArray) s1 s2 s3 ⟨s4, pu.isList⟩ ⟨s5, pv⟩ (by simp; omega) (by simp; omega) (.inl (by simp; omega)) fun h' tk kp => ⟨rfl, I.turnedL (t' := tk) (ch := [z, T0, T1, j1, j2]) (fun c o hb q => ?_) hf⟩
    simp only [List.mem_cons, List.not_mem_nil, or_false, not_or] at hb
    exact kp c o hb.1 hb.2.2.1 hb.2.2.2.1 hb.2.2.2.2 q
  self := fun A i s Q E st h => wpAny_pyIter_zip st.1 h
def iZipM (K : PySem.W.Frag) (ta : TA) : TI := fun σ H R => ta σ H fun vs H1 => ∃ a b xs ys, vs = [.ref a, .ref b] ∧ SqL K H1 a xs ∧ SqT K H1 b ys ∧ R (ItzM K a b) H1
theorem pi_zipM {X : Cx} {K : PySem.W.Frag} {e e2 : Expr} {ta : TA} {p pos tpos : Pos} {elts : List Expr} {kk : Nat} (hg : Gl X "zip") (hm : X.mg "zip" = none) (ha : PA X [e, e2] ta)
    (hs : starEach [e, e2] X.env = (false, eval e X.env) :: starEach [e2] X.env := by rfl) (hpl : (backTo pos (starEach [e2] X.env)).any (·.1) = false := by rfl) (hK : X.K = K := by rfl) : PI X (.Tuple elts kk tpos) (.Call (.Name "zip" p) [e, e2] [] pos) (iZipM K ta) := by
  subst hK
  refine ⟨fun pins s σ H R I h => ?_⟩
  refine Call_ (ld_blt I hg hm PyProof.Rows.boot_zip (PyProof.Rows.callWith_type1 (thn (ha.run pos pins s σ H _ I h) fun us s1 ⟨vs, H1, I1, r1, a, b, xs, ys, ex, q1, q2, q⟩ => ?_) hs hpl))
  subst ex
  cases r1 with
  | cons r rr =>
    cases rr with
    | cons r' rr =>
      cases rr
      cases r
      cases r'
      obtain ⟨is, ri, p1, _⟩ := I1.list q1
      obtain ⟨js, rj, p2, _⟩ := I1.tuple q2
      obtain ⟨o2, ho2, _⟩ := id p2
      refine PySem.zip_begins2 (PySem.begins_list a is.toArray) (PySem.begins_tuple b js.toArray) p1.isList p2 fun h' z1 z2 z3 z4 z5 sz kp => wpAny_pyIter_zip z1 ?_
      refine ⟨_, [s1.heap.objs.size + 4, s1.heap.objs.size + 2, s1.heap.objs.size + 3, s1.heap.objs.size, s1.heap.objs.size + 1], _, _, H1, rfl, I1.kept (t' := s1.toks) kp, turn_zipM (PySem.W.ktu_apart s1.heap.objs.size a b p1.lt (Heap.lt_size ho2)), ⟨z1, z2, ⟨_, _, z3⟩, ⟨_, z4, rfl, rfl⟩, _, z5, rfl, rfl⟩, fun c hcm => ?_, q⟩
      have hle : s1.heap.objs.size ≤ c := by
        rcases five_or hcm with rfl | rfl | rfl | rfl | rfl <;> omega
      exact I1.fpOk hle (I1.hok.fresh hle)
section
variable {K : PySem.W.Frag} {a b : Addr} {xs ys : List V} {H0 : Hp} {Qd : Hp → Prop} {Body : (Hp → Prop) → V → Hp → Prop}
theorem turns_zipM (hl : xs.length = ys.length) (Pv : Nat → Hp → Prop) (h0 : Pv 0 H0) (hq : ∀ i H, i ≤ xs.length → Pv i H → SqL K H a xs ∧ SqT K H b ys)
    (hs : ∀ i x y N H, xs[i]? = some x → ys[i]? = some y → Pv i H → H N = none → Body (Pv (i + 1)) (.ref N) (upd H N (.tup [x, y]))) (hd : ∀ H, Pv xs.length H → Qd H) : Turns (ItzM K a b) Body H0 Qd := by
  refine ⟨fun i m H => m + i = xs.length ∧ Pv i H, ⟨xs.length, rfl, h0⟩, ?_⟩
  rintro i m H ⟨hm, p⟩
  obtain ⟨qx, qy⟩ := hq i H (by omega) p
  by_cases hlt : i < xs.length
  · have hx : xs[i]? = some xs[i] := List.getElem?_eq_getElem hlt
    have hlt2 : i < ys.length := by omega
    have hy : ys[i]? = some ys[i] := List.getElem?_eq_getElem hlt2
    refine .inr ⟨⟨xs, ys, _, _, qx, qy, hx, hy⟩, Pv (i + 1), fun H' p' => ⟨m - 1, by omega, by omega, p'⟩, ?_⟩
    rintro v H' ⟨N, x', y', rfl, hN, rfl, f1, f2⟩
    exact hs i x' y' N H (f1 xs qx) (f2 ys qy) p hN
  · obtain rfl : i = xs.length := by omega
    exact .inl ⟨⟨xs, ys, qx, qy, hl, rfl⟩, hd H p⟩
end
/-! ## what a module wrote: a tuple, a dict of texts -/
/-- a tuple of the module -/
def KTup (K : PySem.W.Frag) (a : Addr) (xs : List V) : Prop := ∃ (o : Obj) (its : Array Value) (n : Nat), K.lookup a = some o ∧ o.cls = .type "tuple" ∧ o.data = .seq its n ∧ its.size ≤ sizeLine ∧ Vals xs its.toList
theorem KTup.sq {K : PySem.W.Frag} {a : Addr} {xs : List V} (h : KTup K a xs) (H : Hp) : SqT K H a xs := .inr h
theorem ktup_mk {K : PySem.W.Frag} {a : Addr} {d : Option Addr} {sl : Array (Option Value)} {its : Array Value} {n : Nat} {vs : List Value} {xs : List V} (h : K.lookup a = some ⟨.type "tuple", d, .seq its n, sl⟩) (e : its.toList = vs) (hz : vs.length ≤ 100) (r : Vals xs vs) : KTup K a xs := by
  subst e
  refine ⟨_, its, n, h, rfl, rfl, ?_, r⟩
  have : its.toList.length = its.size := by simp
  rw [sizeLine_eq]
  omega
/-- what a written dict of texts answers -/
def KGet (K : PySem.W.Frag) (w : World) (a : Addr) (x : Str) (r : Option V) : Prop :=
  ∃ es n u, K.lookup a = some ⟨.type "dict", none, .dict es n, #[]⟩ ∧ PySem.W.KeysLit w.params es.toList ∧ (a == sysModules) = false ∧ PySem.W.nsIn K a x = some u ∧ (match r, u with | some v, some z => RelV v z | none, none => True | _, _ => False)
theorem kget_none {K : PySem.W.Frag} {w : World} {a : Addr} {es : Array DictEntry} {n : Nat} {ks : List Value} {ts : List Str} (h : K.lookup a = some ⟨.type "dict", none, .dict es n, #[]⟩) (hk : PySem.W.KeysLit w.params es.toList) (hs : (a == sysModules) = false)
    (e : es.toList.map (·.key) = ks) (hts : ∀ x, x ∉ ts → ∀ v ∈ ks, v.isStr x = false) {x : Str} (hx : x ∉ ts) : KGet K w a x none := by
  refine ⟨es, n, none, h, hk, hs, ?_, trivial⟩
  have h1 : es.toList.find? (·.key.isStr x) = none := List.find?_eq_none.mpr fun z hz => by
    rw [hts x hx z.key (by rw [← e]; exact List.mem_map_of_mem hz)]
    exact Bool.false_ne_true
  have h2 : es.toList.any (·.refKey) = false := by
    rw [List.any_eq_false]
    intro z hz
    obtain ⟨y, t, ey, _⟩ := hk.all z hz
    show ¬ (match z.key with | .ref _ => true | _ => false) = true
    rw [ey]
    exact Bool.false_ne_true
  unfold PySem.W.nsIn
  rw [h]
  dsimp only
  rw [h1]
  dsimp only
  rw [h2]
  rfl
theorem kget_some {K : PySem.W.Frag} {w : World} {a : Addr} {x : Str} {v : V} (h : KDct K w a x v) (hs : (a == sysModules) = false) : KGet K w a x (some v) := by
  obtain ⟨es, n, u, h1, h2, h3, h4⟩ := h
  exact ⟨es, n, some u, h1, h2, hs, h3, h4⟩
def tKGet (K : PySem.W.Frag) (w : World) (td ty : TE) : TE := fun σ H Q => td σ H fun x H1 => ty σ H1 fun y H2 => ∃ (p : Addr) (z : Str) (r : Option V), x = .ref p ∧ y = .str z ∧ KGet K w p z r ∧ Q (r.getD .non) H2
theorem pe_kget {X : Cx} {K : PySem.W.Frag} {w : World} {o e : Expr} {apos cpos : Pos} {td ty : TE} {C : Addr} (ho : PE X o td) (ht : ∀ (σ : L2.St) (H : Hp) (R : VK), td σ H R → td σ H fun v H' => v = .ref C ∧ R v H') (hC : ∃ es n, K.lookup C = some ⟨.type "dict", none, .dict es n, #[]⟩ ∧ PySem.W.KeysLit w.params es.toList) (he : PE X e ty) (m : M1 X o "get" apos e cpos) (hK : X.K = K := by rfl) (hw : X.w = w := by rfl) : PE X (.Call (.Attribute o "get" apos) [e] [] cpos) (tKGet K w td ty) := by
  subst hK
  subst hw
  refine ⟨fun pins s σ H Q I h => ?_⟩
  refine wpAny_Call_method m.base m.few m.line PySem.F.plainAttrs_dict PySem.F.slot_dict_get PySem.F.type_dict_get (thn (ho.run pins s σ H _ I (ht σ H _ h)) fun u s1 ⟨x, H1, I1, rx, ex, q1⟩ => ?_)
  subst ex
  obtain rfl : u = Value.ref C := rx
  obtain ⟨es0, n0, l0, k0⟩ := hC
  have mp0 := PySem.W.mapOf_K (prog := X.prog) (w := X.w) I1.kIn l0 k0
  refine ⟨mp0.typeIs, fun b q => ?_, ?_⟩
  · cases q
    exact ⟨_, I1.kIn _ _ l0, rfl⟩
  rw [m.trees]
  refine Calls.callWith_builtin rfl (Calls.evalArgs_plain (Calls.spliced_cons (thn (he.run pins s1 σ H1 _ I1 q1) fun iv s2 ⟨y, H2, I2, ry, p, z, r, ex, ey, ⟨es, n, w1, hl, hk, low, hn, hr⟩, q2⟩ => Calls.spliced_nil ?_)))
  cases ex
  subst ey
  obtain ⟨t, rfl⟩ := (show ∃ t, iv = Value.str z t from ry)
  have mp := PySem.W.mapOf_K (prog := X.prog) (w := X.w) I2.kIn hl hk
  refine call_meetsIn PySem.F.slot_dict_get mp.typeIs PySem.F.entry_dict_get (PySem.F.args_dict_get_2 _ _) (meets_dict_get (strKind X.prog X.w) C (strKind_is X.prog X.w z t) low) ⟨_, mp, ?_⟩
  rw [PySem.W.find_K hl hn]
  cases r with
  | none =>
    cases w1 with
    | none => exact ⟨.non, H2, I2.tok _, rfl, q2⟩
    | some _ => exact hr.elim
  | some v =>
    cases w1 with
    | none => exact hr.elim
    | some u => exact ⟨v, H2, I2.tok _, hr, q2⟩
inductive KeysAre : List Str → List Value → Prop
  | nil : KeysAre [] []
  | cons {x : Str} {t : Tok} {ts : List Str} {ks : List Value} : KeysAre ts ks → KeysAre (x :: ts) (.str x t :: ks)
theorem isStr_out {ts : List Str} {ks : List Value} (h : KeysAre ts ks) : ∀ x, x ∉ ts → ∀ v ∈ ks, v.isStr x = false := by
  induction h with
  | nil => exact fun _ _ _ z => nomatch z
  | @cons y t ts ks _ ih =>
    intro x hx v hv
    rcases List.mem_cons.mp hv with rfl | hv
    · rw [PySem.W.isStr_of]
      show (y == x) = false
      exact beq_eq_false_iff_ne.mpr fun e => hx (e ▸ List.mem_cons_self)
    · exact ih x (fun z => hx (List.mem_cons_of_mem _ z)) v hv
/-! ## str(x) of an int or a text; unpacking a list -/
def rStrA : List V → Hp → VK → Prop := fun xs H Q => (∃ i, xs = [.int i] ∧ i.natAbs.log2 < 1920 ∧ Q (.str (toString i)) H) ∨ ∃ a, xs = [.str a] ∧ Q (.str a) H
theorem call_strA {X : Cx} : CallR X (.type "str") rStrA := by
  intro pins s σ H xs us Q I r h
  rcases h with h | h
  · exact call_str_int pins s σ H xs us Q I r h
  · exact SkE.call_str_str pins s σ H xs us Q I r h
theorem pg_unlK {X : Cx} {K : PySem.W.Frag} {pos : Pos} {es : List Expr} {k : Nat} {t : TGs} {n : Nat} (hc : X.calm = true) (h : PGs X es t) (hn : (assignEach es X.env).length = n := by rfl) (hst : (assignEach es X.env).findIdx? (·.1) = none := by rfl) (hK : X.K = K := by rfl) : PG X (.Tuple es k pos) (gUnl K n t) := by
  subst hK
  exact pg_unl hc h hn hst
/-! ## a text, sign by sign -/
section
variable {σ : L2.St} {H H0 : Hp} {Q : VK} {Qd : Hp → Prop} {Body : (Hp → Prop) → V → Hp → Prop}
def StrR (y : V) (H1 : Hp) (R : It → Hp → Prop) : Prop := ∃ x, y = .str x ∧ R (Its x) H1
theorem w_lcStr {te1 te : TE} {g : TG} {tt : TT} {vs : List Nat} (q : te1 σ H fun y H1 => StrR y H1 (LcR g tt te vs σ Q)) : tLc (iStr te1) g tt te vs σ H Q := q
theorem w_strR {x : Str} {R : It → Hp → Prop} (q : R (Its x) H) : StrR (.str x) H R := ⟨x, rfl, q⟩
theorem turns_str {x : Str} (Pv : Nat → Hp → Prop) (h0 : Pv 0 H0) (hs : ∀ i c H, (tl x)[i]? = some c → Pv i H → Body (Pv (i + 1)) (.str ⟨#[c]⟩) H) (hd : ∀ H, Pv (tl x).length H → Qd H) : Turns (Its x) Body H0 Qd := by
  have len : (tl x).length = x.cps.size := by simp
  refine ⟨fun i m H => m + i = (tl x).length ∧ Pv i H, ⟨_, rfl, h0⟩, ?_⟩
  rintro i m H ⟨hm, p⟩
  by_cases hlt : i < (tl x).length
  · refine .inr ⟨by show i < x.cps.size; omega, Pv (i + 1), fun H' p' => ⟨m - 1, by omega, by omega, p'⟩, ?_⟩
    rintro v H' ⟨rfl, c, hc, rfl⟩
    exact hs i c _ (by simpa using hc) p
  · obtain rfl : i = (tl x).length := by omega
    exact .inl ⟨by show x.cps.size ≤ _; omega, hd H p⟩
theorem w_forS2 {te1 : TE} {g : TG} {tb : TS} {D : Ends} (q : te1 σ H fun y H1 => StrR y H1 (ForR g tb D σ)) : tFor (iStr te1) g tb D σ H := q
end
/-! ## zip of a list and a tuple, both kinds of walk -/
section
variable {K : PySem.W.Frag} {σ : L2.St} {H : Hp} {Q : VK}
def ZipMR (K : PySem.W.Frag) (vs : List V) (H1 : Hp) (R : It → Hp → Prop) : Prop := ∃ a b xs ys, vs = [.ref a, .ref b] ∧ SqL K H1 a xs ∧ SqT K H1 b ys ∧ R (ItzM K a b) H1
theorem w_lcZM {ta : TA} {te : TE} {g : TG} {tt : TT} {vs : List Nat} (q : ta σ H fun us H1 => ZipMR K us H1 (LcR g tt te vs σ Q)) : tLc (iZipM K ta) g tt te vs σ H Q := q
theorem w_zipMR {a b : Addr} {xs ys : List V} {R : It → Hp → Prop} (h1 : SqL K H a xs) (h2 : SqT K H b ys) (q : R (ItzM K a b) H) : ZipMR K [.ref a, .ref b] H R := ⟨a, b, xs, ys, rfl, h1, h2, q⟩
/-! zip of two lists -/
theorem turns_zipL {a b : Addr} {xs ys : List V} {H0 : Hp} {Qd : Hp → Prop} {Body : (Hp → Prop) → V → Hp → Prop} (hl : xs.length = ys.length) (Pv : Nat → Hp → Prop) (h0 : Pv 0 H0) (hq : ∀ i H, i ≤ xs.length → Pv i H → SqL K H a xs ∧ SqL K H b ys)
    (hs : ∀ i x y N H, xs[i]? = some x → ys[i]? = some y → Pv i H → H N = none → Body (Pv (i + 1)) (.ref N) (upd H N (.tup [x, y]))) (hd : ∀ H, Pv xs.length H → Qd H) : Turns (Itz K a b) Body H0 Qd := by
  refine ⟨fun i m H => m + i = xs.length ∧ Pv i H, ⟨xs.length, rfl, h0⟩, ?_⟩
  rintro i m H ⟨hm, p⟩
  obtain ⟨qx, qy⟩ := hq i H (by omega) p
  by_cases hlt : i < xs.length
  · have hx : xs[i]? = some xs[i] := List.getElem?_eq_getElem hlt
    have hlt2 : i < ys.length := by omega
    have hy : ys[i]? = some ys[i] := List.getElem?_eq_getElem hlt2
    refine .inr ⟨⟨xs, ys, _, _, qx, qy, hx, hy⟩, Pv (i + 1), fun H' p' => ⟨m - 1, by omega, by omega, p'⟩, ?_⟩
    rintro v H' ⟨N, x', y', rfl, hN, rfl, f1, f2⟩
    exact hs i x' y' N H (f1 xs qx) (f2 ys qy) p hN
  · obtain rfl : i = xs.length := by omega
    exact .inl ⟨⟨xs, ys, qx, qy, Or.inl (Nat.le_refl _)⟩, hd H p⟩
theorem w_zipL {a b : Addr} {xs ys : List V} {R : It → Hp → Prop} (h1 : SqL K H a xs) (h2 : SqL K H b ys) (q : R (Itz K a b) H) : ZipR K [.ref a, .ref b] H R := ⟨a, b, xs, ys, rfl, .inl ⟨h1, h2, q⟩⟩
end
end Hb

set_option Elab.async false
set_option linter.all false
set_option maxRecDepth 100000
set_option maxHeartbeats 4000000
/-! Numbers as texts. -/
namespace Hb
open PySem PySem.Spec L2 PyProof.Rows TL
abbrev nS (n : Int) : Str := Str.ofString (toString n)
theorem tl_nS (n : Nat) : tl (nS (n : Nat)) = numL n := tl_num n
theorem nS_inj {m n : Int} (hm : 0 ≤ m) (hn : 0 ≤ n) (h : nS m = nS n) : m = n := by
  obtain ⟨a, rfl⟩ := Int.eq_ofNat_of_zero_le hm
  obtain ⟨b, rfl⟩ := Int.eq_ofNat_of_zero_le hn
  have := congrArg tl h
  rw [tl_nS, tl_nS] at this
  rw [numL_inj this]
theorem numL_mono : ∀ {m n : Nat}, n ≤ m → (numL n).length ≤ (numL m).length := by
  intro m
  induction m using Nat.strongRecOn with
  | _ m ih =>
    intro n h
    by_cases hm : m < 10
    · rw [numL_lt hm, numL_lt (by omega : n < 10)]
      exact Nat.le_refl _
    · rw [numL_step (by omega : 10 ≤ m), List.length_append]
      by_cases hn : n < 10
      · rw [numL_lt hn]
        show 1 ≤ _ + 1
        omega
      · rw [numL_step (by omega : 10 ≤ n), List.length_append]
        have := ih (m / 10) (by omega) (n := n / 10) (by omega)
        show _ + 1 ≤ _ + 1
        omega
theorem numL_head {n : Nat} (h : (numL n).head? = some 48) : n = 0 := by
  induction n using Nat.strongRecOn with
  | _ n ih =>
    by_cases hn : n < 10
    · rw [numL_lt hn] at h
      have : 48 + n = 48 := Option.some.inj h
      omega
    · rw [numL_step (by omega), List.head?_append] at h
      cases hl : numL (n / 10) with
      | nil => exact absurd hl (numL_ne _)
      | cons c r =>
        rw [hl] at h
        have := ih (n / 10) (by omega) (by rw [hl]; exact h)
        omega
theorem val_snoc (l : List Nat) (c : Nat) : NumText.digitsVal (l ++ [c]) = NumText.digitsVal l * 10 + (c - 48) := by
  unfold NumText.digitsVal
  rw [List.foldl_append]
  rfl
/-- digits that do not begin with 0 are those of their number -/
theorem numL_back : ∀ (l : List Nat), NumText.AllDigits l → l ≠ [] → (l.head? = some 48 → l = [48]) → numL (NumText.digitsVal l) = l := by
  intro l
  induction hn : l.length using Nat.strongRecOn generalizing l with
  | _ n ih =>
    intro hd hne h0
    rcases List.eq_nil_or_concat l with rfl | ⟨r, c, rfl⟩
    · exact absurd rfl hne
    · rw [List.concat_eq_append] at hn hd hne h0 ⊢
      have hc := hd c (by simp)
      by_cases hr : r = []
      · subst hr
        have e : NumText.digitsVal ([] ++ [c]) = c - 48 := by
          rw [val_snoc]
          show 0 * 10 + _ = _
          omega
        rw [e, numL_lt (by omega)]
        show [48 + (c - 48)] = [c]
        rw [show 48 + (c - 48) = c by omega]
      · have hr0 : r.head? ≠ some 48 := fun z => by
          have h1 := h0 (by rw [List.head?_append, z]; rfl)
          have := congrArg List.length h1
          rw [List.length_append] at this
          have h2 : r.length = 0 := by simpa using this
          exact hr (List.length_eq_zero_iff.mp h2)
        have hir := ih r.length (by rw [← hn, List.length_append]; show r.length < r.length + 1; omega) r rfl (fun d hd' => hd d (List.mem_append_left _ hd')) hr (fun z => absurd z hr0)
        have hv : NumText.digitsVal r ≠ 0 := fun z => by
          rw [z, numL_lt (by decide)] at hir
          exact hr0 (by rw [← hir]; rfl)
        rw [val_snoc, numL_step (by omega)]
        have e1 : (NumText.digitsVal r * 10 + (c - 48)) / 10 = NumText.digitsVal r := by omega
        have e2 : 48 + (NumText.digitsVal r * 10 + (c - 48)) % 10 = c := by omega
        rw [e1, e2, hir]
open Classical in
/-- the number that a text is, up to a greatest -/
noncomputable def numM (w : Str) (most : Int) : Option Int := if h : ∃ n : Int, 0 ≤ n ∧ n ≤ most ∧ w = nS n then some h.choose else none
theorem numM_of {w : Str} {most n : Int} (h0 : 0 ≤ n) (h1 : n ≤ most) (e : w = nS n) : numM w most = some n := by
  have h : ∃ n : Int, 0 ≤ n ∧ n ≤ most ∧ w = nS n := ⟨n, h0, h1, e⟩
  unfold numM
  rw [dif_pos h]
  obtain ⟨a, _, b⟩ := h.choose_spec
  exact congrArg some (nS_inj a h0 (b.symm.trans e))
theorem numM_some {w : Str} {most n : Int} (h : numM w most = some n) : 0 ≤ n ∧ n ≤ most ∧ w = nS n := by
  unfold numM at h
  by_cases hx : ∃ n : Int, 0 ≤ n ∧ n ≤ most ∧ w = nS n
  · rw [dif_pos hx] at h
    cases h
    exact hx.choose_spec
  · rw [dif_neg hx] at h
    cases h
theorem numM_none {w : Str} {most : Int} (h : ∀ n : Int, 0 ≤ n → n ≤ most → w ≠ nS n) : numM w most = none := by
  unfold numM
  rw [dif_neg]
  rintro ⟨n, h0, h1, e⟩
  exact h n h0 h1 e
theorem nS_digits {n : Int} (h : 0 ≤ n) : NumText.AllDigits (tl (nS n)) ∧ tl (nS n) ≠ [] ∧ ((tl (nS n)).head? = some 48 → n = 0) := by
  obtain ⟨a, rfl⟩ := Int.eq_ofNat_of_zero_le h
  rw [tl_nS]
  exact ⟨numL_digits a, numL_ne a, fun z => by rw [numL_head z]; rfl⟩
theorem nS_len {n most : Int} (h : 0 ≤ n) (h1 : n ≤ most) : (nS n).length ≤ (nS most).length := by
  obtain ⟨a, rfl⟩ := Int.eq_ofNat_of_zero_le h
  obtain ⟨b, rfl⟩ := Int.eq_ofNat_of_zero_le (Int.le_trans h h1)
  rw [len_tl, len_tl]
  rw [tl_nS, tl_nS]
  exact numL_mono (Int.ofNat_le.mp h1)
theorem nS_ten {n : Int} (h : 0 ≤ n) (h1 : n < 10 ^ 10) : (nS n).length ≤ 10 := by
  obtain ⟨a, rfl⟩ := Int.eq_ofNat_of_zero_le h
  rw [len_tl]
  rw [tl_nS]
  refine numL_len (by decide) ?_
  have h2 : ((a : Nat) : Int) < 10 ^ 10 := h1
  omega
/-- a text of digits alone, without a needless 0 -/
theorem numM_digits {w : Str} (hd : NumText.AllDigits (tl w)) (hne : tl w ≠ []) (h0 : (tl w).head? = some 48 → tl w = [48]) (most : Int) : w = nS (NumText.digitsVal (tl w) : Nat) ∧ numM w most = if ((NumText.digitsVal (tl w) : Nat) : Int) ≤ most then some (NumText.digitsVal (tl w) : Nat) else none := by
  have e : w = nS (NumText.digitsVal (tl w) : Nat) := ext_tl (by rw [tl_nS, numL_back _ hd hne h0])
  refine ⟨e, ?_⟩
  by_cases h : ((NumText.digitsVal (tl w) : Nat) : Int) ≤ most
  · rw [if_pos h]
    exact numM_of (Int.natCast_nonneg _) h e
  · rw [if_neg h]
    refine numM_none fun n n0 n1 z => h ?_
    rw [nS_inj (Int.natCast_nonneg _) n0 (e.symm.trans z)]
    exact n1
theorem ascii_digits {w : Str} (h1 : Txt.isascii w = true) (h2 : Txt.isdigit w = true) : NumText.AllDigits (tl w) ∧ tl w ≠ [] := by
  unfold Txt.isascii at h1
  unfold Txt.isdigit at h2
  rw [Bool.and_eq_true] at h2
  obtain ⟨h2, h3⟩ := h2
  have hall : ∀ c, c < 128 → Unicode.isDigit c = true → 48 ≤ c ∧ c ≤ 57 := by
    have : ∀ c ∈ List.range 128, Unicode.isDigit c = true → 48 ≤ c ∧ c ≤ 57 := by decide +kernel
    exact fun c hc => this c (List.mem_range.mpr hc)
  refine ⟨fun c hc => hall c ?_ ?_, fun z => ?_⟩
  · exact of_decide_eq_true (Array.all_eq_true_iff_forall_mem.mp h1 c (Array.mem_toList_iff.mp hc))
  · exact Array.all_eq_true_iff_forall_mem.mp h3 c (Array.mem_toList_iff.mp hc)
  · have := of_decide_eq_true h2
    rw [len_tl, z] at this
    exact absurd this (Nat.lt_irrefl 0)
theorem digits_ascii {w : Str} (hd : NumText.AllDigits (tl w)) (hne : tl w ≠ []) : Txt.isascii w = true ∧ Txt.isdigit w = true := by
  have hall : ∀ c, 48 ≤ c → c ≤ 57 → c < 128 ∧ Unicode.isDigit c = true := by
    have : ∀ c ∈ List.range 58, 48 ≤ c → c < 128 ∧ Unicode.isDigit c = true := by decide +kernel
    exact fun c h1 h2 => this c (List.mem_range.mpr (by omega)) h1
  unfold Txt.isascii Txt.isdigit
  refine ⟨Array.all_eq_true_iff_forall_mem.mpr fun c hc => ?_, ?_⟩
  · obtain ⟨a, b⟩ := hd c (Array.mem_toList_iff.mpr hc)
    exact decide_eq_true (hall c a b).1
  · rw [Bool.and_eq_true]
    refine ⟨decide_eq_true ?_, Array.all_eq_true_iff_forall_mem.mpr fun c hc => ?_⟩
    · rw [len_tl]
      exact List.length_pos_iff.mpr hne
    · obtain ⟨a, b⟩ := hd c (Array.mem_toList_iff.mpr hc)
      exact (hall c a b).2
theorem starts_zero (w : Str) : Txt.startswith w "0" = true ↔ (tl w).head? = some 48 := by
  have e0 : ("0" : Str) = ⟨#[48]⟩ := by decide +kernel
  have e1 : (w.cps.extract 0 1).toList = (tl w).take 1 := by simp
  unfold Txt.startswith Builtin.Str.subAt
  rw [e0]
  show (decide (0 + 1 ≤ w.length) && (w.cps.extract 0 (0 + 1) == #[48])) = true ↔ _
  rw [Bool.and_eq_true, beq_iff_eq, Nat.zero_add, len_tl, decide_eq_true_iff]
  constructor
  · rintro ⟨_, h⟩
    have h2 := congrArg Array.toList h
    rw [e1] at h2
    cases hl : tl w with
    | nil => rw [hl] at h2; cases h2
    | cons c r =>
      rw [hl] at h2
      have : [c] = [48] := h2
      cases this
      rfl
  · intro h
    cases hl : tl w with
    | nil => rw [hl] at h; cases h
    | cons c r =>
      rw [hl] at h
      cases h
      refine ⟨Nat.succ_le_succ (Nat.zero_le _), ?_⟩
      apply Array.toList_inj.mp
      rw [e1, hl]
      rfl
/-! ## steps -/
section
variable {σ : L2.St} {H : Hp} {Q : VK} {to te : TE} {r : V → List V → Hp → VK → Prop}
def M0b (r : V → List V → Hp → VK → Prop) (y : V) (H : Hp) (Q : VK) : Prop := (∃ x, y = .str x) ∧ r y [] H Q
def M1b (r : V → List V → Hp → VK → Prop) (te : TE) (σ : L2.St) (y : V) (H : Hp) (Q : VK) : Prop := (∃ x, y = .str x) ∧ te σ H fun z H2 => r y [z] H2 Q
theorem w_m0 (q : to σ H fun y H1 => M0b r y H1 Q) : tM0 r to σ H Q := q
theorem w_m1 (q : to σ H fun y H1 => M1b r te σ y H1 Q) : tM1 r to te σ H Q := q
theorem w_m0b {x : Str} (q : r (.str x) [] H Q) : M0b r (.str x) H Q := ⟨⟨x, rfl⟩, q⟩
theorem w_m1b {x : Str} (q : te σ H fun z H2 => r (.str x) [z] H2 Q) : M1b r te σ (.str x) H Q := ⟨⟨x, rfl⟩, q⟩
theorem w_nS {a : Int} (q : a.natAbs < 2 ^ 64 ∧ Q (.str (nS a)) H) : rStr [.int a] H Q := w_str q.1 q.2
end
section
variable {K : PySem.W.Frag} {a : Addr} {xs : List V} {H0 : Hp} {Qd : Hp → Prop} {Body : (Hp → Prop) → V → Hp → Prop}
theorem turns_tupS (Pv : Nat → Hp → Prop) (h0 : Pv 0 H0) (hl : ∀ i H, i ≤ xs.length → Pv i H → SqT K H a xs) (hs : ∀ i x H, xs[i]? = some x → Pv i H → Body (Pv (i + 1)) x H) (hd : ∀ H, Pv xs.length H → Qd H) : Turns (Itt K a) Body H0 Qd := by
  refine ⟨fun i m H => m + i = xs.length ∧ Pv i H, ⟨xs.length, rfl, h0⟩, ?_⟩
  rintro i m H ⟨hm, p⟩
  have q := hl i H (by omega) p
  by_cases hlt : i < xs.length
  · refine .inr ⟨⟨xs, xs[i], q, List.getElem?_eq_getElem hlt⟩, Pv (i + 1), fun H' p' => ⟨m - 1, by omega, by omega, p'⟩, ?_⟩
    rintro v H' ⟨rfl, y⟩
    exact hs i v _ (y xs q) p
  · obtain rfl : i = xs.length := by omega
    exact .inl ⟨⟨xs, q, Nat.le_refl _⟩, hd H p⟩
end
section
variable {K : PySem.W.Frag} {σ : L2.St} {H : Hp} {Q : VK}
theorem w_lcTup {tl te : TE} {g : TG} {tt : TT} {vs : List Nat} (q : tl σ H fun x H1 => TupR K x H1 (LcR g tt te vs σ Q)) : tLc (iTup K tl) g tt te vs σ H Q := q
theorem w_lcFM {α β : Type} {RR : V → α → Prop} {tl te : TE} {tt : TT} {j : Nat} {vs : List Nat} {a : Addr} {us : List V} {xs : List α} (p : α → Bool) (f : α → β) (R : Hp → V → β → Prop) (hm : ∀ H1 H2 v y, (∀ p xs, H1 p = some (.tup xs) → H2 p = some (.tup xs)) → R H1 v y → R H2 v y) (hx : SqL K H a us) (hL : Row RR us xs) (hz : us.length ≤ 1000000)
    (htl : ∀ Q : VK, Q (.ref a) H → tl σ H Q) (hw : ∀ v, wipe ((wipe σ vs).set j (some v)) vs = wipe σ vs)
    (ht : ∀ u x H1, x ∈ xs → RR u x → Same H H1 → ∀ S : Bool → Hp → Prop, (∀ H2, Same H1 H2 → S (p x) H2) → tt ((wipe σ vs).set j (some u)) H1 S)
    (he : ∀ u x H1 (Q' : VK), x ∈ xs → RR u x → p x = true → Same H H1 → (∀ v H3, Same H1 H3 → R H3 v (f x) → Q' v H3) → te ((wipe σ vs).set j (some u)) H1 Q')
    (hq : ∀ D acc H', Hs H [(D, .lst acc)] H' → Row (R H') acc ((xs.filter p).map f) → Q (.ref D) H') : tLc (iList K tl) (gName j) tt te vs σ H Q := by
  refine w_lcLR (htl _ (w_listR hx fun D hD => ?_))
  refine turns_list (Body := LcBody (gName j) tt te vs σ D) (fun i H' => ∃ acc, Hs H [(D, .lst acc)] H' ∧ Row (R H') acc (((xs.take i).filter p).map f)) ⟨[], (Hs.start H).new hD, Row.nil⟩ (fun i H' _ ⟨_, h, _⟩ => h.same.seq hx) ?_ ?_
  · rintro i u H' hu ⟨acc, h1, h2⟩
    have hi := (List.getElem?_eq_some_iff.mp hu).1
    obtain ⟨x, hxi, hk⟩ := hL.get hu
    have hxm := List.mem_of_getElem? hxi
    refine w_name ⟨hw _, ht u x H' hxm hk h1.same _ fun H2 sb => ?_⟩
    have h3 := h1.keep sb
    have e1 := take_filter (p := p) hxi
    by_cases hp : p x = true
    · rw [if_pos hp]
      rw [if_pos hp] at e1
      refine he u x H2 _ hxm hk hp h3.same fun v H3 s3 r => ?_
      have hD3 : H3 D = some (.lst acc) := s3 _ _ h3.g0
      have hlt : acc.length ≤ i := by
        have h4 := h2.1
        have h5 := List.length_filter_le p (xs.take i)
        rw [List.length_map] at h4
        rw [List.length_take] at h5
        omega
      refine ⟨acc, hD3, szl (by omega), acc ++ [v], (h3.keep s3).p0 _, ?_⟩
      rw [e1, List.map_append]
      refine Row.mono (fun u x => hm H3 _ u x fun a xs => tup_but hD3 (fun _ z => by cases z) a xs) ((h2.mono fun u x => hm _ _ u x fun a xs e => s3 _ _ (sb _ _ e)).snoc r)
    · rw [if_neg hp]
      rw [if_neg hp, List.append_nil] at e1
      refine ⟨acc, h3, ?_⟩
      rw [e1]
      exact h2.mono fun u x => hm _ _ u x fun a xs e => sb _ _ e
  · rintro H' ⟨acc, h1, h2⟩
    rw [hL.1, List.take_length] at h2
    exact hq D acc H' h1 h2
theorem w_lcFT {α β : Type} {RR : V → α → Prop} {tl te : TE} {tt : TT} {j : Nat} {vs : List Nat} {a : Addr} {us : List V} {xs : List α} (p : α → Bool) (f : α → β) (R : Hp → V → β → Prop) (hm : ∀ H1 H2 v y, (∀ p xs, H1 p = some (.tup xs) → H2 p = some (.tup xs)) → R H1 v y → R H2 v y) (hx : ∀ H1, Same H H1 → SqT K H1 a us) (hL : Row RR us xs) (hz : us.length ≤ 1000000)
    (htl : ∀ Q : VK, Q (.ref a) H → tl σ H Q) (hw : ∀ v, wipe ((wipe σ vs).set j (some v)) vs = wipe σ vs)
    (ht : ∀ u x H1, x ∈ xs → RR u x → Same H H1 → ∀ S : Bool → Hp → Prop, (∀ H2, Same H1 H2 → S (p x) H2) → tt ((wipe σ vs).set j (some u)) H1 S)
    (he : ∀ u x H1 (Q' : VK), x ∈ xs → RR u x → p x = true → Same H H1 → (∀ v H3, Same H1 H3 → R H3 v (f x) → Q' v H3) → te ((wipe σ vs).set j (some u)) H1 Q')
    (hq : ∀ D acc H', Hs H [(D, .lst acc)] H' → Row (R H') acc ((xs.filter p).map f) → Q (.ref D) H') : tLc (iTup K tl) (gName j) tt te vs σ H Q := by
  refine w_lcTup (htl _ (w_tupR (hx H (Same.refl _)) fun D hD => ?_))
  refine turns_tupS (Body := LcBody (gName j) tt te vs σ D) (fun i H' => ∃ acc, Hs H [(D, .lst acc)] H' ∧ Row (R H') acc (((xs.take i).filter p).map f)) ⟨[], (Hs.start H).new hD, Row.nil⟩ (fun i H' _ ⟨_, h, _⟩ => hx _ h.same) ?_ ?_
  · rintro i u H' hu ⟨acc, h1, h2⟩
    have hi := (List.getElem?_eq_some_iff.mp hu).1
    obtain ⟨x, hxi, hk⟩ := hL.get hu
    have hxm := List.mem_of_getElem? hxi
    refine w_name ⟨hw _, ht u x H' hxm hk h1.same _ fun H2 sb => ?_⟩
    have h3 := h1.keep sb
    have e1 := take_filter (p := p) hxi
    by_cases hp : p x = true
    · rw [if_pos hp]
      rw [if_pos hp] at e1
      refine he u x H2 _ hxm hk hp h3.same fun v H3 s3 r => ?_
      have hD3 : H3 D = some (.lst acc) := s3 _ _ h3.g0
      have hlt : acc.length ≤ i := by
        have h4 := h2.1
        have h5 := List.length_filter_le p (xs.take i)
        rw [List.length_map] at h4
        rw [List.length_take] at h5
        omega
      refine ⟨acc, hD3, szl (by omega), acc ++ [v], (h3.keep s3).p0 _, ?_⟩
      rw [e1, List.map_append]
      refine Row.mono (fun u x => hm H3 _ u x fun a xs => tup_but hD3 (fun _ z => by cases z) a xs) ((h2.mono fun u x => hm _ _ u x fun a xs e => s3 _ _ (sb _ _ e)).snoc r)
    · rw [if_neg hp]
      rw [if_neg hp, List.append_nil] at e1
      refine ⟨acc, h3, ?_⟩
      rw [e1]
      exact h2.mono fun u x => hm _ _ u x fun a xs e => sb _ _ e
  · rintro H' ⟨acc, h1, h2⟩
    rw [hL.1, List.take_length] at h2
    exact hq D acc H' h1 h2
theorem rows_str {us : List V} {ys : List Str} (h : Row (fun v y => v = V.str y) us ys) : us = ys.map V.str := by
  refine List.ext_getElem? fun i => ?_
  rw [List.getElem?_map]
  by_cases hi : i < us.length
  · obtain ⟨y, hy, e⟩ := h.get (List.getElem?_eq_getElem hi)
    rw [List.getElem?_eq_getElem hi, hy, e]
    rfl
  · rw [List.getElem?_eq_none (by omega), List.getElem?_eq_none (by have := h.1; omega)]
    rfl
/-- texts joined -/
theorem w_join {sep : Str} {p : Addr} {ys : List Str} {B : Nat} (h : SqL K H p (ys.map V.str) ∨ SqT K H p (ys.map V.str)) (hs : sep.length ≤ 10) (hB : ∀ y ∈ ys, y.length ≤ B) (hn : ys.length * (B + 10) ≤ 1000000) (q : Q (.str (Txt.join sep ys)) H) :
    ∃ (a : Str) (p' : Addr) (zs : List Str), V.str sep = .str a ∧ [V.ref p] = [V.ref p'] ∧ (SqL K H p' (zs.map V.str) ∨ SqT K H p' (zs.map V.str)) ∧ (zs.map (·.length)).sum + zs.length * a.length ≤ 16777216 ∧ Q (.str (Txt.join a zs)) H := by
  refine ⟨sep, p, ys, rfl, rfl, h, ?_, q⟩
  have e : ∀ zs : List Str, (∀ y ∈ zs, y.length ≤ B) → (zs.map (·.length)).sum ≤ zs.length * B := by
    intro zs
    induction zs with
    | nil => exact fun _ => Nat.zero_le _
    | cons z zs ih =>
      intro hz
      have h1 := hz z List.mem_cons_self
      have h2 := ih fun y hy => hz y (List.mem_cons_of_mem _ hy)
      rw [List.map_cons, List.sum_cons, List.length_cons, Nat.succ_mul]
      omega
  have h1 := e ys hB
  have h2 : ys.length * sep.length ≤ ys.length * 10 := Nat.mul_le_mul_left _ hs
  rw [Nat.mul_add] at hn
  omega
theorem w_splitR {x sep : Str} (hs : (sep.length == 0) = false) (hx : x.length ≤ 1000000) (q : ∀ p, H p = none → Q (.ref p) (upd H p (.lst ((Txt.split x sep).map V.str)))) :
    ∃ (a b : Str), V.str x = .str a ∧ [V.str sep] = [V.str b] ∧ (b.length == 0) = false ∧ a.length + 2 ≤ sizeLine ∧ rNewStrs (Txt.split a b) H Q := ⟨x, sep, rfl, rfl, hs, by rw [sizeLine_eq]; omega, q⟩
end
section
variable {K : PySem.W.Frag} {σ : L2.St} {H : Hp} {Q : VK}
theorem w_lcFP {α β : Type} {RP : V → V → α → Prop} {tl te : TE} {tt : TT} {i0 j0 : Nat} {vs : List Nat} {a : Addr} {us : List V} {xs : List α} (p : α → Bool) (f : α → β) (R : Hp → V → β → Prop) (hm : ∀ H1 H2 v y, (∀ p xs, H1 p = some (.tup xs) → H2 p = some (.tup xs)) → R H1 v y → R H2 v y) (hx : SqL K H a us) (hL : Row (fun u x => ∃ p v1 v2, u = V.ref p ∧ H p = some (.tup [v1, v2]) ∧ RP v1 v2 x) us xs) (hz : us.length ≤ 1000000)
    (htl : ∀ Q : VK, Q (.ref a) H → tl σ H Q) (hw : ∀ v u, wipe (((wipe σ vs).set i0 (some v)).set j0 (some u)) vs = wipe σ vs)
    (ht : ∀ v1 v2 x H1, x ∈ xs → RP v1 v2 x → Same H H1 → ∀ S : Bool → Hp → Prop, (∀ H2, Same H1 H2 → S (p x) H2) → tt (((wipe σ vs).set i0 (some v1)).set j0 (some v2)) H1 S)
    (he : ∀ v1 v2 x H1 (Q' : VK), x ∈ xs → RP v1 v2 x → p x = true → Same H H1 → (∀ v H3, Same H1 H3 → R H3 v (f x) → Q' v H3) → te (((wipe σ vs).set i0 (some v1)).set j0 (some v2)) H1 Q')
    (hq : ∀ D acc H', Hs H [(D, .lst acc)] H' → Row (R H') acc ((xs.filter p).map f) → Q (.ref D) H') : tLc (iList K tl) (gTup K 2 (gCons (gName i0) (gCons (gName j0) gNil))) tt te vs σ H Q := by
  refine w_lcLR (htl _ (w_listR hx fun D hD => ?_))
  refine turns_list (Body := LcBody (gTup K 2 (gCons (gName i0) (gCons (gName j0) gNil))) tt te vs σ D) (fun i H' => ∃ acc, Hs H [(D, .lst acc)] H' ∧ Row (R H') acc (((xs.take i).filter p).map f)) ⟨[], (Hs.start H).new hD, Row.nil⟩ (fun i H' _ ⟨_, h, _⟩ => h.same.seq hx) ?_ ?_
  · rintro i u H' hu ⟨acc, h1, h2⟩
    have hi := (List.getElem?_eq_some_iff.mp hu).1
    obtain ⟨x, hxi, hk⟩ := hL.get hu
    have hxm := List.mem_of_getElem? hxi
    obtain ⟨pp, v1, v2, rfl, hpp, hk⟩ := hk
    refine ⟨pp, _, rfl, SqT.of (h1.same _ _ hpp), rfl, ?_⟩
    refine ⟨_, _, rfl, ⟨_, _, rfl, rfl, ?_⟩⟩
    refine ⟨hw _ _, ht v1 v2 x H' hxm hk h1.same _ fun H2 sb => ?_⟩
    have h3 := h1.keep sb
    have e1 := take_filter (p := p) hxi
    by_cases hp : p x = true
    · rw [if_pos hp]
      rw [if_pos hp] at e1
      refine he v1 v2 x H2 _ hxm hk hp h3.same fun v H3 s3 r => ?_
      have hD3 : H3 D = some (.lst acc) := s3 _ _ h3.g0
      have hlt : acc.length ≤ i := by
        have h4 := h2.1
        have h5 := List.length_filter_le p (xs.take i)
        rw [List.length_map] at h4
        rw [List.length_take] at h5
        omega
      refine ⟨acc, hD3, szl (by omega), acc ++ [v], (h3.keep s3).p0 _, ?_⟩
      rw [e1, List.map_append]
      refine Row.mono (fun u x => hm H3 _ u x fun a xs => tup_but hD3 (fun _ z => by cases z) a xs) ((h2.mono fun u x => hm _ _ u x fun a xs e => s3 _ _ (sb _ _ e)).snoc r)
    · rw [if_neg hp]
      rw [if_neg hp, List.append_nil] at e1
      refine ⟨acc, h3, ?_⟩
      rw [e1]
      exact h2.mono fun u x => hm _ _ u x fun a xs e => sb _ _ e
  · rintro H' ⟨acc, h1, h2⟩
    rw [hL.1, List.take_length] at h2
    exact hq D acc H' h1 h2
end
section
variable {K : PySem.W.Frag} {σ : L2.St} {H : Hp} {Q : VK}
theorem w_lcFL {α β : Type} {RR : V → α → Prop} {te : TE} {tt : TT} {j : Nat} {vs : List Nat} {a : Addr} {us : List V} {xs : List α} (p : α → Bool) (f : α → β) (R : Hp → V → β → Prop) (hm : ∀ H1 H2 v y, (∀ p xs, H1 p = some (.tup xs) → H2 p = some (.tup xs)) → R H1 v y → R H2 v y) (hx : SqL K H a us) (hL : Row RR us xs) (hz : us.length ≤ 1000000)
    (hw : ∀ v, wipe ((wipe σ vs).set j (some v)) vs = wipe σ vs)
    (ht : ∀ u x H1, x ∈ xs → RR u x → Same H H1 → ∀ S : Bool → Hp → Prop, (∀ H2, Same H1 H2 → S (p x) H2) → tt ((wipe σ vs).set j (some u)) H1 S)
    (he : ∀ u x H1 (Q' : VK), x ∈ xs → RR u x → p x = true → Same H H1 → (∀ v H3, Same H1 H3 → R H3 v (f x) → Q' v H3) → te ((wipe σ vs).set j (some u)) H1 Q')
    (hq : ∀ D acc H', Hs H [(D, .lst acc)] H' → Row (R H') acc ((xs.filter p).map f) → Q (.ref D) H') : ListR K (.ref a) H (LcR (gName j) tt te vs σ Q) := by
  refine w_listR hx fun D hD => ?_
  refine turns_list (Body := LcBody (gName j) tt te vs σ D) (fun i H' => ∃ acc, Hs H [(D, .lst acc)] H' ∧ Row (R H') acc (((xs.take i).filter p).map f)) ⟨[], (Hs.start H).new hD, Row.nil⟩ (fun i H' _ ⟨_, h, _⟩ => h.same.seq hx) ?_ ?_
  · rintro i u H' hu ⟨acc, h1, h2⟩
    have hi := (List.getElem?_eq_some_iff.mp hu).1
    obtain ⟨x, hxi, hk⟩ := hL.get hu
    have hxm := List.mem_of_getElem? hxi
    refine w_name ⟨hw _, ht u x H' hxm hk h1.same _ fun H2 sb => ?_⟩
    have h3 := h1.keep sb
    have e1 := take_filter (p := p) hxi
    by_cases hp : p x = true
    · rw [if_pos hp]
      rw [if_pos hp] at e1
      refine he u x H2 _ hxm hk hp h3.same fun v H3 s3 r => ?_
      have hD3 : H3 D = some (.lst acc) := s3 _ _ h3.g0
      have hlt : acc.length ≤ i := by
        have h4 := h2.1
        have h5 := List.length_filter_le p (xs.take i)
        rw [List.length_map] at h4
        rw [List.length_take] at h5
        omega
      refine ⟨acc, hD3, szl (by omega), acc ++ [v], (h3.keep s3).p0 _, ?_⟩
      rw [e1, List.map_append]
      refine Row.mono (fun u x => hm H3 _ u x fun a xs => tup_but hD3 (fun _ z => by cases z) a xs) ((h2.mono fun u x => hm _ _ u x fun a xs e => s3 _ _ (sb _ _ e)).snoc r)
    · rw [if_neg hp]
      rw [if_neg hp, List.append_nil] at e1
      refine ⟨acc, h3, ?_⟩
      rw [e1]
      exact h2.mono fun u x => hm _ _ u x fun a xs e => sb _ _ e
  · rintro H' ⟨acc, h1, h2⟩
    rw [hL.1, List.take_length] at h2
    exact hq D acc H' h1 h2
end
/-! ## the parts of a text -/
theorem spl_ne (S : List Nat) : ∀ (l : List Nat) (k : Nat) (acc : List Nat), spl S k acc l ≠ []
  | [], k, acc => by
    rw [spl_nil]
    simp
  | c :: r, 0, acc => by
    cases h : pre S (c :: r) with
    | true =>
      rw [spl_hit h]
      simp
    | false =>
      rw [spl_miss h]
      exact spl_ne S r 0 _
  | c :: r, k + 1, acc => by
    show spl S k acc r ≠ []
    exact spl_ne S r k acc
theorem spl_le (S : List Nat) : ∀ (l : List Nat) (k : Nat) (acc p : List Nat), p ∈ spl S k acc l → p.length ≤ acc.length + l.length
  | [], k, acc, p, h => by
    rw [spl_nil] at h
    rw [List.mem_singleton.mp h]
    exact Nat.le_refl _
  | c :: r, 0, acc, p, h => by
    cases hp : pre S (c :: r) with
    | true =>
      rw [spl_hit hp] at h
      rcases List.mem_cons.mp h with rfl | h
      · exact Nat.le_add_right _ _
      · have := spl_le S r _ [] p h
        rw [List.length_nil] at this
        rw [List.length_cons]
        omega
    | false =>
      rw [spl_miss hp] at h
      have := spl_le S r 0 _ p h
      rw [List.length_append] at this
      rw [List.length_cons]
      have e : [c].length = 1 := rfl
      omega
  | c :: r, k + 1, acc, p, h => by
    have h : p ∈ spl S k acc r := h
    have := spl_le S r k acc p h
    rw [List.length_cons]
    omega
theorem spl_cnt (S : List Nat) : ∀ (l : List Nat) (k : Nat) (acc : List Nat), (spl S k acc l).length ≤ l.length + 1
  | [], k, acc => by
    rw [spl_nil]
    exact Nat.le_refl _
  | c :: r, 0, acc => by
    cases hp : pre S (c :: r) with
    | true =>
      rw [spl_hit hp, List.length_cons, List.length_cons]
      have := spl_cnt S r (S.length - 1) []
      omega
    | false =>
      rw [spl_miss hp, List.length_cons]
      have := spl_cnt S r 0 (acc ++ [c])
      omega
  | c :: r, k + 1, acc => by
    have := spl_cnt S r k acc
    show (spl S k acc r).length ≤ _
    rw [List.length_cons]
    omega
structure Sep (y : Str) (s : Nat) : Prop where
  e : tl y = [s]
  k : y.cps.all (· < 256) = true
theorem Sep.len {y : Str} {s : Nat} (h : Sep y s) : (y.length == 0) = false := by
  rw [len_tl, h.e]
  rfl
theorem split_map {x y : Str} {s : Nat} (h : Sep y s) : (Txt.split x y).map tl = spl [s] 0 [] (tl x) := by
  rw [split_spl x y (by rw [h.e]; simp) (kind_ok h.k), h.e]
theorem split_ne {x y : Str} {s : Nat} (h : Sep y s) : Txt.split x y ≠ [] := fun z => by
  have := split_map (x := x) h
  rw [z] at this
  exact spl_ne [s] (tl x) 0 [] this.symm
theorem split_le {x y : Str} {s : Nat} (h : Sep y s) {p : Str} (hp : p ∈ Txt.split x y) : p.length ≤ x.length := by
  have h1 : tl p ∈ spl [s] 0 [] (tl x) := by
    rw [← split_map h]
    exact List.mem_map_of_mem hp
  have := spl_le _ _ _ _ _ h1
  rw [len_tl, len_tl]
  simpa using this
theorem split_cnt {x y : Str} {s : Nat} (h : Sep y s) : (Txt.split x y).length ≤ x.length + 1 := by
  have := spl_cnt [s] (tl x) 0 []
  rw [← split_map h, List.length_map] at this
  rw [len_tl]
  exact this
theorem sep_space : Sep " " 32 := ⟨by decide +kernel, by decide +kernel⟩
theorem sep_comma : Sep "," 44 := ⟨by decide +kernel, by decide +kernel⟩
theorem sep_semi : Sep ";" 59 := ⟨by decide +kernel, by decide +kernel⟩
theorem sep_colon : Sep ":" 58 := ⟨by decide +kernel, by decide +kernel⟩
def KGetR (K : PySem.W.Frag) (w : World) (x y : V) (H2 : Hp) (Q : VK) : Prop := ∃ (p : Addr) (z : Str) (r : Option V), x = .ref p ∧ y = .str z ∧ KGet K w p z r ∧ Q (r.getD .non) H2
theorem w_kget {K : PySem.W.Frag} {w : World} {td ty : TE} {σ : L2.St} {H : Hp} {Q : VK} (q : td σ H fun x H1 => ty σ H1 fun y H2 => KGetR K w x y H2 Q) : tKGet K w td ty σ H Q := q
end Hb

set_option Elab.async false
set_option linter.all false
set_option maxRecDepth 100000
set_option maxHeartbeats 4000000
/-! A walk over the keys of a written dict; texts cut by places, read at a place. -/
namespace Hb
open PySem PySem.Spec L2 PyProof.Rows TL
/-! ## for x in D, D a dict of the module with text keys -/
def KKeys (K : PySem.W.Frag) (d : Addr) (ts : List Str) : Prop := (d == sysModules) = false ∧ ∃ (es : Array DictEntry) (n : Nat), K.lookup d = some ⟨.type "dict", none, .dict es n, #[]⟩ ∧ Vals (ts.map V.str) (es.toList.map (·.key))
theorem kkeys_mk {K : PySem.W.Frag} {d : Addr} {es : Array DictEntry} {n : Nat} {ks : List Value} {ts : List Str} (h : K.lookup d = some ⟨.type "dict", none, .dict es n, #[]⟩) (hs : (d == sysModules) = false) (e : es.toList.map (·.key) = ks) (r : Vals (ts.map V.str) ks) : KKeys K d ts := by
  subst e
  exact ⟨hs, es, n, h, r⟩
def Itkk (ts : List Str) : It := ⟨fun i _ => i < ts.length, fun i H x H' => H' = H ∧ ∃ z, ts[i]? = some z ∧ x = .str z, fun i _ => ts.length ≤ i⟩
theorem turn_kkeys {P : Program} {w : World} {K : PySem.W.Frag} {tg : Expr} {d : Addr} {ts : List Str} {es : Array DictEntry} {n : Nat} (it : Addr) (hl : K.lookup d = some ⟨.type "dict", none, .dict es n, #[]⟩) (hv : Vals (ts.map V.str) (es.toList.map (·.key))) :
    Turn P w K tg (Itkk ts) [it] it (fun i h => h.IsKeyIter it d i es.size n) where
  mem := by simp
  obj := fun i h st b hb => by
    have e : b = it := by simpa using hb
    subst e
    obtain ⟨oi, e, c, dd⟩ := st
    exact ⟨oi, e, fun v z => by rw [dd] at z; cases z⟩
  keep := fun i h h' st k => st.at fun oi e => k it (by simp) oi e
  item := by
    intro X hP hw hK hc i pins s σ H E I hf st hi
    subst hP hw hK
    obtain ⟨f0, f1, f2, f3, f4, f5⟩ := hf it (by simp)
    have hgd := I.kIn _ _ hl
    have hi : i < ts.length := hi
    have hx : (ts.map V.str)[i]? = some (.str ts[i]) := by rw [List.getElem?_map, List.getElem?_eq_getElem hi]; rfl
    obtain ⟨u, hu, ru⟩ := hv.get hx
    rw [List.getElem?_map] at hu
    obtain ⟨en, hen, rfl⟩ := Option.map_eq_some_iff.mp hu
    have hen' : es[i]? = some en := by rw [← hen]; simp
    refine next_key_item st hgd rfl rfl hen' fun h' st' sb => ?_
    have I1 : Inv X pins σ H { s with heap := h' } := I.turned (t' := s.toks) (fun b ob hb e => (sb.2 b hb).trans e) f0 f1 f3 f4 f5
    obtain ⟨oi, e, c, dd⟩ := id st'
    exact ⟨en.key, rfl, go_of (s := { s with heap := h' }) e c dd (by decide) ⟨.str ts[i], H, I1, ru, ⟨rfl, _, List.getElem?_eq_getElem hi, rfl⟩, st', fun b hb => (hf b hb).1⟩⟩
  done := by
    intro X hP hw hK hc i pins s σ H E I hf st hi
    subst hP hw hK
    obtain ⟨f0, f1, f2, f3, f4, f5⟩ := hf it (by simp)
    have hgd := I.kIn _ _ hl
    have hi : ts.length ≤ i := hi
    have l1 := hv.length
    rw [List.length_map, List.length_map] at l1
    have l2 : es.toList.length = es.size := Array.length_toList
    exact next_key_end (I.ok.hd hc) st hgd rfl rfl (by omega) fun h' eb => ⟨rfl, I.turned (t' := s.toks) (fun b ob hb e => eb b ob hb e) f0 f1 f3 f4 f5⟩
  self := fun A i s Q E st h => wpAny_pyIter_keyiter st h
def iKKeys (K : PySem.W.Frag) (td : TE) : TI := fun σ H R => td σ H fun x H1 => ∃ d ts, x = .ref d ∧ KKeys K d ts ∧ R (Itkk ts) H1
theorem pi_kkeys {X : Cx} {K : PySem.W.Frag} {tg e : Expr} {td : TE} (he : PE X e td) (hK : X.K = K := by rfl) : PI X tg e (iKKeys K td) := by
  subst hK
  refine ⟨fun pins s σ H R I h => ?_⟩
  refine thn (he.run pins s σ H _ I h) fun u s1 ⟨x, H1, I1, rx, d, ts, ex, ⟨hs, es, n, hl, hv⟩, q⟩ => ?_
  subst ex
  obtain rfl : u = Value.ref d := rx
  exact iter_keys hs (I1.kIn _ _ hl) ⟨rfl, rfl, rfl⟩ rfl (pi_one (tk := s1.toks) I1 _ (turn_kkeys _ hl hv) ⟨_, Heap.get?_push_size _ rfl, rfl, rfl⟩ q)
theorem for_kk {σ : L2.St} {H : Hp} {D : Ends} {g : TG} {tb : TS} {ts : List Str} (Pv : Nat → L2.St → Hp → Prop) (h0 : Pv 0 σ H)
    (hs : ∀ i z σ H, ts[i]? = some z → Pv i σ H → g (.str z) σ H fun σ2 H2 => tb { D with nx := Pv (i + 1), ct := Pv (i + 1), bk := D.nx } σ2 H2) (hd : ∀ σ H, Pv ts.length σ H → D.nx σ H) : ForR g tb D σ (Itkk ts) H := by
  refine ⟨fun i m σ H => m + i = ts.length ∧ Pv i σ H, ⟨_, rfl, h0⟩, ?_⟩
  rintro i m σ' H' ⟨hm, p⟩
  by_cases hlt : i < ts.length
  · refine .inr ⟨hlt, Pv (i + 1), fun σ2 H2 p2 => ⟨m - 1, by omega, by omega, p2⟩, ?_⟩
    rintro v H2 ⟨rfl, z, hz, rfl⟩
    exact hs i z _ _ hz p
  · obtain rfl : i = ts.length := by omega
    exact .inl ⟨Nat.le_refl _, hd σ' H' p⟩
/-- what is walked is known -/
def KkR (K : PySem.W.Frag) (x : V) (H : Hp) (R : It → Hp → Prop) : Prop := ∃ d ts, x = .ref d ∧ KKeys K d ts ∧ R (Itkk ts) H
theorem w_forKK {K : PySem.W.Frag} {σ : L2.St} {H : Hp} {D : Ends} {td : TE} {g : TG} {tb : TS} (q : td σ H fun x H1 => KkR K x H1 fun J H2 => ForR g tb D σ J H2) : tFor (iKKeys K td) g tb D σ H := q
theorem w_kkR {K : PySem.W.Frag} {d : Addr} {ts : List Str} {H : Hp} {R : It → Hp → Prop} (h : KKeys K d ts) (q : R (Itkk ts) H) : KkR K (.ref d) H R := ⟨d, ts, rfl, h, q⟩
/-! ## a text at a place -/
theorem tl_cut (x : Str) (i n : Nat) : tl (cutS x (some (i : Int)) (some ((i + n : Nat) : Int))) = ((tl x).drop i).take n := by
  show (((tl x).drop (HT.sIx x.length 0 (some (i : Int)))).take (HT.sIx x.length x.length (some ((i + n : Nat) : Int)) - HT.sIx x.length 0 (some (i : Int)))) = _
  rw [HT.sIx_nat, HT.sIx_nat, len_tl]
  by_cases h : i ≤ (tl x).length
  · rw [Nat.min_eq_left h]
    by_cases h2 : i + n ≤ (tl x).length
    · rw [Nat.min_eq_left h2, Nat.add_sub_cancel_left]
    · rw [Nat.min_eq_right (by omega), List.take_of_length_le, List.take_of_length_le]
      · rw [List.length_drop]; omega
      · rw [List.length_drop]; omega
  · rw [List.drop_of_length_le (by omega : (tl x).length ≤ i), List.drop_of_length_le (by omega)]
    simp
theorem tl_cutTo (x : Str) (i : Nat) : tl (cutS x none (some (i : Int))) = (tl x).take i := by
  show (((tl x).drop (HT.sIx x.length 0 none)).take (HT.sIx x.length x.length (some (i : Int)) - HT.sIx x.length 0 none)) = _
  rw [HT.sIx_nat, HT.sIx_none, List.drop_zero, Nat.sub_zero, len_tl, take_min]
theorem tl_cutFrom (x : Str) (i : Nat) : tl (cutS x (some (i : Int)) none) = (tl x).drop i := by
  show (((tl x).drop (HT.sIx x.length 0 (some (i : Int)))).take (HT.sIx x.length x.length none - HT.sIx x.length 0 (some (i : Int)))) = _
  rw [HT.sIx_nat, HT.sIx_none, len_tl, drop_min]
  by_cases h : i ≤ (tl x).length
  · rw [Nat.min_eq_left h, List.take_of_length_le]
    rw [List.length_drop]
    exact Nat.le_refl _
  · rw [List.drop_of_length_le (by omega)]
    simp
theorem pre_take (S l : List Nat) : pre S l = decide (l.take S.length = S) := by
  unfold pre
  by_cases h : l.take S.length = S
  · rw [decide_eq_true h]
    simp [h]
  · rw [decide_eq_false h]
    simpa using h
theorem pre_len {S l : List Nat} (h : pre S l = true) : S.length ≤ l.length := by
  rw [pre_take, decide_eq_true_iff] at h
  have := congrArg List.length h
  rw [List.length_take] at this
  omega
theorem pre_split {S l : List Nat} (h : pre S l = true) : l = S ++ l.drop S.length := by
  rw [pre_take, decide_eq_true_iff] at h
  have := List.take_append_drop S.length l
  rw [h] at this
  exact this.symm
theorem pre_app (S r : List Nat) : pre S (S ++ r) = true := by
  rw [pre_take]
  simp
theorem starts3 (x y : Str) (i : Nat) (h : i ≤ x.length) : Txt.startswith3 x y (i : Int) = pre (tl y) ((tl x).drop i) := by
  have e : fromIndex x.length (i : Int) = i := by
    unfold fromIndex
    rw [if_neg (by omega)]
    omega
  unfold Txt.startswith3
  rw [e, pre_take]
  unfold Builtin.Str.subAt
  have e1 : (x.cps.extract i (i + y.length)).toList = ((tl x).drop i).take (tl y).length := by
    rw [Array.toList_extract, len_tl y]
    simp [List.extract_eq_take_drop]
  by_cases hh : ((tl x).drop i).take (tl y).length = tl y
  · rw [decide_eq_true hh, Bool.and_eq_true]
    refine ⟨decide_eq_true ?_, beq_iff_eq.mpr (Array.toList_inj.mp (e1.trans hh))⟩
    have := congrArg List.length hh
    rw [List.length_take, List.length_drop] at this
    have hx := len_tl x
    have hy := len_tl y
    omega
  · rw [decide_eq_false hh, Bool.and_eq_false_iff]
    refine .inr (beq_eq_false_iff_ne.mpr fun z => hh ?_)
    rw [← e1, z]
theorem w_slS {H : Hp} {Q : VK} {x : Str} {lo hi : Option Int} (h : x.length ≤ 1000000) (q : Q (.str (cutS x lo hi)) H) : rSlS (.str x) lo hi H Q := ⟨x, rfl, sz h, q⟩
theorem at_ofA {α : Type} {xs : List α} {z : Int} {j : Nat} {v : α} (e : z = (j : Int)) (h : xs[j]? = some v) : atI xs z = some v := by
  rw [e]
  have hj := (List.getElem?_eq_some_iff.mp h).1
  unfold atI ixN
  rw [if_pos (by omega), if_pos (by omega)]
  simpa using h
theorem w_ixS {H : Hp} {Q : VK} {x : Str} {i : Nat} {c : Nat} {j : Int} (h : x.length ≤ 1000000) (e : j = (i : Int)) (hc : (tl x)[i]? = some c) (q : Q (.str ⟨#[c]⟩) H) : rIxS (.str x) (.int j) H Q := ⟨x, j, c, rfl, rfl, sz h, at_ofA e hc, q⟩
end Hb

set_option Elab.async false
set_option linter.all false
set_option maxRecDepth 100000
set_option maxHeartbeats 4000000
/-! Dicts with tuple keys: != of two that map alike, a walk over {**a, **b}, repr of one; list(zip(a, b)). -/
namespace Hb
open PySem PySem.Spec L2 PyProof.Rows TL
/-! ## two dicts that map alike -/
section
variable {prog : Program} {w : World} {KT : Type} [DecidableEq KT] {knd : HeapKind prog w KT} {A : Around} {E : Value → Shared → Prop} {s : Shared}
/-- each pair of the one stands in the other -/
def Alike (A : Around) (s : Shared) (xs ys : List (KT × Addr × Value)) : Prop := ∀ x ∈ xs, ∃ (j : Nat) (b : Addr) (v : Value), ys[j]? = some (x.1, b, v) ∧ SeqAt.EqAt A s x.2.2 v true
theorem same_heap {nm : String} {a b : Addr} {xs ys : List (KT × Addr × Value)} {Q : Bool → Shared → Prop} (hu : knd.room A) (ha : (a == sysModules) = false) (hb : (b == sysModules) = false) (da : s.heap.DictOfH knd a xs) (db : s.heap.DictOfH knd b ys) (hl : xs.length = ys.length) (al : Alike A s xs ys) (h : Q true s) : wpAny (model prog w) A (Builtin.Dict.samePairs nm a b) Q E s := by
  obtain ⟨oa, esa, epa, hoa, _, hda, hea, hia, hna⟩ := da
  obtain ⟨ob, esb, epb, hob, _, hdb, heb, hib, hnb⟩ := db
  have la := size_of_entries hea
  have lb := size_of_entries heb
  have lab : esa.size = esb.size := by omega
  unfold Builtin.Dict.samePairs Builtin.Dict.showsAll
  rw [if_neg (by rw [ha]; decide), if_neg (by rw [hb]; decide)]
  refine wpAny_bind (wpAny_pure (wpAny_bind (wpAny_pure (wpAny_bind (wpAny_dictEntries hoa hda ?_)))))
  dsimp only
  refine wpAny_bind (wpAny_dictEntries hob hdb ?_)
  rw [if_neg (by rw [lab]; simp)]
  refine wpAny_bind (wpAny_dictEpoch hoa hda (wpAny_bind ?_))
  rw [Std.Legacy.Range.forIn_eq_forIn_range']
  simp only [Std.Legacy.Range.size, Nat.sub_zero, Nat.add_sub_cancel, Nat.div_one]
  refine wpAny_forIn_list _ (fun rest q s' => s' = s ∧ q = (none, ()) ∧ ∃ i, i ≤ esa.size ∧ rest = List.range' i (esa.size - i)) _ ?_ ?_ _ _ ⟨rfl, rfl, 0, Nat.zero_le _, by simp⟩
  · rintro x rest q s' ⟨rfl, rfl, i, hi, hr⟩
    have hlt : i < esa.size := by
      apply Classical.byContradiction
      intro z
      rw [Nat.sub_eq_zero_of_le (Nat.le_of_not_lt z)] at hr
      cases hr
    obtain ⟨n, hn⟩ : ∃ n, esa.size - i = n + 1 := ⟨esa.size - i - 1, by omega⟩
    rw [hn, List.range'_succ] at hr
    obtain ⟨rfl, hrest⟩ := List.cons.inj hr
    obtain ⟨⟨k, c, v⟩, hx⟩ : ∃ p, xs[x]? = some p := ⟨xs[x]'(by omega), List.getElem?_eq_getElem _⟩
    obtain ⟨j, c2, v2, hj, heq⟩ := al _ (List.mem_of_getElem? hx)
    refine wpAny_bind (wpAny_dictEntries hoa hda ?_)
    rw [entry_at hea x, hx]
    show wpAny _ _ (holding [.ref c, v] _ >>= _) _ _ _
    refine wpAny_bind (wpAny_holding (wpAny_bind (wpAny_dictFind_heap hu (hia _ (List.mem_of_getElem? hx)) hob hdb heb hib hnb ?_ ?_)))
    · intro z
      exact absurd hj (z j (c2, v2))
    · intro j2 p hj2
      have ej : j2 = j := by
        have e1 : (ys.map (·.1))[j2]? = some k := by rw [List.getElem?_map, hj2]; rfl
        have e2 : (ys.map (·.1))[j]? = some k := by rw [List.getElem?_map, hj]; rfl
        exact nd_ix hnb e1 e2
      subst ej
      refine wpAny_bind (wpAny_dictEntries hob hdb ?_)
      rw [entry_at heb j2, hj]
      show wpAny _ _ (holding [v2] (eqBool v v2)) _ _ _
      refine wpAny_holding (heq prog w _ _ ?_)
      show wpAny _ _ (if (!true) = true then _ else _) _ _ _
      rw [if_neg (by decide)]
      refine wpAny_bind (wpAny_dictEpoch hoa hda ?_)
      rw [if_neg (by simp)]
      exact wpAny_pure ⟨rfl, rfl, x + 1, hlt, by rw [hrest, show n = esa.size - (x + 1) by omega]⟩
  · rintro q s' ⟨rfl, rfl, _⟩
    exact wpAny_pure h
theorem ne_heap {a b : Addr} {xs ys : List (KT × Addr × Value)} {Q : Value → Shared → Prop} (hr : knd.room A.in1) (hu : A.units < cLine) (ha : (a == sysModules) = false) (hb : (b == sysModules) = false) (da : s.heap.DictOfH knd a xs) (db : s.heap.DictOfH knd b ys) (hl : xs.length = ys.length) (al : Alike A.in1 s xs ys) (h : Q (.bool false) s) : wpAny (model prog w) A (compareOp .NotEq (.ref a) (.ref b)) Q E s := by
  refine wpAny_richCompare_same_room (op := .NotEq) da.typeIs db.typeIs PySem.F.slot_dict_ne (wpAny_call_entry PySem.F.slot_dict_ne da.typeIs PySem.F.entry_dict_ne ?_ (PySem.F.args_dict_ne_2 _ _)) hu
  show wpAny _ _ (Builtin.Dict.dictSlotArgs "__ne__" ⟨[.ref a, .ref b], []⟩ >>= _) _ _ s
  refine wpAny_bind ?_
  unfold Builtin.Dict.dictSlotArgs
  refine wpAny_bind (wpAny_notOrdered_dict da.typeIs (wpAny_pure (wpAny_bind (wpAny_isInstance (T := "dict") db.typeIs PySem.F.sub_dict_dict ?_))))
  simp only [Bool.not_true, Bool.false_eq_true, if_false]
  refine wpAny_bind (wpAny_pure (wpAny_bind (wpAny_pure (wpAny_bind (same_heap hr ha hb da db hl al (wpAny_pure ⟨_, rfl, fun x => (nomatch x), ?_⟩))))))
  exact h
end
section
variable {X : Cx} {w : World}
theorem eq_ints {A : Around} {s : Shared} {i : Int} {t u : Tok} : SeqAt.EqAt A s (.int i t) (.int i u) true := by
  have := PySem.W.keq_flat (A := A) (s := s) (v := .int i t) (y := .int i u) (d := .int i) (e := .int i) (.int i t) (.int i u)
  have e : PyData.eqv (.int i) (.int i) = true := SeqAt.eqv_refl _ rfl
  rwa [e] at this
/-- != of two dicts with int values that map alike -/
def rNeND (w : World) : R2 := fun x y H Q => ∃ (a b : Addr) (es fs : List Ent) (M N : GM), x = .ref a ∧ y = .ref b ∧ H a = some (DN w a es) ∧ H b = some (DN w b fs) ∧ EntG H es M ∧ EntG H fs N ∧ M.length = N.length ∧ (∀ e ∈ M, ∃ i : Int, e.2 = .int i ∧ valG N e.1 = some (.int i)) ∧ Q (.bl false) H
theorem entG_of {H : Hp} {es : List Ent} {M : GM} (h : EntG H es M) {i : Nat} {e : Ent} (he : es[i]? = some e) : ∃ x, M[i]? = some x ∧ e.1 = nkK x.1 ∧ e.2.2 = x.2 ∧ KAt H e.2.1 x.1 := by
  obtain ⟨b, h1, h2⟩ := paired_get h he
  exact ⟨b, h1, h2⟩
theorem op_neND (hu : X.A.units + 65 < cLine) (hw : X.w = w := by rfl) : OpR X (compareOp .NotEq) (rNeND w) := by
  subst hw
  intro pins s σ H x y v u Q I rx ry h
  obtain ⟨a, b, es, fs, M, N, rfl, rfl, ha, hb, hM, hN, hl, hal, q⟩ := h
  cases (show v = Value.ref a from rx)
  cases (show u = Value.ref b from ry)
  obtain ⟨_, sa, xs, r1, d1⟩ := dn_of I.hok ha hM.ok
  obtain ⟨_, sb, ys, r2, d2⟩ := dn_of I.hok hb hN.ok
  refine ne_heap (n_room (by show X.A.units + 64 < cLine; omega)) (by omega) sa sb d1 d2 ?_ ?_ ⟨.bl false, H, I, rfl, q⟩
  · rw [← r1.len, ← r2.len, hM.len, hN.len, hl]
  · intro x hx
    obtain ⟨i, hi⟩ := List.getElem?_of_mem hx
    obtain ⟨e, he, hre⟩ : ∃ e, es[i]? = some e ∧ RelE e x := by
      have := Paired.length r1
      have hlt : i < es.length := by
        have := (List.getElem?_eq_some_iff.mp hi).1
        omega
      obtain ⟨y, hy, hr⟩ := paired_get r1 (List.getElem?_eq_getElem hlt)
      rw [hi] at hy
      cases hy
      exact ⟨_, List.getElem?_eq_getElem hlt, hr⟩
    obtain ⟨m, hm, k1, k2, _⟩ := entG_of hM he
    obtain ⟨n, hn1, hn2⟩ := hal m (List.mem_of_getElem? hm)
    have hv := hN.at m.1
    rw [hn2] at hv
    have hatk := r2.at (nkK m.1)
    rw [hv] at hatk
    obtain ⟨z, hz, hrz⟩ := RelO.some_of (v := .int n) (o := (atKey ys (nkK m.1)).map (·.2)) hatk
    obtain ⟨p, hp, hp2⟩ := Option.map_eq_some_iff.mp hz
    unfold atKey at hp
    obtain ⟨y, hy, hyp⟩ := Option.map_eq_some_iff.mp hp
    obtain ⟨j, hj⟩ := List.getElem?_of_mem (List.mem_of_find?_eq_some hy)
    have hyk := List.find?_some hy
    obtain ⟨t1, ht1⟩ := (show ∃ t, x.2.2 = Value.int n t from by
      have := hre.2.2
      rw [k2, hn1] at this
      exact this)
    obtain ⟨t2, ht2⟩ := (show ∃ t, z = Value.int n t from hrz)
    refine ⟨j, y.2.1, y.2.2, ?_, ?_⟩
    · rw [hj]
      have : y.1 = x.1 := by
        rw [of_decide_eq_true hyk, ← k1, hre.1]
      rw [← this]
    · rw [ht1]
      have : y.2.2 = z := by rw [← hp2, ← hyp]
      rw [this, ht2]
      exact eq_ints
end
/-! ## repr of a list of two data and such a dict -/
/-- ends and their numbers -/
abbrev EM := List ((Int × Int) × Int)
abbrev kE (e : Int × Int) : IK := [Sum.inl e.1, Sum.inl e.2]
abbrev gmI (L : EM) : GM := L.map fun e => (kE e.1, V.int e.2)
def kvI (L : EM) : List (PyData × PyData) := L.map fun e => (.tuple [.int e.1.1, .int e.1.2], .int e.2)
theorem reads_ints {h : Heap} : ∀ {ns : List Int} {us : List Value}, Vals (ns.map V.int) us → ReadsAll h us (ns.map PyData.int) []
  | [], us, r => by
    cases r
    exact .nil
  | n :: ns, us, r => by
    cases r with
    | cons r1 r2 =>
      obtain ⟨t, rfl⟩ := r1
      exact .cons (Reads.int n t) (reads_ints r2)
theorem kv_all {p : PyData → Bool} {q : List (PyData × PyData) → Bool} (hn : q [] = true) (hc : ∀ a b r, q ((a, b) :: r) = (p a && p b && q r)) : ∀ {kvs : List (PyData × PyData)}, (∀ e ∈ kvs, p e.1 = true ∧ p e.2 = true) → q kvs = true
  | [], _ => hn
  | (a, b) :: r, h => by
    have h1 := h (a, b) List.mem_cons_self
    rw [hc, h1.1, h1.2, kv_all hn hc fun e he => h e (List.mem_cons_of_mem _ he)]
    rfl
theorem kvI_depth : ∀ L : EM, PyData.depthKv (kvI L) ≤ 1
  | [] => Nat.zero_le _
  | e :: L => by
    have := kvI_depth L
    show PyData.depthKv ((_, _) :: kvI L) ≤ 1
    simp only [PyData.depthKv, PyData.depth, PyData.depthAll]
    omega
theorem kvI_bulk : ∀ L : EM, PyData.bulkKv (kvI L) ≤ 4 * L.length
  | [] => Nat.zero_le _
  | e :: L => by
    have := kvI_bulk L
    show PyData.bulkKv ((_, _) :: kvI L) ≤ 4 * (L.length + 1)
    simp only [PyData.bulkKv, PyData.bulk, PyData.bulkAll]
    omega
def imOk (L : EM) : Prop := ∀ e ∈ L, IB e.1.1 ∧ IB e.1.2 ∧ IB e.2
theorem kvI_show {L : EM} (h : imOk L) : (PyData.dict (kvI L)).showable = true ∧ (PyData.dict (kvI L)).leavesShort 13 = true := by
  have key : ∀ e ∈ kvI L, (e.1.showable = true ∧ e.2.showable = true) ∧ (e.1.leavesShort 13 = true ∧ e.2.leavesShort 13 = true) := fun e he => by
    obtain ⟨x, hx, rfl⟩ := List.mem_map.mp he
    obtain ⟨a, b, c⟩ := h x hx
    have s := Sh.tup (ShA.cons (Sh.int a) (ShA.cons (Sh.int b) (ShA.nil (b := 0))))
    have t := Sh.int c
    exact ⟨⟨s.sho, t.sho⟩, ⟨s.lvs, t.lvs⟩⟩
  refine ⟨?_, ?_⟩
  · simp only [PyData.showable]
    exact kv_all (p := PyData.showable) (q := PyData.showableKv) (by simp [PyData.showableKv]) (fun a b r => by simp only [PyData.showableKv]) fun e he => (key e he).1
  · simp only [PyData.leavesShort]
    exact kv_all (p := PyData.leavesShort 13) (q := PyData.leavesShortKv 13) (by simp [PyData.leavesShortKv]) (fun a b r => by simp only [PyData.leavesShortKv]) fun e he => (key e he).2
section
variable {X : Cx} {w : World}
theorem dn_reads {pins : List (Addr × Obj)} {σ : L2.St} {H : Hp} {s : Shared} (I : Inv X pins σ H s) (hw : X.w = w) {r : Addr} {es : List Ent} {L : EM} (h : H r = some (DN w r es)) (e : EntG H es (gmI L)) : (r == sysModules) = false ∧ Reads s.heap (.ref r) (.dict (kvI L)) [r] := by
  subst hw
  obtain ⟨⟨_, sr, xs, rel, o, ds, ep, h1, h2, h3, h4, _⟩, _, _⟩ := (show ObjOk X.prog X.w H s.heap r (DN X.w r es) from I.hok _ _ h)
  refine ⟨sr, ?_⟩
  have key : ∀ {xs : List (NestedKey × Addr × Value)} {es : List Ent} {L : EM}, RelEs es xs → EntG H es (gmI L) → ReadsAll s.heap (xs.map fun x => Value.ref x.2.1) ((kvI L).map (·.1)) [] ∧ ReadsAll s.heap (xs.map fun x => x.2.2) ((kvI L).map (·.2)) [] := by
    intro xs
    induction xs with
    | nil =>
      intro es L rel e
      cases rel
      cases L with
      | nil => exact ⟨.nil, .nil⟩
      | cons z L => cases e
    | cons x xs ih =>
      intro es L rel e
      cases rel with
      | cons r1 r2 =>
        cases L with
        | nil => cases e
        | cons z L =>
          cases e with
          | cons e1 e2 =>
            obtain ⟨i1, i2⟩ := ih r2 e2
            refine ⟨?_, ?_⟩
            · have hk := kat_ints_inv (ns := [z.1.1, z.1.2]) e1.2.2
              obtain ⟨its, rv, ⟨o, ho, hc, n, hd⟩, _⟩ := I.tuple (SqT.of hk)
              have ha := reads_ints (h := s.heap) rv
              have ht : Reads s.heap (.ref x.2.1) (.tuple [.int z.1.1, .int z.1.2]) [] := by
                rw [← r1.2.1]
                exact Reads.tuple ho hc hd (by simpa using ha)
              exact .cons ht i1
            · have hv := r1.2.2
              rw [e1.2.1] at hv
              obtain ⟨t, ht⟩ := (show ∃ t, x.2.2 = Value.int z.2 t from hv)
              show ReadsAll s.heap (x.2.2 :: _) _ _
              rw [ht]
              exact .cons (Reads.int z.2 t) i2
  obtain ⟨k1, k2⟩ := key rel e
  have e1 : ds.toList.map (·.key) = xs.map fun x => Value.ref x.2.1 := by rw [h4, List.map_map]; rfl
  have e2 : ds.toList.map (·.val) = xs.map fun x => x.2.2 := by rw [h4, List.map_map]; rfl
  have := Reads.dict (h := s.heap) (a := r) (kvs := kvI L) h1 h2.1 h3 (by rw [e1]; exact k1) (by rw [e2]; exact k2)
  simpa using this
def rReprR (K : PySem.W.Frag) (w : World) : List V → Hp → VK → Prop := fun xs H Q => ∃ (l r : Addr) (x1 x2 : V) (d1 d2 : PyData) (b1 b2 : Nat) (es : List Ent) (L : EM), xs = [.ref l] ∧ H l = some (.lst [x1, x2, .ref r]) ∧ Dp K H x1 d1 ∧ Dp K H x2 d2 ∧ Sh 50 b1 d1 ∧ Sh 50 b2 d2 ∧ H r = some (DN w r es) ∧ EntG H es (gmI L) ∧ imOk L ∧ L.length ≤ 1000 ∧ b1 ≤ 100000 ∧ b2 ≤ 100000 ∧ Q (.str (PyData.list [d1, d2, .dict (kvI L)]).shown) H
theorem call_reprR (hg : X.A.guards = some []) (hu : X.A.units + 64 < cLine) (hw : X.w = w := by rfl) : CallR X (.builtin "repr") (rReprR X.K w) := by
  rintro pins s σ H xs us Q I r ⟨l, rr, x1, x2, d1, d2, b1, b2, es, L, rfl, hl, hd1, hd2, s1, s2, hr, he, hok, hL, z1, z2, q⟩
  rw [Vals.ref1 r]
  obtain ⟨sr, rd3⟩ := dn_reads I hw hr he
  obtain ⟨its, rv, ⟨o, n, ho, hc, _, hd⟩, _⟩ := I.list (SqL.of hl)
  cases rv with
  | @cons _ u1 _ _ r1 rv =>
    cases rv with
    | @cons _ u2 _ _ r2 rv =>
      cases rv with
      | @cons _ u3 _ _ r3 rv =>
        cases rv
        cases (show u3 = Value.ref rr from r3)
        obtain ⟨as1, rd1⟩ := Dp.reads I d1 _ _ hd1 r1
        obtain ⟨as2, rd2⟩ := Dp.reads I d2 _ _ hd2 r2
        obtain ⟨sh3, lv3⟩ := kvI_show hok
        have bk3 := kvI_bulk L
        have hall : ReadsAll s.heap [u1, u2, .ref rr] [d1, d2, .dict (kvI L)] (as1 ++ (as2 ++ ([rr] ++ []))) := .cons rd1 (.cons rd2 (.cons rd3 .nil))
        have lvl : (PyData.list [d1, d2, .dict (kvI L)]).leavesShort 13 = true := by
          simp only [PyData.leavesShort, PyData.leavesShortAll]
          simp only [PyData.leavesShort] at lv3
          rw [s1.lvs, s2.lvs, lv3]
          rfl
        have blk : (PyData.list [d1, d2, .dict (kvI L)]).bulk ≤ 2 ^ 20 := by
          have h1 := s1.blk
          have h2 := s2.blk
          simp only [PyData.bulk, PyData.bulkAll]
          omega
        have hsz := PyData.shown_fits_bulk (B := 13) (by decide) (by decide) lvl blk
        simp only [PyData.shown, PyData.shownAll] at hsz
        have le := fun t ht => Nat.le_trans (listText_mem_le (ts := [d1.shown, d2.shown, (PyData.dict (kvI L)).shown]) (t := t) ht) (by simpa only [PyData.shown] using hsz)
        obtain ⟨bs1, hb1, k1⟩ := ReprK.of_reads (prog := X.prog) (w := X.w) rd1 s1.sho (PyData.noDict_hsm (PyData.hasDict_of_canLay d1 s1.lay)) (le _ (by simp))
        obtain ⟨bs2, hb2, k2⟩ := ReprK.of_reads (prog := X.prog) (w := X.w) rd2 s2.sho (PyData.noDict_hsm (PyData.hasDict_of_canLay d2 s2.lay)) (le _ (by simp))
        obtain ⟨bs3, hb3, k3⟩ := ReprK.of_reads (prog := X.prog) (w := X.w) rd3 sh3 (fun _ hm => by
          rw [List.mem_singleton.mp hm] at sr
          simp at sr) (le _ (by simp))
        have dp3 := kvI_depth L
        have dp1 := s1.dep
        have dp2 := s2.dep
        have d3 : (PyData.dict (kvI L)).depth ≤ 50 := by
          simp only [PyData.depth]
          omega
        have hb : ReadAtMost s.heap (max d1.depth (max d2.depth (PyData.dict (kvI L)).depth)) (bs1 ++ (bs2 ++ bs3)) :=
          (hb1.mono (by omega)).append ((hb2.mono (by omega)).append (hb3.mono (by omega)))
        have rl : Reads s.heap (.ref l) (.list [d1, d2, .dict (kvI L)]) _ := Reads.list ho hc hd (by simpa using hall)
        have hna : l ∉ bs1 ++ (bs2 ++ bs3) := not_mem_of_deeper rl (by simp only [PyData.depth, PyData.depthAll]; omega) hb
        have ka : ReprAllK X.prog X.w (bs1 ++ (bs2 ++ bs3)) s.heap (max d1.depth (max d2.depth (PyData.dict (kvI L)).depth)) [u1, u2, .ref rr] [d1.shown, d2.shown, (PyData.dict (kvI L)).shown] :=
          .cons ((k1.more fun b hb => by simp [hb]).level_le (by omega)) (.cons ((k2.more fun b hb => by simp [hb]).level_le (by omega)) (.cons ((k3.more fun b hb => by simp [hb]).level_le (by omega)) .nil))
        refine call_repr_slot (T := "list") (idr := "list.__repr__") (by omega) ⟨o, ho, hc⟩ F.slot_list_repr.toG (call_list_reprK (A := X.A.in1) ho hc hd hna rfl (fun i y e => ka.item i y (by simpa using e)) hg (fun b _ => Clear.nil b) (by show X.A.units + 1 + _ < cLine; omega) (fun _ _ e => e) (fun h' u tk hk => ?_) (by simpa only [PyData.shown] using hsz))
        refine ⟨_, _, rfl, .str _, H, I.kept (t' := tk) hk, ⟨_, rfl⟩, ?_⟩
        simpa only [PyData.shown, PyData.shownAll] using q
end
theorem call_reprRK {X : Cx} {K : PySem.W.Frag} {w : World} (hg : X.A.guards = some [] := by rfl) (hu : X.A.units + 64 < cLine := by assumption) (hK : X.K = K := by rfl) (hw : X.w = w := by rfl) : CallR X (.builtin "repr") (rReprR K w) := by
  subst hK
  exact call_reprR hg hu hw
end Hb

set_option Elab.async false
set_option linter.all false
set_option maxRecDepth 100000
set_option maxHeartbeats 4000000
/-! {**a, **b}: two dicts with tuple keys laid into a new one, whose keys are walked; list(zip(a, b)). -/
namespace Hb
open PySem PySem.Spec L2 PyProof.Rows TL
section
variable {prog : Program} {w : World} {KT : Type} [DecidableEq KT] {knd : HeapKind prog w KT} {A : Around} {E : Value → Shared → Prop} {s : Shared}
theorem put_heap {d a : Addr} {xs : List (KT × Addr × Value)} {k : KT} {v : Value} {Q : Unit → Shared → Prop} (hu : knd.room A) (hkey : knd.is s.heap k a) (hm : s.heap.DictOfH knd d xs) (hz : xs.length ≤ sizeLine)
    (hQ : ∀ h', h'.DictOfH knd d (storedH xs k a v) → Heap.SameBut d s.heap h' → Q () { s with heap := h' }) : wpAny (model prog w) A (dictPut d (knd.hash k) (.ref a) v) Q E s := by
  obtain ⟨o, es, ep, ho, hc, hd, he, his, hn⟩ := hm
  unfold dictPut
  refine wpAny_bind (wpAny_dictFind_heap hu hkey ho hd he his hn (fun no => ?_) fun j p hj => ?_)
  · refine wpAny_updateDictKeys (hz := by have e := size_of_entries he; omega) ho hd (hQ _ ⟨_, _, ep + 1, Heap.get?_update_self _ ho (Obj.isFreed_of_dict (Obj.data_mapDictKeys hd _)), hc.mapDictKeys _, Obj.data_mapDictKeys hd _, ?_, ?_, ?_⟩ (Heap.SameBut.update ..))
    · rw [storedH_new (atKey_none_of_get no), Array.toList_push, he, List.map_append]
      rfl
    · rw [storedH_new (atKey_none_of_get no)]
      intro x hx
      rcases List.mem_append.mp hx with hx | hx
      · exact knd.keeps (his x hx) ho hd (Heap.SameBut.update ..)
      · rw [List.mem_singleton.mp hx]
        exact knd.keeps hkey ho hd (Heap.SameBut.update ..)
    · rw [storedH_new (atKey_none_of_get no), List.map_append, List.nodup_append]
      refine ⟨hn, by simp, fun x hx y hy e => ?_⟩
      rw [e, show y = k by simpa using hy] at hx
      exact not_mem_keys_of_get no hx
  · refine wpAny_updateDict ho hd (hQ _ ⟨_, _, ep, Heap.get?_update_self _ ho (Obj.isFreed_of_dict (Obj.data_mapDict hd _)), hc.mapDict _, Obj.data_mapDict hd _, ?_, ?_, ?_⟩ (Heap.SameBut.update ..))
    · rw [storedH_old (atKey_of_get hn hj), Array.toList_modify, he]
      exact modify_map_putAt (entryOfKey knd) (fun e : DictEntry => { e with val := v }) k v (fun _ _ => rfl) hn hj
    · rw [storedH_old (atKey_of_get hn hj)]
      intro x hx
      obtain ⟨y, hy, rfl⟩ := List.mem_map.mp hx
      unfold putAt
      by_cases c : y.1 = k
      · rw [if_pos c]
        exact knd.keeps (his y hy) ho hd (Heap.SameBut.update ..)
      · rw [if_neg c]
        exact knd.keeps (his y hy) ho hd (Heap.SameBut.update ..)
    · rw [storedH_old (atKey_of_get hn hj), keys_map_putAt]
      exact hn
theorem merge_heap {d o : Addr} {kvs more : List (KT × Addr × Value)} {Q : Unit → Shared → Prop} (hu : knd.room A) (hdo : d ≠ o) (hoS : (o == sysModules) = false) (hd : s.heap.DictOfH knd d kvs) (ho : s.heap.DictOfH knd o more)
    (hap : (∀ x ∈ more, s.TypeIs (.ref x.2.1) "tuple") ∧ (more.map fun x => knd.hash x.1).Nodup) (hz : kvs.length + more.length ≤ sizeLine)
    (hQ : ∀ h', h'.DictOfH knd d (storedAllH kvs more) → Heap.SameBut d s.heap h' → Q () { s with heap := h' }) : wpAny (model prog w) A (mergeMapping d (.ref o) false) Q E s := by
  obtain ⟨od, esd, epd, hod, hcd, hdd, hed, hisd, hnd⟩ := id hd
  obtain ⟨oo, eso, epo, hoo, hco, hdo', heo, hiso, hno⟩ := id ho
  have hlen : eso.size = more.length := size_of_entries heo
  have hapart := keysApart (s := s) heo hap.1 hap.2
  have goes : wpAny (model prog w) A (do
      let size := (← dictEntries o).size
      let epoch ← dictEpoch o
      for i in List.range size do
        let some e := (← dictEntries o)[i]? | unsupported "dict.changed-during-merge"
        holding [e.key, e.val] do
          if false then
            if (← dictFind d e.key e.hash).isSome then rule "dict.merge.duplicate-key"; raiseNew (← newExc (.type "KeyError") [e.key])
          dictPut d e.hash e.key e.val
        if (← dictEpoch o) != epoch then unsupported "dict.changed-during-merge") Q E s := by
    refine wpAny_bind (wpAny_dictEntries hoo hdo' (wpAny_bind (wpAny_dictEpoch hoo hdo' (wpAny_bind ?_))))
    refine wpAny_forIn_list _ (fun rest _ s' => ∃ h' i, s' = { s with heap := h' } ∧ rest = List.range' i (eso.size - i) ∧ i ≤ eso.size ∧ h'.DictOfH knd d (storedAllH kvs (more.take i)) ∧ Heap.SameBut d s.heap h') _ ?_ ?_ _ _ ⟨s.heap, 0, rfl, by rw [List.range_eq_range', Nat.sub_zero], Nat.zero_le _, by simpa [storedAllH] using hd, Heap.SameBut.refl _ _⟩
    · rintro x rest b s' ⟨h', i, rfl, hr, hi, hd', hs'⟩
      have hlt : i < eso.size := by
        apply Classical.byContradiction
        intro z
        rw [Nat.sub_eq_zero_of_le (Nat.le_of_not_lt z)] at hr
        cases hr
      obtain ⟨n, hn⟩ : ∃ n, eso.size - i = n + 1 := ⟨eso.size - i - 1, by omega⟩
      rw [hn, List.range'_succ] at hr
      obtain ⟨rfl, hrest⟩ := List.cons.inj hr
      have hoo1 : h'.get? o = some oo := (hs'.2 o (Ne.symm hdo)).trans hoo
      obtain ⟨⟨k, a, v⟩, hkv⟩ : ∃ kv, more[x]? = some kv := ⟨more[x]'(by omega), List.getElem?_eq_getElem _⟩
      refine wpAny_bind (wpAny_dictEntries (s := { s with heap := h' }) hoo1 hdo' ?_)
      rw [entry_at heo x, hkv]
      have hmx : (storedAllH kvs (more.take x)).length ≤ sizeLine := by
        have e1 := storedAllH_length (more.take x) kvs
        rw [List.length_take] at e1
        omega
      have hkey : knd.is h' k a := knd.keeps (hiso _ (List.mem_of_getElem? hkv)) hod hdd hs'
      show wpAny _ _ (holding [.ref a, v] (dictPut d (knd.hash k) (.ref a) v) >>= _) _ _ _
      refine wpAny_bind (wpAny_holding (put_heap (s := { s with heap := h' }) hu hkey hd' hmx fun h2 hd2 hs2 => ?_))
      have hoo2 : h2.get? o = some oo := (hs2.2 o (Ne.symm hdo)).trans hoo1
      refine wpAny_bind (wpAny_dictEpoch hoo2 hdo' ?_)
      rw [if_neg (by simp)]
      exact wpAny_pure ⟨h2, x + 1, rfl, by rw [hrest, show n = eso.size - (x + 1) by omega], hlt, by rw [storedAllH_take_succ kvs more x (k, a, v) hkv]; exact hd2, hs'.trans hs2⟩
    · rintro b s' ⟨h', i, rfl, hr, hi, hd', hs'⟩
      have hin : i = eso.size := by
        apply Classical.byContradiction
        intro z
        obtain ⟨n, hn⟩ : ∃ n, eso.size - i = n + 1 := ⟨eso.size - i - 1, by omega⟩
        rw [hn, List.range'_succ] at hr
        cases hr
      rw [hin, hlen, List.take_length] at hd'
      exact wpAny_pure (hQ h' hd' hs')
  unfold mergeMapping
  refine wpAny_bind (wpAny_isInstance (T := "dict") ho.typeIs PySem.F.sub_dict_dict ?_)
  rw [if_pos rfl]
  refine wpAny_bind (wpAny_specialOf ho.typeIs PySem.F.slot_dict_iter.lookup (wpAny_bind (wpAny_pure ?_)))
  rw [show ((some (Value.builtin "dict.__iter__") : Option Value) == some (.builtin "dict.__iter__")) = true by simp]
  dsimp only
  rw [if_neg (by rw [hoS]; decide)]
  refine wpAny_bind (wpAny_dictEntries hod hdd ?_)
  by_cases he : esd.isEmpty = true
  · rw [if_pos he]
    refine wpAny_bind (wpAny_dictEntries hoo hdo' (wpAny_bind ?_))
    rw [← Array.forIn_toList]
    refine wpAny_forIn_list _ (fun rest _ s' => s' = s ∧ ∀ e ∈ rest, KeyApart s eso e) _ ?_ ?_ _ _ ⟨rfl, hapart⟩
    · rintro e rest b s' ⟨rfl, hall⟩
      have hrest : ∀ x ∈ rest, KeyApart s' eso x := fun x hx => hall x (List.mem_cons_of_mem _ hx)
      rcases hall e List.mem_cons_self with hv | ⟨a, hk, hT, h1⟩
      · cases hk : e.key <;> first
          | exact wpAny_pure ⟨rfl, hrest⟩
          | (rw [hk] at hv; cases hv)
      · rw [hk]
        dsimp only
        refine wpAny_bind (wpAny_specialOf hT F.slot_tuple_eq.lookup ?_)
        refine wpAny_ite_split (fun _ => ?_) (fun _ => wpAny_pure ⟨rfl, hrest⟩)
        rw [if_neg (by omega)]
        exact wpAny_pure ⟨rfl, hrest⟩
    · rintro b s' ⟨rfl, _⟩
      exact goes
  · rw [if_neg he]
    exact goes
end
/-! ## for k in {**a, **b} -/
section
variable {X : Cx} {w : World}
/-- the entries of both, the second ones stored -/
def mergeE (es fs : List Ent) : List Ent := fs.foldl (fun acc e => putN acc e.1 e.2.1 e.2.2) es
theorem relEs_merge {fs : List Ent} {ys : List (NestedKey × Addr × Value)} (r2 : RelEs fs ys) : ∀ {es : List Ent} {xs : List (NestedKey × Addr × Value)}, RelEs es xs → RelEs (mergeE es fs) (storedAllH xs ys) := by
  induction r2 with
  | nil => exact fun r => r
  | @cons e y fs ys h _ ih =>
    intro es xs r
    show RelEs (mergeE (putN es e.1 e.2.1 e.2.2) fs) (storedAllH (storedH xs y.1 y.2.1 y.2.2) ys)
    rw [← h.1, ← h.2.1]
    exact ih (r.put e.1 e.2.1 h.2.2)
end
section
open PySem PySem.Spec L2 PyProof.Rows
def mergeOne (d : Addr) (v : Sem Value) : Sem Unit := do
  let m ← holding [.ref d] v
  (((holding [.ref d, m] (mergeMapping d m false)).onRaise fun x => do let _ ← holding [.ref d, m, x] (runValue (.builtin "proto.let_go" {}))).tryCatch fun e => do
    if ← isInstance e (.type "AttributeError") then
      rule "dict.display.not-a-mapping"; raiseError "TypeError" s!"'{← typeNameOf m}' object is not a mapping"
    throw e).onRaise fun x => do let _ ← holding [.ref d, x] (runValue (.builtin "proto.let_go" {}))
theorem dictDisplay_two (va vb : Sem Value) : dictDisplay [(none, va), (none, vb)] = (do
    let d ← alloc { cls := .type "dict", data := .dict #[] }
    mergeOne d va
    mergeOne d vb
    pure (.ref d)) := by
  unfold dictDisplay mergeOne
  simp only [List.forIn_cons, List.forIn_nil, List.isEmpty_nil, if_true, pure_bind, bind_assoc]
section
variable {X : Cx} {pins : List (Addr × Obj)} {σ : L2.St} {H : Hp} {s : Shared} {E : Value → Shared → Prop} {D b : Addr} {es fs : List Ent}
theorem tys_of {ys : List (NestedKey × Addr × Value)} (I : Inv X pins σ H s) (rel : RelEs fs ys) (he : EntsOk H fs) : ∀ x ∈ ys, s.TypeIs (.ref x.2.1) "tuple" := by
  have go : ∀ {l : List Ent} {m : List (NestedKey × Addr × Value)}, RelEs l m → EntsOk H l → ∀ x ∈ m, NK H x.1 (.ref x.2.1) ∧ x.1.depth ≤ 8 := by
    intro l m r
    induction r with
    | nil => exact fun _ x hx => nomatch hx
    | @cons a b as bs hab _ ih =>
      intro hl x hx
      rcases List.mem_cons.mp hx with rfl | hx
      · have := hl a List.mem_cons_self
        rw [hab.1, hab.2.1] at this
        exact this
      · exact ih (fun e he => hl e (List.mem_cons_of_mem _ he)) x hx
  intro x hx
  obtain ⟨h1, _⟩ := go rel he x hx
  generalize x.1 = k1 at h1
  cases h1 with
  | tup e _ =>
    obtain ⟨its, _, ht, _⟩ := I.tuple (SqT.of e)
    obtain ⟨o, ho, hc, _⟩ := ht
    exact ⟨o, ho, hc⟩
theorem mergeE_len : ∀ (fs es : List Ent), (mergeE es fs).length ≤ es.length + fs.length
  | [], es => Nat.le_refl _
  | e :: fs, es => by
    have h1 := mergeE_len fs (putN es e.1 e.2.1 e.2.2)
    have h2 := putN_len (es := es) (k := e.1) (b := e.2.1) (v := e.2.2)
    show (mergeE (putN es e.1 e.2.1 e.2.2) fs).length ≤ _
    rw [List.length_cons]
    omega
theorem dn_merge {A : Around} {Q : Unit → Shared → Prop} (hu : A.units + 64 < cLine) (I : Inv X pins σ H s) (hDb : D ≠ b) (hD : H D = some (DN X.w D es)) (hes : EntsOk H es) (hb : H b = some (DN X.w b fs)) (hfs : EntsOk H fs) (hh : (fs.map fun e => e.1.hash X.w).Nodup) (hz : es.length + fs.length ≤ 16384)
    (h : ∀ s', Inv X pins σ (upd H D (DN X.w D (mergeE es fs))) s' → Q () s') : wpAny (model X.prog X.w) A (mergeMapping D (.ref b) false) Q E s := by
  obtain ⟨z1, y1, xs, rel1, dd1⟩ := dn_of I.hok hD hes
  obtain ⟨z2, y2, ys, rel2, dd2⟩ := dn_of I.hok hb hfs
  have l1 := rel1.len
  have l2 := rel2.len
  have hhs : (ys.map fun x => (nestedKind X.prog X.w).hash x.1).Nodup := by
    have e : (ys.map fun x => (nestedKind X.prog X.w).hash x.1) = fs.map fun e => e.1.hash X.w := by
      have := congrArg (List.map fun k : NestedKey => k.hash X.w) rel2.keys
      rw [List.map_map, List.map_map] at this
      exact this
    rw [e]
    exact hh
  refine merge_heap (knd := nestedKind X.prog X.w) (by show A.units + 8 < cLine; omega) hDb y2 dd1 dd2 ⟨tys_of I rel2 hfs, hhs⟩ (by rw [sizeLine_eq]; omega) fun h' dd' hs => h _ ?_
  have he : ∃ q, h'.get? D = some q := let ⟨q, _, _, hq, _⟩ := dd'; ⟨q, hq⟩
  exact d_write (t' := s.toks) I (by rw [hD]; exact True.intro) hs he (dn_obj (by have := mergeE_len fs es; rw [sizeLine_eq]; omega) y1 (relEs_merge rel2 rel1) dd')
end
def MrgD (w : World) (D : Addr) (x : V) (H : Hp) (es : List Ent) (R : List Ent → Hp → Prop) : Prop :=
  ∃ b fs, x = .ref b ∧ D ≠ b ∧ H D = some (DN w D es) ∧ EntsOk H es ∧ H b = some (DN w b fs) ∧ EntsOk H fs ∧ (fs.map fun e => e.1.hash w).Nodup ∧ es.length + fs.length ≤ 16384 ∧ R (mergeE es fs) (upd H D (DN w D (mergeE es fs)))
def iMrg (w : World) (ta tb : TE) : TI := fun σ H R => ∀ D, H D = none → ta σ (upd H D (DN w D [])) fun x H1 => MrgD w D x H1 [] fun es H2 => tb σ H2 fun y H3 => MrgD w D y H3 es fun fs H4 => ∀ o, R (Itn w D o fs) (upd H4 D (.frz o (DN w D fs)))
theorem pi_merge {X : Cx} {w : World} {tg a b : Expr} {ta tb : TE} {pos : Pos} (hu : X.A.units + 64 < cLine) (ha : PE X a ta) (hb : PE X b tb) (hw : X.w = w := by rfl) : PI X tg (.Dict [none, none] [a, b] pos) (iMrg w ta tb) := by
  subst hw
  refine ⟨fun pins s σ H R I h => ?_⟩
  rw [arm_eval_Dict]
  refine wpAny_bind (wpAny_standAt ?_)
  show wpAny _ _ (dictDisplay [(none, (eval a X.env >>= fun x => standAt pos >>= fun _ => pure x)), (none, (eval b X.env >>= fun x => standAt pos >>= fun _ => pure x))]) _ _ _
  rw [dictDisplay_two]
  refine wpAny_bind (wpAny_alloc ?_)
  have I0 : Inv X pins σ (upd H s.heap.objs.size (DN X.w s.heap.objs.size [])) { s with heap := s.heap.push { cls := .type "dict", data := .dict #[] } } :=
    I.laid (t' := s.toks) (fun _ _ q => Heap.get?_push_of_some _ q) (Nat.le_refl _) (dn_empty s.heap I.big)
  have q0 := h s.heap.objs.size I.fresh
  generalize s.heap.objs.size = D at *
  unfold mergeOne
  refine wpAny_bind (wpAny_bind (wpAny_holding (wpAny_bind (thn (ha.run pins _ σ _ _ I0 q0) fun u s1 ⟨x, H1, I1, r1, c, es, ex, n1, d1, k1, c1, k2, hh1, z1, q1⟩ => wpAny_bind (wpAny_standAt (wpAny_pure ?_))))))
  subst ex
  obtain rfl : u = .ref c := r1
  refine wpAny_onRaise (wpAny_tryCatch (wpAny_onRaise (wpAny_holding (dn_merge hu I1 n1 d1 k1 c1 k2 hh1 z1 fun s2 I2 => ?_))))
  refine wpAny_bind (wpAny_bind (wpAny_holding (wpAny_bind (thn (hb.run pins _ σ _ _ I2 q1) fun u s3 ⟨x, H3, I3, r3, c', fs, ex, n3, d3, k3, c3, k4, hh3, z3, q3⟩ => wpAny_bind (wpAny_standAt (wpAny_pure ?_))))))
  subst ex
  obtain rfl : u = .ref c' := r3
  refine wpAny_onRaise (wpAny_tryCatch (wpAny_onRaise (wpAny_holding (dn_merge hu I3 n3 d3 k3 c3 k4 hh3 z3 fun s4 I4 => wpAny_pure ?_))))
  obtain ⟨o, I5⟩ := I4.lock upd_same True.intro
  obtain ⟨hs, hgd, hx, ds, ep, hdt, hsz, ent⟩ := dn_raw I5 upd_same
  refine iter_keys hs hgd hx hdt (pi_one (tk := s4.toks) I5 _ (turn_keysN _ hdt) ⟨_, Heap.get?_push_size _ rfl, rfl, ?_⟩ (q3 o))
  rw [hsz] <;> rfl
end
/-! ## list(zip(a, b)) -/
section
open PySem PySem.Spec L2 PyProof.Rows
theorem zip_nolen : typeLookup (.type "zip") "__len__" = pure none := by rw [typeLookup_type, builtinLookup_eq_fast]; kernel_rfl
theorem zip_nohint : typeLookup (.type "zip") "__length_hint__" = pure none := by rw [typeLookup_type, builtinLookup_eq_fast]; kernel_rfl
def zipL2 : List V → List V → List V → Hp → (List V → Hp → Prop) → Prop
  | x :: xs, y :: ys, acc, H, Q => ∀ N, H N = none → zipL2 xs ys (acc ++ [.ref N]) (upd H N (.tup [x, y])) Q
  | _, _, acc, H, Q => Q acc H
/-- a zip amid a walk, whose tuple is out or wasn't yet -/
def ZS (S z TI TO i1 i2 a b : Addr) (i : Nat) (h : Heap) : Prop :=
  IsPair h TI (.ref i1) (.ref i2) ∧ TO < h.objs.size ∧ h.IsListIter i1 a i ∧ h.IsListIter i2 b i ∧
    ((IsZip h z TI TO .none ∧ ∃ x y, IsPair h TO x y) ∨ ∃ T f oT, IsZipHeld h z TI TO T f ∧ h.get? T = some oT ∧ T ≠ z ∧ T ≠ i1 ∧ T ≠ i2 ∧ T ≠ S)
theorem upd_comm {H : Hp} {a b : Addr} {o u : HO} (h : a ≠ b) : upd (upd H a o) b u = upd (upd H b u) a o := by
  funext c
  by_cases e : c = a
  · subst e
    rw [upd_ne h, upd_same, upd_same]
  · by_cases f : c = b
    · subst f
      rw [upd_same, upd_ne e, upd_same]
    · rw [upd_ne f, upd_ne e, upd_ne e, upd_ne f]
theorem same_upd {H : Hp} {a : Addr} {o : HO} (h : H a = none) : Same H (upd H a o) := fun b u e => by
  rw [upd_ne (ne_of_none e h)]
  exact e
theorem fp_mono {X : Cx} {pins : List (Addr × Obj)} {H H' : Hp} {b : Addr} (h : FpOk X pins H b) (n : H' b = none) : FpOk X pins H' b := ⟨n, h.2⟩
theorem drain_zip {X : Cx} (hcalm : X.A.in1.in1.handled = none) {z TI TO i1 i2 a b S : Addr} {pins : List (Addr × Obj)} {σ : L2.St} (D : ZipApart z TI TO i1 i2 a b) {R : Result → Shared → Prop} {res : Value} (dS : S ∉ [z, TI, TO, i1, i2]) :
    ∀ (xs ys pre pre' : List V) (s : Shared) (Hc : Hp) (acc : List V), acc.length + xs.length ≤ 16384 → xs.length = ys.length → pre.length = acc.length → pre'.length = acc.length → Hc S = none → Inv X pins σ (upd Hc S (.lst acc)) s →
      SqL X.K Hc a (pre ++ xs) → SqL X.K Hc b (pre' ++ ys) → ZS S z TI TO i1 i2 a b acc.length s.heap → (∀ c ∈ [z, TI, TO, i1, i2], FpOk X pins Hc c) →
      zipL2 xs ys acc Hc (fun zs H' => H' S = none → ∀ s', Inv X pins σ (upd H' S (.lst zs)) s' → R (.ok (.ret res)) s') →
      codeAny (model X.prog X.w) X.A.in1 (.builtin "list.extend.loop" ⟨[.ref S, .ref z, res], []⟩) R s := by
  intro xs
  induction xs with
  | nil =>
    intro ys pre pre' s Hc acc hz hl e1 e2 hS I q1 q2 st hf q
    cases ys with
    | cons _ _ => cases hl
    | nil =>
      obtain ⟨us, ru, pu, _⟩ := I.list ((same_upd hS).seq q1)
      obtain ⟨vs, rv, pv, _⟩ := I.list ((same_upd hS).seq q2)
      have n1 := ru.length
      rw [List.append_nil] at n1
      refine codeAny_builtin F.entry_extend_loop ?_
      rw [Around.under_plainId F.plain_extend_loop _]
      show wpAny _ _ (pyNext (.ref z) >>= _) _ _ s
      obtain ⟨s2, sTO, s4, s5, s1⟩ := st
      have hend : us.toArray[acc.length]? = none ∨ vs.toArray[acc.length]? = none := .inl (by simp; omega)
      have fin : ∀ h', (∀ c o, c ≠ z → c ≠ TO → c ≠ i1 → c ≠ i2 → s.heap.get? c = some o → h'.get? c = some o) → R (.ok (.ret res)) { s with heap := h' } := fun h' hk => by
        refine q hS _ (I.turnedL (t' := s.toks) (ch := [z, TI, TO, i1, i2]) (fun c o hb e => ?_) fun c hc => ?_)
        · simp only [List.mem_cons, List.not_mem_nil, or_false, not_or] at hb
          exact hk c o hb.1 hb.2.2.1 hb.2.2.2.1 hb.2.2.2.2 e
        · exact fp_mono (hf c hc) (by rw [upd_ne (show c ≠ S from fun e => dS (by rw [← e]; exact hc))]; exact (hf c hc).1)
      rcases s1 with ⟨s1, x, y, s3⟩ | ⟨T, f, oT, s1, hT, _, _, _, _⟩
      · exact wpAny_bind (wpAny_pyNext_zip_end hcalm D s1 s2 s3 s4 s5 pu.isList pv.isList hend fun h' hk => wpAny_pure (fin h' hk))
      · exact wpAny_bind (wpAny_pyNext_zip_end_held hcalm D s1 hT s2 s4 s5 pu.isList pv.isList hend fun h' hk => wpAny_pure (fin h' fun c o c1 _ c3 c4 e => hk c o c1 c3 c4 e))
  | cons x xs ih =>
    intro ys pre pre' s Hc acc hz hl e1 e2 hS I q1 q2 st hf q
    cases ys with
    | nil => cases hl
    | cons y ys =>
      obtain ⟨us, ru, pu, _⟩ := I.list ((same_upd hS).seq q1)
      obtain ⟨vs, rv, pv, _⟩ := I.list ((same_upd hS).seq q2)
      obtain ⟨u, hu, r1⟩ := ru.get (i := acc.length) (by rw [List.getElem?_append_right (Nat.le_of_eq e1), e1, Nat.sub_self]; rfl)
      obtain ⟨v, hv, r2⟩ := rv.get (i := acc.length) (by rw [List.getElem?_append_right (Nat.le_of_eq e2), e2, Nat.sub_self]; rfl)
      refine codeAny_builtin F.entry_extend_loop ?_
      rw [Around.under_plainId F.plain_extend_loop _]
      show wpAny _ _ (pyNext (.ref z) >>= _) _ _ s
      obtain ⟨s2, sTO, s4, s5, s1⟩ := st
      have lt : ∀ {c : Addr} {o : Obj}, s.heap.get? c = some o → s.heap.objs.size ≠ c := fun e => Nat.ne_of_gt (Heap.lt_size e)
      have n1 : s.heap.objs.size ≠ i1 := let ⟨_, e, _⟩ := s4; lt e
      have n2 : s.heap.objs.size ≠ i2 := let ⟨_, e, _⟩ := s5; lt e
      have nz : s.heap.objs.size ≠ z := by rcases s1 with ⟨s1, _⟩ | ⟨T, f, oT, s1, _⟩ <;> exact lt s1
      have nTI : s.heap.objs.size ≠ TI := lt s2
      have sS : (upd Hc S (.lst acc)) S = some (.lst acc) := upd_same
      obtain ⟨zl, its, cn, rr, hlen, hgS⟩ := I.lstM sS
      have nS : s.heap.objs.size ≠ S := lt hgS
      have hT0 : (upd Hc S (.lst acc)) s.heap.objs.size = none := I.fresh
      have hTc : Hc s.heap.objs.size = none := by rw [upd_ne nS] at hT0; exact hT0
      have nTO' : s.heap.objs.size ≠ TO := Nat.ne_of_gt sTO
      have go : ∀ h', s.heap.objs.size ≤ h'.objs.size → (IsPair h' TI (.ref i1) (.ref i2)) → h'.IsListIter i1 a (acc.length + 1) → h'.IsListIter i2 b (acc.length + 1) → (∃ T f oT, IsZipHeld h' z TI TO T f ∧ h'.get? T = some oT ∧ T ≠ z ∧ T ≠ i1 ∧ T ≠ i2 ∧ T ≠ S) → IsPair h' s.heap.objs.size u v →
          (∀ c o, c ≠ z → c ≠ TO → c ≠ i1 → c ≠ i2 → s.heap.get? c = some o → h'.get? c = some o) →
          wpAny (model X.prog X.w) X.A.in1.in1 (updateSeq S (·.push (.ref s.heap.objs.size)) >>= fun _ => again (.builtin "list.extend.loop" ⟨[.ref S, .ref z, res], []⟩))
            (fun fin s' => match fin with | .done f => R (.ok f) s' | .again c' => c'.quiet = true ∧ codeAny (model X.prog X.w) X.A.in1 c' R s') (fun e s' => R (.error e) s') { s with heap := h' } := by
        intro h' gz g2 g4 g5 g1 gT hk
        have fpU : ∀ c ∈ [z, TI, TO, i1, i2], FpOk X pins (upd Hc S (.lst acc)) c := fun c hc => fp_mono (hf c hc) (by rw [upd_ne (show c ≠ S from fun e => dS (by rw [← e]; exact hc))]; exact (hf c hc).1)
        have I1 := I.turnedNew (t' := s.toks) (ch := [z, TI, TO, i1, i2]) (T := s.heap.objs.size) (ob := .tup [x, y]) (h' := h') (fun c o hb e => by
          simp only [List.mem_cons, List.not_mem_nil, or_false, not_or] at hb
          exact hk c o hb.1 hb.2.2.1 hb.2.2.2.1 hb.2.2.2.2 e) fpU (Nat.le_refl _) ⟨by show 2 ≤ sizeLine; rw [sizeLine_eq]; decide, [u, v], .cons r1 (.cons r2 .nil), ⟨_, gT, rfl, _, rfl⟩⟩
        rw [upd_comm (Ne.symm nS)] at I1
        have nSz : S ≠ z := fun e => dS (by simp [e])
        have nSTO : S ≠ TO := fun e => dS (by simp [e])
        have nSTI : S ≠ TI := fun e => dS (by simp [e])
        have nS1 : S ≠ i1 := fun e => dS (by simp [e])
        have nS2 : S ≠ i2 := fun e => dS (by simp [e])
        have hgS' : h'.get? S = some { cls := .type "list", data := .seq its.toArray cn } := hk S _ nSz nSTO nS1 nS2 hgS
        have sz : its.toArray.size = acc.length := by rw [List.size_toArray]; omega
        refine wpAny_bind ?_
        have e3 : acc.length + (xs.length + 1) ≤ 16384 := hz
        refine wpAny_updateSeq (s := { s with heap := h' }) hgS' rfl ?_ (by rw [sz, sizeLine_eq]; omega) (by rw [Array.size_push, sz, sizeLine_eq]; omega)
        have keep : ∀ c o, c ≠ S → h'.get? c = some o → (h'.update S (Obj.mapSeq (·.push (.ref s.heap.objs.size)))).get? c = some o := fun c o hc e => (Heap.get?_update_other _ _ (Ne.symm hc)).trans e
        have I2 := I1.lset (l := S) (xs := acc) (ys := acc ++ [.ref s.heap.objs.size]) (its' := its ++ [.ref s.heap.objs.size]) (f := (·.push (.ref s.heap.objs.size))) (t' := s.toks) upd_same hgS' (by simp) (rr.append (.cons (show RelV (.ref s.heap.objs.size) (.ref s.heap.objs.size) from rfl) .nil)) (by rw [List.length_append, List.length_singleton, sizeLine_eq]; omega)
        rw [upd_upd] at I2
        obtain ⟨T, f, oT, t0, t5, t1, t2, t3, t4⟩ := g1
        refine wpAny_pure ⟨plainId_quiet F.plain_extend_loop _, ih ys (pre ++ [x]) (pre' ++ [y]) _ (upd Hc s.heap.objs.size (.tup [x, y])) (acc ++ [.ref s.heap.objs.size]) (by rw [List.length_append, List.length_singleton]; omega) (Nat.succ.inj hl) (by rw [List.length_append, List.length_append, e1]; rfl) (by rw [List.length_append, List.length_append, e2]; rfl) (by rw [upd_ne (Ne.symm nS)]; exact hS) I2 (by rw [List.append_assoc]; exact (same_upd hTc).seq q1) (by rw [List.append_assoc]; exact (same_upd hTc).seq q2) ?_ (fun c hc => fp_mono (hf c hc) ?_) (q _ hTc)⟩
        · rw [List.length_append, List.length_singleton]
          exact ⟨keep _ _ (Ne.symm nSTI) g2, Nat.lt_of_lt_of_le sTO (Nat.le_trans gz (Nat.le_of_eq (Heap.size_update ..).symm)), g4.at fun o e => keep _ o (Ne.symm nS1) e, g5.at fun o e => keep _ o (Ne.symm nS2) e, .inr ⟨T, f, oT, keep _ _ (Ne.symm nSz) t0, keep _ _ t4 t5, t1, t2, t3, t4⟩⟩
        · rw [upd_ne ?_]
          · exact (hf c hc).1
          · intro e
            subst e
            rcases five_or hc with e | e | e | e | e
            · exact nz e
            · exact nTI e
            · exact nTO' e
            · exact n1 e
            · exact n2 e
      rcases s1 with ⟨s1, x0, y0, s3⟩ | ⟨T, f, oT, s1, hT, t1, t2, t3, t4⟩
      · refine wpAny_bind (wpAny_pyNext_zip_item D s1 s2 s3 s4 s5 pu.isList pv.isList (by simpa using hu) (by simpa using hv) fun h' z' t1 d1 d2 hT sz kp => ?_)
        exact go h' (by rw [sz]; exact Nat.le_succ _) (kp _ _ D.TIz D.TITO D.TIi1 D.TIi2 s2) d1 d2 ⟨s.heap.objs.size, false, _, z', hT, nz, n1, n2, nS⟩ hT kp
      · refine wpAny_bind (wpAny_pyNext_zip_item_held D s1 hT s2 s4 s5 pu.isList pv.isList (by simpa using hu) (by simpa using hv) fun h' z' d1 d2 hT' sz kp => ?_)
        exact go h' (by rw [sz]; exact Nat.le_succ _) (kp _ _ D.TIz D.TIi1 D.TIi2 s2) d1 d2 ⟨T, true, oT, z', kp T oT t1 t2 t3 hT, t1, t2, t3, t4⟩ hT' fun c o c1 _ c3 c4 e => kp c o c1 c3 c4 e
theorem zipL2_mono : ∀ (xs ys acc : List V) (H : Hp) {Q Q' : List V → Hp → Prop}, (∀ zs H', Q zs H' → Q' zs H') → zipL2 xs ys acc H Q → zipL2 xs ys acc H Q'
  | _ :: xs, _ :: ys, _, _, _, _, m, h => fun N hN => zipL2_mono xs ys _ _ m (h N hN)
  | [], _, _, _, _, _, m, h => m _ _ h
  | _ :: _, [], _, _, _, _, m, h => m _ _ h
def tListZip (K : PySem.W.Frag) (ta : TA) : TE := fun σ H Q => ta σ H fun vs H1 => ∃ a b xs ys, vs = [.ref a, .ref b] ∧ SqL K H1 a xs ∧ SqL K H1 b ys ∧ xs.length = ys.length ∧ xs.length ≤ 16384 ∧ zipL2 xs ys [] H1 fun zs H2 => ∀ q, H2 q = none → Q (.ref q) (upd H2 q (.lst zs))
theorem pe_listZip {X : Cx} {K : PySem.W.Frag} {e e2 : Expr} {ta : TA} {p p2 pos pos2 : Pos} (hg1 : Gl X "list") (hm1 : X.mg "list" = none) (hg : Gl X "zip") (hm : X.mg "zip" = none) (ha : PA X [e, e2] ta)
    (hs : starEach [e, e2] X.env = (false, eval e X.env) :: starEach [e2] X.env := by rfl) (hpl : (backTo pos2 (starEach [e2] X.env)).any (·.1) = false := by rfl)
    (na : starEach [.Call (.Name "zip" p2) [e, e2] [] pos2] X.env = (false, eval (.Call (.Name "zip" p2) [e, e2] [] pos2) X.env) :: starEach [] X.env := by rfl) (hc : X.calm = true := by rfl) (hK : X.K = K := by rfl) : PE X (.Call (.Name "list" p) [.Call (.Name "zip" p2) [e, e2] [] pos2] [] pos) (tListZip K ta) := by
  subst hK
  refine ⟨fun pins s σ H Q I h => ?_⟩
  refine Call_ (ld_blt I hg1 hm1 boot_list (PyProof.Rows.callWith_type1 (args_cons (Call_ (ld_blt I hg hm PyProof.Rows.boot_zip (PyProof.Rows.callWith_type1 (thn (ha.run pos2 pins s σ H _ I h) fun us s1 ⟨vs, H1, I1, r1, a, b, xs, ys, ex, q1, q2, hl, hz, q⟩ => ?_) hs hpl))) na) na))
  subst ex
  cases r1 with
  | cons r rr =>
    cases rr with
    | cons r' rr =>
      cases rr
      cases r
      cases r'
      obtain ⟨is, ri, p1, _⟩ := I1.list q1
      obtain ⟨js, rj, p2, _⟩ := I1.list q2
      obtain ⟨o1, nn1, ho1, _⟩ := id p1
      obtain ⟨o2, nn2, ho2, _⟩ := id p2
      refine PySem.zip_begins2 (PySem.begins_list a is.toArray) (PySem.begins_list b js.toArray) p1.isList p2.isList fun h' z1 z2 z3 z4 z5 sz kp => args_nil ?_
      have D := PySem.W.ktu_apart s1.heap.objs.size a b (Heap.lt_size ho1) (Heap.lt_size ho2)
      have I2 : Inv X pins σ H1 { s1 with heap := h' } := I1.kept (t' := s1.toks) kp
      have zS : ZS h'.objs.size (s1.heap.objs.size + 4) (s1.heap.objs.size + 2) (s1.heap.objs.size + 3) s1.heap.objs.size (s1.heap.objs.size + 1) a b 0 h' :=
        ⟨z2, Heap.lt_size z3, ⟨_, z4, rfl, rfl⟩, ⟨_, z5, rfl, rfl⟩, .inl ⟨z1, _, _, z3⟩⟩
      have fp : ∀ c ∈ [s1.heap.objs.size + 4, s1.heap.objs.size + 2, s1.heap.objs.size + 3, s1.heap.objs.size, s1.heap.objs.size + 1], FpOk X pins H1 c := fun c hcm => by
        have hle : s1.heap.objs.size ≤ c := by
          rcases five_or hcm with rfl | rfl | rfl | rfl | rfl <;> omega
        exact I1.fpOk hle (I1.hok.fresh hle)
      have dS : h'.objs.size ∉ [s1.heap.objs.size + 4, s1.heap.objs.size + 2, s1.heap.objs.size + 3, s1.heap.objs.size, s1.heap.objs.size + 1] := fun hcm => by
        rcases five_or hcm with e | e | e | e | e <;> (rw [sz] at e; revert e; generalize s1.heap.objs.size = nn; intro e; exact absurd (show (nn : Nat) + 5 = _ from e) (by omega))
      generalize s1.heap.objs.size + 4 = z at *
      generalize s1.heap.objs.size + 2 = TI at *
      generalize s1.heap.objs.size + 3 = TO at *
      generalize s1.heap.objs.size + 1 = i2 at *
      generalize s1.heap.objs.size = i1 at *
      have hcal : X.A.handled = none := I2.ok.hd hc
      generalize es : ({ s1 with heap := h' } : Shared) = s2 at *
      have eh : h' = s2.heap := by rw [← es]
      subst eh
      refine callType_codes (Q₁ := fun obj s₁ => obj = .ref s2.heap.objs.size ∧ s₁ = { s2 with heap := s2.heap.push { cls := .type "list", data := .seq #[] } }) F.called_list (F.typeCall_list_1 _) F.entry_list_init
        (code_list_new _ ⟨rfl, rfl⟩) fun obj s₁ h₁ => ?_
      obtain ⟨rfl, rfl⟩ := h₁
      have hS : (s2.heap.push { cls := .type "list", data := .seq #[] }).get? s2.heap.objs.size = some { cls := .type "list", data := .seq #[] } := Heap.get?_push_size _ rfl
      refine ⟨⟨_, hS, rfl⟩, F.args_list_init_2 _ _, ?_⟩
      show wpAny _ X.A.in1.in1 (do let old ← Builtin.List.listItems (.ref s2.heap.objs.size); Builtin.List.listUpdate (.ref s2.heap.objs.size) (fun _ => #[]); letGo old.toList.reverse; Builtin.List.listExtendWith (.ref s2.heap.objs.size) (.ref z) .none) _ _ _
      refine wpAny_bind ?_
      unfold Builtin.List.listItems
      refine wpAny_bind (wpAny_seqItems hS rfl (wpAny_pure ?_))
      show wpAny _ X.A.in1.in1 (updateSeq s2.heap.objs.size (fun _ => #[]) >>= fun _ => letGo (#[] : Array Value).toList.reverse >>= fun _ => Builtin.List.listExtendWith (.ref s2.heap.objs.size) (.ref z) .none) _ _ _
      refine wpAny_bind (wpAny_updateSeq hS rfl ?_)
      have hS2 := Heap.get?_update_self (Obj.mapSeq (fun _ => (#[] : Array Value))) hS rfl
      refine wpAny_bind (wpAny_letGo ?_)
      unfold Builtin.List.listExtendWith
      have up : ∀ (h : Heap) (f : Obj → Obj), (∀ b o, s2.heap.get? b = some o → h.get? b = some o) → ∀ b o, s2.heap.get? b = some o → (h.update s2.heap.objs.size f).get? b = some o := fun h f q b o e =>
        (Heap.get?_update_other _ _ (Ne.symm (Nat.ne_of_lt (Heap.lt_size e)))).trans (q b o e)
      have k1 : ∀ b o, s2.heap.get? b = some o → (s2.heap.push { cls := .type "list", data := .seq #[] }).get? b = some o := fun b o e => Heap.get?_push_of_some _ e
      have k2 := up _ (Obj.mapSeq (fun _ => (#[] : Array Value))) k1
      refine wpAny_bind (wpAny_typeOf (T := "zip") ⟨_, k2 _ _ z1, rfl⟩ ?_)
      have h1 : Builtin.List.listSameRef (.ref s2.heap.objs.size) (.ref z) = false := by simp [Builtin.List.listSameRef]; exact fun e => dS (by simp [e])
      have h2 : (Value.type "zip" == Value.type "list") = false := by decide
      have h3 : (Value.type "zip" == Value.type "tuple") = false := by decide
      simp only [h1, h2, h3, Bool.or_false, Bool.false_eq_true, if_false]
      refine wpAny_bind (wpAny_pyIter_zip (s := { s2 with heap := _ }) (k2 _ _ z1) ?_)
      refine wpAny_bind (wpAny_holding ?_)
      unfold Builtin.List.listLengthHint
      refine wpAny_bind (wpAny_specialOf (T := "zip") ⟨_, k2 _ _ z1, rfl⟩ zip_nolen ?_)
      show wpAny _ X.A.in1.in1 (specialOf (Value.ref z) (Str.ofString "__length_hint__") >>= _) _ _ _
      refine wpAny_bind (wpAny_specialOf (T := "zip") ⟨_, k2 _ _ z1, rfl⟩ zip_nohint ?_)
      refine wpAny_pure ?_
      show wpAny _ X.A.in1.in1 (rule "list.extend.makes-room" >>= fun _ => Builtin.List.listTouch (.ref s2.heap.objs.size) >>= fun _ =>
        again (.builtin "list.extend.loop" ⟨[.ref s2.heap.objs.size, .ref z, .none], []⟩)) _ _ _
      refine wpAny_bind (wpAny_rule ?_)
      refine wpAny_bind ?_
      show wpAny _ X.A.in1.in1 (updateSeq s2.heap.objs.size (·.push .none) >>= fun _ => updateSeq s2.heap.objs.size (·.pop)) _ _ _
      refine wpAny_bind (wpAny_updateSeq hS2 rfl ?_)
      have hS3 := Heap.get?_update_self (Obj.mapSeq (·.push Value.none)) hS2 rfl
      refine wpAny_updateSeq (hz := by seq_fits) hS3 rfl ?_
      have hS4 := Heap.get?_update_self (Obj.mapSeq (·.pop)) hS3 rfl
      have k4 := up _ (Obj.mapSeq (·.pop)) (up _ (Obj.mapSeq (·.push Value.none)) k2)
      refine wpAny_pure ⟨plainId_quiet F.plain_extend_loop _, ?_⟩
      have n0 : H1 s2.heap.objs.size = none := I2.fresh
      refine drain_zip (pins := pins) (σ := σ) hcal D dS xs ys [] [] _ H1 [] (by rw [List.length_nil]; omega) hl rfl rfl n0 (I2.laid (t' := s2.toks) k4 (Nat.le_refl _) ⟨Nat.zero_le _, [], _, .nil, hS4⟩) q1 q2 ?_ fp ?_
      · obtain ⟨y1, y2, y3, y4, y5⟩ := zS
        refine ⟨k4 _ _ y1, Nat.lt_of_lt_of_le y2 ?_, y3.at fun o e => k4 _ o e, y4.at fun o e => k4 _ o e, ?_⟩
        · show s2.heap.objs.size ≤ ((((s2.heap.push _).update _ _).update _ _).update _ _).objs.size
          rw [Heap.size_update, Heap.size_update, Heap.size_update, Heap.size_push]
          exact Nat.le_succ _
        · rcases y5 with ⟨y5, x, y, y6⟩ | ⟨T, f, oT, y5, y6, y7⟩
          · exact .inl ⟨k4 _ _ y5, x, y, k4 _ _ y6⟩
          · exact .inr ⟨T, f, oT, k4 _ _ y5, k4 _ _ y6, y7⟩
      · exact zipL2_mono xs ys _ _ (fun zs H' qq hn s' I' => ⟨rfl, .ref s2.heap.objs.size, _, I', rfl, qq _ hn⟩) q
end
section
open PySem L2
def rListOf (K : PySem.W.Frag) : List V → Hp → VK → Prop := fun xs H Q => ∃ p ys, xs = [.ref p] ∧ (SqL K H p ys ∨ SqT K H p ys) ∧ ∀ l, H l = none → Q (.ref l) (upd H l (.lst ys))
def rTupleOf (K : PySem.W.Frag) : List V → Hp → VK → Prop := fun xs H Q => ∃ p ys, xs = [.ref p] ∧ ((SqL K H p ys ∧ ∀ l, H l = none → Q (.ref l) (upd H l (.tup ys))) ∨ (SqT K H p ys ∧ Q (.ref p) H))
theorem call_tuple_ofK {X : Cx} {K : PySem.W.Frag} (hK : X.K = K := by rfl) : CallR X (.type "tuple") (rTupleOf K) := by
  subst hK
  exact call_tuple_of
theorem call_list_ofK {X : Cx} {K : PySem.W.Frag} (hK : X.K = K := by rfl) : CallR X (.type "list") (rListOf K) := by
  subst hK
  exact call_list_of
end
/-! ## their steps -/
section
open PySem L2
variable {K : PySem.W.Frag} {w : World} {σ : L2.St} {H B : Hp} {Q : VK} {D : Ends} {L L' : List (Addr × HO)}
def mergeG (M N : GM) : GM := N.foldl (fun acc e => putG acc e.1 e.2) M
theorem entG_merge {fs : List Ent} {N : GM} (r2 : EntG H fs N) : ∀ {es : List Ent} {M : GM}, EntG H es M → EntG H (mergeE es fs) (mergeG M N) := by
  induction r2 with
  | nil => exact fun r => r
  | @cons e y fs ys h _ ih =>
    intro es M r
    show EntG H (mergeE (putN es e.1 e.2.1 e.2.2) fs) (mergeG (putG M y.1 y.2) ys)
    obtain ⟨h1, h2, h3⟩ := h
    rw [h1, h2]
    exact ih (r.put y.2 h3)
theorem w_dcMg {ta tb : TE} {g : TG} {tt : TT} {tk tv : TE} {vs : List Nat} (q : ∀ D, H D = none → ta σ (upd H D (DN w D [])) fun x H1 => MrgD w D x H1 [] fun es H2 => tb σ H2 fun y H3 => MrgD w D y H3 es fun fs H4 => ∀ o, DcNR w g tt tk tv vs σ Q (Itn w D o fs) (upd H4 D (.frz o (DN w D fs)))) :
    tDcN w (iMrg w ta tb) g tt tk tv vs σ H Q := q
theorem w_mrgD {d b : Addr} {es fs : List Ent} {M N : GM} {R : List Ent → Hp → Prop} (hs : Hs B ((d, DN w d es) :: L) H) (hE : EntG B es M) (h : B b = some (DN w b fs)) (hF : EntG B fs N) (hh : (N.map fun x => (nkK x.1).hash w).Nodup) (hz : M.length + N.length ≤ 16384)
    (q : ∀ H', Hs B ((d, DN w d (mergeE es fs)) :: L) H' → EntG B (mergeE es fs) (mergeG M N) → R (mergeE es fs) H') : MrgD w d (.ref b) H es R := by
  refine ⟨b, fs, rfl, fun e => ?_, hs.g0, (hE.same hs.same).ok, hs.old h, (hF.same hs.same).ok, ?_, by rw [hE.len, hF.len]; exact hz, q _ (hs.p0 _) (entG_merge hF hE)⟩
  · subst e
    have := hs.out _ List.mem_cons_self
    rw [h] at this
    cases this
  · have key : ∀ {es : List Ent} {M : GM}, EntG B es M → (es.map fun e => e.1.hash w) = M.map fun x => (nkK x.1).hash w := by
      intro es M e
      induction e with
      | nil => rfl
      | cons h _ ih => rw [List.map_cons, List.map_cons, ih, h.1]
    rw [key hF]
    exact hh
theorem w_isND {d : Addr} {es : List Ent} {R : Prop} (h : H d = some (DN w d es)) (q : R) : (∃ a es, V.ref d = V.ref a ∧ H a = some (DN w a es)) ∧ R := ⟨⟨d, es, rfl, h⟩, q⟩
/-- tuples of two, row by row -/
def Zipd (H : Hp) (xs ys zs : List V) : Prop := zs.length = xs.length ∧ ∀ (i : Nat) (x y z : V), xs[i]? = some x → ys[i]? = some y → zs[i]? = some z → ∃ N : Addr, z = .ref N ∧ H N = some (.tup [x, y])
theorem w_zipL2 : ∀ (xs ys acc : List V) (B : Hp) {H : Hp} {Q : List V → Hp → Prop}, xs.length = ys.length → Hs B L H → (∀ zs B' H', Same B B' → Hs B' L H' → Zipd B' xs ys zs → Q (acc ++ zs) H') → zipL2 xs ys acc H Q
  | [], [], acc, B, H, Q, _, hs, q => by
    have := q [] B H (Same.refl B) hs ⟨rfl, fun _ _ _ _ z => nomatch z⟩
    rw [List.append_nil] at this
    exact this
  | x :: xs, y :: ys, acc, B, H, Q, hl, hs, q => fun N hN => by
    obtain ⟨B2, sB, hB, hs2⟩ := frz_hs (hs.new (o := .tup [x, y]) hN)
    refine w_zipL2 xs ys (acc ++ [.ref N]) B2 (Nat.succ.inj hl) hs2 fun zs B' H' sm hs' hz => ?_
    rw [List.append_assoc]
    refine q (.ref N :: zs) B' H' (sB.trans sm) hs' ⟨by rw [List.length_cons, List.length_cons, hz.1], fun i x' y' z' e1 e2 e3 => ?_⟩
    cases i with
    | zero =>
      cases e1
      cases e2
      cases e3
      exact ⟨N, rfl, sm _ _ hB⟩
    | succ i => exact hz.2 i x' y' z' e1 e2 e3
  | [], _ :: _, _, _, _, _, hl, _, _ => nomatch hl
  | _ :: _, [], _, _, _, _, hl, _, _ => nomatch hl
def LzR (K : PySem.W.Frag) (vs : List V) (H1 : Hp) (Q : VK) : Prop := ∃ a b xs ys, vs = [.ref a, .ref b] ∧ SqL K H1 a xs ∧ SqL K H1 b ys ∧ xs.length = ys.length ∧ xs.length ≤ 16384 ∧ zipL2 xs ys [] H1 fun zs H2 => ∀ q, H2 q = none → Q (.ref q) (upd H2 q (.lst zs))
theorem w_listZip {ta : TA} (q : ta σ H fun vs H1 => LzR K vs H1 Q) : tListZip K ta σ H Q := q
theorem w_lzR {a b : Addr} {xs ys : List V} (hs : Hs B L H) (h1 : SqL K H a xs) (h2 : SqL K H b ys) (hl : xs.length = ys.length) (hz : xs.length ≤ 16384) (q : ∀ p zs B' H', Same B B' → Hs B' ((p, .lst zs) :: L) H' → Zipd B' xs ys zs → Q (.ref p) H') : LzR K [.ref a, .ref b] H Q :=
  ⟨a, b, xs, ys, rfl, h1, h2, hl, hz, w_zipL2 xs ys [] B hl hs fun zs B' H' sm hs' hz p hp => q p zs B' _ sm (hs'.new hp) hz⟩
end
end Hb

set_option Elab.async false
set_option linter.all false
set_option maxRecDepth 100000
set_option maxHeartbeats 4000000
namespace K51
open PySem L2 Hb TL
class IsP (P : Program) : Prop where
  eq : P = PySem.Challenge.pw_hangbridge_k51_loads_and_safe_steps
def top (i : Nat) : Stmt := PySem.Challenge.pw_hangbridge_k51_loads_and_safe_steps.main.body.getD i (.Pass ⟨0, 0, 0, 0⟩)
abbrev s_load_of : Stmt := (top 1)
abbrev s_summed : Stmt := (top 2)
abbrev s_greater : Stmt := (top 3)
abbrev s_is_within : Stmt := (top 4)
abbrev s_loads : Stmt := (top 5)
abbrev s_fits_rooms : Stmt := (top 6)
abbrev s_greatest_loads : Stmt := (top 7)
abbrev s_is_safe : Stmt := (top 8)
abbrev s_scaled_flows : Stmt := (top 9)
abbrev s_ways_of : Stmt := (top 10)
abbrev s_amounts_of : Stmt := (top 11)
abbrev s_flow_of : Stmt := (top 12)
abbrev s_even_step : Stmt := (top 13)
abbrev s_even_steps : Stmt := (top 14)
abbrev s__law_state : Stmt := (top 16)
abbrev s__law_draw : Stmt := (top 17)
abbrev s__law_way : Stmt := (top 18)
abbrev s__law_flow : Stmt := (top 19)
abbrev s__law_flows : Stmt := (top 20)
abbrev s__law_rooms : Stmt := (top 21)
abbrev s__law_load : Stmt := (top 22)
abbrev s__law_fits : Stmt := (top 23)
abbrev s__law_safe : Stmt := (top 24)
abbrev s__law_row : Stmt := (top 25)
abbrev s__law_all : Stmt := (top 26)
abbrev s__law_greatest : Stmt := (top 27)
abbrev s__law_by_way : Stmt := (top 28)
abbrev s__law_even : Stmt := (top 29)
abbrev s__law_multiplied : Stmt := (top 30)
abbrev s_law : Stmt := (top 31)
abbrev N_load_of : List Str := ["flow", "found", "ends", "amount", "end"]
theorem sc_load_of : FnScope N_load_of ["flow"] (defScope s_load_of) := ⟨rfl, rfl, rfl, by decide +kernel, rfl, by decide +kernel, by decide +kernel⟩
abbrev N_summed : List Str := ["rows", "total", "row", "end"]
theorem sc_summed : FnScope N_summed ["rows"] (defScope s_summed) := ⟨rfl, rfl, rfl, by decide +kernel, rfl, by decide +kernel, by decide +kernel⟩
abbrev N_greater : List Str := ["load", "other", "end"]
theorem sc_greater : FnScope N_greater ["load", "other"] (defScope s_greater) := ⟨rfl, rfl, rfl, by decide +kernel, rfl, by decide +kernel, by decide +kernel⟩
abbrev N_is_within : List Str := ["rooms", "load", "end"]
theorem sc_is_within : FnScope N_is_within ["rooms", "load"] (defScope s_is_within) := ⟨rfl, rfl, rfl, by decide +kernel, rfl, by decide +kernel, by decide +kernel⟩
abbrev N_loads : List Str := ["flows", "flow"]
theorem sc_loads : FnScope N_loads ["flows"] (defScope s_loads) := ⟨rfl, rfl, rfl, by decide +kernel, rfl, by decide +kernel, by decide +kernel⟩
abbrev N_fits_rooms : List Str := ["rooms", "flows"]
theorem sc_fits_rooms : FnScope N_fits_rooms ["rooms", "flows"] (defScope s_fits_rooms) := ⟨rfl, rfl, rfl, by decide +kernel, rfl, by decide +kernel, by decide +kernel⟩
abbrev N_greatest_loads : List Str := ["flows", "others", "flow", "other"]
theorem sc_greatest_loads : FnScope N_greatest_loads ["flows", "others"] (defScope s_greatest_loads) := ⟨rfl, rfl, rfl, by decide +kernel, rfl, by decide +kernel, by decide +kernel⟩
abbrev N_is_safe : List Str := ["rooms", "flows", "others"]
theorem sc_is_safe : FnScope N_is_safe ["rooms", "flows", "others"] (defScope s_is_safe) := ⟨rfl, rfl, rfl, by decide +kernel, rfl, by decide +kernel, by decide +kernel⟩
abbrev N_scaled_flows : List Str := ["flows", "factor", "flow", "ends", "amount"]
theorem sc_scaled_flows : FnScope N_scaled_flows ["flows", "factor"] (defScope s_scaled_flows) := ⟨rfl, rfl, rfl, by decide +kernel, rfl, by decide +kernel, by decide +kernel⟩
abbrev N_ways_of : List Str := ["flow", "other", "found", "ends", "_"]
theorem sc_ways_of : FnScope N_ways_of ["flow", "other"] (defScope s_ways_of) := ⟨rfl, rfl, rfl, by decide +kernel, rfl, by decide +kernel, by decide +kernel⟩
abbrev N_amounts_of : List Str := ["flow", "ways", "way", "ends", "amount"]
theorem sc_amounts_of : FnScope N_amounts_of ["flow", "ways"] (defScope s_amounts_of) := ⟨rfl, rfl, rfl, by decide +kernel, rfl, by decide +kernel, by decide +kernel⟩
abbrev N_flow_of : List Str := ["ways", "amounts", "way", "amount"]
theorem sc_flow_of : FnScope N_flow_of ["ways", "amounts"] (defScope s_flow_of) := ⟨rfl, rfl, rfl, by decide +kernel, rfl, by decide +kernel, by decide +kernel⟩
abbrev N_even_step : List Str := ["flow", "other", "many", "more", "ways", "rows", "amount", "amount_then"]
theorem sc_even_step : FnScope N_even_step ["flow", "other", "many", "more"] (defScope s_even_step) := ⟨rfl, rfl, rfl, by decide +kernel, rfl, by decide +kernel, by decide +kernel⟩
abbrev N_even_steps : List Str := ["flows", "others", "count", "pairs", "at", "flow", "other"]
theorem sc_even_steps : FnScope N_even_steps ["flows", "others", "count"] (defScope s_even_steps) := ⟨rfl, rfl, rfl, by decide +kernel, rfl, by decide +kernel, by decide +kernel⟩
abbrev N__law_state : List Str := ["script", "seed", "cell"]
theorem sc__law_state : FnScope N__law_state ["script"] (defScope s__law_state) := ⟨rfl, rfl, rfl, by decide +kernel, rfl, by decide +kernel, by decide +kernel⟩
abbrev N__law_draw : List Str := ["state", "many", "cells", "k", "amount", "mixed"]
theorem sc__law_draw : FnScope N__law_draw ["state", "many"] (defScope s__law_draw) := ⟨rfl, rfl, rfl, by decide +kernel, rfl, by decide +kernel, by decide +kernel⟩
abbrev N__law_way : List Str := ["state", "ends", "way", "k", "end"]
theorem sc__law_way : FnScope N__law_way ["state"] (defScope s__law_way) := ⟨rfl, rfl, rfl, by decide +kernel, rfl, by decide +kernel, by decide +kernel⟩
abbrev N__law_flow : List Str := ["state", "amount", "ways", "found", "left", "k", "part"]
theorem sc__law_flow : FnScope N__law_flow ["state", "amount", "ways"] (defScope s__law_flow) := ⟨rfl, rfl, rfl, by decide +kernel, rfl, by decide +kernel, by decide +kernel⟩
abbrev N__law_flows : List Str := ["state", "flows", "others", "k", "ways", "amount"]
theorem sc__law_flows : FnScope N__law_flows ["state"] (defScope s__law_flows) := ⟨rfl, rfl, rfl, by decide +kernel, rfl, by decide +kernel, by decide +kernel⟩
abbrev N__law_rooms : List Str := ["state", "rooms", "end"]
theorem sc__law_rooms : FnScope N__law_rooms ["state"] (defScope s__law_rooms) := ⟨rfl, rfl, rfl, by decide +kernel, rfl, by decide +kernel, by decide +kernel⟩
abbrev N__law_load : List Str := ["flows", "end", "total", "flow", "ends", "amount"]
theorem sc__law_load : FnScope N__law_load ["flows", "end"] (defScope s__law_load) := ⟨rfl, rfl, rfl, by decide +kernel, rfl, by decide +kernel, by decide +kernel⟩
abbrev N__law_fits : List Str := ["rooms", "flows", "end"]
theorem sc__law_fits : FnScope N__law_fits ["rooms", "flows"] (defScope s__law_fits) := ⟨rfl, rfl, rfl, by decide +kernel, rfl, by decide +kernel, by decide +kernel⟩
abbrev N__law_safe : List Str := ["rooms", "flows", "others", "turned", "mixed", "k"]
theorem sc__law_safe : FnScope N__law_safe ["rooms", "flows", "others"] (defScope s__law_safe) := ⟨rfl, rfl, rfl, by decide +kernel, rfl, by decide +kernel, by decide +kernel⟩
abbrev N__law_row : List Str := ["pairs", "found", "end", "amount"]
theorem sc__law_row : FnScope N__law_row ["pairs"] (defScope s__law_row) := ⟨rfl, rfl, rfl, by decide +kernel, rfl, by decide +kernel, by decide +kernel⟩
abbrev N__law_all : List Str := ["flows", "ends", "end"]
theorem sc__law_all : FnScope N__law_all ["flows"] (defScope s__law_all) := ⟨rfl, rfl, rfl, by decide +kernel, rfl, by decide +kernel, by decide +kernel⟩
abbrev N__law_greatest : List Str := ["flows", "others", "pairs", "end", "rows", "k"]
theorem sc__law_greatest : FnScope N__law_greatest ["flows", "others"] (defScope s__law_greatest) := ⟨rfl, rfl, rfl, by decide +kernel, rfl, by decide +kernel, by decide +kernel⟩
abbrev N__law_by_way : List Str := ["flow", "found", "ends", "amount"]
theorem sc__law_by_way : FnScope N__law_by_way ["flow"] (defScope s__law_by_way) := ⟨rfl, rfl, rfl, by decide +kernel, rfl, by decide +kernel, by decide +kernel⟩
abbrev N__law_even : List Str := ["flow", "other", "count", "k", "ones", "twos", "ways", "ends", "amount", "rows", "row"]
theorem sc__law_even : FnScope N__law_even ["flow", "other", "count", "k"] (defScope s__law_even) := ⟨rfl, rfl, rfl, by decide +kernel, rfl, by decide +kernel, by decide +kernel⟩
abbrev N__law_multiplied : List Str := ["rooms", "factor", "found", "end"]
theorem sc__law_multiplied : FnScope N__law_multiplied ["rooms", "factor"] (defScope s__law_multiplied) := ⟨rfl, rfl, rfl, by decide +kernel, rfl, by decide +kernel, by decide +kernel⟩
abbrev N_law : List Str := ["script", "state", "flows", "others", "k", "more", "turned", "rooms", "kept", "count", "told", "due", "wide", "end", "least", "j", "flow", "ends", "amount"]
theorem sc_law : FnScope N_law ["script"] (defScope s_law) := ⟨rfl, rfl, rfl, by decide +kernel, rfl, by decide +kernel, by decide +kernel⟩
structure Ad where
  load_of : Addr
  fd_load_of : FuncData
  summed : Addr
  fd_summed : FuncData
  greater : Addr
  fd_greater : FuncData
  is_within : Addr
  fd_is_within : FuncData
  loads : Addr
  fd_loads : FuncData
  fits_rooms : Addr
  fd_fits_rooms : FuncData
  greatest_loads : Addr
  fd_greatest_loads : FuncData
  is_safe : Addr
  fd_is_safe : FuncData
  scaled_flows : Addr
  fd_scaled_flows : FuncData
  ways_of : Addr
  fd_ways_of : FuncData
  amounts_of : Addr
  fd_amounts_of : FuncData
  flow_of : Addr
  fd_flow_of : FuncData
  even_step : Addr
  fd_even_step : FuncData
  even_steps : Addr
  fd_even_steps : FuncData
  _law_state : Addr
  fd__law_state : FuncData
  _law_draw : Addr
  fd__law_draw : FuncData
  _law_way : Addr
  fd__law_way : FuncData
  _law_flow : Addr
  fd__law_flow : FuncData
  _law_flows : Addr
  fd__law_flows : FuncData
  _law_rooms : Addr
  fd__law_rooms : FuncData
  _law_load : Addr
  fd__law_load : FuncData
  _law_fits : Addr
  fd__law_fits : FuncData
  _law_safe : Addr
  fd__law_safe : FuncData
  _law_row : Addr
  fd__law_row : FuncData
  _law_all : Addr
  fd__law_all : FuncData
  _law_greatest : Addr
  fd__law_greatest : FuncData
  _law_by_way : Addr
  fd__law_by_way : FuncData
  _law_even : Addr
  fd__law_even : FuncData
  _law_multiplied : Addr
  fd__law_multiplied : FuncData
  law : Addr
  fd_law : FuncData
structure Txt (w : World) (K : PySem.W.Frag) (mg : Str → Option Value) (a : Ad) : Prop where
  fn_load_of : Fun K "load_of" "load_of" s_load_of a.load_of a.fd_load_of
  bi_load_of : Binds K a.fd_load_of ["flow"] []
  mg_load_of : mg "load_of" = some (.ref a.load_of)
  kp_load_of : PySem.W.keepIn K (.ref a.load_of) = true
  fn_summed : Fun K "summed" "summed" s_summed a.summed a.fd_summed
  bi_summed : Binds K a.fd_summed ["rows"] []
  mg_summed : mg "summed" = some (.ref a.summed)
  kp_summed : PySem.W.keepIn K (.ref a.summed) = true
  fn_greater : Fun K "greater" "greater" s_greater a.greater a.fd_greater
  bi_greater : Binds K a.fd_greater ["load", "other"] []
  mg_greater : mg "greater" = some (.ref a.greater)
  kp_greater : PySem.W.keepIn K (.ref a.greater) = true
  fn_is_within : Fun K "is_within" "is_within" s_is_within a.is_within a.fd_is_within
  bi_is_within : Binds K a.fd_is_within ["rooms", "load"] []
  mg_is_within : mg "is_within" = some (.ref a.is_within)
  kp_is_within : PySem.W.keepIn K (.ref a.is_within) = true
  fn_loads : Fun K "loads" "loads" s_loads a.loads a.fd_loads
  bi_loads : Binds K a.fd_loads ["flows"] []
  mg_loads : mg "loads" = some (.ref a.loads)
  kp_loads : PySem.W.keepIn K (.ref a.loads) = true
  fn_fits_rooms : Fun K "fits_rooms" "fits_rooms" s_fits_rooms a.fits_rooms a.fd_fits_rooms
  bi_fits_rooms : Binds K a.fd_fits_rooms ["rooms", "flows"] []
  mg_fits_rooms : mg "fits_rooms" = some (.ref a.fits_rooms)
  kp_fits_rooms : PySem.W.keepIn K (.ref a.fits_rooms) = true
  fn_greatest_loads : Fun K "greatest_loads" "greatest_loads" s_greatest_loads a.greatest_loads a.fd_greatest_loads
  bi_greatest_loads : Binds K a.fd_greatest_loads ["flows", "others"] []
  mg_greatest_loads : mg "greatest_loads" = some (.ref a.greatest_loads)
  kp_greatest_loads : PySem.W.keepIn K (.ref a.greatest_loads) = true
  fn_is_safe : Fun K "is_safe" "is_safe" s_is_safe a.is_safe a.fd_is_safe
  bi_is_safe : Binds K a.fd_is_safe ["rooms", "flows", "others"] []
  mg_is_safe : mg "is_safe" = some (.ref a.is_safe)
  kp_is_safe : PySem.W.keepIn K (.ref a.is_safe) = true
  fn_scaled_flows : Fun K "scaled_flows" "scaled_flows" s_scaled_flows a.scaled_flows a.fd_scaled_flows
  bi_scaled_flows : Binds K a.fd_scaled_flows ["flows", "factor"] []
  mg_scaled_flows : mg "scaled_flows" = some (.ref a.scaled_flows)
  kp_scaled_flows : PySem.W.keepIn K (.ref a.scaled_flows) = true
  fn_ways_of : Fun K "ways_of" "ways_of" s_ways_of a.ways_of a.fd_ways_of
  bi_ways_of : Binds K a.fd_ways_of ["flow", "other"] []
  mg_ways_of : mg "ways_of" = some (.ref a.ways_of)
  kp_ways_of : PySem.W.keepIn K (.ref a.ways_of) = true
  fn_amounts_of : Fun K "amounts_of" "amounts_of" s_amounts_of a.amounts_of a.fd_amounts_of
  bi_amounts_of : Binds K a.fd_amounts_of ["flow", "ways"] []
  mg_amounts_of : mg "amounts_of" = some (.ref a.amounts_of)
  kp_amounts_of : PySem.W.keepIn K (.ref a.amounts_of) = true
  fn_flow_of : Fun K "flow_of" "flow_of" s_flow_of a.flow_of a.fd_flow_of
  bi_flow_of : Binds K a.fd_flow_of ["ways", "amounts"] []
  mg_flow_of : mg "flow_of" = some (.ref a.flow_of)
  kp_flow_of : PySem.W.keepIn K (.ref a.flow_of) = true
  fn_even_step : Fun K "even_step" "even_step" s_even_step a.even_step a.fd_even_step
  bi_even_step : Binds K a.fd_even_step ["flow", "other", "many", "more"] []
  mg_even_step : mg "even_step" = some (.ref a.even_step)
  kp_even_step : PySem.W.keepIn K (.ref a.even_step) = true
  fn_even_steps : Fun K "even_steps" "even_steps" s_even_steps a.even_steps a.fd_even_steps
  bi_even_steps : Binds K a.fd_even_steps ["flows", "others", "count"] []
  mg_even_steps : mg "even_steps" = some (.ref a.even_steps)
  kp_even_steps : PySem.W.keepIn K (.ref a.even_steps) = true
  fn__law_state : Fun K "_law_state" "_law_state" s__law_state a._law_state a.fd__law_state
  bi__law_state : Binds K a.fd__law_state ["script"] []
  mg__law_state : mg "_law_state" = some (.ref a._law_state)
  kp__law_state : PySem.W.keepIn K (.ref a._law_state) = true
  fn__law_draw : Fun K "_law_draw" "_law_draw" s__law_draw a._law_draw a.fd__law_draw
  bi__law_draw : Binds K a.fd__law_draw ["state", "many"] []
  mg__law_draw : mg "_law_draw" = some (.ref a._law_draw)
  kp__law_draw : PySem.W.keepIn K (.ref a._law_draw) = true
  fn__law_way : Fun K "_law_way" "_law_way" s__law_way a._law_way a.fd__law_way
  bi__law_way : Binds K a.fd__law_way ["state"] []
  mg__law_way : mg "_law_way" = some (.ref a._law_way)
  kp__law_way : PySem.W.keepIn K (.ref a._law_way) = true
  fn__law_flow : Fun K "_law_flow" "_law_flow" s__law_flow a._law_flow a.fd__law_flow
  bi__law_flow : Binds K a.fd__law_flow ["state", "amount", "ways"] []
  mg__law_flow : mg "_law_flow" = some (.ref a._law_flow)
  kp__law_flow : PySem.W.keepIn K (.ref a._law_flow) = true
  fn__law_flows : Fun K "_law_flows" "_law_flows" s__law_flows a._law_flows a.fd__law_flows
  bi__law_flows : Binds K a.fd__law_flows ["state"] []
  mg__law_flows : mg "_law_flows" = some (.ref a._law_flows)
  kp__law_flows : PySem.W.keepIn K (.ref a._law_flows) = true
  fn__law_rooms : Fun K "_law_rooms" "_law_rooms" s__law_rooms a._law_rooms a.fd__law_rooms
  bi__law_rooms : Binds K a.fd__law_rooms ["state"] []
  mg__law_rooms : mg "_law_rooms" = some (.ref a._law_rooms)
  kp__law_rooms : PySem.W.keepIn K (.ref a._law_rooms) = true
  fn__law_load : Fun K "_law_load" "_law_load" s__law_load a._law_load a.fd__law_load
  bi__law_load : Binds K a.fd__law_load ["flows", "end"] []
  mg__law_load : mg "_law_load" = some (.ref a._law_load)
  kp__law_load : PySem.W.keepIn K (.ref a._law_load) = true
  fn__law_fits : Fun K "_law_fits" "_law_fits" s__law_fits a._law_fits a.fd__law_fits
  bi__law_fits : Binds K a.fd__law_fits ["rooms", "flows"] []
  mg__law_fits : mg "_law_fits" = some (.ref a._law_fits)
  kp__law_fits : PySem.W.keepIn K (.ref a._law_fits) = true
  fn__law_safe : Fun K "_law_safe" "_law_safe" s__law_safe a._law_safe a.fd__law_safe
  bi__law_safe : Binds K a.fd__law_safe ["rooms", "flows", "others"] []
  mg__law_safe : mg "_law_safe" = some (.ref a._law_safe)
  kp__law_safe : PySem.W.keepIn K (.ref a._law_safe) = true
  fn__law_row : Fun K "_law_row" "_law_row" s__law_row a._law_row a.fd__law_row
  bi__law_row : Binds K a.fd__law_row ["pairs"] []
  mg__law_row : mg "_law_row" = some (.ref a._law_row)
  kp__law_row : PySem.W.keepIn K (.ref a._law_row) = true
  fn__law_all : Fun K "_law_all" "_law_all" s__law_all a._law_all a.fd__law_all
  bi__law_all : Binds K a.fd__law_all ["flows"] []
  mg__law_all : mg "_law_all" = some (.ref a._law_all)
  kp__law_all : PySem.W.keepIn K (.ref a._law_all) = true
  fn__law_greatest : Fun K "_law_greatest" "_law_greatest" s__law_greatest a._law_greatest a.fd__law_greatest
  bi__law_greatest : Binds K a.fd__law_greatest ["flows", "others"] []
  mg__law_greatest : mg "_law_greatest" = some (.ref a._law_greatest)
  kp__law_greatest : PySem.W.keepIn K (.ref a._law_greatest) = true
  fn__law_by_way : Fun K "_law_by_way" "_law_by_way" s__law_by_way a._law_by_way a.fd__law_by_way
  bi__law_by_way : Binds K a.fd__law_by_way ["flow"] []
  mg__law_by_way : mg "_law_by_way" = some (.ref a._law_by_way)
  kp__law_by_way : PySem.W.keepIn K (.ref a._law_by_way) = true
  fn__law_even : Fun K "_law_even" "_law_even" s__law_even a._law_even a.fd__law_even
  bi__law_even : Binds K a.fd__law_even ["flow", "other", "count", "k"] []
  mg__law_even : mg "_law_even" = some (.ref a._law_even)
  kp__law_even : PySem.W.keepIn K (.ref a._law_even) = true
  fn__law_multiplied : Fun K "_law_multiplied" "_law_multiplied" s__law_multiplied a._law_multiplied a.fd__law_multiplied
  bi__law_multiplied : Binds K a.fd__law_multiplied ["rooms", "factor"] []
  mg__law_multiplied : mg "_law_multiplied" = some (.ref a._law_multiplied)
  kp__law_multiplied : PySem.W.keepIn K (.ref a._law_multiplied) = true
  fn_law : Fun K "law" "law" s_law a.law a.fd_law
  bi_law : Binds K a.fd_law ["script"] []
  mg_law : mg "law" = some (.ref a.law)
  kp_law : PySem.W.keepIn K (.ref a.law) = true
  mg_max : mg "max" = none
  mg_all : mg "all" = none
  mg_zip : mg "zip" = none
  mg_list : mg "list" = none
  mg_sum : mg "sum" = none
  mg_range : mg "range" = none
  mg_abs : mg "abs" = none
  mg_int : mg "int" = none
  mg_len : mg "len" = none
  mg_min : mg "min" = none
  mg_tuple : mg "tuple" = none
  mg_repr : mg "repr" = none
local macro_rules | `(tactic| walk_at "g") => `(tactic| first | assumption | exact Hs.g0 (by assumption) | exact Hs.g1 (by assumption) | exact Hs.g2 (by assumption) | exact Hs.g3 (by assumption) | exact Hs.g4 (by assumption) | exact Hs.g5 (by assumption) | exact Hs.g6 (by assumption) | exact Hs.g7 (by assumption) | exact Hs.g8 (by assumption) | exact Hs.g9 (by assumption) | exact Hs.g10 (by assumption) | exact Hs.g11 (by assumption) | exact Hs.g12 (by assumption) | exact Hs.g13 (by assumption) | exact Hs.g14 (by assumption) | exact Hs.g15 (by assumption) | exact Hs.old (by assumption) (by assumption))
local macro_rules | `(tactic| walk_at "l") => `(tactic| first | assumption | exact SqL.of (by walk_at "g") | exact Hs.sql (by assumption) (by assumption))
local macro_rules | `(tactic| walk_at "p") => `(tactic| first | exact .here | exact .there .here | exact .there (.there .here) | exact .there (.there (.there .here)) | exact .there (.there (.there (.there .here))) | exact .there (.there (.there (.there (.there .here)))) | exact .there (.there (.there (.there (.there (.there .here))))) | exact .there (.there (.there (.there (.there (.there (.there .here)))))) | exact .there (.there (.there (.there (.there (.there (.there (.there .here))))))) | exact .there (.there (.there (.there (.there (.there (.there (.there (.there .here)))))))) | exact .there (.there (.there (.there (.there (.there (.there (.there (.there (.there .here))))))))) | exact .there (.there (.there (.there (.there (.there (.there (.there (.there (.there (.there .here)))))))))) | exact .there (.there (.there (.there (.there (.there (.there (.there (.there (.there (.there (.there .here))))))))))) | exact .there (.there (.there (.there (.there (.there (.there (.there (.there (.there (.there (.there (.there .here)))))))))))))
local macro_rules | `(tactic| walk_at "f") => `(tactic| first | exact lk0 | exact lk1 (by decide +kernel) lk0 | exact lk1 (by decide +kernel) (lk1 (by decide +kernel) lk0) | exact lk1 (by decide +kernel) (lk1 (by decide +kernel) (lk1 (by decide +kernel) lk0)) | exact lk1 (by decide +kernel) (lk1 (by decide +kernel) (lk1 (by decide +kernel) (lk1 (by decide +kernel) lk0))) | exact lk1 (by decide +kernel) (lk1 (by decide +kernel) (lk1 (by decide +kernel) (lk1 (by decide +kernel) (lk1 (by decide +kernel) lk0)))) | exact lk1 (by decide +kernel) (lk1 (by decide +kernel) (lk1 (by decide +kernel) (lk1 (by decide +kernel) (lk1 (by decide +kernel) (lk1 (by decide +kernel) lk0))))) | exact lk1 (by decide +kernel) (lk1 (by decide +kernel) (lk1 (by decide +kernel) (lk1 (by decide +kernel) (lk1 (by decide +kernel) (lk1 (by decide +kernel) (lk1 (by decide +kernel) lk0)))))) | exact lk1 (by decide +kernel) (lk1 (by decide +kernel) (lk1 (by decide +kernel) (lk1 (by decide +kernel) (lk1 (by decide +kernel) (lk1 (by decide +kernel) (lk1 (by decide +kernel) (lk1 (by decide +kernel) lk0))))))))
local macro_rules | `(tactic| walk_at "fn") => `(tactic| first | exact lke | exact lkn (by decide +kernel) lke | exact lkn (by decide +kernel) (lkn (by decide +kernel) lke) | exact lkn (by decide +kernel) (lkn (by decide +kernel) (lkn (by decide +kernel) lke)) | exact lkn (by decide +kernel) (lkn (by decide +kernel) (lkn (by decide +kernel) (lkn (by decide +kernel) lke))) | exact lkn (by decide +kernel) (lkn (by decide +kernel) (lkn (by decide +kernel) (lkn (by decide +kernel) (lkn (by decide +kernel) lke)))) | exact lkn (by decide +kernel) (lkn (by decide +kernel) (lkn (by decide +kernel) (lkn (by decide +kernel) (lkn (by decide +kernel) (lkn (by decide +kernel) lke))))) | exact lkn (by decide +kernel) (lkn (by decide +kernel) (lkn (by decide +kernel) (lkn (by decide +kernel) (lkn (by decide +kernel) (lkn (by decide +kernel) (lkn (by decide +kernel) lke)))))) | exact lkn (by decide +kernel) (lkn (by decide +kernel) (lkn (by decide +kernel) (lkn (by decide +kernel) (lkn (by decide +kernel) (lkn (by decide +kernel) (lkn (by decide +kernel) (lkn (by decide +kernel) lke))))))))
local macro_rules | `(tactic| walk_at "fp") => `(tactic| first | exact pue | exact pu0 | exact pu2 (by decide +kernel) pue | exact pu2 (by decide +kernel) pu0 | exact pu2 (by decide +kernel) (pu2 (by decide +kernel) pue) | exact pu2 (by decide +kernel) (pu2 (by decide +kernel) pu0) | exact pu2 (by decide +kernel) (pu2 (by decide +kernel) (pu2 (by decide +kernel) pue)) | exact pu2 (by decide +kernel) (pu2 (by decide +kernel) (pu2 (by decide +kernel) pu0)) | exact pu2 (by decide +kernel) (pu2 (by decide +kernel) (pu2 (by decide +kernel) (pu2 (by decide +kernel) pue))) | exact pu2 (by decide +kernel) (pu2 (by decide +kernel) (pu2 (by decide +kernel) (pu2 (by decide +kernel) pu0))) | exact pu2 (by decide +kernel) (pu2 (by decide +kernel) (pu2 (by decide +kernel) (pu2 (by decide +kernel) (pu2 (by decide +kernel) pue)))) | exact pu2 (by decide +kernel) (pu2 (by decide +kernel) (pu2 (by decide +kernel) (pu2 (by decide +kernel) (pu2 (by decide +kernel) pu0)))) | exact pu2 (by decide +kernel) (pu2 (by decide +kernel) (pu2 (by decide +kernel) (pu2 (by decide +kernel) (pu2 (by decide +kernel) (pu2 (by decide +kernel) pue))))) | exact pu2 (by decide +kernel) (pu2 (by decide +kernel) (pu2 (by decide +kernel) (pu2 (by decide +kernel) (pu2 (by decide +kernel) (pu2 (by decide +kernel) pu0))))) | exact pu2 (by decide +kernel) (pu2 (by decide +kernel) (pu2 (by decide +kernel) (pu2 (by decide +kernel) (pu2 (by decide +kernel) (pu2 (by decide +kernel) (pu2 (by decide +kernel) pue)))))) | exact pu2 (by decide +kernel) (pu2 (by decide +kernel) (pu2 (by decide +kernel) (pu2 (by decide +kernel) (pu2 (by decide +kernel) (pu2 (by decide +kernel) (pu2 (by decide +kernel) pu0)))))))
local macro_rules | `(tactic| walk_at "c") => `(tactic| first | assumption | omega | (dsimp only; omega) | (unfold CMul; omega))
local macro_rules | `(tactic| walk_at "z") => `(tactic| first | assumption | (refine sz ?_; first | decide | omega | (simp only [List.length_map, List.length_append] <;> omega) | (simp only [List.length_cons, List.length_nil, List.length_map, List.length_append] <;> omega)) | (refine szl ?_; first | decide | omega | (simp only [List.length_map, List.length_append] <;> omega) | (simp only [List.length_cons, List.length_nil, List.length_map, List.length_append] <;> omega)))
local macro_rules | `(tactic| walk_at "s") => `(tactic| first
  | with_reducible refine w_seq ?_
  | ((with_reducible refine' w_var ?h ?_); case h => exact rfl)
  | with_reducible refine w_c ?_
  | with_reducible refine w_name ?_
  | with_reducible refine w_asg ?_
  | with_reducible refine w_op ?_
  | with_reducible refine w_I0 ?_
  | with_reducible refine w_exb ?_
  | with_reducible refine w_if ?_
  | with_reducible refine w_test ?_
  | with_reducible refine w_fld ?_
  | ((with_reducible refine' w_fl ?h ?hc ?hn ?hl ?_); (case h => walk_at "g"); (case hc => assumption); (case hn => assumption); (case hl => walk_at "f"))
  | with_reducible refine w_nil ?_
  | with_reducible refine w_cons ?_
  | with_reducible refine w_cb ?_
  | with_reducible refine w_call ?_
  | with_reducible refine w_meth ?_
  | with_reducible refine w_make ?_
  | ((with_reducible refine' w_rc ?h ?hl ?_); (case h => walk_at "g"); (case hl => walk_at "fn"))
  | with_reducible refine w_drop ?_
  | with_reducible refine w_ret ?_
  | with_reducible refine w_retN ?_
  | with_reducible refine w_next ?_
  | with_reducible refine w_brk ?_
  | with_reducible refine w_cont ?_
  | with_reducible refine w_eqI ?_
  | with_reducible refine w_neI ?_
  | with_reducible refine w_neB ?_
  | with_reducible refine w_isi ?_
  | ((with_reducible refine' w_len ?h ?_); case h => walk_at "l")
  | ((with_reducible refine' w_ixL ?h ?a ?_); (case h => walk_at "l"); (case a => first | exact at0 | exact at1 | exact at2 | exact at3 | assumption))
  | with_reducible refine w_bm ?_
  | with_reducible refine w_bm0 ?_
  | ((with_reducible refine' w_tyL ?h ?_); case h => walk_at "l")
  | with_reducible refine w_B ?_
  | with_reducible refine w_not ?_
  | with_reducible refine w_and ?_
  | with_reducible refine w_or ?_
  | with_reducible refine w_andV ?_
  | with_reducible refine w_orV ?_
  | with_reducible refine w_notV ?_
  | with_reducible refine w_ifE ?_
  | with_reducible refine w_chain ?_
  | with_reducible refine w_un ?_
  | with_reducible refine w_U ?_
  | with_reducible refine w_int ?_
  | with_reducible refine w_abs ?_
  | with_reducible refine w_tup ?_
  | with_reducible refine w_lst ?_
  | with_reducible refine w_sl ?_
  | with_reducible refine w_noPart ?_
  | with_reducible refine w_part ?_
  | with_reducible refine w_exi ?_
  | ((with_reducible refine' w_newL ?hs ?hl ?_); (case hs => assumption); (case hl => walk_at "z"); intro _ _ _)
  | ((with_reducible refine' w_newT ?hs ?hl ?_); (case hs => assumption); (case hl => walk_at "z"); intro _ _ _)
  | ((with_reducible refine' w_slL ?hs ?h ?_); (case hs => assumption); (case h => walk_at "l"); intro _ _ _)
  | ((with_reducible refine' w_cat ?hs ?ha ?hb ?hl ?_); (case hs => assumption); (case ha => walk_at "g"); (case hb => walk_at "g"); (case hl => walk_at "z"); intro _ _ _)
  | ((with_reducible refine' w_app ?hs ?h ?hl ?_); (case hs => assumption); (case h => walk_at "p"); (case hl => walk_at "z"); intro _ _)
  | ((with_reducible refine' w_clear ?hs ?h ?_); (case hs => assumption); (case h => walk_at "p"); intro _ _)
  | with_reducible refine w_sfld ?_
  | ((with_reducible refine' w_fsP ?hs ?h ?hc ?hn ?hl ?hg ?_); (case hs => assumption); (case h => walk_at "p"); (case hc => assumption); (case hn => assumption); (case hl => exact Nat.lt_of_lt_of_le (by simp only [List.length_cons, List.length_nil]; omega) (Nat.le_refl 1000)); (case hg => walk_at "fp"); intro _ _)
  | with_reducible refine w_lpb ?_
  | with_reducible refine w_yes ?_
  | with_reducible refine w_sub ?_
  | with_reducible refine w_delL0 ?_
  | ((with_reducible refine' w_I ?h ?_); case h => walk_at "c"))
local macro_rules | `(tactic| walk_at "ss") => `(tactic| repeat walk_at "s")

local macro_rules | `(tactic| walk_at "t") => `(tactic| first | assumption | exact SqT.of (by walk_at "g"))
local macro_rules | `(tactic| walk_at "s") => `(tactic| first
  | with_reducible refine iteT ?_
  | with_reducible refine iteF ?_
  | with_reducible refine w_din ?_
  | with_reducible refine w_dni ?_
  | ((with_reducible refine' w_dinI ?h ?_); case h => walk_at "g")
  | ((with_reducible refine' w_dniI ?h ?_); case h => walk_at "g")
  | with_reducible refine w_dput ?_
  | ((with_reducible refine' w_dputI ?hs ?h ?hl ?_); (case hs => assumption); (case h => walk_at "p"); (case hl => walk_at "z"); intro _ _)
  | with_reducible refine w_dpop ?_
  | ((with_reducible refine' w_dpopA ?h ?_); case h => walk_at "g")
  | with_reducible refine w_dnew ?_
  | ((with_reducible refine' w_newD ?hs ?_); (case hs => assumption); intro _ _ _)
  | with_reducible refine w_faug ?_
  | ((with_reducible refine' w_fa1 ?h ?hc ?hn ?hl ?_); (case h => walk_at "g"); (case hc => assumption); (case hn => assumption); (case hl => walk_at "f"))
  | ((with_reducible refine' w_fa2 ?hs ?h ?hl ?hg ?_); (case hs => assumption); (case h => walk_at "p"); (case hl => exact Nat.lt_of_lt_of_le (by simp only [List.length_cons, List.length_nil]; omega) (Nat.le_refl 1000)); (case hg => walk_at "fp"); intro _ _)
  | with_reducible refine w_rAdd ?_
  | with_reducible refine w_rSub ?_
  | with_reducible refine w_max ?_
  | with_reducible refine w_min ?_
  | with_reducible refine w_eqB ?_
  | with_reducible refine w_methQ ?_
  | with_reducible refine w_xf0 ?_
  | ((with_reducible refine' w_xf ?h ?hl ?_); (case h => walk_at "g"); (case hl => walk_at "f"))
  | with_reducible refine w_eqSt ?_
  | with_reducible refine w_isN ?_
  | with_reducible refine w_notN ?_
  | ((with_reducible refine' w_gtup ?h ?hl ?_); (case h => walk_at "t"); (case hl => rfl))
  | with_reducible refine w_gnil ?_
  | with_reducible refine w_gcons ?_
  | with_reducible refine w_par3 ?_
  | with_reducible refine w_ex3 ?_
  | with_reducible refine w_par2 ?_
  | with_reducible refine w_ex2 ?_
  | ((with_reducible refine' w_ixT ?h ?a ?_); (case h => walk_at "t"); (case a => first | exact at0 | exact at1 | exact at2 | exact at3 | assumption))
  | ((with_reducible refine' w_lenT ?h ?_); case h => walk_at "t")
  | ((with_reducible refine' w_set0 ?hs ?h ?_); (case hs => assumption); (case h => walk_at "p"); intro _ _)
  | ((with_reducible refine' w_set1 ?hs ?h ?_); (case hs => assumption); (case h => walk_at "p"); intro _ _)
  | ((with_reducible refine' w_set2 ?hs ?h ?_); (case hs => assumption); (case h => walk_at "p"); intro _ _)
  | ((with_reducible refine' w_set3 ?hs ?h ?_); (case hs => assumption); (case h => walk_at "p"); intro _ _)
  | ((with_reducible refine' w_set4 ?hs ?h ?_); (case hs => assumption); (case h => walk_at "p"); intro _ _)
  | with_reducible refine w_vei ?_
  | with_reducible refine w_ost0 ?_
  | with_reducible refine w_mko ?_
  | with_reducible refine w_raise ?_
  | with_reducible refine w_js ?_
  | with_reducible refine w_js0 ?_
  | with_reducible refine w_fmt ?_)

local macro_rules | `(tactic| walk_at "v") => `(tactic| first | exact v0 | exact v1 | exact v2 | exact v3 | exact v4 | exact v5 | exact v6 | exact v7 | exact v8)
local macro_rules | `(tactic| walk_at "vs") => `(tactic| first | exact st0 | exact st1 | exact st2 | exact st3 | exact st4 | exact st5 | exact st6 | exact st7 | exact st8)
local macro_rules | `(tactic| walk_at "s") => `(tactic| first
  | with_reducible refine w_dget ?_
  | ((with_reducible refine' w_dgetZ ?h ?nd ?hk ?hv ?_); (case h => walk_at "g"); (case nd => walk_at "nd"); (case hk => walk_at "k"); (case hv => walk_at "v"))
  | ((with_reducible refine' w_dputZ ?hs ?h ?nd ?hk ?hv ?hu ?hl ?_); (case hs => assumption); (case h => walk_at "p"); (case nd => walk_at "nd"); (case hk => walk_at "k"); (case hv => walk_at "v"); (case hu => walk_at "vs"); (case hl => decide); intro _ _)
  | with_reducible refine w_gsub ?_
  | with_reducible refine w_setD ?_
  | with_reducible refine w_disp ?_
  | ((with_reducible refine' w_newP ?hs ?_); (case hs => assumption); intro _ _ _)
  | with_reducible refine w_pcons ?_
  | with_reducible refine w_pnil ?_)

local macro_rules | `(tactic| walk_at "s") => `(tactic| first
  | with_reducible refine w_nget ?_
  | with_reducible refine w_nin ?_
  | with_reducible refine w_nnot ?_
  | with_reducible refine w_nput ?_
  | with_reducible refine w_ndel ?_
  | with_reducible refine w_npop ?_
  | ((with_reducible refine' w_nnew ?hs ?_); (case hs => assumption); intro _ _ _))

section
variable {P : Program} [IsP P] {w : World} {K : PySem.W.Frag} {mg : Str → Option Value} {base : Heap} {a : Ad}
/-! ### the draws of the law -/
/-- what a state may be -/
def Good (m : Int) (cells : List Int) : Prop := 0 ≤ m ∧ m < 2147483648 ∧ cells.length ≤ 1000
abbrev sto (c : Addr) (m : Int) : HO := .lst [.ref c, .int m]
abbrev clo (cells : List Int) : HO := .lst (cells.map V.int)
def sp__law_state (K : PySem.W.Frag) : Sp := fun vs H Q _ => ∃ (x : Addr) (ns : List Int), vs = [.ref x] ∧ SqL K H x (ns.map V.int) ∧ ns.length ≤ 1000 ∧ ∀ s c m cells H', Hs H [(s, sto c m), (c, clo cells)] H' → Good m cells → Q (.ref s) H'
def sp__law_draw : Sp := fun vs H Q _ => ∃ (B : Hp) (s c : Addr) (m many : Int) (cells : List Int), vs = [.ref s, .int many] ∧ Hs B [(s, sto c m), (c, clo cells)] H ∧ Good m cells ∧ many < 1000000000 ∧
  ∀ r m' cells' H', Hs B [(s, sto c m'), (c, clo cells')] H' → Good m' cells' → (many < 1 → r = 0) → (1 ≤ many → 0 ≤ r ∧ r < many) → Q (.int r) H'
theorem abs_map (ns : List Int) (i : Nat) {x : V} (h : (ns.map V.int)[i]? = some x) : ∃ n, ns[i]? = some n ∧ x = .int n := by
  rw [List.getElem?_map] at h
  cases e : ns[i]? with
  | none =>
    rw [e] at h
    cases h
  | some n =>
    rw [e] at h
    exact ⟨n, rfl, (Option.some.inj h).symm⟩
theorem ok__law_state (T : Txt w K mg a) : FnOk P w K mg base CX0 1 a._law_state a.fd__law_state ["script"] (sp__law_state K) := by
  refine T.fn__law_state.ok sc__law_state (fun vs H Q E h => ?_) (fun cdv A outer s H vs Q E hr h => ?_)
  · obtain ⟨_, _, rfl, _⟩ := h
    rfl
  · obtain ⟨x, ns, rfl, hx, hl, k⟩ := h
    refine ⟨_, (pss_cons (ps_set (i := 1) sc__law_state.nd rfl (Or.inl rfl) pe_int)
  (pss_cons (ps_for PassesOwn.never rfl (pi_listK (K := K) (pv 0)) (pg_name (i := 2) sc__law_state.nd rfl (Or.inl rfl))
  (pss_one (ps_set (i := 1) sc__law_state.nd rfl (Or.inl rfl) (pe_op op_mod (pe_callTy call_intQ (by rfl) T.mg_int (by decide +kernel) (pa_cons (pe_op op_add (pe_op op_mul (pv 1) pe_int) (pv 2)) pa_nil)) pe_int))))
  (pss_one (ps_ret (pe_lst (pa_cons (pe_lc (own := [("cell", 2)]) (g := (gName 2)) (tt := tYes) rfl sc__law_state.nd (pi_listK (K := K) (pv 0)) (blkOk_by (own := [("cell", 2)]) (N := N__law_state) (sc := defScope s__law_state) (by decide +kernel)) (fun _ _ _ _ _ => by exact (pg_name (i := 2) sc__law_state.nd rfl (by first | exact Or.inl rfl | exact Or.inr rfl))) (fun _ _ _ _ _ => pts_nil) (fun _ _ _ _ _ => by exact (pe_callB call_absQ (by rfl) T.mg_abs (by decide +kernel) (pa_cons (pv 2) pa_nil)))) (pa_cons (pe_op op_add (pv 1) pe_int) pa_nil))))))), ?_⟩
    have hs : Hs H [] H := Hs.start H
    walk_at "ss"
    refine w_forL hx (fun i σ H' => ∃ (m : Int) (v : Option V), σ = [some (.ref x), some (.int m), v] ∧ 0 ≤ m ∧ m < 1000003 ∧ Hs H [] H') (fun Q q => ⟨_, rfl, q⟩) ⟨11, none, rfl, by omega, by omega, hs⟩ (fun i σ H' _ ⟨_, _, _, _, _, hs⟩ => hs.sql hx) ?_ ?_
    · rintro i y σ H' hi ⟨m, v, rfl, h0, h1, hs⟩
      obtain ⟨n, _, rfl⟩ := abs_map ns i hi
      walk_at "ss"
      refine ⟨(m * 37 + n) % 1000003, _, rfl, ?_, ?_, hs⟩
      · exact Int.emod_nonneg _ (by decide)
      · exact Int.emod_lt_of_pos _ (by decide)
    · rintro σ H' ⟨m, v, rfl, h0, h1, hs⟩
      walk_at "ss"
      have hx1 : SqL K H' x (ns.map V.int) := Hs.sql (by assumption) hx
      refine w_lc hx1 (fun D i H2 => ∃ acc : List Int, acc.length = i ∧ Hs H [(D, clo acc)] H2) (fun Q q => ⟨_, rfl, q⟩) (fun D hD => ⟨[], rfl, Hs.new (by assumption) hD⟩) (fun D i H2 _ ⟨_, _, hs⟩ => hs.sql hx) ?_ ?_
      · rintro D i y H2 hi ⟨acc, ha, hs⟩
        obtain ⟨n, _, rfl⟩ := abs_map ns i hi
        have hin : i < ns.length := by
          have := (List.getElem?_eq_some_iff.mp hi).1
          rwa [List.length_map] at this
        walk_at "ss"
        refine ⟨rfl, ?_⟩
        walk_at "ss"
        try (with_reducible refine iteT ?_)
        walk_at "ss"
        refine ⟨_, hs.g0, ?_, acc ++ [if n < 0 then -n else n], ?_, ?_⟩
        · refine szl ?_
          rw [List.length_map]
          omega
        · rw [List.length_append, ha]
          rfl
        · have := hs.p0 (.lst ((acc.map V.int) ++ [V.int (if n < 0 then -n else n)]))
          unfold clo
          rw [List.map_append]
          exact this
      · rintro D H2 ⟨acc, ha, hs⟩
        rw [List.length_map] at ha
        walk_at "ss"
        refine k _ D (m + 1) acc _ (by assumption) ⟨by omega, by omega, by omega⟩
theorem ok__law_draw (T : Txt w K mg a) : FnOk P w K mg base CX0 1 a._law_draw a.fd__law_draw ["state", "many"] sp__law_draw := by
  refine T.fn__law_draw.ok sc__law_draw (fun vs H Q E h => ?_) (fun cdv A outer s H vs Q E hr h => ?_)
  · obtain ⟨_, _, _, _, _, _, rfl, _⟩ := h
    rfl
  · obtain ⟨B, s, c, m, many, cells, rfl, hs, ⟨hm0, hm1, hl⟩, hmany, k⟩ := h
    refine ⟨_, (pss_cons (ps_if (pt_cmpR op_lt (pv 1) pe_int (nomark _))
  (pss_one (ps_ret pe_int))
  pss_nil)
  (pss_cons (ps_set (i := 2) sc__law_draw.nd rfl (Or.inl rfl) (pe_ix (ix_listK (K := K)) (pv 0) pe_int (fun _ _ => rfl)))
  (pss_cons (ps_for PassesOwn.never rfl (pi_range1 rfl T.mg_range (pa_cons (pe_callB (call_lenK (K := K)) (by rfl) T.mg_len PySem.boot_len (pa_cons (pv 2) pa_nil)) pa_nil)) (pg_name (i := 3) sc__law_draw.nd rfl (Or.inl rfl))
  (pss_one (ps_if (PW.pt (pw_and (pt_cmpR op_eq (pe_ix (ix_listK (K := K)) (pv 2) pe_int (fun _ _ => rfl)) pe_int (nomark _)) (pw_and1 (pt_cmpR op_gt (pe_callB (call_lenK (K := K)) (by rfl) T.mg_len PySem.boot_len (pa_cons (pv 2) pa_nil)) pe_int (nomark _)))))
  (pss_one (ps_expr (pe_bmK (K := K) PySem.F.plainAttrs_list PySem.F.slot_list_pop PySem.F.type_list_pop mt_popAt (pv 2) (pa_cons pe_int pa_nil))))
  pss_nil)))
  (pss_cons (ps_if (PW.pt (pw_and (pt_cmpR op_gt (pe_callB (call_lenK (K := K)) (by rfl) T.mg_len PySem.boot_len (pa_cons (pv 2) pa_nil)) pe_int (nomark _)) (pw_and1 (pt_cmpR op_gt (pe_ix (ix_listK (K := K)) (pv 2) pe_int (fun _ _ => rfl)) pe_int (nomark _)))))
  (pss_cons (ps_set (i := 4) sc__law_draw.nd rfl (Or.inl rfl) (pe_ix (ix_listK (K := K)) (pv 2) pe_int (fun _ _ => rfl)))
  (pss_cons (ps_asg (pe_op op_fdivW (pv 4) (pv 1)) (pg_sub (pv 2) pe_int set_list))
  (pss_one (ps_ret (pe_op op_mod (pe_callTy call_intQ (by rfl) T.mg_int (by decide +kernel) (pa_cons (pv 4) pa_nil)) (pv 1))))))
  pss_nil)
  (pss_cons (ps_set (i := 5) sc__law_draw.nd rfl (Or.inl rfl) (pe_op op_mod (pe_callTy call_intQ (by rfl) T.mg_int (by decide +kernel) (pa_cons (pe_op op_add (pe_op op_mul (pe_ix (ix_listK (K := K)) (pv 0) pe_int (fun _ _ => rfl)) pe_int) pe_int) pa_nil)) pe_int))
  (pss_cons (ps_asg (pv 5) (pg_sub (pv 0) pe_int set_list))
  (pss_one (ps_ret (pe_op op_mod (pe_callTy call_intQ (by rfl) T.mg_int (by decide +kernel) (pa_cons (pe_op op_fdivW (pv 5) pe_int) pa_nil)) (pv 1)))))))))), ?_⟩
    walk_at "ss"
    refine ifd (fun h => ?_) (fun h => ?_)
    · walk_at "ss"
      exact k 0 m cells _ hs ⟨hm0, hm1, hl⟩ (fun _ => rfl) (fun q => by omega)
    walk_at "ss"
    refine w_for1 ?_
    walk_at "ss"
    rw [List.length_map]
    refine w_forR (n := (cells.length : Int)) (by omega) (fun i σ H' => ∃ (cs : List Int) (v3 : Option V), σ = [some (.ref s), some (.int many), some (.ref c), v3, none, none] ∧ cs.length ≤ 1000 ∧ (0 < cells.length → cs ≠ []) ∧ Hs B [(s, sto c m), (c, clo cs)] H') (fun Q' q => q) (by omega) ⟨cells, none, rfl, hl, fun h => List.length_pos_iff.mp h, hs⟩ ?_ ?_
    · clear hs
      rintro i σ H' hi ⟨cs, v3, rfl, hl2, hne, hs⟩
      have hpos : 0 < cells.length := by omega
      cases cs with
      | nil => exact absurd rfl (hne hpos)
      | cons z cs =>
        rw [List.length_cons] at hl2
        walk_at "ss"
        refine ifd (fun hz => ?_) (fun hz => ?_)
        · walk_at "ss"
          refine ifd (fun h2 => ?_) (fun h2 => ?_)
          · walk_at "ss"
            refine w_popAt (k := 0) hs (by walk_at "p") rfl rfl (by walk_at "z") fun H2 hs2 => ?_
            refine ⟨cs, _, rfl, by omega, fun _ z => ?_, hs2⟩
            subst z
            simp at h2
          · walk_at "ss"
            exact ⟨z :: cs, _, rfl, by rw [List.length_cons]; omega, (fun _ z => by cases z), hs⟩
        · refine iteF ?_
          walk_at "ss"
          exact ⟨z :: cs, _, rfl, by rw [List.length_cons]; omega, (fun _ z => by cases z), hs⟩
    · clear hs
      rintro σ H' ⟨cs, v3, rfl, hl2, hne, hs⟩
      cases cs with
      | nil =>
        walk_at "ss"
        show if decide ((0 : Int) < ((0 : Nat) : Int)) = true then _ else _
        refine iteF ?_
        try (with_reducible refine iteF ?_)
        walk_at "ss"
        rename_i H2 hs2
        clear hs
        have e1 : 0 ≤ (m * 48271 + 12345) % 2147483647 := Int.emod_nonneg _ (by decide)
        have e2 : (m * 48271 + 12345) % 2147483647 < 2147483647 := Int.emod_lt_of_pos _ (by decide)
        generalize (m * 48271 + 12345) % 2147483647 = mm at e1 e2 hs2 ⊢
        refine w_I ⟨by decide, by decide⟩ ?_
        walk_at "ss"
        refine k _ mm [] _ hs2 ⟨e1, by omega, hl2⟩ (fun q => by omega) fun q => ⟨Int.emod_nonneg _ (by omega), Int.emod_lt_of_pos _ (by omega)⟩
      | cons z cs =>
        have hl3 : cs.length + 1 ≤ 1000 := by rw [List.length_cons] at hl2; exact hl2
        walk_at "ss"
        refine ifd (fun _ => ?_) (fun q => absurd (show (0 : Int) < _ from by simp only [List.map_cons, List.length_cons]; omega) q)
        walk_at "ss"
        refine ifd (fun hz => ?_) (fun hz => ?_)
        · walk_at "ss"
          refine w_I ⟨by omega, ?_⟩ ?_
          · refine PySem.Flt.log2_lt_of (by decide) (Nat.lt_of_lt_of_le (show many.natAbs < 2 ^ 30 by omega) (Nat.pow_le_pow_right (by decide) (by decide)))
          walk_at "ss"
          rename_i H2 hs2
          refine k _ m ((z / many) :: cs) _ hs2 ⟨hm0, hm1, by rw [List.length_cons]; omega⟩ (fun q => by omega) fun q => ⟨Int.emod_nonneg _ (by omega), Int.emod_lt_of_pos _ (by omega)⟩
        · walk_at "ss"
          rename_i H2 hs2
          clear hs
          have e1 : 0 ≤ (m * 48271 + 12345) % 2147483647 := Int.emod_nonneg _ (by decide)
          have e2 : (m * 48271 + 12345) % 2147483647 < 2147483647 := Int.emod_lt_of_pos _ (by decide)
          generalize (m * 48271 + 12345) % 2147483647 = mm at e1 e2 hs2 ⊢
          refine w_I ⟨by decide, by decide⟩ ?_
          walk_at "ss"
          refine k _ mm (z :: cs) _ hs2 ⟨e1, by omega, hl2⟩ (fun q => by omega) fun q => ⟨Int.emod_nonneg _ (by omega), Int.emod_lt_of_pos _ (by omega)⟩
theorem w_draw {B H : Hp} {Q : VK} {E : XK} {s c : Addr} {m many : Int} {cells : List Int} {R : List (Addr × HO)} (hs : Hs B ((s, sto c m) :: (c, clo cells) :: R) H) (g : Good m cells) (hm : many < 1000000000)
    (q : ∀ r m' cells' H', Hs B ((s, sto c m') :: (c, clo cells') :: R) H' → Good m' cells' → (many < 1 → r = 0) → (1 ≤ many → 0 ≤ r ∧ r < many) → Q (.int r) H') : sp__law_draw [.ref s, .int many] H Q E := by
  obtain ⟨B', _, h1, back⟩ := hs.frame2
  exact ⟨B', s, c, m, many, cells, rfl, h1, g, hm, fun r m' cells' H' h2 => q r m' cells' H' (back _ _ h2)⟩
end
/-! ## loads as plain lists -/
abbrev En := Int × Int
def E4 : List En := [(1, 1), (1, 2), (2, 1), (2, 3)]
def eL (M : EM) (e : En) : Option Int := (M.find? fun x => decide (x.1 = e)).map (·.2)
def eG (M : EM) (e : En) : Int := (eL M e).getD 0
def putE (M : EM) (e : En) (v : Int) : EM := if (eL M e).isSome then M.map (fun x => if x.1 = e then (x.1, v) else x) else M ++ [(e, v)]
theorem kE_inj {e f : En} : kE e = kE f ↔ e = f := by
  constructor
  · intro h
    have h1 := (List.cons.inj h).1
    have h2 := (List.cons.inj (List.cons.inj h).2).1
    exact Prod.ext (Sum.inl.inj h1) (Sum.inl.inj h2)
  · rintro rfl
    rfl
theorem eL_cons (x : En × Int) (M : EM) (e : En) : eL (x :: M) e = if x.1 = e then some x.2 else eL M e := by
  unfold eL
  rw [List.find?_cons]
  by_cases h : x.1 = e
  · rw [if_pos h, decide_eq_true h]
    rfl
  · rw [if_neg h, decide_eq_false h]
theorem valG_gmI (M : EM) (e : En) : valG (gmI M) (kE e) = (eL M e).map V.int := by
  induction M with
  | nil => rfl
  | cons x M ih =>
    show valG ((kE x.1, V.int x.2) :: gmI M) (kE e) = _
    rw [valG_cons, eL_cons, ih]
    by_cases h : x.1 = e
    · rw [if_pos h, if_pos (kE_inj.mpr h)]
      rfl
    · rw [if_neg h, if_neg fun z => h (kE_inj.mp z)]
theorem gmI_put (M : EM) (e : En) (v : Int) : putG (gmI M) (kE e) (.int v) = gmI (putE M e v) := by
  unfold putG putE
  rw [valG_gmI, Option.isSome_map]
  cases (eL M e).isSome with
  | false =>
    rw [if_neg Bool.false_ne_true, if_neg Bool.false_ne_true]
    unfold gmI
    rw [List.map_append]
    rfl
  | true =>
    rw [if_pos rfl, if_pos rfl]
    unfold gmI
    rw [List.map_map, List.map_map]
    refine List.map_congr_left fun x _ => ?_
    show (if kE x.1 = kE e then (kE x.1, V.int v) else (kE x.1, V.int x.2)) = (fun e : En × Int => (kE e.1, V.int e.2)) (if x.1 = e then (x.1, v) else x)
    by_cases h : x.1 = e
    · rw [if_pos h, if_pos (kE_inj.mpr h)]
    · rw [if_neg h, if_neg fun z => h (kE_inj.mp z)]
theorem eL_put (M : EM) (e : En) (v : Int) (f : En) : eL (putE M e v) f = if f = e then some v else eL M f := by
  have h := valG_put (gmI M) (kE e) (.int v) (kE f)
  rw [gmI_put, valG_gmI, valG_gmI] at h
  have inj : ∀ {a b : Option Int}, a.map V.int = b.map V.int → a = b := fun {a b} h => by
    cases a with
    | none =>
      cases b with
      | none => rfl
      | some b => cases h
    | some a =>
      cases b with
      | none => cases h
      | some b => exact congrArg some (V.int.inj (Option.some.inj h))
  apply inj
  rw [h]
  by_cases c : f = e
  · rw [if_pos c, if_pos (kE_inj.mpr c)]
    rfl
  · rw [if_neg c, if_neg fun z => c (kE_inj.mp z)]
theorem eG_put (M : EM) (e : En) (v : Int) (f : En) : eG (putE M e v) f = if f = e then v else eG M f := by
  unfold eG
  rw [eL_put]
  split <;> rfl
structure RM (M : EM) : Prop where
  nd : (M.map (·.1)).Nodup
  e4 : ∀ x ∈ M, x.1 ∈ E4
theorem RM.nil : RM [] := ⟨.nil, fun _ z => nomatch z⟩
theorem eL_some {M : EM} {e : En} {v : Int} (h : eL M e = some v) : (e, v) ∈ M := by
  induction M with
  | nil => cases h
  | cons x M ih =>
    rw [eL_cons] at h
    by_cases c : x.1 = e
    · rw [if_pos c] at h
      cases h
      rw [← c]
      exact List.mem_cons_self
    · rw [if_neg c] at h
      exact List.mem_cons_of_mem _ (ih h)
theorem eL_mem {M : EM} (nd : (M.map (·.1)).Nodup) {x : En × Int} (h : x ∈ M) : eL M x.1 = some x.2 := by
  induction M with
  | nil => cases h
  | cons y M ih =>
    rw [List.map_cons, List.nodup_cons] at nd
    rw [eL_cons]
    rcases List.mem_cons.mp h with rfl | h
    · rw [if_pos rfl]
    · rw [if_neg (show ¬ y.1 = x.1 from fun z => nd.1 (by rw [z]; exact List.mem_map_of_mem h)), ih nd.2 h]
theorem eL_isSome {M : EM} {e : En} : (eL M e).isSome = true ↔ e ∈ M.map (·.1) := by
  constructor
  · intro h
    obtain ⟨v, hv⟩ := Option.isSome_iff_exists.mp h
    exact List.mem_map.mpr ⟨_, eL_some hv, rfl⟩
  · intro h
    obtain ⟨x, hx, rfl⟩ := List.mem_map.mp h
    clear h
    induction M with
    | nil => cases hx
    | cons y M ih =>
      rw [eL_cons]
      by_cases c : y.1 = x.1
      · rw [if_pos c]
        rfl
      · rw [if_neg c]
        rcases List.mem_cons.mp hx with rfl | hx
        · exact absurd rfl c
        · exact ih hx
theorem putE_keys (M : EM) (e : En) (v : Int) : (putE M e v).map (·.1) = if (eL M e).isSome = true then M.map (·.1) else M.map (·.1) ++ [e] := by
  unfold putE
  cases (eL M e).isSome with
  | false =>
    rw [if_neg Bool.false_ne_true, if_neg Bool.false_ne_true, List.map_append]
    rfl
  | true =>
    rw [if_pos rfl, if_pos rfl, List.map_map]
    refine List.map_congr_left fun x _ => ?_
    show (if x.1 = e then (x.1, v) else x).1 = x.1
    split <;> rfl
theorem putE_mem {M : EM} {e : En} {v : Int} {x : En × Int} (h : x ∈ putE M e v) : x = (e, v) ∨ (x ∈ M ∧ x.1 ≠ e) ∨ (x ∈ M ∧ eL M e = none) := by
  unfold putE at h
  cases c : (eL M e).isSome with
  | false =>
    rw [c, if_neg Bool.false_ne_true] at h
    rcases List.mem_append.mp h with h | h
    · exact .inr (.inr ⟨h, by simpa using c⟩)
    · exact .inl (List.mem_singleton.mp h)
  | true =>
    rw [c, if_pos rfl] at h
    obtain ⟨y, hy, hx⟩ := List.mem_map.mp h
    by_cases q : y.1 = e
    · rw [if_pos q] at hx
      exact .inl (by rw [← hx, q])
    · rw [if_neg q] at hx
      exact .inr (.inl (hx ▸ ⟨hy, q⟩))
theorem RM.put {M : EM} (h : RM M) {e : En} (v : Int) (he : e ∈ E4) : RM (putE M e v) := by
  constructor
  · rw [putE_keys]
    by_cases c : (eL M e).isSome = true
    · rw [if_pos c]
      exact h.nd
    · rw [if_neg c, List.nodup_append]
      exact ⟨h.nd, by simp, fun a ha b hb q => c (by rw [List.mem_singleton] at hb; exact eL_isSome.mpr (hb ▸ q ▸ ha))⟩
  · intro x hx
    rcases putE_mem hx with rfl | ⟨h1, _⟩ | ⟨h1, _⟩
    · exact he
    · exact h.e4 x h1
    · exact h.e4 x h1
theorem RM.len {M : EM} (h : RM M) : M.length ≤ 4 := by
  have := h.nd.length_le_of_subset (l₂ := E4) fun x hx => by
    obtain ⟨y, hy, rfl⟩ := List.mem_map.mp hx
    exact h.e4 y hy
  rwa [List.length_map] at this
theorem e4_hash : ((E4.map kE).map hK).Nodup := by decide +kernel
theorem map_fst {α β γ : Type} (g : α → γ) : ∀ l : List (α × β), l.map (fun x => g x.1) = (l.map (·.1)).map g
  | [] => rfl
  | x :: l => by rw [List.map_cons, List.map_cons, List.map_cons, map_fst g l]
theorem gmI_keys : ∀ M : EM, (gmI M).map (·.1) = (M.map (·.1)).map kE
  | [] => rfl
  | x :: M => by
    have := gmI_keys M
    unfold gmI at this ⊢
    rw [List.map_cons, List.map_cons, List.map_cons, List.map_cons, this]
theorem RM.hash {w : World} {M : EM} (h : RM M) : ((gmI M).map fun x => (nkK x.1).hash w).Nodup := by
  have mem : ∀ k ∈ (M.map (·.1)).map kE, k ∈ E4.map kE := fun k hk => by
    obtain ⟨e, he, rfl⟩ := List.mem_map.mp hk
    obtain ⟨x, hx, rfl⟩ := List.mem_map.mp he
    exact List.mem_map_of_mem (h.e4 x hx)
  have nd2 : ((M.map (·.1)).map kE).Nodup := List.pairwise_map.mpr (h.nd.imp fun {a b} n q => n (kE_inj.mp q))
  rw [map_fst (fun k => (nkK k).hash w) (gmI M), gmI_keys]
  exact hash_nodup e4_hash nd2 mem
/-! a dict of loads, told by a function -/
structure Ls (M : EM) (f : En → Int) : Prop where
  rm : RM M
  val : ∀ e ∈ E4, eG M e = f e
  pos : ∀ x ∈ M, 0 < x.2
theorem Ls.nil : Ls [] fun _ => 0 := ⟨RM.nil, fun _ _ => rfl, fun _ z => nomatch z⟩
theorem Ls.key {M : EM} {f : En → Int} (h : Ls M f) {e : En} : e ∈ M.map (·.1) ↔ e ∈ E4 ∧ 0 < f e := by
  constructor
  · intro z
    obtain ⟨x, hx, rfl⟩ := List.mem_map.mp z
    refine ⟨h.rm.e4 x hx, ?_⟩
    rw [← h.val _ (h.rm.e4 x hx)]
    unfold eG
    rw [eL_mem h.rm.nd hx]
    exact h.pos x hx
  · rintro ⟨h1, h2⟩
    rw [← h.val e h1] at h2
    apply eL_isSome.mp
    unfold eG at h2
    cases c : eL M e with
    | none =>
      rw [c] at h2
      exact absurd h2 (by decide)
    | some v => rfl
theorem Ls.put {M : EM} {f : En → Int} (h : Ls M f) {e : En} {v : Int} (he : e ∈ E4) (hv : 0 < v) : Ls (putE M e v) fun x => if x = e then v else f x := by
  refine ⟨h.rm.put v he, fun x hx => ?_, fun x hx => ?_⟩
  · rw [eG_put, h.val x hx]
  · rcases putE_mem hx with rfl | ⟨h1, _⟩ | ⟨h1, _⟩
    · exact hv
    · exact h.pos x h1
    · exact h.pos x h1
theorem Ls.congr {M : EM} {f g : En → Int} (h : Ls M f) (e : ∀ x ∈ E4, f x = g x) : Ls M g := ⟨h.rm, fun x hx => (h.val x hx).trans (e x hx), h.pos⟩
theorem Ls.len {M N : EM} {f : En → Int} (h : Ls M f) (k : Ls N f) : M.length = N.length := by
  have le : ∀ {M N : EM}, Ls M f → Ls N f → M.length ≤ N.length := fun {M N} h k => by
    have := h.rm.nd.length_le_of_subset (l₂ := N.map (·.1)) fun x hx => k.key.mpr (h.key.mp hx)
    rwa [List.length_map, List.length_map] at this
  exact Nat.le_antisymm (le h k) (le k h)
theorem Ls.like {M N : EM} {f : En → Int} (h : Ls M f) (k : Ls N f) : ∀ e ∈ gmI M, ∃ i : Int, e.2 = .int i ∧ valG (gmI N) e.1 = some (.int i) := by
  intro e he
  obtain ⟨x, hx, rfl⟩ := List.mem_map.mp he
  refine ⟨x.2, rfl, ?_⟩
  rw [valG_gmI]
  have h4 := h.rm.e4 x hx
  have h1 : eG M x.1 = x.2 := by
    unfold eG
    rw [eL_mem h.rm.nd hx]
    rfl
  have h2 : eG N x.1 = x.2 := (k.val _ h4).trans ((h.val _ h4).symm.trans h1)
  obtain ⟨v, hv⟩ := Option.isSome_iff_exists.mp (eL_isSome.mpr (k.key.mpr (h.key.mp (List.mem_map_of_mem (f := (·.1)) hx))))
  unfold eG at h2
  rw [hv] at h2 ⊢
  rw [← h2]
  rfl
/-! ends, ways, flows as they stand -/
abbrev Wy := List En
abbrev Fl := List (Wy × Int)
def EnAt (H : Hp) (v : V) (e : En) : Prop := ∃ p : Addr, v = .ref p ∧ H p = some (.tup [.int e.1, .int e.2])
def WyAt (H : Hp) (v : V) (y : Wy) : Prop := ∃ (p : Addr) (us : List V), v = .ref p ∧ H p = some (.lst us) ∧ Row (EnAt H) us y
def PrAt (H : Hp) (v : V) (x : Wy × Int) : Prop := ∃ (p : Addr) (u : V), v = .ref p ∧ H p = some (.tup [u, .int x.2]) ∧ WyAt H u x.1
def FlAt (H : Hp) (v : V) (f : Fl) : Prop := ∃ (p : Addr) (us : List V), v = .ref p ∧ H p = some (.lst us) ∧ Row (PrAt H) us f
def FsAt (H : Hp) (v : V) (fs : List Fl) : Prop := ∃ (p : Addr) (us : List V), v = .ref p ∧ H p = some (.lst us) ∧ Row (FlAt H) us fs
theorem EnAt.kat {H : Hp} {p : Addr} {e : En} (h : H p = some (.tup [.int e.1, .int e.2])) : KAt H p (kE e) := kat_ints (ns := [e.1, e.2]) h
section
variable {H H' : Hp} {v : V}
theorem EnAt.same (s : Same H H') {e : En} (h : EnAt H v e) : EnAt H' v e := let ⟨p, h1, h2⟩ := h; ⟨p, h1, s _ _ h2⟩
theorem WyAt.same (s : Same H H') {y : Wy} (h : WyAt H v y) : WyAt H' v y := let ⟨p, us, h1, h2, h3⟩ := h; ⟨p, us, h1, s _ _ h2, h3.mono fun _ _ => EnAt.same s⟩
theorem PrAt.same (s : Same H H') {x : Wy × Int} (h : PrAt H v x) : PrAt H' v x := let ⟨p, u, h1, h2, h3⟩ := h; ⟨p, u, h1, s _ _ h2, h3.same s⟩
theorem FlAt.same (s : Same H H') {f : Fl} (h : FlAt H v f) : FlAt H' v f := let ⟨p, us, h1, h2, h3⟩ := h; ⟨p, us, h1, s _ _ h2, h3.mono fun _ _ => PrAt.same s⟩
theorem FsAt.same (s : Same H H') {fs : List Fl} (h : FsAt H v fs) : FsAt H' v fs := let ⟨p, us, h1, h2, h3⟩ := h; ⟨p, us, h1, s _ _ h2, h3.mono fun _ _ => FlAt.same s⟩
end
def WyOk (y : Wy) : Prop := (∀ e ∈ y, e ∈ E4) ∧ y.Nodup
def FlOk (f : Fl) : Prop := f.length ≤ 100 ∧ ∀ x ∈ f, WyOk x.1 ∧ 0 < x.2
def FsOk (fs : List Fl) : Prop := fs.length ≤ 100 ∧ ∀ f ∈ fs, FlOk f
/-- what a way and its amount put on an end -/
def on (x : Wy × Int) (e : En) : Int := if e ∈ x.1 then x.2 else 0
def ld (f : Fl) (e : En) : Int := (f.map fun x => on x e).sum
def lds (fs : List Fl) (e : En) : Int := (fs.map fun f => ld f e).sum
/-- a dict of loads that stands -/
def LdAt (w : World) (H : Hp) (v : V) (M : EM) : Prop := ∃ (d : Addr) (es : List Ent), v = .ref d ∧ H d = some (DN w d es) ∧ EntG H es (gmI M)
theorem LdAt.same {w : World} {H H' : Hp} (s : Same H H') {v : V} {M : EM} (h : LdAt w H v M) : LdAt w H' v M := let ⟨d, es, h1, h2, h3⟩ := h; ⟨d, es, h1, s _ _ h2, h3.same s⟩
/-- .. and is new -/
def LdNew (w : World) (H0 H : Hp) (v : V) (M : EM) : Prop := ∃ (d : Addr) (es : List Ent), v = .ref d ∧ H0 d = none ∧ H d = some (DN w d es) ∧ EntG H es (gmI M)
theorem grow {B H H' : Hp} {L : List (Addr × HO)} (hs : Hs B L H) (sm : Same H H') (hL : L.all (fun e => noTup e.2) = true) : ∃ B2, Same B B2 ∧ Hs B2 L H' ∧ (∀ p o, H p = none → H' p = some o → B2 p = some o) ∧ ∀ p xs, H' p = some (.tup xs) → B2 p = some (.tup xs) := by
  obtain ⟨B2, sm2, h, hin⟩ := (hs.keep sm).allin
  refine ⟨B2, sm2, h, fun p o e1 e2 => hin p o e2 fun m => ?_, fun p xs e => hin _ _ e fun m => ?_⟩
  · obtain ⟨z, hz, rfl⟩ := List.mem_map.mp m
    have := hs.at_ z hz
    rw [e1] at this
    cases this
  · obtain ⟨z, hz, rfl⟩ := List.mem_map.mp m
    have h1 := h.at_ z hz
    rw [e] at h1
    have h2 := List.all_eq_true.mp hL z hz
    rw [← Option.some.inj h1] at h2
    cases h2
theorem LdNew.grow {w : World} {H0 H B : Hp} {v : V} {M : EM} (h : LdNew w H0 H v M) (h1 : ∀ p o, H0 p = none → H p = some o → B p = some o) (h2 : ∀ p xs, H p = some (.tup xs) → B p = some (.tup xs)) : LdAt w B v M :=
  let ⟨d, es, e1, e2, e3, e4⟩ := h; ⟨d, es, e1, h1 _ _ e2 e3, e4.mono h2⟩
local macro_rules | `(tactic| walk_at "v") => `(tactic| first | exact v0 | exact v1 | exact v2 | exact v3 | exact v4 | exact v5 | exact v6 | exact v7 | exact v8)
local macro_rules | `(tactic| walk_at "vs") => `(tactic| first | exact st0 | exact st1 | exact st2 | exact st3 | exact st4 | exact st5 | exact st6 | exact st7 | exact st8)
local macro_rules | `(tactic| walk_at "s") => `(tactic| first
  | with_reducible refine w_dget ?_
  | ((with_reducible refine' w_dgetZ ?h ?nd ?hk ?hv ?_); (case h => walk_at "g"); (case nd => walk_at "nd"); (case hk => walk_at "k"); (case hv => walk_at "v"))
  | ((with_reducible refine' w_dputZ ?hs ?h ?nd ?hk ?hv ?hu ?hl ?_); (case hs => assumption); (case h => walk_at "p"); (case nd => walk_at "nd"); (case hk => walk_at "k"); (case hv => walk_at "v"); (case hu => walk_at "vs"); (case hl => decide); intro _ _)
  | with_reducible refine w_gsub ?_
  | with_reducible refine w_setD ?_
  | with_reducible refine w_disp ?_
  | ((with_reducible refine' w_newP ?hs ?_); (case hs => assumption); intro _ _ _)
  | with_reducible refine w_pcons ?_
  | with_reducible refine w_pnil ?_)

local macro_rules | `(tactic| walk_at "s") => `(tactic| first
  | with_reducible refine w_nget ?_
  | with_reducible refine w_nin ?_
  | with_reducible refine w_nnot ?_
  | with_reducible refine w_nput ?_
  | with_reducible refine w_ndel ?_
  | with_reducible refine w_npop ?_
  | ((with_reducible refine' w_nnew ?hs ?_); (case hs => assumption); intro _ _ _))

local macro_rules | `(tactic| walk_at "s") => `(tactic| first
  | with_reducible refine w_ninF ?_
  | with_reducible refine w_nsetd ?_
  | with_reducible refine w_ckw ?_)

local macro_rules | `(tactic| walk_at "s") => `(tactic| first
  | with_reducible refine w_ngetF ?_
  | with_reducible refine w_nnotF ?_
  | with_reducible refine w_naug ?_)

local macro_rules | `(tactic| walk_at "s") => `(tactic| first
  | with_reducible refine w_m0 ?_
  | with_reducible refine w_m1 ?_
  | with_reducible refine w_m0b ?_
  | with_reducible refine w_m1b ?_
  | with_reducible refine w_kget ?_
  | with_reducible refine w_nS ?_)

local macro_rules | `(tactic| walk_at "s") => `(tactic| first
  | with_reducible refine w_ng2 ?_
  | with_reducible refine w_ng1 ?_
  | ((with_reducible refine' w_isND ?h ?_); (case h => walk_at "g"))
  | with_reducible refine w_listZip ?_)

section
variable {P : Program} [IsP P] {w : World} {K : PySem.W.Frag} {mg : Str → Option Value} {base : Heap} {a : Ad}
theorem ld_take {f : Fl} {i : Nat} {x : Wy × Int} (h : f[i]? = some x) (e : En) : ld (f.take (i + 1)) e = ld (f.take i) e + on x e := by
  unfold ld
  rw [List.take_add_one, h, List.map_append, List.sum_append]
  show _ + (on x e + 0) = _
  rw [Int.add_zero]
theorem lds_take {fs : List Fl} {i : Nat} {f : Fl} (h : fs[i]? = some f) (e : En) : lds (fs.take (i + 1)) e = lds (fs.take i) e + ld f e := by
  unfold lds
  rw [List.take_add_one, h, List.map_append, List.sum_append]
  show _ + (ld f e + 0) = _
  rw [Int.add_zero]
theorem sum_nn {l : List Int} (h : ∀ x ∈ l, 0 ≤ x) : 0 ≤ l.sum := by
  induction l with
  | nil => exact Int.le_refl _
  | cons x l ih =>
    rw [List.sum_cons]
    exact Int.add_nonneg (h x List.mem_cons_self) (ih fun y hy => h y (List.mem_cons_of_mem _ hy))
theorem on_nn {x : Wy × Int} (h : 0 < x.2) (e : En) : 0 ≤ on x e := by
  unfold on
  split <;> omega
theorem ld_nn {f : Fl} (h : FlOk f) (e : En) : 0 ≤ ld f e := sum_nn fun y hy => by
  obtain ⟨x, hx, rfl⟩ := List.mem_map.mp hy
  exact on_nn (h.2 x hx).2 e
theorem lds_nn {fs : List Fl} (h : FsOk fs) (e : En) : 0 ≤ lds fs e := sum_nn fun y hy => by
  obtain ⟨x, hx, rfl⟩ := List.mem_map.mp hy
  exact ld_nn (h.2 x hx) e
theorem FlOk.take {f : Fl} (h : FlOk f) (i : Nat) : FlOk (f.take i) := ⟨by rw [List.length_take]; have := h.1; omega, fun x hx => h.2 x (List.mem_of_mem_take hx)⟩
theorem FsOk.take {f : List Fl} (h : FsOk f) (i : Nat) : FsOk (f.take i) := ⟨by rw [List.length_take]; have := h.1; omega, fun x hx => h.2 x (List.mem_of_mem_take hx)⟩
/-! ## loads -/
def sp_load_of (w : World) : Sp := fun vs H Q _ => ∃ (v : V) (f : Fl), vs = [v] ∧ FlAt H v f ∧ FlOk f ∧ ∀ r M H', Same H H' → LdNew w H H' r M → Ls M (ld f) → Q r H'
theorem ok_load_of (T : Txt w K mg a) : FnOk P w K mg base CX0 1 a.load_of a.fd_load_of ["flow"] (sp_load_of w) := by
  refine T.fn_load_of.ok sc_load_of (fun vs H Q E h => ?_) (fun cdv A outer s H vs Q E hr h => ?_)
  · obtain ⟨_, _, rfl, _⟩ := h
    rfl
  · obtain ⟨v, f, rfl, ⟨l, us, rfl, hl, hrow⟩, hok, k⟩ := h
    refine ⟨_, (pss_cons (ps_set (i := 1) sc_load_of.nd rfl (Or.inl rfl) (pe_nnew (w := w)))
  (pss_cons (ps_for PassesOwn.never rfl (pi_listK (K := K) (pv 0)) (pg_tupK (K := K) rfl (pgs_cons (pg_name (i := 2) sc_load_of.nd rfl (Or.inl rfl)) (pgs_cons (pg_name (i := 3) sc_load_of.nd rfl (Or.inl rfl)) pgs_nil)))
  (pss_one (ps_for PassesOwn.never rfl (pi_listK (K := K) (pv 2)) (pg_name (i := 4) sc_load_of.nd rfl (Or.inl rfl))
  (pss_one (ps_nput (w := w) (r64 hr) (pv 1) (pv 4) (pe_op op_add (pe_nget2 (w := w) (r64 hr) (pv 1) (pv 4) pe_int ⟨rfl, rfl, rfl, rfl⟩) (pv 3)) rfl)))))
  (pss_one (ps_ret (pv 1))))), ?_⟩
    have hs := Hs.start H
    walk_at "ss"
    rename_i d H1 hs1
    clear hs
    refine w_forL (SqL.of (hs1.old hl)) (fun i σ H' => ∃ (es : List Ent) (M : EM) (v2 v3 v4 : Option V), σ = [some (.ref l), some (.ref d), v2, v3, v4] ∧ Hs H [(d, DN w d es)] H' ∧ EntG H es (gmI M) ∧ Ls M (ld (f.take i))) (fun Q q => ⟨_, rfl, q⟩)
      ⟨[], [], none, none, none, rfl, hs1, EntG.nil, Ls.nil⟩ (fun i σ H' _ ⟨_, _, _, _, _, _, h, _⟩ => SqL.of (h.old hl)) ?_ ?_
    · clear hs1
      rintro i u σ H' hu ⟨es, M, v2, v3, v4, rfl, hs, hE, hM⟩
      obtain ⟨⟨wy, n⟩, hx, p, y, rfl, hp, q, ws, rfl, hq, hw⟩ := hrow.get hu
      obtain ⟨⟨hw4, hwd⟩, hn⟩ := hok.2 _ (List.mem_of_getElem? hx)
      have hn : 0 < n := hn
      have hw4 : ∀ e ∈ wy, e ∈ E4 := hw4
      have hwd : wy.Nodup := hwd
      walk_at "ss"
      refine w_forL (SqL.of (hs.old hq)) (fun j σ H' => ∃ (es : List Ent) (M : EM) (v4 : Option V), σ = [some (.ref l), some (.ref d), some (.ref q), some (.int n), v4] ∧ Hs H [(d, DN w d es)] H' ∧ EntG H es (gmI M) ∧ Ls M fun e => ld (f.take i) e + on (wy.take j, n) e) (fun Q q => ⟨_, rfl, q⟩)
        ⟨es, M, v4, rfl, hs, hE, hM.congr fun e _ => ?_⟩ (fun j σ H' _ ⟨_, _, _, _, h, _⟩ => SqL.of (h.old hq)) ?_ ?_
      · show _ = _ + (if e ∈ [] then n else 0)
        rw [if_neg List.not_mem_nil, Int.add_zero]
      · clear hs hE hM
        rintro j u σ H' hu ⟨es, M, v4, rfl, hs, hE, hM⟩
        obtain ⟨e, he, r, rfl, hr⟩ := hw.get hu
        walk_at "ss"
        refine wg_def hs hs.g0 hE (EnAt.kat (hs.old hr)) ?_
        have hv : (valG (gmI M) (kE e)).getD (V.int 0) = V.int (eG M e) := by
          rw [valG_gmI]
          unfold eG
          cases eL M e <;> rfl
        rw [hv]
        walk_at "ss"
        refine wg_put hs .here hE (EnAt.kat hr) (by have := hM.rm.len; unfold gmI; rw [List.length_map]; omega) fun H5 hs5 hE5 => ?_
        rw [gmI_put] at hE5
        have he4 := hw4 e (List.mem_of_getElem? he)
        have hin : e ∉ wy.take j := fun z => by
          have h1 := hwd
          rw [← List.take_append_drop j wy, List.nodup_append] at h1
          exact h1.2.2 e z e (List.mem_of_getElem? (i := 0) (by rw [List.getElem?_drop]; exact he)) rfl
        have hval := hM.val e he4
        have h0 : eG M e = ld (f.take i) e := by
          rw [hval]
          unfold on
          rw [if_neg hin, Int.add_zero]
        have h1 : 0 ≤ ld (f.take i) e := ld_nn (hok.take i) e
        refine ⟨_, _, _, rfl, hs5, hE5, (hM.put he4 (by omega)).congr fun x hx => ?_⟩
        have et : wy.take (j + 1) = wy.take j ++ [e] := by
          rw [List.take_add_one, show wy[j]? = some e from he]
          rfl
        show (if x = e then eG M e + n else ld (f.take i) x + on (wy.take j, n) x) = ld (f.take i) x + on (wy.take (j + 1), n) x
        unfold on
        rw [et]
        by_cases c : x = e
        · rw [if_pos c, c, h0, if_pos (List.mem_append_right _ List.mem_cons_self)]
        · rw [if_neg c]
          congr 1
          by_cases c2 : x ∈ wy.take j
          · rw [if_pos c2, if_pos (List.mem_append_left _ c2)]
          · rw [if_neg c2, if_neg fun z => ?_]
            rcases List.mem_append.mp z with z | z
            · exact c2 z
            · exact c (List.mem_singleton.mp z)
      · clear hs hE hM
        rintro σ H' ⟨es, M, v4, rfl, hs, hE, hM⟩
        have hl2 : ws.length = wy.length := hw.1
        refine ⟨es, M, _, _, v4, rfl, hs, hE, hM.congr fun e _ => ?_⟩
        rw [ld_take hx, hl2, List.take_length]
    · clear hs1
      rintro σ H' ⟨es, M, v2, v3, v4, rfl, hs, hE, hM⟩
      rw [hrow.1, List.take_length] at hM
      walk_at "ss"
      exact k _ M H' hs.same ⟨d, es, rfl, hs.out _ List.mem_cons_self, hs.g0, hE.same hs.same⟩ hM
end
local macro_rules | `(tactic| walk_at "v") => `(tactic| first | exact v0 | exact v1 | exact v2 | exact v3 | exact v4 | exact v5 | exact v6 | exact v7 | exact v8)
local macro_rules | `(tactic| walk_at "vs") => `(tactic| first | exact st0 | exact st1 | exact st2 | exact st3 | exact st4 | exact st5 | exact st6 | exact st7 | exact st8)
local macro_rules | `(tactic| walk_at "s") => `(tactic| first
  | with_reducible refine w_dget ?_
  | ((with_reducible refine' w_dgetZ ?h ?nd ?hk ?hv ?_); (case h => walk_at "g"); (case nd => walk_at "nd"); (case hk => walk_at "k"); (case hv => walk_at "v"))
  | ((with_reducible refine' w_dputZ ?hs ?h ?nd ?hk ?hv ?hu ?hl ?_); (case hs => assumption); (case h => walk_at "p"); (case nd => walk_at "nd"); (case hk => walk_at "k"); (case hv => walk_at "v"); (case hu => walk_at "vs"); (case hl => decide); intro _ _)
  | with_reducible refine w_gsub ?_
  | with_reducible refine w_setD ?_
  | with_reducible refine w_disp ?_
  | ((with_reducible refine' w_newP ?hs ?_); (case hs => assumption); intro _ _ _)
  | with_reducible refine w_pcons ?_
  | with_reducible refine w_pnil ?_)

local macro_rules | `(tactic| walk_at "s") => `(tactic| first
  | with_reducible refine w_nget ?_
  | with_reducible refine w_nin ?_
  | with_reducible refine w_nnot ?_
  | with_reducible refine w_nput ?_
  | with_reducible refine w_ndel ?_
  | with_reducible refine w_npop ?_
  | ((with_reducible refine' w_nnew ?hs ?_); (case hs => assumption); intro _ _ _))

local macro_rules | `(tactic| walk_at "s") => `(tactic| first
  | with_reducible refine w_ninF ?_
  | with_reducible refine w_nsetd ?_
  | with_reducible refine w_ckw ?_)

local macro_rules | `(tactic| walk_at "s") => `(tactic| first
  | with_reducible refine w_ngetF ?_
  | with_reducible refine w_nnotF ?_
  | with_reducible refine w_naug ?_)

local macro_rules | `(tactic| walk_at "s") => `(tactic| first
  | with_reducible refine w_m0 ?_
  | with_reducible refine w_m1 ?_
  | with_reducible refine w_m0b ?_
  | with_reducible refine w_m1b ?_
  | with_reducible refine w_kget ?_
  | with_reducible refine w_nS ?_)

local macro_rules | `(tactic| walk_at "s") => `(tactic| first
  | with_reducible refine w_ng2 ?_
  | with_reducible refine w_ng1 ?_
  | ((with_reducible refine' w_isND ?h ?_); (case h => walk_at "g"))
  | with_reducible refine w_listZip ?_)

section
variable {P : Program} [IsP P] {w : World} {K : PySem.W.Frag} {mg : Str → Option Value} {base : Heap} {a : Ad}
theorem getD_eG (M : EM) (e : En) : (valG (gmI M) (kE e)).getD (V.int 0) = V.int (eG M e) := by
  rw [valG_gmI]
  unfold eG
  cases eL M e <;> rfl
theorem Ls.nn {M : EM} {f : En → Int} (h : Ls M f) {e : En} (he : e ∈ E4) : 0 ≤ f e := by
  rw [← h.val e he]
  unfold eG
  cases c : eL M e with
  | none => exact Int.le_refl _
  | some v => exact Int.le_of_lt (h.pos _ (eL_some c))
theorem Ls.z {M : EM} {f : En → Int} (h : Ls M f) {e : En} (he : e ∈ E4) (hn : e ∉ M.map (·.1)) : f e = 0 := by
  have h1 := h.nn he
  have h2 : ¬ 0 < f e := fun z => hn (h.key.mpr ⟨he, z⟩)
  omega
theorem gmI_len (M : EM) : (gmI M).length = M.length := by
  unfold gmI
  rw [List.length_map]
/-- a dict that stands, owned for a while -/
theorem own_ld {H H' : Hp} {L : List (Addr × HO)} {d : Addr} {es : List Ent} {M : GM} (h : H d = some (DN w d es)) (hE : EntG H es M) (hs : Hs H L H') :
    ∃ B, Hs B (L ++ [(d, DN w d es)]) H' ∧ EntG B es M ∧ (∀ p xs, H p = some (.tup xs) → B p = some (.tup xs)) ∧ Same B H ∧ (∀ p o, p ≠ d → H p = some o → B p = some o) ∧ ∀ L H', Hs B (L ++ [(d, DN w d es)]) H' → Hs H L H' := by
  obtain ⟨B, h1, h2, h3⟩ := Hs.own h
  have tp : ∀ p xs, H p = some (.tup xs) → B p = some (.tup xs) := fun p xs e => h2 p _ (fun z => by
    rw [z, h] at e
    cases e) e
  exact ⟨B, h1.add hs, hE.mono tp, tp, h1.same, h2, h3⟩
def sp_summed (w : World) : Sp := fun vs H Q _ => ∃ (v : V) (l : Addr) (us : List V) (xs : List (EM × (En → Int))), vs = [v] ∧ v = .ref l ∧ H l = some (.lst us) ∧ Row (fun u x => LdAt w H u x.1) us xs ∧ (∀ x ∈ xs, Ls x.1 x.2) ∧
  ∀ r M H', Same H H' → LdNew w H H' r M → Ls M (fun e => (xs.map fun x => x.2 e).sum) → Q r H'
theorem sum_take {xs : List (EM × (En → Int))} {i : Nat} {x : EM × (En → Int)} (h : xs[i]? = some x) (e : En) : ((xs.take (i + 1)).map fun x => x.2 e).sum = ((xs.take i).map fun x => x.2 e).sum + x.2 e := by
  rw [List.take_add_one, h, List.map_append, List.sum_append]
  show _ + (x.2 e + 0) = _
  rw [Int.add_zero]
theorem ok_summed (T : Txt w K mg a) : FnOk P w K mg base CX0 1 a.summed a.fd_summed ["rows"] (sp_summed w) := by
  refine T.fn_summed.ok sc_summed (fun vs H Q E h => ?_) (fun cdv A outer s H vs Q E hr h => ?_)
  · obtain ⟨_, _, _, _, rfl, _⟩ := h
    rfl
  · obtain ⟨_, l, us, xs, rfl, rfl, hl, hrow, hL, k⟩ := h
    refine ⟨_, (pss_cons (ps_set (i := 1) sc_summed.nd rfl (Or.inl rfl) (pe_nnew (w := w)))
  (pss_cons (ps_for PassesOwn.never rfl (pi_listK (K := K) (pv 0)) (pg_name (i := 2) sc_summed.nd rfl (Or.inl rfl))
  (pss_one (ps_lock (ps_for PassesOwn.never rfl (pi_keysNL (w := w) (pv 2)) (pg_name (i := 3) sc_summed.nd rfl (Or.inl rfl))
  (pss_one (ps_nput (w := w) (r64 hr) (pv 1) (pv 3) (pe_op op_add (pe_nget2 (w := w) (r64 hr) (pv 1) (pv 3) pe_int ⟨rfl, rfl, rfl, rfl⟩) (pe_ndgetF (w := w) (r64 hr) (pv 2) (pv 3) (fun _ _ => rfl))) rfl))))))
  (pss_one (ps_ret (pv 1))))), ?_⟩
    have hs := Hs.start H
    walk_at "ss"
    rename_i t H1 hs1
    clear hs
    refine w_forL (SqL.of (hs1.old hl)) (fun i σ H' => ∃ (es : List Ent) (N : EM) (v2 v3 : Option V), σ = [some (.ref l), some (.ref t), v2, v3] ∧ Hs H [(t, DN w t es)] H' ∧ EntG H es (gmI N) ∧ Ls N fun e => ((xs.take i).map fun x => x.2 e).sum) (fun Q q => ⟨_, rfl, q⟩)
      ⟨[], [], none, none, rfl, hs1, EntG.nil, Ls.nil⟩ (fun i σ H' _ ⟨_, _, _, _, _, h, _⟩ => SqL.of (h.old hl)) ?_ ?_
    · clear hs1
      rintro i u σ H' hu ⟨es, N, v2, v3, rfl, hs, hE, hN⟩
      obtain ⟨⟨M, f⟩, hx, d, ds, rfl, hd, hD⟩ := hrow.get hu
      have hM : Ls M f := hL _ (List.mem_of_getElem? hx)
      have hD : EntG H ds (gmI M) := hD
      walk_at "ss"
      obtain ⟨B, hs2, hDB, tp, sBH, _, back⟩ := own_ld hd hD hs
      have hEB := hE.mono tp
      refine w_lockSN (d := d) (es := ds) hs2 (fun od => .there .here) fun od H3 hs3 => ?_
      refine w_forKNL ?_
      walk_at "ss"
      refine w_keyNLR hs3.g1 ?_
      refine for_keysN (fun j σ H' => ∃ (es : List Ent) (N : EM) (v3 : Option V), σ = [some (.ref l), some (.ref t), some (.ref d), v3] ∧ Hs B [(t, DN w t es), (d, .frz od (DN w d ds))] H' ∧ EntG B es (gmI N) ∧ Ls N fun e => ((xs.take i).map fun x => x.2 e).sum + if e ∈ (M.take j).map (·.1) then f e else 0)
        ⟨es, N, v3, rfl, hs3, hEB, hN.congr fun e _ => ?_⟩ (fun i σ H' _ ⟨_, _, _, _, h, _⟩ => h.g1) ?_ ?_
      · show _ = _ + if e ∈ [] then f e else 0
        rw [if_neg List.not_mem_nil, Int.add_zero]
      · clear hs3 hs2 hEB hE hN hs
        rintro j en σ H4 hj ⟨es, N, v3, rfl, hs, hE, hN⟩
        obtain ⟨y, hy, e1, e2, e3⟩ := paired_get hDB hj
        unfold gmI at hy
        rw [List.getElem?_map] at hy
        obtain ⟨⟨e, n⟩, hyM, rfl⟩ := Option.map_eq_some_iff.mp hy
        have hmem := List.mem_of_getElem? hyM
        have he4 : e ∈ E4 := hM.rm.e4 _ hmem
        have hn : 0 < n := hM.pos _ hmem
        have hfe : f e = n := by
          rw [← hM.val e he4]
          unfold eG
          rw [eL_mem hM.rm.nd hmem]
          rfl
        have e3 : KAt B en.2.1 (kE e) := e3
        walk_at "ss"
        refine wg_def hs hs.g0 hE (e3.same hs.same) ?_
        rw [getD_eG]
        walk_at "ss"
        refine wg_getF hs hs.g1 hDB (e3.same hs.same) (v := V.int n) ?_ ?_
        · rw [valG_gmI, eL_mem hM.rm.nd hmem]
          rfl
        walk_at "ss"
        refine wg_put hs .here hE e3 (by have := hN.rm.len; rw [gmI_len]; omega) fun H5 hs5 hE5 => ?_
        rw [gmI_put] at hE5
        have hin : e ∉ (M.take j).map (·.1) := fun z => by
          have h1 := hM.rm.nd
          rw [← List.take_append_drop j M, List.map_append, List.nodup_append] at h1
          exact h1.2.2 e z e (List.mem_map.mpr ⟨_, List.mem_of_getElem? (i := 0) (by rw [List.getElem?_drop]; exact hyM), rfl⟩) rfl
        have h0 := hN.val e he4
        have h1 := hN.nn he4
        rw [if_neg hin, Int.add_zero] at h0 h1
        refine ⟨_, _, _, rfl, hs5, hE5, (hN.put he4 (by omega)).congr fun x hx => ?_⟩
        have et : (M.take (j + 1)).map (·.1) = (M.take j).map (·.1) ++ [e] := by
          rw [List.take_add_one, hyM, List.map_append]
          rfl
        rw [et]
        by_cases c : x = e
        · rw [if_pos c, c, if_pos (List.mem_append_right _ List.mem_cons_self), h0, hfe]
        · rw [if_neg c]
          congr 1
          by_cases c2 : x ∈ (M.take j).map (·.1)
          · rw [if_pos c2, if_pos (List.mem_append_left _ c2)]
          · rw [if_neg c2, if_neg fun z => ?_]
            rcases List.mem_append.mp z with z | z
            · exact c2 z
            · exact c (List.mem_singleton.mp z)
      · clear hs3 hs2 hEB hE hN hs
        rintro σ H4 ⟨es, N, v3, rfl, hs, hE, hN⟩
        rw [hDB.len, gmI_len, List.take_length] at hN
        refine ⟨hs.g1, es, N, _, v3, rfl, back [(t, DN w t es)] _ (hs.p1 _), hE.same sBH, hN.congr fun e he => ?_⟩
        rw [sum_take hx]
        congr 1
        split
        · rfl
        · rename_i c
          exact (hM.z he c).symm
    · clear hs1
      rintro σ H' ⟨es, N, v2, v3, rfl, hs, hE, hN⟩
      rw [hrow.1, List.take_length] at hN
      walk_at "ss"
      exact k _ N H' hs.same ⟨t, es, rfl, hs.out _ List.mem_cons_self, hs.g0, hE.same hs.same⟩ hN
end
local macro_rules | `(tactic| walk_at "v") => `(tactic| first | exact v0 | exact v1 | exact v2 | exact v3 | exact v4 | exact v5 | exact v6 | exact v7 | exact v8)
local macro_rules | `(tactic| walk_at "vs") => `(tactic| first | exact st0 | exact st1 | exact st2 | exact st3 | exact st4 | exact st5 | exact st6 | exact st7 | exact st8)
local macro_rules | `(tactic| walk_at "s") => `(tactic| first
  | with_reducible refine w_dget ?_
  | ((with_reducible refine' w_dgetZ ?h ?nd ?hk ?hv ?_); (case h => walk_at "g"); (case nd => walk_at "nd"); (case hk => walk_at "k"); (case hv => walk_at "v"))
  | ((with_reducible refine' w_dputZ ?hs ?h ?nd ?hk ?hv ?hu ?hl ?_); (case hs => assumption); (case h => walk_at "p"); (case nd => walk_at "nd"); (case hk => walk_at "k"); (case hv => walk_at "v"); (case hu => walk_at "vs"); (case hl => decide); intro _ _)
  | with_reducible refine w_gsub ?_
  | with_reducible refine w_setD ?_
  | with_reducible refine w_disp ?_
  | ((with_reducible refine' w_newP ?hs ?_); (case hs => assumption); intro _ _ _)
  | with_reducible refine w_pcons ?_
  | with_reducible refine w_pnil ?_)

local macro_rules | `(tactic| walk_at "s") => `(tactic| first
  | with_reducible refine w_nget ?_
  | with_reducible refine w_nin ?_
  | with_reducible refine w_nnot ?_
  | with_reducible refine w_nput ?_
  | with_reducible refine w_ndel ?_
  | with_reducible refine w_npop ?_
  | ((with_reducible refine' w_nnew ?hs ?_); (case hs => assumption); intro _ _ _))

local macro_rules | `(tactic| walk_at "s") => `(tactic| first
  | with_reducible refine w_ninF ?_
  | with_reducible refine w_nsetd ?_
  | with_reducible refine w_ckw ?_)

local macro_rules | `(tactic| walk_at "s") => `(tactic| first
  | with_reducible refine w_ngetF ?_
  | with_reducible refine w_nnotF ?_
  | with_reducible refine w_naug ?_)

local macro_rules | `(tactic| walk_at "s") => `(tactic| first
  | with_reducible refine w_m0 ?_
  | with_reducible refine w_m1 ?_
  | with_reducible refine w_m0b ?_
  | with_reducible refine w_m1b ?_
  | with_reducible refine w_kget ?_
  | with_reducible refine w_nS ?_)

local macro_rules | `(tactic| walk_at "s") => `(tactic| first
  | with_reducible refine w_ng2 ?_
  | with_reducible refine w_ng1 ?_
  | ((with_reducible refine' w_isND ?h ?_); (case h => walk_at "g"))
  | with_reducible refine w_listZip ?_)

section
variable {P : Program} [IsP P] {w : World} {K : PySem.W.Frag} {mg : Str → Option Value} {base : Heap} {a : Ad}
def mergeM (M N : EM) : EM := N.foldl (fun acc e => putE acc e.1 e.2) M
theorem mergeM_gm : ∀ (N M : EM), mergeG (gmI M) (gmI N) = gmI (mergeM M N)
  | [], _ => rfl
  | x :: N, M => by
    show mergeG (putG (gmI M) (kE x.1) (.int x.2)) (gmI N) = gmI (mergeM (putE M x.1 x.2) N)
    rw [gmI_put]
    exact mergeM_gm N _
theorem RM.merge : ∀ {N M : EM}, RM M → RM N → RM (mergeM M N)
  | [], _, h, _ => h
  | x :: N, M, h, k => by
    have nd := k.nd
    rw [List.map_cons, List.nodup_cons] at nd
    exact RM.merge (M := putE M x.1 x.2) (N := N) (h.put x.2 (k.e4 x List.mem_cons_self)) ⟨nd.2, fun y hy => k.e4 y (List.mem_cons_of_mem _ hy)⟩
theorem merge_keys : ∀ (N M : EM) (e : En), e ∈ (mergeM M N).map (·.1) ↔ e ∈ M.map (·.1) ∨ e ∈ N.map (·.1)
  | [], M, e => by simp [mergeM]
  | x :: N, M, e => by
    show e ∈ (mergeM (putE M x.1 x.2) N).map (·.1) ↔ _
    rw [merge_keys N, List.map_cons, List.mem_cons, ← eL_isSome, eL_put, ← eL_isSome (M := M)]
    by_cases c : e = x.1
    · rw [if_pos c]
      simp [c]
    · rw [if_neg c]
      simp [c]
def sp_greater (w : World) : Sp := fun vs H Q _ => ∃ (u v : V) (M N : EM) (f g : En → Int), vs = [u, v] ∧ LdAt w H u M ∧ LdAt w H v N ∧ Ls M f ∧ Ls N g ∧ ∀ r R H', Same H H' → LdNew w H H' r R → Ls R (fun e => max (f e) (g e)) → Q r H'
theorem ok_greater (T : Txt w K mg a) : FnOk P w K mg base CX0 1 a.greater a.fd_greater ["load", "other"] (sp_greater w) := by
  refine T.fn_greater.ok sc_greater (fun vs H Q E h => ?_) (fun cdv A outer s H vs Q E hr h => ?_)
  · obtain ⟨_, _, _, _, _, _, rfl, _⟩ := h
    rfl
  · obtain ⟨_, _, M, N, f, g, rfl, ⟨d, ds, rfl, hd, hD⟩, ⟨e, es, rfl, he, hE⟩, hM, hN, k⟩ := h
    refine ⟨_, (pss_one (ps_ret (pe_dcNK (w := w) (own := [("end", 2)]) (g := (gName 2)) (tt := tYes) rfl (r64 hr) sc_greater.nd (pi_merge (w := w) (r64 hr) (pv 0) (pv 1)) (blkOk_by (own := [("end", 2)]) (N := N_greater) (sc := defScope s_greater) (by decide +kernel)) (fun _ _ _ _ _ => by exact (pg_name (i := 2) sc_greater.nd rfl (by first | exact Or.inl rfl | exact Or.inr rfl))) (fun _ _ _ _ _ => pts_nil) (fun _ _ _ _ _ => by exact (pv 2)) (fun _ _ _ _ _ => by exact (pe_callB (call_maxQ rfl) (by rfl) T.mg_max (by decide +kernel) (pa_cons (pe_nget2 (w := w) (r64 hr) (pv 0) (pv 2) pe_int ⟨rfl, rfl, rfl, rfl⟩) (pa_cons (pe_nget2 (w := w) (r64 hr) (pv 1) (pv 2) pe_int ⟨rfl, rfl, rfl, rfl⟩) pa_nil))))))), ?_⟩
    have hs := Hs.start H
    walk_at "ss"
    refine w_dcMg fun m hm => ?_
    have hs1 := hs.new (o := DN w m []) hm
    walk_at "ss"
    refine w_mrgD hs1 EntG.nil hd hD hM.rm.hash (by have := hM.rm.len; rw [gmI_len]; show 0 + _ ≤ _; omega) fun H2 hs2 hE2 => ?_
    have hE2 : EntG H (mergeE [] ds) (gmI (mergeM [] M)) := by rw [← mergeM_gm]; exact hE2
    have r1 := RM.nil.merge hM.rm
    walk_at "ss"
    refine w_mrgD hs2 hE2 he hE hN.rm.hash (by have := hN.rm.len; have := r1.len; rw [gmI_len, gmI_len]; omega) fun H3 hs3 hE3 => ?_
    rw [mergeM_gm] at hE3
    have r2 := r1.merge hN.rm
    have hk : ∀ x, x ∈ (mergeM (mergeM [] M) N).map (·.1) ↔ x ∈ M.map (·.1) ∨ x ∈ N.map (·.1) := fun x => by
      rw [merge_keys, merge_keys]
      simp
    generalize mergeM (mergeM [] M) N = U at hE3 r2 hk
    generalize mergeE (mergeE [] ds) es = um at hE3 hs3 ⊢
    clear hs hs1 hs2 hE2 r1
    intro o
    have hs4 := hs3.p0 (.frz o (DN w m um))
    intro D hD0
    have hs5 := hs4.new (o := DN w D []) hD0
    have hval : ∀ x ∈ U, 0 < max (f x.1) (g x.1) := fun x hx => by
      have h4 := r2.e4 x hx
      have n1 := hM.nn h4
      have n2 := hN.nn h4
      rcases (hk x.1).mp (List.mem_map_of_mem hx) with z | z
      · have := (hM.key.mp z).2
        omega
      · have := (hN.key.mp z).2
        omega
    refine turns_keysN (fun i H' => ∃ es2, Hs H [(D, DN w D es2), (m, .frz o (DN w m um))] H' ∧ EntG H es2 (gmI ((U.take i).map fun x => (x.1, max (f x.1) (g x.1))))) ⟨[], hs5, EntG.nil⟩ (fun i H' _ ⟨_, h, _⟩ => h.g1) ?_ ?_
    · clear hs3 hs4 hs5
      rintro i en H' hi ⟨es2, hs, hE4⟩
      obtain ⟨y, hy, e1, e2, e3⟩ := paired_get hE3 hi
      unfold gmI at hy
      rw [List.getElem?_map] at hy
      obtain ⟨x, hxU, rfl⟩ := Option.map_eq_some_iff.mp hy
      have e3 : KAt H en.2.1 (kE x.1) := e3
      have h4 := r2.e4 x (List.mem_of_getElem? hxU)
      refine ⟨rfl, ?_⟩
      walk_at "ss"
      refine wg_def hs (hs.old hd) hD (e3.same hs.same) ?_
      rw [getD_eG]
      walk_at "ss"
      refine wg_def hs (hs.old he) hE (e3.same hs.same) ?_
      rw [getD_eG]
      walk_at "ss"
      have hmx : (if eG N x.1 > eG M x.1 then eG N x.1 else eG M x.1) = max (f x.1) (g x.1) := by
        rw [hM.val _ h4, hN.val _ h4]
        split <;> omega
      rw [hmx]
      refine dcn_put (Nx := fun H' => ∃ es2, Hs H [(D, DN w D es2), (m, .frz o (DN w m um))] H' ∧ EntG H es2 (gmI ((U.take (i + 1)).map fun x => (x.1, max (f x.1) (g x.1))))) hs .here hE4 e3 (by rw [gmI_len, List.length_map, List.length_take]; have := r2.len; omega) fun H5 hs5 hE5 => ⟨_, hs5, ?_⟩
      rw [gmI_put] at hE5
      have hin : x.1 ∉ (U.take i).map (·.1) := fun z => by
        have h1 := r2.nd
        rw [← List.take_append_drop i U, List.map_append, List.nodup_append] at h1
        exact h1.2.2 x.1 z x.1 (List.mem_map_of_mem (List.mem_of_getElem? (i := 0) (by rw [List.getElem?_drop]; exact hxU))) rfl
      have hno : ¬ (eL ((U.take i).map fun x => (x.1, max (f x.1) (g x.1))) x.1).isSome = true := fun z => hin (by
        have := eL_isSome.mp z
        rw [List.map_map] at this
        exact this)
      unfold putE at hE5
      rw [if_neg hno] at hE5
      rw [List.take_add_one, hxU, List.map_append]
      exact hE5
    · clear hs3 hs4 hs5
      rintro H' ⟨es2, hs, hE4⟩
      rw [hE3.len, gmI_len, List.take_length] at hE4
      have hk2 : (U.map fun x => (x.1, max (f x.1) (g x.1))).map (·.1) = U.map (·.1) := by
        rw [List.map_map]
        rfl
      refine k _ _ H' hs.same ⟨D, es2, rfl, hs.out _ List.mem_cons_self, hs.g0, hE4.same hs.same⟩ ⟨⟨by rw [hk2]; exact r2.nd, fun x hx => ?_⟩, fun x hx => ?_, fun x hx => ?_⟩
      · obtain ⟨y, hy, rfl⟩ := List.mem_map.mp hx
        exact r2.e4 y hy
      · unfold eG
        by_cases c : x ∈ U.map (·.1)
        · obtain ⟨y, hy, rfl⟩ := List.mem_map.mp c
          rw [eL_mem (M := U.map fun x => (x.1, max (f x.1) (g x.1))) (by rw [hk2]; exact r2.nd) (x := (y.1, max (f y.1) (g y.1))) (List.mem_map_of_mem hy)]
          rfl
        · have c1 : x ∉ M.map (·.1) := fun z => c ((hk x).mpr (.inl z))
          have c2 : x ∉ N.map (·.1) := fun z => c ((hk x).mpr (.inr z))
          rw [hM.z hx c1, hN.z hx c2]
          cases q : eL (U.map fun x => (x.1, max (f x.1) (g x.1))) x with
          | none => rfl
          | some v => exact absurd (by rw [← hk2]; exact List.mem_map_of_mem (f := (·.1)) (eL_some q)) c
      · obtain ⟨y, hy, rfl⟩ := List.mem_map.mp hx
        exact hval y hy
end
local macro_rules | `(tactic| walk_at "v") => `(tactic| first | exact v0 | exact v1 | exact v2 | exact v3 | exact v4 | exact v5 | exact v6 | exact v7 | exact v8)
local macro_rules | `(tactic| walk_at "vs") => `(tactic| first | exact st0 | exact st1 | exact st2 | exact st3 | exact st4 | exact st5 | exact st6 | exact st7 | exact st8)
local macro_rules | `(tactic| walk_at "s") => `(tactic| first
  | with_reducible refine w_dget ?_
  | ((with_reducible refine' w_dgetZ ?h ?nd ?hk ?hv ?_); (case h => walk_at "g"); (case nd => walk_at "nd"); (case hk => walk_at "k"); (case hv => walk_at "v"))
  | ((with_reducible refine' w_dputZ ?hs ?h ?nd ?hk ?hv ?hu ?hl ?_); (case hs => assumption); (case h => walk_at "p"); (case nd => walk_at "nd"); (case hk => walk_at "k"); (case hv => walk_at "v"); (case hu => walk_at "vs"); (case hl => decide); intro _ _)
  | with_reducible refine w_gsub ?_
  | with_reducible refine w_setD ?_
  | with_reducible refine w_disp ?_
  | ((with_reducible refine' w_newP ?hs ?_); (case hs => assumption); intro _ _ _)
  | with_reducible refine w_pcons ?_
  | with_reducible refine w_pnil ?_)

local macro_rules | `(tactic| walk_at "s") => `(tactic| first
  | with_reducible refine w_nget ?_
  | with_reducible refine w_nin ?_
  | with_reducible refine w_nnot ?_
  | with_reducible refine w_nput ?_
  | with_reducible refine w_ndel ?_
  | with_reducible refine w_npop ?_
  | ((with_reducible refine' w_nnew ?hs ?_); (case hs => assumption); intro _ _ _))

local macro_rules | `(tactic| walk_at "s") => `(tactic| first
  | with_reducible refine w_ninF ?_
  | with_reducible refine w_nsetd ?_
  | with_reducible refine w_ckw ?_)

local macro_rules | `(tactic| walk_at "s") => `(tactic| first
  | with_reducible refine w_ngetF ?_
  | with_reducible refine w_nnotF ?_
  | with_reducible refine w_naug ?_)

local macro_rules | `(tactic| walk_at "s") => `(tactic| first
  | with_reducible refine w_m0 ?_
  | with_reducible refine w_m1 ?_
  | with_reducible refine w_m0b ?_
  | with_reducible refine w_m1b ?_
  | with_reducible refine w_kget ?_
  | with_reducible refine w_nS ?_)

local macro_rules | `(tactic| walk_at "s") => `(tactic| first
  | with_reducible refine w_ng2 ?_
  | with_reducible refine w_ng1 ?_
  | ((with_reducible refine' w_isND ?h ?_); (case h => walk_at "g"))
  | with_reducible refine w_listZip ?_)

section
variable {P : Program} [IsP P] {w : World} {K : PySem.W.Frag} {mg : Str → Option Value} {base : Heap} {a : Ad}
/-- rooms: a dict that holds no less than 0 -/
structure Rm (R : EM) : Prop where
  rm : RM R
  nn : ∀ x ∈ R, 0 ≤ x.2
theorem Rm.ge {R : EM} (h : Rm R) (e : En) : 0 ≤ eG R e := by
  unfold eG
  cases c : eL R e with
  | none => exact Int.le_refl _
  | some v => exact h.nn _ (eL_some c)
def fitB (R : EM) (f : En → Int) : Bool := decide (∀ e ∈ E4, f e ≤ eG R e)
theorem fit_of {R M : EM} {f : En → Int} (hR : Rm R) (hM : Ls M f) : M.all (fun x => decide (x.2 ≤ eG R x.1)) = fitB R f := by
  rw [Bool.eq_iff_iff, List.all_eq_true]
  unfold fitB
  rw [decide_eq_true_iff]
  constructor
  · intro h e he
    by_cases c : e ∈ M.map (·.1)
    · obtain ⟨x, hx, rfl⟩ := List.mem_map.mp c
      have h1 := of_decide_eq_true (h x hx)
      rw [← hM.val _ he]
      unfold eG at h1 ⊢
      rw [eL_mem hM.rm.nd hx]
      exact h1
    · rw [hM.z he c]
      exact hR.ge e
  · intro h x hx
    have h4 := hM.rm.e4 x hx
    have h1 := h x.1 h4
    rw [← hM.val _ h4] at h1
    have h2 : eG M x.1 = x.2 := by
      unfold eG
      rw [eL_mem hM.rm.nd hx]
      rfl
    rw [h2] at h1
    exact decide_eq_true h1
def sp_is_within (w : World) : Sp := fun vs H Q _ => ∃ (u v : V) (R M : EM) (f : En → Int), vs = [u, v] ∧ u ≠ v ∧ LdAt w H u R ∧ LdAt w H v M ∧ Rm R ∧ Ls M f ∧ ∀ H', Same H H' → Q (.bl (fitB R f)) H'
theorem ok_is_within (T : Txt w K mg a) : FnOk P w K mg base CX0 1 a.is_within a.fd_is_within ["rooms", "load"] (sp_is_within w) := by
  refine T.fn_is_within.ok sc_is_within (fun vs H Q E h => ?_) (fun cdv A outer s H vs Q E hr h => ?_)
  · obtain ⟨_, _, _, _, _, rfl, _⟩ := h
    rfl
  · obtain ⟨_, _, R, M, f, rfl, hne, ⟨d, ds, rfl, hd, hD⟩, ⟨e, es, rfl, he, hE⟩, hR, hM, k⟩ := h
    refine ⟨_, (pss_one (ps_ret (pe_callB (cr_allK (K := K) rfl) (by rfl) T.mg_all (by decide +kernel) (pa_cons (pe_lock (pe_lc (own := [("end", 2)]) (g := (gName 2)) (tt := tYes) rfl sc_is_within.nd (pi_keysNL (w := w) (pv 1)) (blkOk_by (own := [("end", 2)]) (N := N_is_within) (sc := defScope s_is_within) (by decide +kernel)) (fun _ _ _ _ _ => by exact (pg_name (i := 2) sc_is_within.nd rfl (by first | exact Or.inl rfl | exact Or.inr rfl))) (fun _ _ _ _ _ => pts_nil) (fun _ _ _ _ _ => by exact (pe_cmpR op_le (pe_ndgetF (w := w) (r64 hr) (pv 1) (pv 2) (fun _ _ => rfl)) (pe_nget2 (w := w) (r64 hr) (pv 0) (pv 2) pe_int ⟨rfl, rfl, rfl, rfl⟩) (nomark _))))) pa_nil)))), ?_⟩
    have hs := Hs.start H
    walk_at "ss"
    obtain ⟨B, hs2, hEB, tp, sBH, lft, back⟩ := own_ld he hE hs
    have hdB : B d = some (DN w d ds) := lft d _ (fun z => hne (by rw [z])) hd
    have hDB := hD.mono tp
    refine w_lockN (d := e) (es := es) hs2 (fun od => .here) fun od H3 hs3 => ?_
    refine w_lcNL ?_
    walk_at "ss"
    refine w_keyNLR hs3.g0 fun D hD3 => ?_
    have hs4 := hs3.new (o := .lst []) hD3
    refine turns_keysN (Body := LcBody (gName 2) _ _ _ _ D) (fun i H' => Hs B [(D, .lst (((M.take i).map fun x => decide (x.2 ≤ eG R x.1)).map V.bl)), (e, .frz od (DN w e es))] H') hs4 (fun i H' _ h => h.g1) ?_ ?_
    · clear hs4 hs3 hs2 hs
      rintro i en H' hi hs
      obtain ⟨y, hy, e1, e2, e3⟩ := paired_get hEB hi
      unfold gmI at hy
      rw [List.getElem?_map] at hy
      obtain ⟨x, hxM, rfl⟩ := Option.map_eq_some_iff.mp hy
      have e3 : KAt B en.2.1 (kE x.1) := e3
      refine ⟨rfl, ?_⟩
      walk_at "ss"
      refine wg_getF hs hs.g1 hEB (e3.same hs.same) (v := V.int x.2) ?_ ?_
      · rw [valG_gmI, eL_mem hM.rm.nd (List.mem_of_getElem? hxM)]
        rfl
      walk_at "ss"
      refine wg_def hs (hs.old hdB) hDB (e3.same hs.same) ?_
      rw [getD_eG]
      walk_at "ss"
      refine ⟨_, hs.g0, szl (by rw [List.length_map, List.length_map, List.length_take]; have := hM.rm.len; omega), ?_⟩
      have h1 := hs.p0 (.lst (((M.take i).map fun x => decide (x.2 ≤ eG R x.1)).map V.bl ++ [V.bl (decide (x.2 ≤ eG R x.1))]))
      rw [List.take_add_one, hxM, List.map_append, List.map_append]
      exact h1
    · clear hs4 hs3 hs2
      rintro H' hs
      rw [hEB.len, gmI_len, List.take_length] at hs
      refine ⟨hs.g1, ?_⟩
      have hs2 := hs.p1 (DN w e es)
      generalize upd H' e (DN w e es) = H2 at hs2 ⊢
      have hs3 : Hs H [(D, .lst ((M.map fun x => decide (x.2 ≤ eG R x.1)).map V.bl))] H2 := back [_] _ hs2
      walk_at "ss"
      refine w_allB (SqL.of hs3.g0) rfl ?_
      have e1 : (M.map fun x => decide (x.2 ≤ eG R x.1)).all id = fitB R f := by
        rw [← fit_of hR hM, List.all_map]
        rfl
      rw [e1]
      exact k _ hs3.same

theorem sum_of {xs : List (EM × (En → Int))} {fs : List Fl} (h : xs.map (·.2) = fs.map ld) (e : En) : (xs.map fun x => x.2 e).sum = lds fs e := by
  have := congrArg (List.map fun g : En → Int => g e) h
  rw [List.map_map, List.map_map] at this
  unfold lds
  exact congrArg List.sum this
/-- the sum of the greater ones -/
def mxs : List Fl → List Fl → En → Int
  | f :: fs, g :: gs, e => max (ld f e) (ld g e) + mxs fs gs e
  | _, _, _ => 0
theorem mxs_app : ∀ (fs gs : List Fl) (f g : Fl) (e : En), fs.length = gs.length → mxs (fs ++ [f]) (gs ++ [g]) e = mxs fs gs e + max (ld f e) (ld g e)
  | [], [], f, g, e, _ => by
    show max (ld f e) (ld g e) + 0 = 0 + _
    omega
  | x :: fs, y :: gs, f, g, e, h => by
    show max (ld x e) (ld y e) + mxs (fs ++ [f]) (gs ++ [g]) e = max (ld x e) (ld y e) + mxs fs gs e + _
    rw [mxs_app fs gs f g e (Nat.succ.inj h), Int.add_assoc]
  | [], _ :: _, _, _, _, h => nomatch h
  | _ :: _, [], _, _, _, h => nomatch h
theorem mxs_take {fs gs : List Fl} {i : Nat} {f g : Fl} (hf : fs[i]? = some f) (hg : gs[i]? = some g) (e : En) : mxs (fs.take (i + 1)) (gs.take (i + 1)) e = mxs (fs.take i) (gs.take i) e + max (ld f e) (ld g e) := by
  have h1 := (List.getElem?_eq_some_iff.mp hf).1
  have h2 := (List.getElem?_eq_some_iff.mp hg).1
  rw [List.take_add_one, List.take_add_one, hf, hg]
  exact mxs_app _ _ _ _ _ (by rw [List.length_take, List.length_take]; omega)
theorem LdNew.low {w : World} {H0 H1 H : Hp} {r : V} {M : EM} (s : Same H0 H1) (h : LdNew w H1 H r M) : LdNew w H0 H r M := let ⟨d, es, e1, e2, e3, e4⟩ := h; ⟨d, es, e1, s.free e2, e3, e4⟩
def sp_loads (w : World) : Sp := fun vs H Q _ => ∃ (v : V) (fs : List Fl), vs = [v] ∧ FsAt H v fs ∧ FsOk fs ∧ ∀ r M H', Same H H' → LdNew w H H' r M → Ls M (lds fs) → Q r H'
theorem ok_loads (T : Txt w K mg a) : FnOk P w K mg base CX0 2 a.loads a.fd_loads ["flows"] (sp_loads w) := by
  have G_load_of := ok_load_of (P := P) (w := w) (base := base) T
  have G_summed := ok_summed (P := P) (w := w) (base := base) T
  refine T.fn_loads.ok sc_loads (fun vs H Q E h => ?_) (fun cdv A outer s H vs Q E hr h => ?_)
  · obtain ⟨_, _, rfl, _⟩ := h
    rfl
  · obtain ⟨v, fs, rfl, ⟨l, us, rfl, hl, hrow⟩, hok, k⟩ := h
    refine ⟨_, (pss_one (ps_ret (pe_call G_summed (hr.mono (by first | decide | omega)) rfl T.mg_summed T.kp_summed T.bi_summed .nil pass0 (pa_cons (pe_lc (own := [("flow", 1)]) (g := (gName 1)) (tt := tYes) rfl sc_loads.nd (pi_listK (K := K) (pv 0)) (blkOk_by (own := [("flow", 1)]) (N := N_loads) (sc := defScope s_loads) (by decide +kernel)) (fun _ _ _ _ _ => by exact (pg_name (i := 1) sc_loads.nd rfl (by first | exact Or.inl rfl | exact Or.inr rfl))) (fun _ _ _ _ _ => pts_nil) (fun _ _ _ _ _ => by exact (pe_call G_load_of (hr.mono (by first | decide | omega)) rfl T.mg_load_of T.kp_load_of T.bi_load_of .nil pass0 (pa_cons (pv 1) pa_nil)))) pa_nil)))), ?_⟩
    have hs := Hs.start H
    walk_at "ss"
    refine w_lc (SqL.of hl) (fun D i H2 => ∃ (B : Hp) (acc : List V) (xs : List (EM × (En → Int))), Same H B ∧ Hs B [(D, .lst acc)] H2 ∧ Row (fun u x => LdAt w B u x.1) acc xs ∧ xs.map (·.2) = (fs.take i).map ld ∧ ∀ x ∈ xs, Ls x.1 x.2) (fun Q q => ⟨_, rfl, q⟩)
      (fun D hD => ⟨H, [], [], Same.refl H, hs.new hD, Row.nil, rfl, fun _ z => nomatch z⟩) (fun D i H2 _ ⟨B, _, _, sm, h, _⟩ => SqL.of (h.old (sm _ _ hl))) ?_ ?_
    · rintro D i u H2 hu ⟨B, acc, xs, sm, hs, hacc, hxs, hL⟩
      obtain ⟨f, hf, hfl⟩ := hrow.get hu
      have hfo := hok.2 f (List.mem_of_getElem? hf)
      have hal : acc.length ≤ 100 := by
        have h1 := congrArg List.length hxs
        rw [List.length_map, List.length_map, List.length_take] at h1
        have := hok.1
        have := hacc.1
        omega
      walk_at "ss"
      refine ⟨rfl, ?_⟩
      walk_at "ss"
      try (with_reducible refine iteT ?_)
      walk_at "ss"
      refine ⟨u, f, rfl, hfl.same (sm.trans hs.same), hfo, fun r M H' sm' hnew hM => ?_⟩
      obtain ⟨B2, sB, hs2, g1, g2⟩ := grow hs sm' rfl
      have hr := hnew.grow g1 g2
      refine ⟨acc, hs2.g0, szl (by omega), B2, acc ++ [r], xs ++ [(M, ld f)], sm.trans sB, hs2.p0 _, (hacc.mono fun u x => LdAt.same sB).snoc hr, ?_, fun x hx => ?_⟩
      · rw [List.take_add_one, hf, List.map_append, List.map_append, hxs]
        rfl
      · rcases List.mem_append.mp hx with hx | hx
        · exact hL x hx
        · rw [List.mem_singleton.mp hx]
          exact hM
    · rintro D H2 ⟨B, acc, xs, sm, hs, hacc, hxs, hL⟩
      rw [hrow.1, List.take_length] at hxs
      walk_at "ss"
      refine ⟨_, D, acc, xs, rfl, rfl, hs.g0, hacc.mono fun u x => LdAt.same hs.same, hL, fun r M H' sm' hnew hM => ?_⟩
      refine k r M H' (sm.trans (hs.same.trans sm')) (hnew.low (sm.trans hs.same)) (hM.congr fun e _ => ?_)
      exact sum_of hxs e
def sp_greatest_loads (w : World) : Sp := fun vs H Q _ => ∃ (u v : V) (fs gs : List Fl), vs = [u, v] ∧ FsAt H u fs ∧ FsOk fs ∧ FsAt H v gs ∧ FsOk gs ∧ fs.length = gs.length ∧ ∀ r M H', Same H H' → LdNew w H H' r M → Ls M (mxs fs gs) → Q r H'
theorem ok_greatest_loads (T : Txt w K mg a) : FnOk P w K mg base CX0 2 a.greatest_loads a.fd_greatest_loads ["flows", "others"] (sp_greatest_loads w) := by
  have G_load_of := ok_load_of (P := P) (w := w) (base := base) T
  have G_greater := ok_greater (P := P) (w := w) (base := base) T
  have G_summed := ok_summed (P := P) (w := w) (base := base) T
  refine T.fn_greatest_loads.ok sc_greatest_loads (fun vs H Q E h => ?_) (fun cdv A outer s H vs Q E hr h => ?_)
  · obtain ⟨_, _, _, _, rfl, _⟩ := h
    rfl
  · obtain ⟨_, _, fs, gs, rfl, ⟨l, us, rfl, hl, hrow⟩, hok, ⟨m, vs, rfl, hm, hrow2⟩, hok2, hlen, k⟩ := h
    refine ⟨_, (pss_one (ps_ret (pe_call G_summed (hr.mono (by first | decide | omega)) rfl T.mg_summed T.kp_summed T.bi_summed .nil pass0 (pa_cons (pe_lc (own := [("flow", 2), ("other", 3)]) (g := (gTup K 2 (gCons (gName 2) (gCons (gName 3) gNil)))) (tt := tYes) rfl sc_greatest_loads.nd (pi_zipK (K := K) (by rfl) T.mg_zip (pa_cons (pv 0) (pa_cons (pv 1) pa_nil))) (blkOk_by (own := [("flow", 2), ("other", 3)]) (N := N_greatest_loads) (sc := defScope s_greatest_loads) (by decide +kernel)) (fun _ _ _ _ _ => by exact (pg_tupK (K := K) rfl (pgs_cons (pg_name (i := 2) sc_greatest_loads.nd rfl (by first | exact Or.inl rfl | exact Or.inr rfl)) (pgs_cons (pg_name (i := 3) sc_greatest_loads.nd rfl (by first | exact Or.inl rfl | exact Or.inr rfl)) pgs_nil)))) (fun _ _ _ _ _ => pts_nil) (fun _ _ _ _ _ => by exact (pe_call G_greater (hr.mono (by first | decide | omega)) rfl T.mg_greater T.kp_greater T.bi_greater .nil pass0 (pa_cons (pe_call G_load_of (hr.mono (by first | decide | omega)) rfl T.mg_load_of T.kp_load_of T.bi_load_of .nil pass0 (pa_cons (pv 2) pa_nil)) (pa_cons (pe_call G_load_of (hr.mono (by first | decide | omega)) rfl T.mg_load_of T.kp_load_of T.bi_load_of .nil pass0 (pa_cons (pv 3) pa_nil)) pa_nil))))) pa_nil)))), ?_⟩
    have hs := Hs.start H
    walk_at "ss"
    refine w_lcZ ?_
    walk_at "ss"
    have hul : us.length = vs.length := by rw [hrow.1, hrow2.1, hlen]
    refine w_zipL (SqL.of hl) (SqL.of hm) fun D hD => ?_
    have hs1 := hs.new (o := .lst []) hD
    refine turns_zipL hul (fun i H2 => ∃ (B : Hp) (acc : List V) (xs : List (EM × (En → Int))), Same H B ∧ Hs B [(D, .lst acc)] H2 ∧ Row (fun u x => LdAt w B u x.1) acc xs ∧ xs.length = i ∧ (∀ e, (xs.map fun x => x.2 e).sum = mxs (fs.take i) (gs.take i) e) ∧ ∀ x ∈ xs, Ls x.1 x.2)
      ⟨H, [], [], Same.refl H, hs1, Row.nil, rfl, fun _ => rfl, fun _ z => nomatch z⟩ (fun i H2 _ ⟨B, _, _, sm, h, _⟩ => ⟨SqL.of (h.old (sm _ _ hl)), SqL.of (h.old (sm _ _ hm))⟩) ?_ ?_
    · clear hs1 hD
      rintro i x y N H2 hx hy ⟨B, acc, xs, sm, hs, hacc, hxs, hsum, hL⟩ hN
      obtain ⟨f, hf, hfl⟩ := hrow.get hx
      obtain ⟨g, hg, hgl⟩ := hrow2.get hy
      have hfo := hok.2 f (List.mem_of_getElem? hf)
      have hgo := hok2.2 g (List.mem_of_getElem? hg)
      have hi : i < 100 := by
        have h1 := (List.getElem?_eq_some_iff.mp hf).1
        have := hok.1
        omega
      have hal : acc.length = i := by rw [hacc.1, hxs]
      have hs2 := hs.new (o := .tup [x, y]) hN
      generalize upd H2 N (.tup [x, y]) = H3 at hs2 ⊢
      clear hs hN
      obtain ⟨B1, s1, hB1, hs3⟩ := frz_hs hs2
      clear hs2
      have sm1 := sm.trans s1
      unfold LcBody
      walk_at "ss"
      refine ⟨rfl, ?_⟩
      walk_at "ss"
      try (with_reducible refine iteT ?_)
      walk_at "ss"
      refine ⟨x, f, rfl, hfl.same (sm1.trans hs3.same), hfo, fun r1 M1 H4 sm4 hn4 hM1 => ?_⟩
      obtain ⟨B2, s2, hs4, g1, g2⟩ := grow hs3 sm4 rfl
      have hr1 := hn4.grow g1 g2
      clear hs3
      walk_at "ss"
      refine ⟨y, g, rfl, hgl.same (sm1.trans (s2.trans hs4.same)), hgo, fun r2 M2 H5 sm5 hn5 hM2 => ?_⟩
      obtain ⟨B3, s3, hs5, g1, g2⟩ := grow hs4 sm5 rfl
      have hr2 := hn5.grow g1 g2
      clear hs4
      walk_at "ss"
      refine ⟨r1, r2, M1, M2, ld f, ld g, rfl, (hr1.same s3).same hs5.same, hr2.same hs5.same, hM1, hM2, fun r M H6 sm6 hn6 hM => ?_⟩
      obtain ⟨B4, s4, hs6, g1, g2⟩ := grow hs5 sm6 rfl
      have hr := hn6.grow g1 g2
      refine ⟨acc, hs6.g0, szl (by omega), B4, acc ++ [r], xs ++ [(M, fun e => max (ld f e) (ld g e))], sm1.trans (s2.trans (s3.trans s4)), hs6.p0 _, (hacc.mono fun u x => LdAt.same (s1.trans (s2.trans (s3.trans s4)))).snoc hr, by rw [List.length_append, hxs]; rfl, fun e => ?_, fun x hx => ?_⟩
      · rw [List.map_append, List.sum_append, hsum, mxs_take hf hg]
        show _ + (max (ld f e) (ld g e) + 0) = _
        rw [Int.add_zero]
      · rcases List.mem_append.mp hx with hx | hx
        · exact hL x hx
        · rw [List.mem_singleton.mp hx]
          exact hM
    · clear hs1 hD
      rintro H2 ⟨B, acc, xs, sm, hs, hacc, hxs, hsum, hL⟩
      rw [hrow.1, List.take_length, hlen, List.take_length] at hsum
      walk_at "ss"
      refine ⟨_, D, acc, xs, rfl, rfl, hs.g0, hacc.mono fun u x => LdAt.same hs.same, hL, fun r M H' sm' hnew hM => ?_⟩
      exact k r M H' (sm.trans (hs.same.trans sm')) (hnew.low (sm.trans hs.same)) (hM.congr fun e _ => hsum e)
def sp_fits_rooms (w : World) : Sp := fun vs H Q _ => ∃ (u v : V) (R : EM) (fs : List Fl), vs = [u, v] ∧ LdAt w H u R ∧ Rm R ∧ FsAt H v fs ∧ FsOk fs ∧ ∀ H', Same H H' → Q (.bl (fitB R (lds fs))) H'
theorem ne_new {w : World} {H H' : Hp} {u r : V} {R M : EM} (h : LdAt w H u R) (k : LdNew w H H' r M) : u ≠ r := by
  obtain ⟨d, es, rfl, h1, _⟩ := h
  obtain ⟨e, fs, rfl, h2, _⟩ := k
  intro z
  cases z
  rw [h1] at h2
  cases h2
theorem LdNew.ld {w : World} {H H' : Hp} {r : V} {M : EM} (k : LdNew w H H' r M) : LdAt w H' r M := let ⟨d, es, e1, _, e3, e4⟩ := k; ⟨d, es, e1, e3, e4⟩
theorem ok_fits_rooms (T : Txt w K mg a) : FnOk P w K mg base CX0 3 a.fits_rooms a.fd_fits_rooms ["rooms", "flows"] (sp_fits_rooms w) := by
  have G_loads := ok_loads (P := P) (w := w) (base := base) T
  have G_is_within := ok_is_within (P := P) (w := w) (base := base) T
  refine T.fn_fits_rooms.ok sc_fits_rooms (fun vs H Q E h => ?_) (fun cdv A outer s H vs Q E hr h => ?_)
  · obtain ⟨_, _, _, _, rfl, _⟩ := h
    rfl
  · obtain ⟨u, v, R, fs, rfl, hu, hR, hv, hok, k⟩ := h
    refine ⟨_, (pss_one (ps_ret (pe_call G_is_within (hr.mono (by first | decide | omega)) rfl T.mg_is_within T.kp_is_within T.bi_is_within .nil pass0 (pa_cons (pv 0) (pa_cons (pe_call G_loads (hr.mono (by first | decide | omega)) rfl T.mg_loads T.kp_loads T.bi_loads .nil pass0 (pa_cons (pv 1) pa_nil)) pa_nil))))), ?_⟩
    walk_at "ss"
    refine ⟨v, fs, rfl, hv, hok, fun r M H' sm hn hM => ?_⟩
    walk_at "ss"
    exact ⟨u, r, R, M, lds fs, rfl, ne_new hu hn, hu.same sm, hn.ld, hR, hM, fun H2 sm2 => k H2 (sm.trans sm2)⟩
def sp_is_safe (w : World) : Sp := fun vs H Q _ => ∃ (u v x : V) (R : EM) (fs gs : List Fl), vs = [u, v, x] ∧ LdAt w H u R ∧ Rm R ∧ FsAt H v fs ∧ FsOk fs ∧ FsAt H x gs ∧ FsOk gs ∧ fs.length = gs.length ∧ ∀ H', Same H H' → Q (.bl (fitB R (mxs fs gs))) H'
theorem ok_is_safe (T : Txt w K mg a) : FnOk P w K mg base CX0 3 a.is_safe a.fd_is_safe ["rooms", "flows", "others"] (sp_is_safe w) := by
  have G_greatest_loads := ok_greatest_loads (P := P) (w := w) (base := base) T
  have G_is_within := ok_is_within (P := P) (w := w) (base := base) T
  refine T.fn_is_safe.ok sc_is_safe (fun vs H Q E h => ?_) (fun cdv A outer s H vs Q E hr h => ?_)
  · obtain ⟨_, _, _, _, _, _, rfl, _⟩ := h
    rfl
  · obtain ⟨u, v, x, R, fs, gs, rfl, hu, hR, hv, hok, hx, hok2, hlen, k⟩ := h
    refine ⟨_, (pss_one (ps_ret (pe_call G_is_within (hr.mono (by first | decide | omega)) rfl T.mg_is_within T.kp_is_within T.bi_is_within .nil pass0 (pa_cons (pv 0) (pa_cons (pe_call G_greatest_loads (hr.mono (by first | decide | omega)) rfl T.mg_greatest_loads T.kp_greatest_loads T.bi_greatest_loads .nil pass0 (pa_cons (pv 1) (pa_cons (pv 2) pa_nil))) pa_nil))))), ?_⟩
    walk_at "ss"
    refine ⟨v, x, fs, gs, rfl, hv, hok, hx, hok2, hlen, fun r M H' sm hn hM => ?_⟩
    walk_at "ss"
    exact ⟨u, r, R, M, mxs fs gs, rfl, ne_new hu hn, hu.same sm, hn.ld, hR, hM, fun H2 sm2 => k H2 (sm.trans sm2)⟩
end
local macro_rules | `(tactic| walk_at "v") => `(tactic| first | exact v0 | exact v1 | exact v2 | exact v3 | exact v4 | exact v5 | exact v6 | exact v7 | exact v8)
local macro_rules | `(tactic| walk_at "vs") => `(tactic| first | exact st0 | exact st1 | exact st2 | exact st3 | exact st4 | exact st5 | exact st6 | exact st7 | exact st8)
local macro_rules | `(tactic| walk_at "s") => `(tactic| first
  | with_reducible refine w_dget ?_
  | ((with_reducible refine' w_dgetZ ?h ?nd ?hk ?hv ?_); (case h => walk_at "g"); (case nd => walk_at "nd"); (case hk => walk_at "k"); (case hv => walk_at "v"))
  | ((with_reducible refine' w_dputZ ?hs ?h ?nd ?hk ?hv ?hu ?hl ?_); (case hs => assumption); (case h => walk_at "p"); (case nd => walk_at "nd"); (case hk => walk_at "k"); (case hv => walk_at "v"); (case hu => walk_at "vs"); (case hl => decide); intro _ _)
  | with_reducible refine w_gsub ?_
  | with_reducible refine w_setD ?_
  | with_reducible refine w_disp ?_
  | ((with_reducible refine' w_newP ?hs ?_); (case hs => assumption); intro _ _ _)
  | with_reducible refine w_pcons ?_
  | with_reducible refine w_pnil ?_)

local macro_rules | `(tactic| walk_at "s") => `(tactic| first
  | with_reducible refine w_nget ?_
  | with_reducible refine w_nin ?_
  | with_reducible refine w_nnot ?_
  | with_reducible refine w_nput ?_
  | with_reducible refine w_ndel ?_
  | with_reducible refine w_npop ?_
  | ((with_reducible refine' w_nnew ?hs ?_); (case hs => assumption); intro _ _ _))

local macro_rules | `(tactic| walk_at "s") => `(tactic| first
  | with_reducible refine w_ninF ?_
  | with_reducible refine w_nsetd ?_
  | with_reducible refine w_ckw ?_)

local macro_rules | `(tactic| walk_at "s") => `(tactic| first
  | with_reducible refine w_ngetF ?_
  | with_reducible refine w_nnotF ?_
  | with_reducible refine w_naug ?_)

local macro_rules | `(tactic| walk_at "s") => `(tactic| first
  | with_reducible refine w_m0 ?_
  | with_reducible refine w_m1 ?_
  | with_reducible refine w_m0b ?_
  | with_reducible refine w_m1b ?_
  | with_reducible refine w_kget ?_
  | with_reducible refine w_nS ?_)

local macro_rules | `(tactic| walk_at "s") => `(tactic| first
  | with_reducible refine w_ng2 ?_
  | with_reducible refine w_ng1 ?_
  | ((with_reducible refine' w_isND ?h ?_); (case h => walk_at "g"))
  | with_reducible refine w_listZip ?_)

section
variable {P : Program} [IsP P] {w : World} {K : PySem.W.Frag} {mg : Str → Option Value} {base : Heap} {a : Ad}
/-! ## flows as data -/
def dEn (e : En) : PyData := .tuple [.int e.1, .int e.2]
def dWy (y : Wy) : PyData := .list (y.map dEn)
def dPr (x : Wy × Int) : PyData := .tuple [dWy x.1, .int x.2]
def dFl (f : Fl) : PyData := .list (f.map dPr)
def dFs (fs : List Fl) : PyData := .list (fs.map dFl)
theorem en_dp {H : Hp} {v : V} {e : En} (h : EnAt H v e) : Dp K H v (dEn e) := by
  obtain ⟨p, rfl, h⟩ := h
  exact .tup (SqT.of h) (.cons (.int _) (.cons (.int _) .nil))
theorem wy_dp {H : Hp} {v : V} {y : Wy} (h : WyAt H v y) : Dp K H v (dWy y) := by
  obtain ⟨p, us, rfl, h, r⟩ := h
  exact .lst (SqL.of h) (r.dpAll (d := dEn) fun _ _ h => en_dp h)
theorem pr_dp {H : Hp} {v : V} {x : Wy × Int} (h : PrAt H v x) : Dp K H v (dPr x) := by
  obtain ⟨p, u, rfl, h, r⟩ := h
  exact .tup (SqT.of h) (.cons (wy_dp r) (.cons (.int _) .nil))
theorem fl_dp {H : Hp} {v : V} {f : Fl} (h : FlAt H v f) : Dp K H v (dFl f) := by
  obtain ⟨p, us, rfl, h, r⟩ := h
  exact .lst (SqL.of h) (r.dpAll (d := dPr) fun _ _ h => pr_dp h)
theorem fs_dp {H : Hp} {v : V} {f : List Fl} (h : FsAt H v f) : Dp K H v (dFs f) := by
  obtain ⟨p, us, rfl, h, r⟩ := h
  exact .lst (SqL.of h) (r.dpAll (d := dFl) fun _ _ h => fl_dp h)
theorem lay_list {ds : List PyData} {n : Nat} (h : ∀ d ∈ ds, d.canLay0 = true ∧ d.depth ≤ n) : (PyData.list ds).canLay0 = true ∧ (PyData.list ds).depth ≤ n + 1 := by
  have key : ∀ {ds : List PyData}, (∀ d ∈ ds, d.canLay0 = true ∧ d.depth ≤ n) → PyData.canLayAll0 ds = true ∧ PyData.depthAll ds ≤ n := by
    intro ds
    induction ds with
    | nil => exact fun _ => ⟨rfl, Nat.zero_le _⟩
    | cons d ds ih =>
      intro h
      obtain ⟨h1, h2⟩ := h d List.mem_cons_self
      obtain ⟨h3, h4⟩ := ih fun x hx => h x (List.mem_cons_of_mem _ hx)
      refine ⟨by rw [PyData.canLayAll0, h1, h3]; rfl, ?_⟩
      rw [PyData.depthAll]
      omega
  obtain ⟨h1, h2⟩ := key h
  refine ⟨by rw [PyData.canLay0]; exact h1, ?_⟩
  rw [PyData.depth]
  omega
theorem lay_en (e : En) : (dEn e).canLay0 = true ∧ (dEn e).depth ≤ 1 := by
  unfold dEn
  simp [PyData.canLay0, PyData.canLayAll0, PyData.depth, PyData.depthAll]
theorem lay_wy (y : Wy) : (dWy y).canLay0 = true ∧ (dWy y).depth ≤ 2 := lay_list fun d hd => by
  obtain ⟨e, _, rfl⟩ := List.mem_map.mp hd
  exact lay_en e
theorem lay_pr (x : Wy × Int) : (dPr x).canLay0 = true ∧ (dPr x).depth ≤ 3 := by
  obtain ⟨h1, h2⟩ := lay_wy x.1
  unfold dPr
  simp [PyData.canLay0, PyData.canLayAll0, PyData.depth, PyData.depthAll, h1]
  omega
theorem lay_fl (f : Fl) : (dFl f).canLay0 = true ∧ (dFl f).depth ≤ 4 := lay_list fun d hd => by
  obtain ⟨e, _, rfl⟩ := List.mem_map.mp hd
  exact lay_pr e
theorem lay_fs (f : List Fl) : (dFs f).canLay0 = true ∧ (dFs f).depth ≤ 5 := lay_list fun d hd => by
  obtain ⟨e, _, rfl⟩ := List.mem_map.mp hd
  exact lay_fl e
theorem shp_of {d : PyData} {n : Nat} (h : d.canLay0 = true ∧ d.depth ≤ n) (hn : n ≤ 64) : SeqAt.shaped d = true := by
  unfold SeqAt.shaped
  rw [h.1, decide_eq_true (Nat.le_trans h.2 hn)]
  rfl
theorem eqv_wys : ∀ x y : Wy, PyData.eqvAll (x.map dEn) (y.map dEn) = decide (x = y)
  | [], [] => rfl
  | [], _ :: _ => rfl
  | _ :: _, [] => rfl
  | x :: xs, y :: ys => by
    rw [List.map_cons, List.map_cons, PyData.eqvAll, eqv_wys xs ys]
    have h : PyData.eqv (dEn x) (dEn y) = decide (x = y) := eqv_end
    rw [h]
    by_cases h1 : x = y <;> by_cases h2 : xs = ys <;> simp [h1, h2]
theorem eqv_wy (x y : Wy) : PyData.eqv (dWy x) (dWy y) = decide (x = y) := by
  unfold dWy
  rw [PyData.eqv]
  exact eqv_wys x y
/-! ## ways -/
def wysA (acc ws : List Wy) : List Wy := ws.foldl (fun acc x => if x ∈ acc then acc else acc ++ [x]) acc
def wysM (f g : Fl) : List Wy := wysA [] ((f ++ g).map (·.1))
theorem wysA_mem : ∀ (ws acc : List Wy) (x : Wy), x ∈ wysA acc ws ↔ x ∈ acc ∨ x ∈ ws
  | [], acc, x => by simp [wysA]
  | y :: ws, acc, x => by
    show x ∈ wysA (if y ∈ acc then acc else acc ++ [y]) ws ↔ _
    rw [wysA_mem ws, List.mem_cons]
    by_cases h : y ∈ acc
    · rw [if_pos h]
      constructor
      · rintro (h1 | h1)
        · exact .inl h1
        · exact .inr (.inr h1)
      · rintro (h1 | rfl | h1)
        · exact .inl h1
        · exact .inl h
        · exact .inr h1
    · rw [if_neg h, List.mem_append, List.mem_singleton, or_assoc]
theorem wysA_nd : ∀ (ws acc : List Wy), acc.Nodup → (wysA acc ws).Nodup
  | [], acc, h => h
  | y :: ws, acc, h => by
    show (wysA (if y ∈ acc then acc else acc ++ [y]) ws).Nodup
    apply wysA_nd ws
    by_cases c : y ∈ acc
    · rw [if_pos c]
      exact h
    · rw [if_neg c, List.nodup_append]
      exact ⟨h, by simp, fun a ha b hb q => c (by rw [List.mem_singleton] at hb; rw [← hb, ← q]; exact ha)⟩
theorem wysA_len : ∀ (ws acc : List Wy), (wysA acc ws).length ≤ acc.length + ws.length
  | [], acc => Nat.le_refl _
  | y :: ws, acc => by
    show (wysA (if y ∈ acc then acc else acc ++ [y]) ws).length ≤ _
    refine Nat.le_trans (wysA_len ws _) ?_
    rw [List.length_cons]
    split
    · omega
    · rw [List.length_append, List.length_singleton]
      omega
theorem wysA_take {ws : List Wy} {i : Nat} {x : Wy} (h : ws[i]? = some x) (acc : List Wy) : wysA acc (ws.take (i + 1)) = if x ∈ wysA acc (ws.take i) then wysA acc (ws.take i) else wysA acc (ws.take i) ++ [x] := by
  unfold wysA
  rw [List.take_add_one, h, List.foldl_append]
  rfl
def WsAt (H : Hp) (v : V) (ws : List Wy) : Prop := ∃ (p : Addr) (us : List V), v = .ref p ∧ H p = some (.lst us) ∧ Row (WyAt H) us ws
theorem WsAt.same {H H' : Hp} (s : Same H H') {v : V} {ws : List Wy} (h : WsAt H v ws) : WsAt H' v ws := let ⟨p, us, h1, h2, h3⟩ := h; ⟨p, us, h1, s _ _ h2, h3.mono fun _ _ => WyAt.same s⟩
def sp_ways_of : Sp := fun vs H Q _ => ∃ (B : Hp) (R : List (Addr × HO)) (u v : V) (f g : Fl), vs = [u, v] ∧ Hs B R H ∧ FlAt B u f ∧ FlAt B v g ∧ f.length + g.length ≤ 200 ∧ ∀ r B2 H', Same B B2 → Hs B2 R H' → WsAt B2 r (wysM f g) → Q r H'
theorem ok_ways_of (T : Txt w K mg a) : FnOk P w K mg base CX0 1 a.ways_of a.fd_ways_of ["flow", "other"] sp_ways_of := by
  refine T.fn_ways_of.ok sc_ways_of (fun vs H Q E h => ?_) (fun cdv A outer s H vs Q E hr h => ?_)
  · obtain ⟨_, _, _, _, _, _, rfl, _⟩ := h
    rfl
  · obtain ⟨B0, R, _, _, f, g, rfl, hs, ⟨l, us, rfl, hl, hrow⟩, ⟨m, vs, rfl, hm, hrow2⟩, hz, k⟩ := h
    refine ⟨_, (pss_cons (ps_set (i := 2) sc_ways_of.nd rfl (Or.inl rfl) (pe_lst pa_nil))
  (pss_cons (ps_for PassesOwn.never rfl (pi_listK (K := K) (pe_lst (pa_starK (K := K) (pv 0) (pa_starK (K := K) (pv 1) pa_nil)))) (pg_tupK (K := K) rfl (pgs_cons (pg_name (i := 3) sc_ways_of.nd rfl (Or.inl rfl)) (pgs_cons (pg_name (i := 4) sc_ways_of.nd rfl (Or.inl rfl)) pgs_nil)))
  (pss_one (ps_if (pt_cmpR (op_niDL (K := K) (r65 hr)) (pv 3) (pv 2) (by rfl))
  (pss_one (ps_expr (pe_bmK (K := K) PySem.F.plainAttrs_list PySem.F.slot_list_append PySem.F.type_list_append mt_append (pv 2) (pa_cons (pe_callTy (call_list_ofK (K := K)) (by rfl) T.mg_list (by decide +kernel) (pa_cons (pv 3) pa_nil)) pa_nil))))
  pss_nil)))
  (pss_one (ps_ret (pv 2))))), ?_⟩
    walk_at "ss"
    rename_i fd H1 hs1
    refine w_forS ?_
    walk_at "ss"
    refine w_star ?_
    walk_at "ss"
    refine ⟨l, us, rfl, .inr (SqL.of (hs1.old hl)), ?_⟩
    refine w_star ?_
    walk_at "ss"
    refine ⟨m, vs, rfl, .inr (SqL.of (hs1.old hm)), ?_⟩
    walk_at "ss"
    have hlu := hrow.1
    have hlv := hrow2.1
    refine w_newL hs1 (by rw [sizeLine_eq]; simp; omega) fun bd H2 hs2 => ?_
    obtain ⟨B1, sB1, hbd, hs3⟩ := frz_hs hs2
    rw [List.append_nil] at hbd
    have hrB : Row (PrAt B1) (us ++ vs) (f ++ g) := (hrow.mono fun _ _ => PrAt.same sB1).app (hrow2.mono fun _ _ => PrAt.same sB1)
    clear hs hs1 hs2
    refine w_forL (SqL.of (hs3.old hbd)) (fun i σ H' => ∃ (B : Hp) (acc : List V) (v3 v4 : Option V), σ = [some (.ref l), some (.ref m), some (.ref fd), v3, v4] ∧ Same B1 B ∧ Hs B ((fd, .lst acc) :: R) H' ∧ Row (WyAt B) acc (wysA [] (((f ++ g).map (·.1)).take i))) (fun Q q => q)
      ⟨B1, [], none, none, rfl, Same.refl _, hs3, Row.nil⟩ (fun i σ H' _ ⟨B, _, _, _, _, sm, h, _⟩ => SqL.of (h.old (sm _ _ hbd))) ?_ ?_
    · clear hs3
      rintro i u σ H' hu ⟨B, acc, v3, v4, rfl, sm, hs, hacc⟩
      obtain ⟨⟨y, n⟩, hx, p, q, rfl, hp, hq⟩ := hrB.get hu
      have hpB : B p = some (.tup [.ref p, .int n]) ∨ True := .inr trivial
      obtain ⟨qa, ws, rfl, hqa, hws⟩ := id hq
      have hp' : B p = some (.tup [.ref qa, .int n]) := sm _ _ hp
      have hqa' := sm _ _ hqa
      have hqB : WyAt B (.ref qa) y := hq.same sm
      have hxi : ((f ++ g).map (·.1))[i]? = some y := by
        rw [List.getElem?_map, hx]
        rfl
      walk_at "ss"
      refine ⟨_, _, wy_dp (hqB.same hs.same), .lst (SqL.of hs.g0) ((hacc.mono fun _ _ => WyAt.same hs.same).dpAll (d := dWy) fun _ _ h => wy_dp h), shp_of (lay_wy y) (by decide), shp_of (n := 3) (lay_list fun d hd => ?_) (by decide), ?_⟩
      · obtain ⟨z, _, rfl⟩ := List.mem_map.mp hd
        exact lay_wy z
      have hany : ((wysA [] (((f ++ g).map (·.1)).take i)).map dWy).any (fun z => PyData.eqv z (dWy y)) = decide (y ∈ wysA [] (((f ++ g).map (·.1)).take i)) := by
        rw [List.any_map, Bool.eq_iff_iff, List.any_eq_true, decide_eq_true_iff]
        constructor
        · rintro ⟨z, hz, e⟩
          have e : PyData.eqv (dWy z) (dWy y) = true := e
          rw [eqv_wy] at e
          exact of_decide_eq_true e ▸ hz
        · intro h
          exact ⟨y, h, (eqv_wy y y).trans (decide_eq_true rfl)⟩
      rw [hany]
      have hstep := wysA_take hxi []
      have hal : acc.length ≤ 200 := by
        have h1 := wysA_len (((f ++ g).map (·.1)).take i) []
        rw [List.length_take, List.length_map, List.length_append] at h1
        have := hacc.1
        rw [List.length_nil] at h1
        omega
      by_cases c : y ∈ wysA [] (((f ++ g).map (·.1)).take i)
      · rw [if_pos c] at hstep
        simp only [if_true, decide_eq_true c, Bool.not_true]
        refine ⟨_, rfl, ?_⟩
        refine iteF ?_
        walk_at "ss"
        exact ⟨B, acc, _, _, rfl, sm, hs, by rw [hstep]; exact hacc⟩
      · rw [if_neg c] at hstep
        simp only [if_true, decide_eq_false c, Bool.not_false]
        refine ⟨_, rfl, ?_⟩
        refine iteT ?_
        walk_at "ss"
        refine ⟨qa, ws, rfl, .inl (SqL.of (hs.old hqa')), fun nl hnl => ?_⟩
        have hs2 := hs.new (o := .lst ws) hnl
        obtain ⟨B3, s3, hnB, hs3⟩ := frz_hs hs2
        walk_at "ss"
        rename_i H5 hs5
        refine ⟨B3, acc ++ [.ref nl], _, _, rfl, sm.trans s3, hs5, ?_⟩
        rw [hstep]
        exact (hacc.mono fun _ _ => WyAt.same s3).snoc ⟨nl, ws, rfl, hnB, hws.mono fun _ _ => EnAt.same (sm.trans s3)⟩
    · clear hs3
      rintro σ H' ⟨B, acc, v3, v4, rfl, sm, hs, hacc⟩
      rw [hrB.1, List.take_of_length_le (by rw [List.length_map]; exact Nat.le_refl _)] at hacc
      walk_at "ss"
      obtain ⟨B2, s2, hfd, hs2⟩ := frz_hs hs
      exact k _ B2 H' (sB1.trans (sm.trans s2)) hs2 ⟨fd, acc, rfl, hfd, hacc.mono fun _ _ => WyAt.same s2⟩
end
local macro_rules | `(tactic| walk_at "v") => `(tactic| first | exact v0 | exact v1 | exact v2 | exact v3 | exact v4 | exact v5 | exact v6 | exact v7 | exact v8)
local macro_rules | `(tactic| walk_at "vs") => `(tactic| first | exact st0 | exact st1 | exact st2 | exact st3 | exact st4 | exact st5 | exact st6 | exact st7 | exact st8)
local macro_rules | `(tactic| walk_at "s") => `(tactic| first
  | with_reducible refine w_dget ?_
  | ((with_reducible refine' w_dgetZ ?h ?nd ?hk ?hv ?_); (case h => walk_at "g"); (case nd => walk_at "nd"); (case hk => walk_at "k"); (case hv => walk_at "v"))
  | ((with_reducible refine' w_dputZ ?hs ?h ?nd ?hk ?hv ?hu ?hl ?_); (case hs => assumption); (case h => walk_at "p"); (case nd => walk_at "nd"); (case hk => walk_at "k"); (case hv => walk_at "v"); (case hu => walk_at "vs"); (case hl => decide); intro _ _)
  | with_reducible refine w_gsub ?_
  | with_reducible refine w_setD ?_
  | with_reducible refine w_disp ?_
  | ((with_reducible refine' w_newP ?hs ?_); (case hs => assumption); intro _ _ _)
  | with_reducible refine w_pcons ?_
  | with_reducible refine w_pnil ?_)

local macro_rules | `(tactic| walk_at "s") => `(tactic| first
  | with_reducible refine w_nget ?_
  | with_reducible refine w_nin ?_
  | with_reducible refine w_nnot ?_
  | with_reducible refine w_nput ?_
  | with_reducible refine w_ndel ?_
  | with_reducible refine w_npop ?_
  | ((with_reducible refine' w_nnew ?hs ?_); (case hs => assumption); intro _ _ _))

local macro_rules | `(tactic| walk_at "s") => `(tactic| first
  | with_reducible refine w_ninF ?_
  | with_reducible refine w_nsetd ?_
  | with_reducible refine w_ckw ?_)

local macro_rules | `(tactic| walk_at "s") => `(tactic| first
  | with_reducible refine w_ngetF ?_
  | with_reducible refine w_nnotF ?_
  | with_reducible refine w_naug ?_)

local macro_rules | `(tactic| walk_at "s") => `(tactic| first
  | with_reducible refine w_m0 ?_
  | with_reducible refine w_m1 ?_
  | with_reducible refine w_m0b ?_
  | with_reducible refine w_m1b ?_
  | with_reducible refine w_kget ?_
  | with_reducible refine w_nS ?_)

local macro_rules | `(tactic| walk_at "s") => `(tactic| first
  | with_reducible refine w_ng2 ?_
  | with_reducible refine w_ng1 ?_
  | ((with_reducible refine' w_isND ?h ?_); (case h => walk_at "g"))
  | with_reducible refine w_listZip ?_)

section
variable {P : Program} [IsP P] {w : World} {K : PySem.W.Frag} {mg : Str → Option Value} {base : Heap} {a : Ad}
def amtM (f : Fl) (y : Wy) : Int := (f.map fun x => if x.1 = y then x.2 else 0).sum
def sp_amounts_of : Sp := fun vs H Q _ => ∃ (B : Hp) (R : List (Addr × HO)) (u v : V) (f : Fl) (ws : List Wy), vs = [u, v] ∧ Hs B R H ∧ FlAt B u f ∧ WsAt B v ws ∧ f.length ≤ 200 ∧ ws.length ≤ 200 ∧ ∀ r p B2 H', r = .ref p → Same B B2 → Hs B2 R H' → B2 p = some (.lst (ws.map fun y => .int (amtM f y))) → Q r H'
theorem ok_amounts_of (T : Txt w K mg a) : FnOk P w K mg base CX0 1 a.amounts_of a.fd_amounts_of ["flow", "ways"] sp_amounts_of := by
  refine T.fn_amounts_of.ok sc_amounts_of (fun vs H Q E h => ?_) (fun cdv A outer s H vs Q E hr h => ?_)
  · obtain ⟨_, _, _, _, _, _, rfl, _⟩ := h
    rfl
  · obtain ⟨B0, R, _, _, f, ws, rfl, hs, ⟨l, us, rfl, hl, hrow⟩, ⟨m, vs, rfl, hm, hrow2⟩, hz, hz2, k⟩ := h
    refine ⟨_, (pss_one (ps_ret (pe_lc (own := [("way", 2)]) (g := (gName 2)) (tt := tYes) rfl sc_amounts_of.nd (pi_listK (K := K) (pv 1)) (blkOk_by (own := [("way", 2)]) (N := N_amounts_of) (sc := defScope s_amounts_of) (by decide +kernel)) (fun _ _ _ _ _ => by exact (pg_name (i := 2) sc_amounts_of.nd rfl (by first | exact Or.inl rfl | exact Or.inr rfl))) (fun _ _ _ _ _ => pts_nil) (fun _ _ _ _ _ => by exact (pe_callB (cr_sumK (K := K) rfl) (by rfl) T.mg_sum (by decide +kernel) (pa_cons (pe_lc (own := [("ends", 3), ("amount", 4)]) (g := (gTup K 2 (gCons (gName 3) (gCons (gName 4) gNil)))) rfl sc_amounts_of.nd (pi_listK (K := K) (pv 0)) (blkOk_in (own := [("ends", 3), ("amount", 4)]) (N := N_amounts_of) (by decide +kernel)) (fun _ _ _ _ _ => by exact (pg_tupK (K := K) rfl (pgs_cons (pg_name (i := 3) sc_amounts_of.nd rfl (by first | exact Or.inl rfl | exact Or.inr rfl)) (pgs_cons (pg_name (i := 4) sc_amounts_of.nd rfl (by first | exact Or.inl rfl | exact Or.inr rfl)) pgs_nil)))) (fun _ _ _ _ _ => by exact pts_one (pt_cmpR (op_eqDK (K := K) hr.units) (pv 3) (pv 2) (nomark _))) (fun _ _ _ _ _ => by exact (pv 4))) pa_nil)))))), ?_⟩
    walk_at "ss"
    refine w_lc (SqL.of (hs.old hm)) (fun D i H2 => ∃ B : Hp, Same B0 B ∧ Hs B ((D, .lst ((ws.take i).map fun y => .int (amtM f y))) :: R) H2) (fun Q q => ⟨_, rfl, q⟩)
      (fun D hD => ⟨B0, Same.refl _, hs.new hD⟩) (fun D i H2 _ ⟨B, sm, h⟩ => SqL.of (h.old (sm _ _ hm))) ?_ ?_
    · rintro D i u H2 hu ⟨B, sm, hs2⟩
      obtain ⟨y, hy, hyw⟩ := hrow2.get hu
      have hi : i < 200 := by
        have := (List.getElem?_eq_some_iff.mp hy).1
        omega
      walk_at "ss"
      refine ⟨rfl, ?_⟩
      walk_at "ss"
      try (with_reducible refine iteT ?_)
      walk_at "ss"
      have hl2 : H2 l = some (.lst us) := hs2.old (sm _ _ hl)
      refine w_lc (SqL.of hl2) (fun D2 j H3 => ∃ ns : List Int, Hs B ((D2, .lst (ns.map V.int)) :: (D, .lst ((ws.take i).map fun y => .int (amtM f y))) :: R) H3 ∧ ns.length ≤ j ∧ ns.sum = amtM (f.take j) y) (fun Q q => ⟨_, rfl, q⟩)
        (fun D2 hD2 => ⟨[], hs2.new hD2, Nat.le_refl _, rfl⟩) (fun D2 j H3 _ ⟨_, h, _⟩ => SqL.of (h.old (sm _ _ hl))) ?_ ?_
      · rintro D2 j v H3 hv ⟨ns, hs3, hnl, hsum⟩
        obtain ⟨⟨z, n⟩, hx, p, q, rfl, hp, hq⟩ := hrow.get hv
        have hp' : B p = some (.tup [q, .int n]) := sm _ _ hp
        have hj : j < 200 := by
          have := (List.getElem?_eq_some_iff.mp hx).1
          omega
        have hqz : WyAt B q z := hq.same sm
        obtain ⟨qa, qs, rfl, hqa, hqs⟩ := id hqz
        obtain ⟨ua, uus, rfl, hua, huus⟩ := id (hyw.same sm)
        walk_at "ss"
        refine ⟨rfl, ?_⟩
        walk_at "ss"
        refine w_eqD (wy_dp (hqz.same hs3.same)) (wy_dp ((hyw.same sm).same hs3.same)) (shp_of (lay_wy z) (by decide)) (shp_of (lay_wy y) (by decide)) ?_
        rw [eqv_wy]
        have ht : amtM (f.take (j + 1)) y = amtM (f.take j) y + if z = y then n else 0 := by
          unfold amtM
          rw [List.take_add_one, hx, List.map_append, List.sum_append]
          show _ + ((if z = y then n else 0) + 0) = _
          rw [Int.add_zero]
        by_cases c : z = y
        · rw [if_pos c] at ht
          rw [decide_eq_true c]
          refine ⟨_, rfl, ?_⟩
          refine iteT ?_
          walk_at "ss"
          refine ⟨_, hs3.g0, szl (by rw [List.length_map]; omega), ns ++ [n], ?_, by rw [List.length_append]; exact Nat.succ_le_succ hnl, by rw [List.sum_append, hsum, ht]; show _ + (n + 0) = _; rw [Int.add_zero]⟩
          have h1 := hs3.p0 (.lst (ns.map V.int ++ [V.int n]))
          rw [List.map_append]
          exact h1
        · rw [if_neg c, Int.add_zero] at ht
          rw [decide_eq_false c]
          refine ⟨_, rfl, ?_⟩
          refine iteF ?_
          exact ⟨ns, hs3, Nat.le_succ_of_le hnl, hsum.trans ht.symm⟩
      · rintro D2 H3 ⟨ns, hs3, hnl, hsum⟩
        rw [hrow.1, List.take_length] at hsum
        walk_at "ss"
        refine ⟨D2, ns, rfl, SqL.of hs3.g0, ?_⟩
        rw [hsum]
        refine ⟨_, hs3.g1, szl (by rw [List.length_map, List.length_take]; omega), B, sm, ?_⟩
        have h1 := (hs3.p1 (.lst ((ws.take i).map (fun y => V.int (amtM f y)) ++ [V.int (amtM f y)]))).tl
        rw [List.take_add_one, hy, List.map_append]
        exact h1
    · rintro D H2 ⟨B, sm, hs2⟩
      rw [hrow2.1, List.take_length] at hs2
      obtain ⟨B2, s2, hD, hs3⟩ := frz_hs hs2
      exact k _ D B2 H2 rfl (sm.trans s2) hs3 hD

def flowM (ws : List Wy) (ns : List Int) : Fl := (ws.zip ns).filter fun x => decide (0 < x.2)
def sp_flow_of : Sp := fun vs H Q _ => ∃ (B : Hp) (R : List (Addr × HO)) (u : V) (m : Addr) (ws : List Wy) (ns : List Int), vs = [u, .ref m] ∧ Hs B R H ∧ WsAt B u ws ∧ B m = some (.lst (ns.map V.int)) ∧ ws.length = ns.length ∧ ws.length ≤ 200 ∧ ∀ r B2 H', Same B B2 → Hs B2 R H' → FlAt B2 r (flowM ws ns) → Q r H'
theorem ok_flow_of (T : Txt w K mg a) : FnOk P w K mg base CX0 1 a.flow_of a.fd_flow_of ["ways", "amounts"] sp_flow_of := by
  refine T.fn_flow_of.ok sc_flow_of (fun vs H Q E h => ?_) (fun cdv A outer s H vs Q E hr h => ?_)
  · obtain ⟨_, _, _, _, _, _, rfl, _⟩ := h
    rfl
  · obtain ⟨B0, R, _, m, ws, ns, rfl, hs, ⟨l, us, rfl, hl, hrow⟩, hm, hlen, hz, k⟩ := h
    refine ⟨_, (pss_one (ps_ret (pe_lc (own := [("way", 2), ("amount", 3)]) (g := (gTup K 2 (gCons (gName 2) (gCons (gName 3) gNil)))) rfl sc_flow_of.nd (pi_zipK (K := K) (by rfl) T.mg_zip (pa_cons (pv 0) (pa_cons (pv 1) pa_nil))) (blkOk_by (own := [("way", 2), ("amount", 3)]) (N := N_flow_of) (sc := defScope s_flow_of) (by decide +kernel)) (fun _ _ _ _ _ => by exact (pg_tupK (K := K) rfl (pgs_cons (pg_name (i := 2) sc_flow_of.nd rfl (by first | exact Or.inl rfl | exact Or.inr rfl)) (pgs_cons (pg_name (i := 3) sc_flow_of.nd rfl (by first | exact Or.inl rfl | exact Or.inr rfl)) pgs_nil)))) (fun _ _ _ _ _ => by exact pts_one (pt_cmpR op_gt (pv 3) pe_int (nomark _))) (fun _ _ _ _ _ => by exact (pe_tup (pa_cons (pe_callTy (call_list_ofK (K := K)) (by rfl) T.mg_list (by decide +kernel) (pa_cons (pv 2) pa_nil)) (pa_cons (pv 3) pa_nil))))))), ?_⟩
    walk_at "ss"
    refine w_lcZ ?_
    walk_at "ss"
    have hul : us.length = (ns.map V.int).length := by rw [hrow.1, hlen, List.length_map]
    refine w_zipL (SqL.of (hs.old hl)) (SqL.of (hs.old hm)) fun D hD => ?_
    have hs1 := hs.new (o := .lst []) hD
    refine turns_zipL hul (fun i H2 => ∃ (B : Hp) (acc : List V), Same B0 B ∧ Hs B ((D, .lst acc) :: R) H2 ∧ Row (PrAt B) acc (((ws.zip ns).take i).filter fun x => decide (0 < x.2)))
      ⟨B0, [], Same.refl _, hs1, Row.nil⟩ (fun i H2 _ ⟨B, _, sm, h, _⟩ => ⟨SqL.of (h.old (sm _ _ hl)), SqL.of (h.old (sm _ _ hm))⟩) ?_ ?_
    · clear hs1 hD
      rintro i x y N H2 hx hy ⟨B, acc, sm, hs, hacc⟩ hN
      obtain ⟨z, hz1, hzw⟩ := hrow.get hx
      rw [List.getElem?_map] at hy
      obtain ⟨n, hn, rfl⟩ := Option.map_eq_some_iff.mp hy
      have hi : i < 200 := by
        have := (List.getElem?_eq_some_iff.mp hz1).1
        omega
      have hzi : (ws.zip ns)[i]? = some (z, n) := by
        rw [List.getElem?_zip_eq_some]
        exact ⟨hz1, hn⟩
      have htk : ((ws.zip ns).take (i + 1)).filter (fun x => decide (0 < x.2)) = ((ws.zip ns).take i).filter (fun x => decide (0 < x.2)) ++ if 0 < n then [(z, n)] else [] := by
        rw [List.take_add_one, hzi, List.filter_append]
        congr 1
        show List.filter _ [(z, n)] = _
        by_cases c : 0 < n
        · rw [if_pos c, List.filter_cons_of_pos (by exact decide_eq_true c)]
          rfl
        · rw [if_neg c, List.filter_cons_of_neg (by rw [decide_eq_false c]; exact Bool.false_ne_true)]
          rfl
      have hal : acc.length ≤ 200 := by
        have h1 := hacc.1
        have h2 := List.length_filter_le (fun x : Wy × Int => decide (0 < x.2)) ((ws.zip ns).take i)
        rw [List.length_take] at h2
        omega
      have hs2 := hs.new (o := .tup [x, .int n]) hN
      generalize upd H2 N (.tup [x, .int n]) = H3 at hs2 ⊢
      clear hs hN
      obtain ⟨B1, s1, hB1, hs3⟩ := frz_hs hs2
      clear hs2
      have sm1 := sm.trans s1
      obtain ⟨qa, qs, rfl, hqa, hqs⟩ := id (hzw.same sm1)
      unfold LcBody
      walk_at "ss"
      refine ⟨rfl, ?_⟩
      walk_at "ss"
      refine ifd (fun c => ?_) (fun c => ?_)
      · have c : 0 < n := c
        rw [if_pos c] at htk
        walk_at "ss"
        refine ⟨qa, qs, rfl, .inl (SqL.of (hs3.old hqa)), fun nl hnl => ?_⟩
        obtain ⟨B2, s2, hnB, hs4⟩ := frz_hs (hs3.new (o := .lst qs) hnl)
        generalize upd H3 nl (.lst qs) = H4 at hs4 ⊢
        walk_at "ss"
        rename_i tp H5 hs5
        obtain ⟨B3, s3, htB, hs6⟩ := frz_hs hs5
        refine ⟨acc, hs6.g0, szl (by omega), B3, _, sm1.trans (s2.trans s3), hs6.p0 _, ?_⟩
        rw [htk]
        exact (hacc.mono fun _ _ => PrAt.same (s1.trans (s2.trans s3))).snoc ⟨tp, .ref nl, rfl, htB, nl, qs, rfl, s3 _ _ hnB, hqs.mono fun _ _ => EnAt.same (s2.trans s3)⟩
      · have c : ¬ 0 < n := c
        rw [if_neg c, List.append_nil] at htk
        refine ⟨B1, acc, sm1, hs3, ?_⟩
        rw [htk]
        exact hacc.mono fun _ _ => PrAt.same s1
    · clear hs1 hD
      rintro H2 ⟨B, acc, sm, hs, hacc⟩
      rw [List.take_of_length_le (by rw [List.length_zip, hul, List.length_map]; omega)] at hacc
      obtain ⟨B2, s2, hD, hs3⟩ := frz_hs hs
      walk_at "ss"
      exact k _ B2 H2 (sm.trans s2) hs3 ⟨D, acc, rfl, hD, hacc.mono fun _ _ => PrAt.same s2⟩
end
local macro_rules | `(tactic| walk_at "v") => `(tactic| first | exact v0 | exact v1 | exact v2 | exact v3 | exact v4 | exact v5 | exact v6 | exact v7 | exact v8)
local macro_rules | `(tactic| walk_at "vs") => `(tactic| first | exact st0 | exact st1 | exact st2 | exact st3 | exact st4 | exact st5 | exact st6 | exact st7 | exact st8)
local macro_rules | `(tactic| walk_at "s") => `(tactic| first
  | with_reducible refine w_dget ?_
  | ((with_reducible refine' w_dgetZ ?h ?nd ?hk ?hv ?_); (case h => walk_at "g"); (case nd => walk_at "nd"); (case hk => walk_at "k"); (case hv => walk_at "v"))
  | ((with_reducible refine' w_dputZ ?hs ?h ?nd ?hk ?hv ?hu ?hl ?_); (case hs => assumption); (case h => walk_at "p"); (case nd => walk_at "nd"); (case hk => walk_at "k"); (case hv => walk_at "v"); (case hu => walk_at "vs"); (case hl => decide); intro _ _)
  | with_reducible refine w_gsub ?_
  | with_reducible refine w_setD ?_
  | with_reducible refine w_disp ?_
  | ((with_reducible refine' w_newP ?hs ?_); (case hs => assumption); intro _ _ _)
  | with_reducible refine w_pcons ?_
  | with_reducible refine w_pnil ?_)

local macro_rules | `(tactic| walk_at "s") => `(tactic| first
  | with_reducible refine w_nget ?_
  | with_reducible refine w_nin ?_
  | with_reducible refine w_nnot ?_
  | with_reducible refine w_nput ?_
  | with_reducible refine w_ndel ?_
  | with_reducible refine w_npop ?_
  | ((with_reducible refine' w_nnew ?hs ?_); (case hs => assumption); intro _ _ _))

local macro_rules | `(tactic| walk_at "s") => `(tactic| first
  | with_reducible refine w_ninF ?_
  | with_reducible refine w_nsetd ?_
  | with_reducible refine w_ckw ?_)

local macro_rules | `(tactic| walk_at "s") => `(tactic| first
  | with_reducible refine w_ngetF ?_
  | with_reducible refine w_nnotF ?_
  | with_reducible refine w_naug ?_)

local macro_rules | `(tactic| walk_at "s") => `(tactic| first
  | with_reducible refine w_m0 ?_
  | with_reducible refine w_m1 ?_
  | with_reducible refine w_m0b ?_
  | with_reducible refine w_m1b ?_
  | with_reducible refine w_kget ?_
  | with_reducible refine w_nS ?_)

local macro_rules | `(tactic| walk_at "s") => `(tactic| first
  | with_reducible refine w_ng2 ?_
  | with_reducible refine w_ng1 ?_
  | ((with_reducible refine' w_isND ?h ?_); (case h => walk_at "g"))
  | with_reducible refine w_listZip ?_)

section
variable {P : Program} [IsP P] {w : World} {K : PySem.W.Frag} {mg : Str → Option Value} {base : Heap} {a : Ad}
def sclF (n : Int) (f : Fl) : Fl := f.map fun x => (x.1, x.2 * n)
def sp_scaled_flows : Sp := fun vs H Q _ => ∃ (B : Hp) (R : List (Addr × HO)) (u : V) (n : Int) (fs : List Fl), vs = [u, .int n] ∧ Hs B R H ∧ FsAt B u fs ∧ FsOk fs ∧ 0 ≤ n ∧ n ≤ 1000 ∧ ∀ r B2 H', Same B B2 → Hs B2 R H' → FsAt B2 r (fs.map (sclF n)) → Q r H'
theorem ok_scaled_flows (T : Txt w K mg a) : FnOk P w K mg base CX0 1 a.scaled_flows a.fd_scaled_flows ["flows", "factor"] sp_scaled_flows := by
  refine T.fn_scaled_flows.ok sc_scaled_flows (fun vs H Q E h => ?_) (fun cdv A outer s H vs Q E hr h => ?_)
  · obtain ⟨_, _, _, _, _, rfl, _⟩ := h
    rfl
  · obtain ⟨B0, R, _, n, fs, rfl, hs, ⟨l, us, rfl, hl, hrow⟩, hok, hn0, hn1, k⟩ := h
    refine ⟨_, (pss_one (ps_ret (pe_lc (own := [("flow", 2)]) (g := (gName 2)) (tt := tYes) rfl sc_scaled_flows.nd (pi_listK (K := K) (pv 0)) (blkOk_by (own := [("flow", 2)]) (N := N_scaled_flows) (sc := defScope s_scaled_flows) (by decide +kernel)) (fun _ _ _ _ _ => by exact (pg_name (i := 2) sc_scaled_flows.nd rfl (by first | exact Or.inl rfl | exact Or.inr rfl))) (fun _ _ _ _ _ => pts_nil) (fun _ _ _ _ _ => by exact (pe_lc (own := [("ends", 3), ("amount", 4)]) (g := (gTup K 2 (gCons (gName 3) (gCons (gName 4) gNil)))) (tt := tYes) rfl sc_scaled_flows.nd (pi_listK (K := K) (pv 2)) (blkOk_in (own := [("ends", 3), ("amount", 4)]) (N := N_scaled_flows) (by decide +kernel)) (fun _ _ _ _ _ => by exact (pg_tupK (K := K) rfl (pgs_cons (pg_name (i := 3) sc_scaled_flows.nd rfl (by first | exact Or.inl rfl | exact Or.inr rfl)) (pgs_cons (pg_name (i := 4) sc_scaled_flows.nd rfl (by first | exact Or.inl rfl | exact Or.inr rfl)) pgs_nil)))) (fun _ _ _ _ _ => pts_nil) (fun _ _ _ _ _ => by exact (pe_tup (pa_cons (pe_callTy (call_list_ofK (K := K)) (by rfl) T.mg_list (by decide +kernel) (pa_cons (pv 3) pa_nil)) (pa_cons (pe_op op_mul (pv 4) (pv 1)) pa_nil))))))))), ?_⟩
    walk_at "ss"
    refine w_lc (SqL.of (hs.old hl)) (fun D i H2 => ∃ (B : Hp) (acc : List V), Same B0 B ∧ Hs B ((D, .lst acc) :: R) H2 ∧ Row (FlAt B) acc ((fs.map (sclF n)).take i)) (fun Q q => ⟨_, rfl, q⟩)
      (fun D hD => ⟨B0, [], Same.refl _, hs.new hD, Row.nil⟩) (fun D i H2 _ ⟨B, _, sm, h, _⟩ => SqL.of (h.old (sm _ _ hl))) ?_ ?_
    · rintro D i u H2 hu ⟨B, acc, sm, hs2, hacc⟩
      obtain ⟨f, hf, hfl⟩ := hrow.get hu
      have hfo := hok.2 f (List.mem_of_getElem? hf)
      have hal : acc.length ≤ 100 := by
        have h1 := hacc.1
        rw [List.length_take, List.length_map] at h1
        have := hok.1
        omega
      obtain ⟨q, qs, rfl, hq, hqs⟩ := hfl.same sm
      walk_at "ss"
      refine ⟨rfl, ?_⟩
      walk_at "ss"
      try (with_reducible refine iteT ?_)
      walk_at "ss"
      refine w_lc (SqL.of (hs2.old hq)) (fun D2 j H3 => ∃ (B2 : Hp) (acc2 : List V), Same B B2 ∧ Hs B2 ((D2, .lst acc2) :: (D, .lst acc) :: R) H3 ∧ Row (PrAt B2) acc2 ((sclF n f).take j)) (fun Q q => ⟨_, rfl, q⟩)
        (fun D2 hD2 => ⟨B, [], Same.refl _, hs2.new hD2, Row.nil⟩) (fun D2 j H3 _ ⟨B2, _, s2, h, _⟩ => SqL.of (h.old (s2 _ _ hq))) ?_ ?_
      · rintro D2 j v H3 hv ⟨B2, acc2, s2, hs3, hacc2⟩
        obtain ⟨⟨z, m⟩, hx, p, w1, rfl, hp, hw1⟩ := hqs.get hv
        have hp' : B2 p = some (.tup [w1, .int m]) := s2 _ _ hp
        obtain ⟨wa, ws, rfl, hwa, hws⟩ := hw1.same s2
        have hal2 : acc2.length ≤ 100 := by
          have h1 := hacc2.1
          unfold sclF at h1
          rw [List.length_take, List.length_map] at h1
          have := hfo.1
          omega
        walk_at "ss"
        refine ⟨rfl, ?_⟩
        walk_at "ss"
        try (with_reducible refine iteT ?_)
        walk_at "ss"
        refine ⟨wa, ws, rfl, .inl (SqL.of (hs3.old hwa)), fun nl hnl => ?_⟩
        obtain ⟨B3, s3, hnB, hs4⟩ := frz_hs (hs3.new (o := .lst ws) hnl)
        generalize upd H3 nl (.lst ws) = H4 at hs4 ⊢
        walk_at "ss"
        rename_i tp H5 hs5
        obtain ⟨B4, s4, htB, hs6⟩ := frz_hs hs5
        refine ⟨acc2, hs6.g0, szl (by omega), B4, _, s2.trans (s3.trans s4), hs6.p0 _, ?_⟩
        have ht : (sclF n f).take (j + 1) = (sclF n f).take j ++ [(z, m * n)] := by
          unfold sclF
          rw [List.take_add_one, List.getElem?_map, hx]
          rfl
        rw [ht]
        exact (hacc2.mono fun _ _ => PrAt.same (s3.trans s4)).snoc ⟨tp, .ref nl, rfl, htB, nl, ws, rfl, s4 _ _ hnB, hws.mono fun _ _ => EnAt.same (s3.trans s4)⟩
      · rintro D2 H3 ⟨B2, acc2, s2, hs3, hacc2⟩
        rw [List.take_of_length_le (by unfold sclF; rw [List.length_map, hqs.1]; exact Nat.le_refl _)] at hacc2
        obtain ⟨B3, s3, hnB, hs4⟩ := frz_hs hs3
        refine ⟨acc, hs4.g0, szl (by omega), B3, _, sm.trans (s2.trans s3), hs4.p0 _, ?_⟩
        have ht : (fs.map (sclF n)).take (i + 1) = (fs.map (sclF n)).take i ++ [sclF n f] := by
          rw [List.take_add_one, List.getElem?_map, hf]
          rfl
        rw [ht]
        exact (hacc.mono fun _ _ => FlAt.same (s2.trans s3)).snoc ⟨D2, acc2, rfl, hnB, hacc2.mono fun _ _ => PrAt.same s3⟩
    · rintro D H2 ⟨B, acc, sm, hs2, hacc⟩
      rw [List.take_of_length_le (by rw [List.length_map, hrow.1]; exact Nat.le_refl _)] at hacc
      obtain ⟨B3, s3, hnB, hs4⟩ := frz_hs hs2
      exact k _ B3 H2 (sm.trans s3) hs4 ⟨D, acc, rfl, hnB, hacc.mono fun _ _ => FlAt.same s3⟩
def evM (f g : Fl) (many more : Int) : Fl := flowM (wysM f g) ((wysM f g).map fun y => many * amtM f y + more * amtM g y)
def sp_even_step : Sp := fun vs H Q _ => ∃ (B : Hp) (R : List (Addr × HO)) (u v : V) (f g : Fl) (many more : Int), vs = [u, v, .int many, .int more] ∧ Hs B R H ∧ FlAt B u f ∧ FlAt B v g ∧ f.length ≤ 100 ∧ g.length ≤ 100 ∧ 0 ≤ many ∧ many ≤ 1000 ∧ 0 ≤ more ∧ more ≤ 1000 ∧ ∀ r B2 H', Same B B2 → Hs B2 R H' → FlAt B2 r (evM f g many more) → Q r H'
theorem ok_even_step (T : Txt w K mg a) : FnOk P w K mg base CX0 2 a.even_step a.fd_even_step ["flow", "other", "many", "more"] sp_even_step := by
  have G_ways_of := ok_ways_of (P := P) (base := base) T
  have G_amounts_of := ok_amounts_of (P := P) (base := base) T
  have G_flow_of := ok_flow_of (P := P) (base := base) T
  refine T.fn_even_step.ok sc_even_step (fun vs H Q E h => ?_) (fun cdv A outer s H vs Q E hr h => ?_)
  · obtain ⟨_, _, _, _, _, _, _, _, rfl, _⟩ := h
    rfl
  · obtain ⟨B0, R, u, v, f, g, many, more, rfl, hs, hu, hv, hz, hz2, hm0, hm1, hm2, hm3, k⟩ := h
    refine ⟨_, (pss_cons (ps_set (i := 4) sc_even_step.nd rfl (Or.inl rfl) (pe_call G_ways_of (hr.mono (by first | decide | omega)) rfl T.mg_ways_of T.kp_ways_of T.bi_ways_of .nil pass0 (pa_cons (pv 0) (pa_cons (pv 1) pa_nil))))
  (pss_cons (ps_set (i := 5) sc_even_step.nd rfl (Or.inl rfl) (pe_lst (pa_cons (pe_call G_amounts_of (hr.mono (by first | decide | omega)) rfl T.mg_amounts_of T.kp_amounts_of T.bi_amounts_of .nil pass0 (pa_cons (pv 0) (pa_cons (pv 4) pa_nil))) (pa_cons (pe_call G_amounts_of (hr.mono (by first | decide | omega)) rfl T.mg_amounts_of T.kp_amounts_of T.bi_amounts_of .nil pass0 (pa_cons (pv 1) (pa_cons (pv 4) pa_nil))) pa_nil))))
  (pss_one (ps_ret (pe_call G_flow_of (hr.mono (by first | decide | omega)) rfl T.mg_flow_of T.kp_flow_of T.bi_flow_of .nil pass0 (pa_cons (pv 4) (pa_cons (pe_lc (own := [("amount", 6), ("amount_then", 7)]) (g := (gTup K 2 (gCons (gName 6) (gCons (gName 7) gNil)))) (tt := tYes) rfl sc_even_step.nd (pi_zipK (K := K) (by rfl) T.mg_zip (pa_cons (pe_ix (ix_listK (K := K)) (pv 5) pe_int (fun _ _ => rfl)) (pa_cons (pe_ix (ix_listK (K := K)) (pv 5) pe_int (fun _ _ => rfl)) pa_nil))) (blkOk_by (own := [("amount", 6), ("amount_then", 7)]) (N := N_even_step) (sc := defScope s_even_step) (by decide +kernel)) (fun _ _ _ _ _ => by exact (pg_tupK (K := K) rfl (pgs_cons (pg_name (i := 6) sc_even_step.nd rfl (by first | exact Or.inl rfl | exact Or.inr rfl)) (pgs_cons (pg_name (i := 7) sc_even_step.nd rfl (by first | exact Or.inl rfl | exact Or.inr rfl)) pgs_nil)))) (fun _ _ _ _ _ => pts_nil) (fun _ _ _ _ _ => by exact (pe_op op_add (pe_op op_mul (pv 2) (pv 6)) (pe_op op_mul (pv 3) (pv 7))))) pa_nil))))))), ?_⟩
    walk_at "ss"
    refine ⟨B0, R, u, v, f, g, rfl, hs, hu, hv, by omega, fun ws B1 H1 s1 hs1 hws => ?_⟩
    have hwl : (wysM f g).length ≤ 200 := by
      have := wysA_len ((f ++ g).map (·.1)) []
      rw [List.length_map, List.length_append, List.length_nil] at this
      show (wysA _ _).length ≤ _
      omega
    walk_at "ss"
    refine ⟨B1, R, u, ws, f, _, rfl, hs1, hu.same s1, hws, by omega, hwl, fun r1 p1 B2 H2 e1 s2 hs2 hp1 => ?_⟩
    subst e1
    walk_at "ss"
    refine ⟨B2, R, v, ws, g, _, rfl, hs2, hv.same (s1.trans s2), hws.same s2, by omega, hwl, fun r2 p2 B3 H3 e2 s3 hs3 hp2 => ?_⟩
    subst e2
    have hp1' := s3 _ _ hp1
    walk_at "ss"
    rename_i lr H4 hs4
    clear hs hs1 hs2 hs3
    refine w_lcZ ?_
    walk_at "ss"
    refine w_zipL (SqL.of (hs4.old hp1')) (SqL.of (hs4.old hp2)) fun D hD => ?_
    have hs5 := hs4.new (o := .lst []) hD
    refine turns_zipL (by rw [List.length_map, List.length_map]) (fun i H2 => ∃ B : Hp, Same B3 B ∧ Hs B ((D, .lst ((((wysM f g).map fun y => many * amtM f y + more * amtM g y).take i).map V.int)) :: (lr, .lst [.ref p1, .ref p2]) :: R) H2)
      ⟨B3, Same.refl _, hs5⟩ (fun i H2 _ ⟨B, sm, h⟩ => ⟨SqL.of (h.old (sm _ _ hp1')), SqL.of (h.old (sm _ _ hp2))⟩) ?_ ?_
    · clear hs5 hs4 hD
      rintro i x y N H2 hx hy ⟨B, sm, hs⟩ hN
      rw [List.getElem?_map] at hx hy
      obtain ⟨z, hz1, rfl⟩ := Option.map_eq_some_iff.mp hx
      rw [hz1] at hy
      cases hy
      have hi : i < 200 := by
        have := (List.getElem?_eq_some_iff.mp hz1).1
        omega
      have hs2 := hs.new (o := .tup [.int (amtM f z), .int (amtM g z)]) hN
      generalize upd H2 N (.tup [.int (amtM f z), .int (amtM g z)]) = H3 at hs2 ⊢
      clear hs hN
      obtain ⟨B1, s1, hB1, hs3⟩ := frz_hs hs2
      clear hs2
      unfold LcBody
      walk_at "ss"
      refine ⟨rfl, ?_⟩
      walk_at "ss"
      try (with_reducible refine iteT ?_)
      walk_at "ss"
      refine ⟨_, hs3.g0, szl (by rw [List.length_map, List.length_take]; omega), B1, sm.trans s1, ?_⟩
      have h1 := hs3.p0 (.lst ((((wysM f g).map fun y => many * amtM f y + more * amtM g y).take i).map V.int ++ [V.int (many * amtM f z + more * amtM g z)]))
      rw [List.take_add_one, List.getElem?_map, hz1, List.map_append]
      exact h1
    · clear hs5 hs4 hD
      rintro H2 ⟨B, sm, hs⟩
      rw [List.take_of_length_le (by rw [List.length_map, List.length_map]; exact Nat.le_refl _)] at hs
      obtain ⟨B4, s4, hDB, hs5⟩ := frz_hs hs
      obtain ⟨B5, s5, _, hs6⟩ := frz_hs hs5
      walk_at "ss"
      exact ⟨B5, R, ws, D, wysM f g, _, rfl, hs6, hws.same (s2.trans (s3.trans (sm.trans (s4.trans s5)))), s5 _ _ hDB, by rw [List.length_map], hwl, fun r B6 H6 s6 hs7 hr => k r B6 H6 (s1.trans (s2.trans (s3.trans (sm.trans (s4.trans (s5.trans s6)))))) hs7 hr⟩
end
local macro_rules | `(tactic| walk_at "v") => `(tactic| first | exact v0 | exact v1 | exact v2 | exact v3 | exact v4 | exact v5 | exact v6 | exact v7 | exact v8)
local macro_rules | `(tactic| walk_at "vs") => `(tactic| first | exact st0 | exact st1 | exact st2 | exact st3 | exact st4 | exact st5 | exact st6 | exact st7 | exact st8)
local macro_rules | `(tactic| walk_at "s") => `(tactic| first
  | with_reducible refine w_dget ?_
  | ((with_reducible refine' w_dgetZ ?h ?nd ?hk ?hv ?_); (case h => walk_at "g"); (case nd => walk_at "nd"); (case hk => walk_at "k"); (case hv => walk_at "v"))
  | ((with_reducible refine' w_dputZ ?hs ?h ?nd ?hk ?hv ?hu ?hl ?_); (case hs => assumption); (case h => walk_at "p"); (case nd => walk_at "nd"); (case hk => walk_at "k"); (case hv => walk_at "v"); (case hu => walk_at "vs"); (case hl => decide); intro _ _)
  | with_reducible refine w_gsub ?_
  | with_reducible refine w_setD ?_
  | with_reducible refine w_disp ?_
  | ((with_reducible refine' w_newP ?hs ?_); (case hs => assumption); intro _ _ _)
  | with_reducible refine w_pcons ?_
  | with_reducible refine w_pnil ?_)

local macro_rules | `(tactic| walk_at "s") => `(tactic| first
  | with_reducible refine w_nget ?_
  | with_reducible refine w_nin ?_
  | with_reducible refine w_nnot ?_
  | with_reducible refine w_nput ?_
  | with_reducible refine w_ndel ?_
  | with_reducible refine w_npop ?_
  | ((with_reducible refine' w_nnew ?hs ?_); (case hs => assumption); intro _ _ _))

local macro_rules | `(tactic| walk_at "s") => `(tactic| first
  | with_reducible refine w_ninF ?_
  | with_reducible refine w_nsetd ?_
  | with_reducible refine w_ckw ?_)

local macro_rules | `(tactic| walk_at "s") => `(tactic| first
  | with_reducible refine w_ngetF ?_
  | with_reducible refine w_nnotF ?_
  | with_reducible refine w_naug ?_)

local macro_rules | `(tactic| walk_at "s") => `(tactic| first
  | with_reducible refine w_m0 ?_
  | with_reducible refine w_m1 ?_
  | with_reducible refine w_m0b ?_
  | with_reducible refine w_m1b ?_
  | with_reducible refine w_kget ?_
  | with_reducible refine w_nS ?_)

local macro_rules | `(tactic| walk_at "s") => `(tactic| first
  | with_reducible refine w_ng2 ?_
  | with_reducible refine w_ng1 ?_
  | ((with_reducible refine' w_isND ?h ?_); (case h => walk_at "g"))
  | with_reducible refine w_listZip ?_)

section
variable {P : Program} [IsP P] {w : World} {K : PySem.W.Frag} {mg : Str → Option Value} {base : Heap} {a : Ad}
def TlAt (H : Hp) (v : V) (ts : List (List Fl)) : Prop := ∃ (p : Addr) (us : List V), v = .ref p ∧ H p = some (.lst us) ∧ Row (FsAt H) us ts
theorem TlAt.same {H H' : Hp} (s : Same H H') {v : V} {ts : List (List Fl)} (h : TlAt H v ts) : TlAt H' v ts := let ⟨p, us, h1, h2, h3⟩ := h; ⟨p, us, h1, s _ _ h2, h3.mono fun _ _ => FsAt.same s⟩
def evS (fs gs : List Fl) (many more : Int) : List Fl := List.zipWith (fun f g => evM f g many more) fs gs
def tlM (fs gs : List Fl) (n : Nat) : List (List Fl) := (List.range (n + 1)).map fun (k : Nat) => evS fs gs ((n : Int) - (k : Int)) (k : Int)
def sp_even_steps : Sp := fun vs H Q _ => ∃ (B : Hp) (R : List (Addr × HO)) (u v : V) (fs gs : List Fl) (n : Nat), vs = [u, v, .int (n : Int)] ∧ Hs B R H ∧ FsAt B u fs ∧ FsAt B v gs ∧ FsOk fs ∧ FsOk gs ∧ fs.length = gs.length ∧ n ≤ 100 ∧ ∀ r B2 H', Same B B2 → Hs B2 R H' → TlAt B2 r (tlM fs gs n) → Q r H'
theorem ok_even_steps (T : Txt w K mg a) : FnOk P w K mg base CX0 3 a.even_steps a.fd_even_steps ["flows", "others", "count"] sp_even_steps := by
  have G_even_step := ok_even_step (P := P) (base := base) T
  refine T.fn_even_steps.ok sc_even_steps (fun vs H Q E h => ?_) (fun cdv A outer s H vs Q E hr h => ?_)
  · obtain ⟨_, _, _, _, _, _, _, rfl, _⟩ := h
    rfl
  · obtain ⟨B0, R, _, _, fs, gs, n, rfl, hs, ⟨l, us, rfl, hl, hrow⟩, ⟨m, vs, rfl, hm, hrow2⟩, hok, hok2, hlen, hn, k⟩ := h
    refine ⟨_, (pss_cons (ps_set (i := 3) sc_even_steps.nd rfl (by first | exact Or.inr rfl | exact Or.inl rfl) (pe_listZip (K := K) (by rfl) T.mg_list (by rfl) T.mg_zip (pa_cons (pv 0) (pa_cons (pv 1) pa_nil))))
  (pss_one (ps_ret (pe_lc (own := [("at", 4)]) (g := (gName 4)) (tt := tYes) rfl sc_even_steps.nd (pi_range1 rfl T.mg_range (pa_cons (pe_op op_add (pv 2) pe_int) pa_nil)) (blkOk_by (own := [("at", 4)]) (N := N_even_steps) (sc := defScope s_even_steps) (by decide +kernel)) (fun _ _ _ _ _ => by exact (pg_name (i := 4) sc_even_steps.nd rfl (by first | exact Or.inl rfl | exact Or.inr rfl))) (fun _ _ _ _ _ => pts_nil) (fun _ _ _ _ _ => by exact (pe_lc (own := [("flow", 5), ("other", 6)]) (g := (gTup K 2 (gCons (gName 5) (gCons (gName 6) gNil)))) (tt := tYes) rfl sc_even_steps.nd (pi_listK (K := K) (pv 3)) (blkOk_in (own := [("flow", 5), ("other", 6)]) (N := N_even_steps) (by decide +kernel)) (fun _ _ _ _ _ => by exact (pg_tupK (K := K) rfl (pgs_cons (pg_name (i := 5) sc_even_steps.nd rfl (by first | exact Or.inl rfl | exact Or.inr rfl)) (pgs_cons (pg_name (i := 6) sc_even_steps.nd rfl (by first | exact Or.inl rfl | exact Or.inr rfl)) pgs_nil)))) (fun _ _ _ _ _ => pts_nil) (fun _ _ _ _ _ => by exact (pe_call G_even_step (hr.mono (by first | decide | omega)) rfl T.mg_even_step T.kp_even_step T.bi_even_step .nil pass0 (pa_cons (pv 5) (pa_cons (pv 6) (pa_cons (pe_op op_sub (pv 2) (pv 4)) (pa_cons (pv 4) pa_nil)))))))))))), ?_⟩
    walk_at "ss"
    refine w_lzR hs (SqL.of (hs.old hl)) (SqL.of (hs.old hm)) (by rw [hrow.1, hrow2.1, hlen]) (by rw [hrow.1]; have := hok.1; omega) fun pr zs B1 H1 s1 hs1 hz => ?_
    clear hs
    obtain ⟨B2, s2, hprB, hs2⟩ := frz_hs hs1
    have sB2 := s1.trans s2
    clear hs1
    have hzr : zs.length = fs.length := by rw [hz.1, hrow.1]
    walk_at "ss"
    refine w_lcG ?_
    walk_at "ss"
    refine ⟨(n : Int) + 1, rfl, by omega, by omega, ?_⟩
    rw [show ((n : Int) + 1).toNat = n + 1 by omega]
    intro D hD
    have hs3 := hs2.new (o := .lst []) hD
    refine turns_range (fun i H2 => ∃ (B : Hp) (acc : List V), Same B2 B ∧ Hs B ((D, .lst acc) :: R) H2 ∧ Row (FsAt B) acc ((tlM fs gs n).take i)) ⟨B2, [], Same.refl _, hs3, Row.nil⟩ ?_ ?_
    · clear hs3 hs2 hD
      rintro i H2 hi ⟨B, acc, sm, hs, hacc⟩
      have hal : acc.length ≤ 101 := by
        have h1 := hacc.1
        unfold tlM at h1
        rw [List.length_take, List.length_map, List.length_range] at h1
        omega
      have ht : (tlM fs gs n).take (i + 1) = (tlM fs gs n).take i ++ [evS fs gs ((n : Int) - (i : Int)) (i : Int)] := by
        unfold tlM
        rw [List.take_add_one, List.getElem?_map, List.getElem?_range hi]
        rfl
      have hprB2 := sm _ _ hprB
      refine ⟨rfl, ?_⟩
      walk_at "ss"
      refine w_lc (SqL.of (hs.old hprB2)) (fun D2 j H3 => ∃ (B3 : Hp) (acc2 : List V), Same B B3 ∧ Hs B3 ((D2, .lst acc2) :: (D, .lst acc) :: R) H3 ∧ Row (FlAt B3) acc2 ((evS fs gs ((n : Int) - (i : Int)) (i : Int)).take j)) (fun Q q => ⟨_, rfl, q⟩)
        (fun D2 hD2 => ⟨B, [], Same.refl _, hs.new hD2, Row.nil⟩) (fun D2 j H3 _ ⟨B3, _, s3, h, _⟩ => SqL.of (h.old (s3 _ _ hprB2))) ?_ ?_
      · rintro D2 j x H3 hx ⟨B3, acc2, s3, hs3, hacc2⟩
        have hj := (List.getElem?_eq_some_iff.mp hx).1
        have hj1 : j < us.length := by
          have := hrow.1
          omega
        have hj2 : j < vs.length := by
          have := hrow2.1
          have := hrow.1
          omega
        obtain ⟨ux, hux⟩ : ∃ ux, us[j]? = some ux := ⟨_, List.getElem?_eq_getElem hj1⟩
        obtain ⟨vx, hvx⟩ : ∃ vx, vs[j]? = some vx := ⟨_, List.getElem?_eq_getElem hj2⟩
        obtain ⟨N, rfl, hN⟩ := hz.2 j ux vx x hux hvx hx
        obtain ⟨f, hf, hfl⟩ := hrow.get hux
        obtain ⟨g, hg, hgl⟩ := hrow2.get hvx
        have hN3 : B3 N = some (.tup [ux, vx]) := s3 _ _ (sm _ _ (s2 _ _ hN))
        have hfo := hok.2 f (List.mem_of_getElem? hf)
        have hgo := hok2.2 g (List.mem_of_getElem? hg)
        have hal2 : acc2.length ≤ 100 := by
          have h1 := hacc2.1
          have := hok.1
          rw [List.length_take] at h1
          omega
        have ht2 : (evS fs gs ((n : Int) - (i : Int)) (i : Int)).take (j + 1) = (evS fs gs ((n : Int) - (i : Int)) (i : Int)).take j ++ [evM f g ((n : Int) - (i : Int)) (i : Int)] := by
          unfold evS
          rw [List.take_add_one, List.getElem?_zipWith, hf, hg]
          rfl
        walk_at "ss"
        refine ⟨rfl, ?_⟩
        walk_at "ss"
        try (with_reducible refine iteT ?_)
        walk_at "ss"
        have sB3 := sB2.trans (sm.trans s3)
        refine ⟨B3, _, _, _, f, g, _, _, rfl, hs3, hfl.same sB3, hgl.same sB3, hfo.1, hgo.1, by omega, by omega, by omega, by omega, fun r B4 H4 s4 hs4 hr4 => ?_⟩
        refine ⟨acc2, hs4.g0, szl (by omega), B4, _, s3.trans s4, hs4.p0 _, ?_⟩
        rw [ht2]
        exact (hacc2.mono fun _ _ => FlAt.same s4).snoc hr4
      · rintro D2 H3 ⟨B3, acc2, s3, hs3, hacc2⟩
        rw [List.take_of_length_le (by unfold evS; rw [List.length_zipWith]; omega)] at hacc2
        obtain ⟨B4, s4, hB4, hs4⟩ := frz_hs hs3
        refine ⟨acc, hs4.g0, szl (by omega), B4, _, sm.trans (s3.trans s4), hs4.p0 _, ?_⟩
        rw [ht]
        exact (hacc.mono fun _ _ => FsAt.same (s3.trans s4)).snoc ⟨D2, acc2, rfl, hB4, hacc2.mono fun _ _ => FlAt.same s4⟩
    · clear hs3 hs2 hD
      rintro H2 ⟨B, acc, sm, hs, hacc⟩
      rw [List.take_of_length_le (by unfold tlM; rw [List.length_map, List.length_range]; exact Nat.le_refl _)] at hacc
      obtain ⟨B4, s4, hB4, hs4⟩ := frz_hs hs
      exact k _ B4 H2 (sB2.trans (sm.trans s4)) hs4 ⟨D, acc, rfl, hB4, hacc.mono fun _ _ => FsAt.same s4⟩
end
local macro_rules | `(tactic| walk_at "v") => `(tactic| first | exact v0 | exact v1 | exact v2 | exact v3 | exact v4 | exact v5 | exact v6 | exact v7 | exact v8)
local macro_rules | `(tactic| walk_at "vs") => `(tactic| first | exact st0 | exact st1 | exact st2 | exact st3 | exact st4 | exact st5 | exact st6 | exact st7 | exact st8)
local macro_rules | `(tactic| walk_at "s") => `(tactic| first
  | with_reducible refine w_dget ?_
  | ((with_reducible refine' w_dgetZ ?h ?nd ?hk ?hv ?_); (case h => walk_at "g"); (case nd => walk_at "nd"); (case hk => walk_at "k"); (case hv => walk_at "v"))
  | ((with_reducible refine' w_dputZ ?hs ?h ?nd ?hk ?hv ?hu ?hl ?_); (case hs => assumption); (case h => walk_at "p"); (case nd => walk_at "nd"); (case hk => walk_at "k"); (case hv => walk_at "v"); (case hu => walk_at "vs"); (case hl => decide); intro _ _)
  | with_reducible refine w_gsub ?_
  | with_reducible refine w_setD ?_
  | with_reducible refine w_disp ?_
  | ((with_reducible refine' w_newP ?hs ?_); (case hs => assumption); intro _ _ _)
  | with_reducible refine w_pcons ?_
  | with_reducible refine w_pnil ?_)

local macro_rules | `(tactic| walk_at "s") => `(tactic| first
  | with_reducible refine w_nget ?_
  | with_reducible refine w_nin ?_
  | with_reducible refine w_nnot ?_
  | with_reducible refine w_nput ?_
  | with_reducible refine w_ndel ?_
  | with_reducible refine w_npop ?_
  | ((with_reducible refine' w_nnew ?hs ?_); (case hs => assumption); intro _ _ _))

local macro_rules | `(tactic| walk_at "s") => `(tactic| first
  | with_reducible refine w_ninF ?_
  | with_reducible refine w_nsetd ?_
  | with_reducible refine w_ckw ?_)

local macro_rules | `(tactic| walk_at "s") => `(tactic| first
  | with_reducible refine w_ngetF ?_
  | with_reducible refine w_nnotF ?_
  | with_reducible refine w_naug ?_)

local macro_rules | `(tactic| walk_at "s") => `(tactic| first
  | with_reducible refine w_m0 ?_
  | with_reducible refine w_m1 ?_
  | with_reducible refine w_m0b ?_
  | with_reducible refine w_m1b ?_
  | with_reducible refine w_kget ?_
  | with_reducible refine w_nS ?_)

local macro_rules | `(tactic| walk_at "s") => `(tactic| first
  | with_reducible refine w_ng2 ?_
  | with_reducible refine w_ng1 ?_
  | ((with_reducible refine' w_isND ?h ?_); (case h => walk_at "g"))
  | with_reducible refine w_listZip ?_)

section
variable {P : Program} [IsP P] {w : World} {K : PySem.W.Frag} {mg : Str → Option Value} {base : Heap} {a : Ad}
/-! ## the law's flows -/
theorem ground_ends {B H : Hp} {R : List (Addr × HO)} {el p1 p2 p3 p4 : Addr} (hs : Hs B ((el, .lst [.ref p1, .ref p2, .ref p3, .ref p4]) :: (p4, .tup [.int 2, .int 3]) :: (p3, .tup [.int 2, .int 1]) :: (p2, .tup [.int 1, .int 2]) :: (p1, .tup [.int 1, .int 1]) :: R) H) :
    ∃ (B2 : Hp) (us : List V), Same B B2 ∧ Hs B2 R H ∧ B2 el = some (.lst us) ∧ Row (EnAt B2) us E4 := by
  obtain ⟨B1, s1, e1, h1⟩ := frz_hs hs
  obtain ⟨B2, s2, e2, h2⟩ := frz_hs h1
  obtain ⟨B3, s3, e3, h3⟩ := frz_hs h2
  obtain ⟨B4, s4, e4, h4⟩ := frz_hs h3
  obtain ⟨B5, s5, e5, h5⟩ := frz_hs h4
  refine ⟨B5, _, s1.trans (s2.trans (s3.trans (s4.trans s5))), h5, s5 _ _ (s4 _ _ (s3 _ _ (s2 _ _ e1))), .cons ⟨_, rfl, e5⟩ (.cons ⟨_, rfl, s5 _ _ e4⟩ (.cons ⟨_, rfl, s5 _ _ (s4 _ _ e3)⟩ (.cons ⟨_, rfl, s5 _ _ (s4 _ _ (s3 _ _ e2))⟩ Row.nil)))⟩
theorem ground_ends1 {B H : Hp} {R : List (Addr × HO)} {x : Addr × HO} {el p1 p2 p3 p4 : Addr} (hs : Hs B (x :: (el, .lst [.ref p1, .ref p2, .ref p3, .ref p4]) :: (p4, .tup [.int 2, .int 3]) :: (p3, .tup [.int 2, .int 1]) :: (p2, .tup [.int 1, .int 2]) :: (p1, .tup [.int 1, .int 1]) :: R) H) :
    ∃ (B2 : Hp) (us : List V), Same B B2 ∧ Hs B2 (x :: R) H ∧ B2 el = some (.lst us) ∧ Row (EnAt B2) us E4 := by
  obtain ⟨B1, s1, e1, h1⟩ := frz_hs hs.m1
  obtain ⟨B2, s2, e2, h2⟩ := frz_hs h1.m1
  obtain ⟨B3, s3, e3, h3⟩ := frz_hs h2.m1
  obtain ⟨B4, s4, e4, h4⟩ := frz_hs h3.m1
  obtain ⟨B5, s5, e5, h5⟩ := frz_hs h4.m1
  refine ⟨B5, _, s1.trans (s2.trans (s3.trans (s4.trans s5))), h5, s5 _ _ (s4 _ _ (s3 _ _ (s2 _ _ e1))), .cons ⟨_, rfl, e5⟩ (.cons ⟨_, rfl, s5 _ _ e4⟩ (.cons ⟨_, rfl, s5 _ _ (s4 _ _ e3)⟩ (.cons ⟨_, rfl, s5 _ _ (s4 _ _ (s3 _ _ e2))⟩ Row.nil)))⟩
theorem any_en (y : Wy) (e : En) : (y.map dEn).any (fun z => PyData.eqv z (dEn e)) = decide (e ∈ y) := by
  have eq : ∀ z : En, PyData.eqv (dEn z) (dEn e) = decide (z = e) := fun z => eqv_end
  rw [List.any_map, Bool.eq_iff_iff, List.any_eq_true, decide_eq_true_iff]
  constructor
  · rintro ⟨z, hz, h⟩
    have h : PyData.eqv (dEn z) (dEn e) = true := h
    rw [eq] at h
    exact of_decide_eq_true h ▸ hz
  · intro h
    exact ⟨e, h, (eq e).trans (decide_eq_true rfl)⟩
theorem e4_at {i : Nat} {e : En} (h : E4[i]? = some e) : e ∈ E4 := List.mem_of_getElem? h
def sp__law_way : Sp := fun vs H Q _ => ∃ (B : Hp) (R : List (Addr × HO)) (s c : Addr) (m : Int) (cells : List Int), vs = [.ref s] ∧ Hs B ((s, sto c m) :: (c, clo cells) :: R) H ∧ Good m cells ∧
  ∀ r y m' cells' B2 H', Same B B2 → Hs B2 ((s, sto c m') :: (c, clo cells') :: R) H' → Good m' cells' → WyAt B2 r y → WyOk y → Q r H'
theorem ok__law_way (T : Txt w K mg a) : FnOk P w K mg base CX0 2 a._law_way a.fd__law_way ["state"] sp__law_way := by
  have G__law_draw := ok__law_draw (P := P) (w := w) (base := base) T
  refine T.fn__law_way.ok sc__law_way (fun vs H Q E h => ?_) (fun cdv A outer s H vs Q E hr h => ?_)
  · obtain ⟨_, _, _, _, _, _, rfl, _⟩ := h
    rfl
  · obtain ⟨B0, R, st, c, m, cells, rfl, hs, g, k⟩ := h
    refine ⟨_, (pss_cons (ps_set (i := 1) sc__law_way.nd rfl (Or.inl rfl) (pe_lst (pa_cons (pe_tup (pa_cons pe_int (pa_cons pe_int pa_nil))) (pa_cons (pe_tup (pa_cons pe_int (pa_cons pe_int pa_nil))) (pa_cons (pe_tup (pa_cons pe_int (pa_cons pe_int pa_nil))) (pa_cons (pe_tup (pa_cons pe_int (pa_cons pe_int pa_nil))) pa_nil))))))
  (pss_cons (ps_set (i := 2) sc__law_way.nd rfl (Or.inl rfl) (pe_lst pa_nil))
  (pss_cons (ps_for PassesOwn.never rfl (pi_range1 rfl T.mg_range (pa_cons (pe_op op_add pe_int (pe_call G__law_draw (hr.mono (by first | decide | omega)) rfl T.mg__law_draw T.kp__law_draw T.bi__law_draw .nil pass0 (pa_cons (pv 0) (pa_cons pe_int pa_nil)))) pa_nil)) (pg_name (i := 3) sc__law_way.nd rfl (Or.inl rfl))
  (pss_cons (ps_set (i := 4) sc__law_way.nd rfl (Or.inl rfl) (pe_ix (ix_listK (K := K)) (pv 1) (pe_call G__law_draw (hr.mono (by first | decide | omega)) rfl T.mg__law_draw T.kp__law_draw T.bi__law_draw .nil pass0 (pa_cons (pv 0) (pa_cons pe_int pa_nil))) (fun _ _ => rfl)))
  (pss_one (ps_if (pt_cmpR (op_niDL (K := K) (r65 hr)) (pv 4) (pv 2) (by rfl))
  (pss_one (ps_expr (pe_bmK (K := K) PySem.F.plainAttrs_list PySem.F.slot_list_append PySem.F.type_list_append mt_append (pv 2) (pa_cons (pv 4) pa_nil))))
  pss_nil))))
  (pss_one (ps_ret (pv 2)))))), ?_⟩
    walk_at "ss"
    rename_i el H0 hs0 wy H1 hs1
    clear hs0
    obtain ⟨B1, eus, s1, hs2, hel, hrow⟩ := ground_ends1 hs1
    clear hs hs1
    refine w_for1 ?_
    walk_at "ss"
    have hs2 : Hs B1 ((st, sto c m) :: (c, clo cells) :: (wy, .lst []) :: R) H1 := hs2.m2.m2
    refine w_draw hs2 g (by decide) fun r m2 c2 H2 hs3 g2 _ hr => ?_
    obtain ⟨r0, r1⟩ := hr (by decide)
    clear hs2 g
    walk_at "ss"
    refine w_forR (n := 1 + r) (by omega) (fun i σ H' => ∃ (m' : Int) (c' : List Int) (acc : List V) (y : Wy) (v3 v4 : Option V), σ = [some (.ref st), some (.ref el), some (.ref wy), v3, v4] ∧ Hs B1 ((st, sto c m') :: (c, clo c') :: (wy, .lst acc) :: R) H' ∧ Good m' c' ∧ Row (EnAt B1) acc y ∧ WyOk y ∧ acc.length ≤ i) (fun Q' q => q) (by omega) ⟨m2, c2, [], [], none, none, rfl, hs3, g2, Row.nil, ⟨(fun _ z => nomatch z), .nil⟩, Nat.le_refl _⟩ ?_ ?_
    · clear hs3 g2
      rintro i σ H' hi ⟨m', c', acc, y, v3, v4, rfl, hs, g, hacc, hy, hal⟩
      walk_at "ss"
      refine w_draw hs g (by decide) fun x m3 c3 H3 hs2 g3 _ hx => ?_
      obtain ⟨x0, x1⟩ := hx (by decide)
      clear hs g
      obtain ⟨n, rfl⟩ : ∃ n : Nat, x = (n : Int) := ⟨x.toNat, by omega⟩
      have hn : n < 4 := by omega
      obtain ⟨e, he⟩ : ∃ e, E4[n]? = some e := ⟨_, List.getElem?_eq_getElem (show n < E4.length from hn)⟩
      have he4 := e4_at he
      obtain ⟨u, hu⟩ : ∃ u, eus[n]? = some u := ⟨_, List.getElem?_eq_getElem (by rw [hrow.1]; exact hn)⟩
      have hue := hrow.2 n u e hu he
      obtain ⟨pu, rfl, hpu⟩ := id hue
      refine w_ixL (SqL.of (hs2.old hel)) (at_of rfl hu) ?_
      walk_at "ss"
      refine ⟨_, _, en_dp (hue.same hs2.same), .lst (SqL.of hs2.g2) ((hacc.mono fun _ _ => EnAt.same hs2.same).dpAll (d := dEn) fun _ _ h => en_dp h), shp_of (lay_en e) (by decide), shp_of (n := 2) (lay_list fun d hd => ?_) (by decide), ?_⟩
      · obtain ⟨z, _, rfl⟩ := List.mem_map.mp hd
        exact lay_en z
      have hany : (y.map dEn).any (fun z => PyData.eqv z (dEn e)) = decide (e ∈ y) := any_en y e
      rw [hany]
      by_cases c0 : e ∈ y
      · rw [decide_eq_true c0]
        refine ⟨_, rfl, ?_⟩
        refine iteF ?_
        walk_at "ss"
        exact ⟨m3, c3, acc, y, _, _, rfl, hs2, g3, hacc, hy, by omega⟩
      · rw [decide_eq_false c0]
        refine ⟨_, rfl, ?_⟩
        refine iteT ?_
        walk_at "ss"
        rename_i H5 hs5
        refine ⟨m3, c3, _, y ++ [e], _, _, rfl, hs5, g3, hacc.snoc hue, ⟨fun z hz => ?_, ?_⟩, by rw [List.length_append]; exact Nat.succ_le_succ hal⟩
        · rcases List.mem_append.mp hz with hz | hz
          · exact hy.1 z hz
          · rw [List.mem_singleton.mp hz]
            exact he4
        · rw [List.nodup_append]
          exact ⟨hy.2, by simp, fun a ha b hb q => c0 (by rw [List.mem_singleton] at hb; rw [← hb, ← q]; exact ha)⟩
    · clear hs3 g2
      rintro σ H' ⟨m', c', acc, y, v3, v4, rfl, hs, g, hacc, hy, hal⟩
      walk_at "ss"
      obtain ⟨B2, s2, hw, hs2⟩ := frz_hs hs.m2
      exact k _ y m' c' B2 _ (s1.trans s2) hs2 g ⟨wy, acc, rfl, hw, hacc.mono fun _ _ => EnAt.same s2⟩ hy
end
local macro_rules | `(tactic| walk_at "v") => `(tactic| first | exact v0 | exact v1 | exact v2 | exact v3 | exact v4 | exact v5 | exact v6 | exact v7 | exact v8)
local macro_rules | `(tactic| walk_at "vs") => `(tactic| first | exact st0 | exact st1 | exact st2 | exact st3 | exact st4 | exact st5 | exact st6 | exact st7 | exact st8)
local macro_rules | `(tactic| walk_at "s") => `(tactic| first
  | with_reducible refine w_dget ?_
  | ((with_reducible refine' w_dgetZ ?h ?nd ?hk ?hv ?_); (case h => walk_at "g"); (case nd => walk_at "nd"); (case hk => walk_at "k"); (case hv => walk_at "v"))
  | ((with_reducible refine' w_dputZ ?hs ?h ?nd ?hk ?hv ?hu ?hl ?_); (case hs => assumption); (case h => walk_at "p"); (case nd => walk_at "nd"); (case hk => walk_at "k"); (case hv => walk_at "v"); (case hu => walk_at "vs"); (case hl => decide); intro _ _)
  | with_reducible refine w_gsub ?_
  | with_reducible refine w_setD ?_
  | with_reducible refine w_disp ?_
  | ((with_reducible refine' w_newP ?hs ?_); (case hs => assumption); intro _ _ _)
  | with_reducible refine w_pcons ?_
  | with_reducible refine w_pnil ?_)

local macro_rules | `(tactic| walk_at "s") => `(tactic| first
  | with_reducible refine w_nget ?_
  | with_reducible refine w_nin ?_
  | with_reducible refine w_nnot ?_
  | with_reducible refine w_nput ?_
  | with_reducible refine w_ndel ?_
  | with_reducible refine w_npop ?_
  | ((with_reducible refine' w_nnew ?hs ?_); (case hs => assumption); intro _ _ _))

local macro_rules | `(tactic| walk_at "s") => `(tactic| first
  | with_reducible refine w_ninF ?_
  | with_reducible refine w_nsetd ?_
  | with_reducible refine w_ckw ?_)

local macro_rules | `(tactic| walk_at "s") => `(tactic| first
  | with_reducible refine w_ngetF ?_
  | with_reducible refine w_nnotF ?_
  | with_reducible refine w_naug ?_)

local macro_rules | `(tactic| walk_at "s") => `(tactic| first
  | with_reducible refine w_m0 ?_
  | with_reducible refine w_m1 ?_
  | with_reducible refine w_m0b ?_
  | with_reducible refine w_m1b ?_
  | with_reducible refine w_kget ?_
  | with_reducible refine w_nS ?_)

local macro_rules | `(tactic| walk_at "s") => `(tactic| first
  | with_reducible refine w_ng2 ?_
  | with_reducible refine w_ng1 ?_
  | ((with_reducible refine' w_isND ?h ?_); (case h => walk_at "g"))
  | with_reducible refine w_listZip ?_)

section
variable {P : Program} [IsP P] {w : World} {K : PySem.W.Frag} {mg : Str → Option Value} {base : Heap} {a : Ad}
def LfOk (f : Fl) : Prop := f.length ≤ 4 ∧ ∀ x ∈ f, WyOk x.1 ∧ 0 < x.2 ∧ x.2 ≤ 4
theorem LfOk.fl {f : Fl} (h : LfOk f) : FlOk f := ⟨Nat.le_trans h.1 (by decide), fun x hx => ⟨(h.2 x hx).1, (h.2 x hx).2.1⟩⟩
def sp__law_flow : Sp := fun vs H Q _ => ∃ (B : Hp) (R : List (Addr × HO)) (s c : Addr) (m am : Int) (cells : List Int) (v : V) (ws : List Wy), vs = [.ref s, .int am, v] ∧ Hs B ((s, sto c m) :: (c, clo cells) :: R) H ∧ Good m cells ∧ 1 ≤ am ∧ am ≤ 4 ∧ WsAt B v ws ∧ ws.length = 2 ∧ (∀ y ∈ ws, WyOk y) ∧
  ∀ r f m' cells' B2 H', Same B B2 → Hs B2 ((s, sto c m') :: (c, clo cells') :: R) H' → Good m' cells' → FlAt B2 r f → LfOk f → Q r H'
theorem ok__law_flow (T : Txt w K mg a) : FnOk P w K mg base CX0 2 a._law_flow a.fd__law_flow ["state", "amount", "ways"] sp__law_flow := by
  have G__law_draw := ok__law_draw (P := P) (w := w) (base := base) T
  refine T.fn__law_flow.ok sc__law_flow (fun vs H Q E h => ?_) (fun cdv A outer s H vs Q E hr h => ?_)
  · obtain ⟨_, _, _, _, _, _, _, _, _, rfl, _⟩ := h
    rfl
  · obtain ⟨B0, R, st, c, m, am, cells, _, ws, rfl, hs, g, ha1, ha4, ⟨wl, us, rfl, hwl, hrow⟩, hw2, hwo, k⟩ := h
    refine ⟨_, (pss_cons (ps_set (i := 3) sc__law_flow.nd rfl (Or.inl rfl) (pe_lst pa_nil))
  (pss_cons (ps_set (i := 4) sc__law_flow.nd rfl (Or.inl rfl) (pv 1))
  (pss_cons (ps_for PassesOwn.never rfl (pi_range1 rfl T.mg_range (pa_cons pe_int pa_nil)) (pg_name (i := 5) sc__law_flow.nd rfl (Or.inl rfl))
  (pss_cons (ps_set (i := 6) sc__law_flow.nd rfl (Or.inl rfl) (pe_op op_add pe_int (pe_call G__law_draw (hr.mono (by first | decide | omega)) rfl T.mg__law_draw T.kp__law_draw T.bi__law_draw .nil pass0 (pa_cons (pv 0) (pa_cons pe_int pa_nil)))))
  (pss_one (ps_if (pt_cmpR op_gt (pv 4) pe_int (nomark _))
  (pss_cons (ps_expr (pe_bmK (K := K) PySem.F.plainAttrs_list PySem.F.slot_list_append PySem.F.type_list_append mt_append (pv 3) (pa_cons (pe_tup (pa_cons (pe_ix (ix_listK (K := K)) (pv 2) (pe_call G__law_draw (hr.mono (by first | decide | omega)) rfl T.mg__law_draw T.kp__law_draw T.bi__law_draw .nil pass0 (pa_cons (pv 0) (pa_cons (pe_callB (call_lenK (K := K)) (by rfl) T.mg_len PySem.boot_len (pa_cons (pv 2) pa_nil)) pa_nil))) (fun _ _ => rfl)) (pa_cons (pe_callB (call_minQ rfl) (by rfl) T.mg_min (by decide +kernel) (pa_cons (pv 6) (pa_cons (pv 4) pa_nil))) pa_nil))) pa_nil)))
  (pss_one (ps_set (i := 4) sc__law_flow.nd rfl (Or.inl rfl) (pe_op op_sub (pv 4) (pe_callB (call_minQ rfl) (by rfl) T.mg_min (by decide +kernel) (pa_cons (pv 6) (pa_cons (pv 4) pa_nil)))))))
  pss_nil))))
  (C8.pss_cut (ps_if (pt_cmpR op_gt (pv 4) pe_int (nomark _))
  (pss_one (ps_expr (pe_bmK (K := K) PySem.F.plainAttrs_list PySem.F.slot_list_append PySem.F.type_list_append mt_append (pv 3) (pa_cons (pe_tup (pa_cons (pe_ix (ix_listK (K := K)) (pv 2) pe_int (fun _ _ => rfl)) (pa_cons (pv 4) pa_nil))) pa_nil))))
  pss_nil)
  (pss_one (ps_ret (pv 3))))))), ?_⟩
    walk_at "ss"
    rename_i fd H1 hs1
    have hs2 : Hs B0 ((st, sto c m) :: (c, clo cells) :: (fd, .lst []) :: R) H1 := hs1.m2.m2
    clear hs hs1
    refine w_forR (n := 3) (by decide) (fun i σ H' => ∃ (B : Hp) (m' : Int) (c' : List Int) (acc : List V) (f : Fl) (left : Int) (v5 v6 : Option V), σ = [some (.ref st), some (.int am), some (.ref wl), some (.ref fd), some (.int left), v5, v6] ∧ Same B0 B ∧ Hs B ((st, sto c m') :: (c, clo c') :: (fd, .lst acc) :: R) H' ∧ Good m' c' ∧ Row (PrAt B) acc f ∧ (∀ x ∈ f, WyOk x.1 ∧ 0 < x.2 ∧ x.2 ≤ 4) ∧ f.length ≤ i ∧ 0 ≤ left ∧ left ≤ 4) (fun Q' q => q) (by decide) ⟨B0, m, cells, [], [], am, none, none, rfl, Same.refl _, hs2, g, Row.nil, (fun _ z => nomatch z), Nat.le_refl _, by omega, ha4⟩ ?_ ?_
    · clear hs2 g
      rintro i σ H' hi ⟨B, m', c', acc, f, left, v5, v6, rfl, sm, hs, g, hacc, hf, hfl, hl0, hl4⟩
      have hwlB := sm _ _ hwl
      have hal : acc.length ≤ 3 := by
        have := hacc.1
        omega
      walk_at "ss"
      refine w_draw hs g (by decide) fun x m3 c3 H3 hs2 g3 _ hx => ?_
      obtain ⟨x0, x1⟩ := hx (by decide)
      clear hs g
      walk_at "ss"
      refine ifd (fun hl => ?_) (fun hl => ?_)
      · have hl : 0 < left := hl
        have hul : us.length = 2 := hrow.1.trans hw2
        walk_at "ss"
        rw [hul]
        refine w_draw hs2 g3 (by decide) fun z m4 c4 H4 hs3 g4 _ hz => ?_
        obtain ⟨z0, z1⟩ := hz (by decide)
        clear hs2 g3
        obtain ⟨n, rfl⟩ : ∃ n : Nat, z = (n : Int) := ⟨z.toNat, by omega⟩
        have hn : n < 2 := Int.ofNat_lt.mp z1
        obtain ⟨y, hy⟩ : ∃ y, ws[n]? = some y := ⟨_, List.getElem?_eq_getElem (by rw [hw2]; exact hn)⟩
        obtain ⟨u, hu⟩ : ∃ u, us[n]? = some u := ⟨_, List.getElem?_eq_getElem (by rw [hul]; exact hn)⟩
        have hyu := (hrow.2 n u y hu hy).same sm
        have hyo := hwo y (List.mem_of_getElem? hy)
        refine w_ixL (SqL.of (hs3.old hwlB)) (at_of rfl hu) ?_
        walk_at "ss"
        rename_i tp H5 hs4 H6 hs5
        obtain ⟨B2, s2, htp, hs6⟩ := frz_hs hs5
        refine ⟨B2, m4, c4, _, f ++ [(y, if left < 1 + x then left else 1 + x)], _, _, _, rfl, sm.trans s2, hs6, g4, (hacc.mono fun _ _ => PrAt.same s2).snoc ⟨tp, u, rfl, htp, hyu.same s2⟩, fun q hq => ?_, by rw [List.length_append]; exact Nat.succ_le_succ hfl, ?_, ?_⟩
        · rcases List.mem_append.mp hq with hq | hq
          · exact hf q hq
          · rw [List.mem_singleton.mp hq]
            refine ⟨hyo, ?_, ?_⟩
            · show 0 < if left < 1 + x then left else 1 + x
              split <;> omega
            · show (if left < 1 + x then left else 1 + x) ≤ 4
              split <;> omega
        · split <;> omega
        · split <;> omega
      · exact ⟨B, m3, c3, acc, f, left, _, _, rfl, sm, hs2, g3, hacc, hf, by omega, hl0, hl4⟩
    · clear hs2 g
      rintro σ H' ⟨B, m', c', acc, f, left, v5, v6, rfl, sm, hs, g, hacc, hf, hfl, hl0, hl4⟩
      have hal : acc.length ≤ 3 := by
        have := hacc.1
        have : (3 : Int).toNat = 3 := rfl
        omega
      have hwlB := sm _ _ hwl
      obtain ⟨y, hy⟩ : ∃ y, ws[0]? = some y := ⟨_, List.getElem?_eq_getElem (by rw [hw2]; decide)⟩
      obtain ⟨u, hu⟩ : ∃ u, us[0]? = some u := ⟨_, List.getElem?_eq_getElem (by rw [hrow.1, hw2]; decide)⟩
      have hyu := (hrow.2 0 u y hu hy).same sm
      have hyo := hwo y (List.mem_of_getElem? hy)
      refine w_cut (fun σ' H' => ∃ (B : Hp) (acc : List V) (f : Fl) (left : Int) (v5 v6 : Option V), σ' = [some (.ref st), some (.int am), some (.ref wl), some (.ref fd), some (.int left), v5, v6] ∧ Same B0 B ∧ Hs B ((st, sto c m') :: (c, clo c') :: (fd, .lst acc) :: R) H' ∧ Row (PrAt B) acc f ∧ LfOk f) ?_ ?_
      · walk_at "ss"
        refine ifd (fun hl => ?_) (fun hl => ?_)
        · have hl : 0 < left := hl
          walk_at "ss"
          refine w_ixL (SqL.of (hs.old hwlB)) (at_of (j := 0) rfl hu) ?_
          walk_at "ss"
          rename_i tp H5 hs4 H6 hs5
          obtain ⟨B2, s2, htp, hs6⟩ := frz_hs hs5
          refine ⟨B2, _, f ++ [(y, left)], _, _, _, rfl, sm.trans s2, hs6, (hacc.mono fun _ _ => PrAt.same s2).snoc ⟨tp, u, rfl, htp, hyu.same s2⟩, by rw [List.length_append]; exact Nat.succ_le_succ hfl, fun q hq => ?_⟩
          rcases List.mem_append.mp hq with hq | hq
          · exact hf q hq
          · rw [List.mem_singleton.mp hq]
            exact ⟨hyo, hl, hl4⟩
        · exact ⟨B, acc, f, left, _, _, rfl, sm, hs, hacc, Nat.le_trans hfl (by decide), hf⟩
      · rintro σ' H2 ⟨B2, acc2, f2, left2, v5, v6, rfl, sm2, hs2, hacc2, hf2⟩
        walk_at "ss"
        obtain ⟨B3, s3, hfd, hs3⟩ := frz_hs hs2.m2
        exact k _ f2 m' c' B3 _ (sm2.trans s3) hs3 g ⟨fd, acc2, rfl, hfd, hacc2.mono fun _ _ => PrAt.same s3⟩ hf2
end
local macro_rules | `(tactic| walk_at "v") => `(tactic| first | exact v0 | exact v1 | exact v2 | exact v3 | exact v4 | exact v5 | exact v6 | exact v7 | exact v8)
local macro_rules | `(tactic| walk_at "vs") => `(tactic| first | exact st0 | exact st1 | exact st2 | exact st3 | exact st4 | exact st5 | exact st6 | exact st7 | exact st8)
local macro_rules | `(tactic| walk_at "s") => `(tactic| first
  | with_reducible refine w_dget ?_
  | ((with_reducible refine' w_dgetZ ?h ?nd ?hk ?hv ?_); (case h => walk_at "g"); (case nd => walk_at "nd"); (case hk => walk_at "k"); (case hv => walk_at "v"))
  | ((with_reducible refine' w_dputZ ?hs ?h ?nd ?hk ?hv ?hu ?hl ?_); (case hs => assumption); (case h => walk_at "p"); (case nd => walk_at "nd"); (case hk => walk_at "k"); (case hv => walk_at "v"); (case hu => walk_at "vs"); (case hl => decide); intro _ _)
  | with_reducible refine w_gsub ?_
  | with_reducible refine w_setD ?_
  | with_reducible refine w_disp ?_
  | ((with_reducible refine' w_newP ?hs ?_); (case hs => assumption); intro _ _ _)
  | with_reducible refine w_pcons ?_
  | with_reducible refine w_pnil ?_)

local macro_rules | `(tactic| walk_at "s") => `(tactic| first
  | with_reducible refine w_nget ?_
  | with_reducible refine w_nin ?_
  | with_reducible refine w_nnot ?_
  | with_reducible refine w_nput ?_
  | with_reducible refine w_ndel ?_
  | with_reducible refine w_npop ?_
  | ((with_reducible refine' w_nnew ?hs ?_); (case hs => assumption); intro _ _ _))

local macro_rules | `(tactic| walk_at "s") => `(tactic| first
  | with_reducible refine w_ninF ?_
  | with_reducible refine w_nsetd ?_
  | with_reducible refine w_ckw ?_)

local macro_rules | `(tactic| walk_at "s") => `(tactic| first
  | with_reducible refine w_ngetF ?_
  | with_reducible refine w_nnotF ?_
  | with_reducible refine w_naug ?_)

local macro_rules | `(tactic| walk_at "s") => `(tactic| first
  | with_reducible refine w_m0 ?_
  | with_reducible refine w_m1 ?_
  | with_reducible refine w_m0b ?_
  | with_reducible refine w_m1b ?_
  | with_reducible refine w_kget ?_
  | with_reducible refine w_nS ?_)

local macro_rules | `(tactic| walk_at "s") => `(tactic| first
  | with_reducible refine w_ng2 ?_
  | with_reducible refine w_ng1 ?_
  | ((with_reducible refine' w_isND ?h ?_); (case h => walk_at "g"))
  | with_reducible refine w_listZip ?_)

section
variable {P : Program} [IsP P] {w : World} {K : PySem.W.Frag} {mg : Str → Option Value} {base : Heap} {a : Ad}
def LsOk (fs : List Fl) (n : Nat) : Prop := fs.length ≤ n ∧ ∀ f ∈ fs, LfOk f
theorem LsOk.fs {fs : List Fl} {n : Nat} (h : LsOk fs n) (hn : n ≤ 100) : FsOk fs := ⟨Nat.le_trans h.1 hn, fun f hf => (h.2 f hf).fl⟩
def sp__law_flows : Sp := fun vs H Q _ => ∃ (B : Hp) (R : List (Addr × HO)) (s c : Addr) (m : Int) (cells : List Int), vs = [.ref s] ∧ Hs B ((s, sto c m) :: (c, clo cells) :: R) H ∧ Good m cells ∧
  ∀ t p q us vs fs gs m' cells' B2 H', Same B B2 → Hs B2 ((s, sto c m') :: (c, clo cells') :: R) H' → Good m' cells' → B2 t = some (.tup [.ref p, .ref q]) → B2 p = some (.lst us) → Row (FlAt B2) us fs → B2 q = some (.lst vs) → Row (FlAt B2) vs gs → LsOk fs 2 → LsOk gs 2 → fs.length = gs.length → 1 ≤ fs.length → Q (.ref t) H'
theorem ok__law_flows (T : Txt w K mg a) : FnOk P w K mg base CX0 3 a._law_flows a.fd__law_flows ["state"] sp__law_flows := by
  have G__law_draw := ok__law_draw (P := P) (w := w) (base := base) T
  have G__law_way := ok__law_way (P := P) (base := base) T
  have G__law_flow := ok__law_flow (P := P) (base := base) T
  refine T.fn__law_flows.ok sc__law_flows (fun vs H Q E h => ?_) (fun cdv A outer s H vs Q E hr h => ?_)
  · obtain ⟨_, _, _, _, _, _, rfl, _⟩ := h
    rfl
  · obtain ⟨B0, R, st, c, m, cells, rfl, hs, g, k⟩ := h
    refine ⟨_, (pss_cons (ps_set (i := 1) sc__law_flows.nd rfl (Or.inl rfl) (pe_lst pa_nil))
  (pss_cons (ps_set (i := 2) sc__law_flows.nd rfl (Or.inl rfl) (pe_lst pa_nil))
  (pss_cons (ps_for PassesOwn.never rfl (pi_range1 rfl T.mg_range (pa_cons (pe_op op_add pe_int (pe_call G__law_draw (hr.mono (by first | decide | omega)) rfl T.mg__law_draw T.kp__law_draw T.bi__law_draw .nil pass0 (pa_cons (pv 0) (pa_cons pe_int pa_nil)))) pa_nil)) (pg_name (i := 3) sc__law_flows.nd rfl (Or.inl rfl))
  (pss_cons (ps_set (i := 4) sc__law_flows.nd rfl (Or.inl rfl) (pe_lst (pa_cons (pe_call G__law_way (hr.mono (by first | decide | omega)) rfl T.mg__law_way T.kp__law_way T.bi__law_way .nil pass0 (pa_cons (pv 0) pa_nil)) (pa_cons (pe_call G__law_way (hr.mono (by first | decide | omega)) rfl T.mg__law_way T.kp__law_way T.bi__law_way .nil pass0 (pa_cons (pv 0) pa_nil)) pa_nil))))
  (pss_cons (ps_set (i := 5) sc__law_flows.nd rfl (Or.inl rfl) (pe_op op_add pe_int (pe_call G__law_draw (hr.mono (by first | decide | omega)) rfl T.mg__law_draw T.kp__law_draw T.bi__law_draw .nil pass0 (pa_cons (pv 0) (pa_cons pe_int pa_nil)))))
  (pss_cons (ps_expr (pe_bmK (K := K) PySem.F.plainAttrs_list PySem.F.slot_list_append PySem.F.type_list_append mt_append (pv 1) (pa_cons (pe_call G__law_flow (hr.mono (by first | decide | omega)) rfl T.mg__law_flow T.kp__law_flow T.bi__law_flow .nil pass0 (pa_cons (pv 0) (pa_cons (pv 5) (pa_cons (pv 4) pa_nil)))) pa_nil)))
  (pss_one (ps_expr (pe_bmK (K := K) PySem.F.plainAttrs_list PySem.F.slot_list_append PySem.F.type_list_append mt_append (pv 2) (pa_cons (pe_call G__law_flow (hr.mono (by first | decide | omega)) rfl T.mg__law_flow T.kp__law_flow T.bi__law_flow .nil pass0 (pa_cons (pv 0) (pa_cons (pv 5) (pa_cons (pv 4) pa_nil)))) pa_nil))))))))
  (pss_one (ps_ret (pe_tup (pa_cons (pv 1) (pa_cons (pv 2) pa_nil)))))))), ?_⟩
    walk_at "ss"
    rename_i fd H0 hs0 od H1 hs1
    have hs2 : Hs B0 ((st, sto c m) :: (c, clo cells) :: (od, .lst []) :: (fd, .lst []) :: R) H1 := hs1.m3.m3
    clear hs hs0 hs1
    refine w_for1 ?_
    walk_at "ss"
    refine w_draw hs2 g (by decide) fun r m2 c2 H2 hs3 g2 _ hr => ?_
    obtain ⟨r0, r1⟩ := hr (by decide)
    clear hs2 g
    walk_at "ss"
    refine w_forR (n := 1 + r) (by omega) (fun i σ H' => ∃ (B : Hp) (m' : Int) (c' : List Int) (us vs : List V) (fs gs : List Fl) (v3 v4 v5 : Option V), σ = [some (.ref st), some (.ref fd), some (.ref od), v3, v4, v5] ∧ Same B0 B ∧ Hs B ((st, sto c m') :: (c, clo c') :: (od, .lst vs) :: (fd, .lst us) :: R) H' ∧ Good m' c' ∧ Row (FlAt B) us fs ∧ Row (FlAt B) vs gs ∧ fs.length = i ∧ gs.length = i ∧ (∀ f ∈ fs, LfOk f) ∧ ∀ f ∈ gs, LfOk f) (fun Q' q => q) (by omega) ⟨B0, m2, c2, [], [], [], [], none, none, none, rfl, Same.refl _, hs3, g2, Row.nil, Row.nil, rfl, rfl, (fun _ z => nomatch z), fun _ z => nomatch z⟩ ?_ ?_
    · clear hs3 g2
      rintro i σ H' hi ⟨B, m', c', us, vs, fs, gs, v3, v4, v5, rfl, sm, hs, g, hu, hv, hfl, hgl, hfo, hgo⟩
      have hul : us.length ≤ 3 := by
        have := hu.1
        omega
      have hvl : vs.length ≤ 3 := by
        have := hv.1
        omega
      walk_at "ss"
      refine ⟨B, _, st, c, m', c', rfl, hs, g, fun y1 z1 m3 c3 B1 H3 s1 hs1 g1 hy1 ho1 => ?_⟩
      clear hs g
      walk_at "ss"
      refine ⟨B1, _, st, c, m3, c3, rfl, hs1, g1, fun y2 z2 m4 c4 B2 H4 s2 hs2 g2 hy2 ho2 => ?_⟩
      clear hs1 g1
      walk_at "ss"
      rename_i wl H5 hs3
      clear hs2
      obtain ⟨B3, s3, hwl, hs4⟩ := frz_hs hs3
      have hws : WsAt B3 (.ref wl) [z1, z2] := ⟨wl, _, rfl, hwl, .cons (hy1.same (s2.trans s3)) (.cons (hy2.same s3) Row.nil)⟩
      have hwo : ∀ y ∈ [z1, z2], WyOk y := fun y hy => by
        rcases List.mem_cons.mp hy with rfl | hy
        · exact ho1
        · rw [List.mem_singleton.mp hy]
          exact ho2
      refine w_draw hs4 g2 (by decide) fun x m5 c5 H6 hs5 g3 _ hx => ?_
      obtain ⟨x0, x1⟩ := hx (by decide)
      clear hs3 hs4 g2
      walk_at "ss"
      refine ⟨B3, _, st, c, m5, 1 + x, c5, _, _, rfl, hs5, g3, by omega, by omega, hws, rfl, hwo, fun r1 f1 m6 c6 B4 H7 s4 hs6 g4 hr1 hf1 => ?_⟩
      clear hs5 g3
      walk_at "ss"
      rename_i H8 hs7
      clear hs6
      refine ⟨B4, _, st, c, m6, 1 + x, c6, _, _, rfl, hs7, g4, by omega, by omega, hws.same s4, rfl, hwo, fun r2 f2 m7 c7 B5 H9 s5 hs8 g5 hr2 hf2 => ?_⟩
      clear hs7 g4
      walk_at "ss"
      rename_i H10 hs9
      have sA := s1.trans (s2.trans (s3.trans (s4.trans s5)))
      refine ⟨B5, m7, c7, _, _, fs ++ [f1], gs ++ [f2], _, _, _, rfl, sm.trans sA, hs9, g5, (hu.mono fun _ _ => FlAt.same sA).snoc (hr1.same s5), (hv.mono fun _ _ => FlAt.same sA).snoc hr2, by rw [List.length_append, hfl]; rfl, by rw [List.length_append, hgl]; rfl, fun f hf => ?_, fun f hf => ?_⟩
      · rcases List.mem_append.mp hf with hf | hf
        · exact hfo f hf
        · rw [List.mem_singleton.mp hf]
          exact hf1
      · rcases List.mem_append.mp hf with hf | hf
        · exact hgo f hf
        · rw [List.mem_singleton.mp hf]
          exact hf2
    · clear hs3 g2
      rintro σ H' ⟨B, m', c', us, vs, fs, gs, v3, v4, v5, rfl, sm, hs, g, hu, hv, hfl, hgl, hfo, hgo⟩
      walk_at "ss"
      rename_i t H5 hs5
      obtain ⟨B1, s1, h1, hs6⟩ := frz_hs hs5
      obtain ⟨B2, s2, h2, hs7⟩ := frz_hs hs6.m3
      obtain ⟨B3, s3, h3, hs8⟩ := frz_hs hs7.m2
      have e1 : (1 + r).toNat = 1 ∨ (1 + r).toNat = 2 := by omega
      exact k t fd od us vs fs gs m' c' B3 _ (sm.trans (s1.trans (s2.trans s3))) hs8 g (s3 _ _ (s2 _ _ h1)) (s3 _ _ h2) (hu.mono fun _ _ => FlAt.same (s1.trans (s2.trans s3))) h3 (hv.mono fun _ _ => FlAt.same (s1.trans (s2.trans s3))) ⟨by omega, hfo⟩ ⟨by omega, hgo⟩ (by omega) (by omega)
def sp__law_rooms (w : World) : Sp := fun vs H Q _ => ∃ (B : Hp) (R : List (Addr × HO)) (s c : Addr) (m : Int) (cells : List Int), vs = [.ref s] ∧ Hs B ((s, sto c m) :: (c, clo cells) :: R) H ∧ Good m cells ∧
  ∀ r M m' cells' B2 H', Same B B2 → Hs B2 ((s, sto c m') :: (c, clo cells') :: R) H' → Good m' cells' → LdAt w B2 r M → Rm M → (∀ x ∈ M, x.2 ≤ 9) → Q r H'
theorem ok__law_rooms (T : Txt w K mg a) : FnOk P w K mg base CX0 2 a._law_rooms a.fd__law_rooms ["state"] (sp__law_rooms w) := by
  have G__law_draw := ok__law_draw (P := P) (w := w) (base := base) T
  refine T.fn__law_rooms.ok sc__law_rooms (fun vs H Q E h => ?_) (fun cdv A outer s H vs Q E hr h => ?_)
  · obtain ⟨_, _, _, _, _, _, rfl, _⟩ := h
    rfl
  · obtain ⟨B0, R, st, c, m, cells, rfl, hs, g, k⟩ := h
    refine ⟨_, (pss_cons (ps_set (i := 1) sc__law_rooms.nd rfl (Or.inl rfl) (pe_nnew (w := w)))
  (pss_cons (ps_for PassesOwn.never rfl (pi_listK (K := K) (pe_lst (pa_cons (pe_tup (pa_cons pe_int (pa_cons pe_int pa_nil))) (pa_cons (pe_tup (pa_cons pe_int (pa_cons pe_int pa_nil))) (pa_cons (pe_tup (pa_cons pe_int (pa_cons pe_int pa_nil))) (pa_cons (pe_tup (pa_cons pe_int (pa_cons pe_int pa_nil))) pa_nil)))))) (pg_name (i := 2) sc__law_rooms.nd rfl (Or.inl rfl))
  (pss_one (ps_if (pt_cmpR op_gt (pe_call G__law_draw (hr.mono (by first | decide | omega)) rfl T.mg__law_draw T.kp__law_draw T.bi__law_draw .nil pass0 (pa_cons (pv 0) (pa_cons pe_int pa_nil))) pe_int (nomark _))
  (pss_one (ps_nput (w := w) (r64 hr) (pv 1) (pv 2) (pe_call G__law_draw (hr.mono (by first | decide | omega)) rfl T.mg__law_draw T.kp__law_draw T.bi__law_draw .nil pass0 (pa_cons (pv 0) (pa_cons pe_int pa_nil))) rfl))
  pss_nil)))
  (pss_one (ps_ret (pv 1))))), ?_⟩
    walk_at "ss"
    rename_i d H1 hs1
    clear hs
    refine w_forS ?_
    walk_at "ss"
    rename_i el H2 hs2
    obtain ⟨B1, eus, s1, hs3, hel, hrow⟩ := ground_ends hs2
    clear hs1 hs2
    have hs4 : Hs B1 ((st, sto c m) :: (c, clo cells) :: (d, DN w d []) :: R) H2 := hs3.m2.m2
    refine w_forL (SqL.of (hs4.old hel)) (fun i σ H' => ∃ (m' : Int) (c' : List Int) (es : List Ent) (M : EM) (v2 : Option V), σ = [some (.ref st), some (.ref d), v2] ∧ Hs B1 ((st, sto c m') :: (c, clo c') :: (d, DN w d es) :: R) H' ∧ Good m' c' ∧ EntG B1 es (gmI M) ∧ Rm M ∧ ∀ x ∈ M, x.2 ≤ 9) (fun Q q => q)
      ⟨m, cells, [], [], none, rfl, hs4, g, EntG.nil, ⟨RM.nil, fun _ z => nomatch z⟩, fun _ z => nomatch z⟩ (fun i σ H' _ ⟨_, _, _, _, _, _, h, _⟩ => SqL.of (h.old hel)) ?_ ?_
    · clear hs3 hs4 g
      rintro i u σ H' hu ⟨m', c', es, M, v2, rfl, hs, g, hE, hM, h9⟩
      obtain ⟨e, he, p, rfl, hp⟩ := hrow.get hu
      have he4 := e4_at he
      walk_at "ss"
      refine w_draw hs g (by decide) fun x m2 c2 H3 hs2 g2 _ hx => ?_
      obtain ⟨x0, x1⟩ := hx (by decide)
      clear hs g
      walk_at "ss"
      refine ifd (fun hl => ?_) (fun hl => ?_)
      · walk_at "ss"
        refine w_draw hs2 g2 (by decide) fun y m3 c3 H4 hs3 g3 _ hy => ?_
        obtain ⟨y0, y1⟩ := hy (by decide)
        clear hs2 g2
        walk_at "ss"
        refine wg_put hs3 (.there (.there .here)) hE (EnAt.kat hp) (by have := hM.rm.len; rw [gmI_len]; omega) fun H5 hs5 hE5 => ?_
        rw [gmI_put] at hE5
        refine ⟨m3, c3, _, _, _, rfl, hs5, g3, hE5, ⟨hM.rm.put y he4, fun x hx => ?_⟩, fun x hx => ?_⟩
        · rcases putE_mem hx with rfl | ⟨h1, _⟩ | ⟨h1, _⟩
          · exact y0
          · exact hM.nn x h1
          · exact hM.nn x h1
        · rcases putE_mem hx with rfl | ⟨h1, _⟩ | ⟨h1, _⟩
          · exact Int.le_of_lt_add_one y1
          · exact h9 x h1
          · exact h9 x h1
      · exact ⟨m2, c2, es, M, _, rfl, hs2, g2, hE, hM, h9⟩
    · clear hs3 hs4 g
      rintro σ H' ⟨m', c', es, M, v2, rfl, hs, g, hE, hM, h9⟩
      walk_at "ss"
      obtain ⟨B2, s2, hd, hs2⟩ := frz_hs hs.m2
      exact k _ M m' c' B2 _ (s1.trans s2) hs2 g ⟨d, es, rfl, hd, hE.same s2⟩ hM h9
end
local macro_rules | `(tactic| walk_at "v") => `(tactic| first | exact v0 | exact v1 | exact v2 | exact v3 | exact v4 | exact v5 | exact v6 | exact v7 | exact v8)
local macro_rules | `(tactic| walk_at "vs") => `(tactic| first | exact st0 | exact st1 | exact st2 | exact st3 | exact st4 | exact st5 | exact st6 | exact st7 | exact st8)
local macro_rules | `(tactic| walk_at "s") => `(tactic| first
  | with_reducible refine w_dget ?_
  | ((with_reducible refine' w_dgetZ ?h ?nd ?hk ?hv ?_); (case h => walk_at "g"); (case nd => walk_at "nd"); (case hk => walk_at "k"); (case hv => walk_at "v"))
  | ((with_reducible refine' w_dputZ ?hs ?h ?nd ?hk ?hv ?hu ?hl ?_); (case hs => assumption); (case h => walk_at "p"); (case nd => walk_at "nd"); (case hk => walk_at "k"); (case hv => walk_at "v"); (case hu => walk_at "vs"); (case hl => decide); intro _ _)
  | with_reducible refine w_gsub ?_
  | with_reducible refine w_setD ?_
  | with_reducible refine w_disp ?_
  | ((with_reducible refine' w_newP ?hs ?_); (case hs => assumption); intro _ _ _)
  | with_reducible refine w_pcons ?_
  | with_reducible refine w_pnil ?_)

local macro_rules | `(tactic| walk_at "s") => `(tactic| first
  | with_reducible refine w_nget ?_
  | with_reducible refine w_nin ?_
  | with_reducible refine w_nnot ?_
  | with_reducible refine w_nput ?_
  | with_reducible refine w_ndel ?_
  | with_reducible refine w_npop ?_
  | ((with_reducible refine' w_nnew ?hs ?_); (case hs => assumption); intro _ _ _))

local macro_rules | `(tactic| walk_at "s") => `(tactic| first
  | with_reducible refine w_ninF ?_
  | with_reducible refine w_nsetd ?_
  | with_reducible refine w_ckw ?_)

local macro_rules | `(tactic| walk_at "s") => `(tactic| first
  | with_reducible refine w_ngetF ?_
  | with_reducible refine w_nnotF ?_
  | with_reducible refine w_naug ?_)

local macro_rules | `(tactic| walk_at "s") => `(tactic| first
  | with_reducible refine w_m0 ?_
  | with_reducible refine w_m1 ?_
  | with_reducible refine w_m0b ?_
  | with_reducible refine w_m1b ?_
  | with_reducible refine w_kget ?_
  | with_reducible refine w_nS ?_)

local macro_rules | `(tactic| walk_at "s") => `(tactic| first
  | with_reducible refine w_ng2 ?_
  | with_reducible refine w_ng1 ?_
  | ((with_reducible refine' w_isND ?h ?_); (case h => walk_at "g"))
  | with_reducible refine w_listZip ?_)

section
variable {P : Program} [IsP P] {w : World} {K : PySem.W.Frag} {mg : Str → Option Value} {base : Heap} {a : Ad}
/-! ## the law's own reckoning -/
def sp__law_load : Sp := fun vs H Q _ => ∃ (u v : V) (fs : List Fl) (e : En), vs = [u, v] ∧ FsAt H u fs ∧ EnAt H v e ∧ ∀ H', Same H H' → Q (.int (lds fs e)) H'
theorem ok__law_load (T : Txt w K mg a) : FnOk P w K mg base CX0 1 a._law_load a.fd__law_load ["flows", "end"] sp__law_load := by
  refine T.fn__law_load.ok sc__law_load (fun vs H Q E h => ?_) (fun cdv A outer s H vs Q E hr h => ?_)
  · obtain ⟨_, _, _, _, rfl, _⟩ := h
    rfl
  · obtain ⟨_, v, fs, e, rfl, ⟨l, us, rfl, hl, hrow⟩, hv, k⟩ := h
    refine ⟨_, (pss_cons (ps_set (i := 2) sc__law_load.nd rfl (Or.inl rfl) pe_int)
  (pss_cons (ps_for PassesOwn.never rfl (pi_listK (K := K) (pv 0)) (pg_name (i := 3) sc__law_load.nd rfl (Or.inl rfl))
  (pss_one (ps_for PassesOwn.never rfl (pi_listK (K := K) (pv 3)) (pg_tupK (K := K) rfl (pgs_cons (pg_name (i := 4) sc__law_load.nd rfl (Or.inl rfl)) (pgs_cons (pg_name (i := 5) sc__law_load.nd rfl (Or.inl rfl)) pgs_nil)))
  (pss_one (ps_set (i := 2) sc__law_load.nd rfl (Or.inl rfl) (pe_op op_add (pv 2) (pe_ifExp (pt_cmpR (op_inDL (K := K) (r65 hr)) (pv 1) (pv 4) (by rfl)) (pv 5) pe_int)))))))
  (pss_one (ps_ret (pv 2))))), ?_⟩
    have hs := Hs.start H
    walk_at "ss"
    refine w_forL (SqL.of hl) (fun i σ H' => ∃ v3 v4 v5 : Option V, σ = [some (.ref l), some v, some (.int (lds (fs.take i) e)), v3, v4, v5] ∧ Hs H [] H') (fun Q q => ⟨_, rfl, q⟩) ⟨none, none, none, rfl, hs⟩ (fun i σ H' _ ⟨_, _, _, _, h⟩ => SqL.of (h.old hl)) ?_ ?_
    · clear hs
      rintro i u σ H' hu ⟨v3, v4, v5, rfl, hs⟩
      obtain ⟨f, hf, q, qs, rfl, hq, hqs⟩ := hrow.get hu
      walk_at "ss"
      refine w_forL (SqL.of (hs.old hq)) (fun j σ H' => ∃ v4 v5 : Option V, σ = [some (.ref l), some v, some (.int (lds (fs.take i) e + ld (f.take j) e)), some (.ref q), v4, v5] ∧ Hs H [] H') (fun Q q => ⟨_, rfl, q⟩) ⟨v4, v5, by rw [show ld (f.take 0) e = 0 from rfl, Int.add_zero]; rfl, hs⟩ (fun j σ H' _ ⟨_, _, _, h⟩ => SqL.of (h.old hq)) ?_ ?_
      · clear hs
        rintro j x σ H' hx ⟨v4, v5, rfl, hs⟩
        obtain ⟨⟨y, n⟩, hxi, p, z, rfl, hp, hz⟩ := hqs.get hx
        have hp' : H p = some (.tup [z, .int n]) := hp
        walk_at "ss"
        refine ⟨dEn e, y.map dEn, en_dp (hv.same hs.same), wy_dp (hz.same hs.same), shp_of (lay_en e) (by decide), shp_of (lay_wy y) (by decide), ?_⟩
        show ∃ k, V.bl ((y.map dEn).any fun z => PyData.eqv z (dEn e)) = V.bl k ∧ _
        rw [any_en]
        have ht := ld_take hxi e
        unfold on at ht
        by_cases c : e ∈ y
        · rw [if_pos c] at ht
          rw [decide_eq_true c]
          refine ⟨_, rfl, ?_⟩
          refine iteT ?_
          walk_at "ss"
          exact ⟨_, _, by rw [ht, ← Int.add_assoc]; rfl, hs⟩
        · rw [if_neg c] at ht
          rw [decide_eq_false c]
          refine ⟨_, rfl, ?_⟩
          refine iteF ?_
          walk_at "ss"
          exact ⟨_, _, by rw [ht, ← Int.add_assoc]; rfl, hs⟩
      · rintro σ H' ⟨v4, v5, rfl, hs⟩
        refine ⟨some (.ref q), v4, v5, ?_, hs⟩
        rw [lds_take hf, hqs.1, List.take_length]
    · rintro σ H' ⟨v3, v4, v5, rfl, hs⟩
      rw [hrow.1, List.take_length]
      walk_at "ss"
      exact k _ hs.same

def sp__law_fits (w : World) : Sp := fun vs H Q _ => ∃ (u v : V) (R : EM) (fs : List Fl), vs = [u, v] ∧ LdAt w H u R ∧ FsAt H v fs ∧ ∀ H', Same H H' → Q (.bl (fitB R (lds fs))) H'
theorem ok__law_fits (T : Txt w K mg a) : FnOk P w K mg base CX0 2 a._law_fits a.fd__law_fits ["rooms", "flows"] (sp__law_fits w) := by
  have G__law_load := ok__law_load (P := P) (w := w) (base := base) T
  refine T.fn__law_fits.ok sc__law_fits (fun vs H Q E h => ?_) (fun cdv A outer s H vs Q E hr h => ?_)
  · obtain ⟨_, _, _, _, rfl, _⟩ := h
    rfl
  · obtain ⟨_, v, M, fs, rfl, ⟨d, es, rfl, hd, hE⟩, hv, k⟩ := h
    refine ⟨_, (pss_one (ps_ret (pe_callB (cr_allK (K := K) rfl) (by rfl) T.mg_all (by decide +kernel) (pa_cons (pe_lc (own := [("end", 2)]) (g := (gName 2)) (tt := tYes) rfl sc__law_fits.nd (pi_listK (K := K) (pe_lst (pa_cons (pe_tup (pa_cons pe_int (pa_cons pe_int pa_nil))) (pa_cons (pe_tup (pa_cons pe_int (pa_cons pe_int pa_nil))) (pa_cons (pe_tup (pa_cons pe_int (pa_cons pe_int pa_nil))) (pa_cons (pe_tup (pa_cons pe_int (pa_cons pe_int pa_nil))) pa_nil)))))) (blkOk_by (own := [("end", 2)]) (N := N__law_fits) (sc := defScope s__law_fits) (by decide +kernel)) (fun _ _ _ _ _ => by exact (pg_name (i := 2) sc__law_fits.nd rfl (by first | exact Or.inl rfl | exact Or.inr rfl))) (fun _ _ _ _ _ => pts_nil) (fun _ _ _ _ _ => by exact (pe_cmpR op_le (pe_call G__law_load (hr.mono (by first | decide | omega)) rfl T.mg__law_load T.kp__law_load T.bi__law_load .nil pass0 (pa_cons (pv 1) (pa_cons (pv 2) pa_nil))) (pe_nget2 (w := w) (r64 hr) (pv 0) (pv 2) pe_int ⟨rfl, rfl, rfl, rfl⟩) (nomark _)))) pa_nil)))), ?_⟩
    have hs := Hs.start H
    walk_at "ss"
    refine w_lcLR ?_
    walk_at "ss"
    rename_i el H1 hs1
    obtain ⟨B, eus, sB, hs2, hel, hrow⟩ := ground_ends hs1
    clear hs hs1
    refine w_listR (SqL.of (hs2.old hel)) fun D hD => ?_
    have hs3 := hs2.new (o := .lst []) hD
    refine turns_list (Body := LcBody (gName 2) tYes _ _ _ D) (fun i H' => Hs B [(D, .lst (((E4.take i).map fun e => decide (lds fs e ≤ eG M e)).map V.bl))] H') hs3 (fun i H' _ h => SqL.of (h.old hel)) ?_ ?_
    · clear hs2 hs3 hD
      rintro i u H' hu hs
      obtain ⟨e, he, p, rfl, hp⟩ := hrow.get hu
      have hi : i < 4 := (List.getElem?_eq_some_iff.mp he).1
      refine ⟨rfl, ?_⟩
      walk_at "ss"
      try (with_reducible refine iteT ?_)
      walk_at "ss"
      refine ⟨v, _, fs, e, rfl, hv.same (sB.trans hs.same), ⟨p, rfl, hs.old hp⟩, fun H2 s2 => ?_⟩
      have hs2 := hs.keep s2
      have hd2 : H2 d = some (DN w d es) := (sB.trans hs2.same) _ _ hd
      walk_at "ss"
      refine wg_def hs2 hd2 (hE.same sB) (EnAt.kat (hs2.old hp)) ?_
      rw [getD_eG]
      walk_at "ss"
      refine ⟨_, hs2.g0, szl (by rw [List.length_map, List.length_map, List.length_take]; omega), ?_⟩
      have h1 := hs2.p0 (.lst (((E4.take i).map fun e => decide (lds fs e ≤ eG M e)).map V.bl ++ [V.bl (decide (lds fs e ≤ eG M e))]))
      rw [List.take_add_one, he, List.map_append, List.map_append]
      exact h1
    · clear hs2 hs3 hD
      rintro H' hs
      rw [hrow.1, List.take_length] at hs
      walk_at "ss"
      refine w_allB (SqL.of hs.g0) rfl ?_
      have e1 : (E4.map fun e => decide (lds fs e ≤ eG M e)).all id = fitB M (lds fs) := by
        unfold fitB
        rw [List.all_map, Bool.eq_iff_iff, List.all_eq_true, decide_eq_true_iff]
        exact ⟨fun h e he => of_decide_eq_true (h e he), fun h e he => decide_eq_true (h e he)⟩
      rw [e1]
      exact k _ (sB.trans hs.same)
/-- a pair of an end and a number -/
def PpAt (H : Hp) (v : V) (x : En × Int) : Prop := ∃ (p : Addr) (u : V), v = .ref p ∧ H p = some (.tup [u, .int x.2]) ∧ EnAt H u x.1
theorem PpAt.same {H H' : Hp} (s : Same H H') {v : V} {x : En × Int} (h : PpAt H v x) : PpAt H' v x := let ⟨p, u, h1, h2, h3⟩ := h; ⟨p, u, h1, s _ _ h2, h3.same s⟩
def sp__law_row (w : World) : Sp := fun vs H Q _ => ∃ (l : Addr) (us : List V) (f : En → Int), vs = [.ref l] ∧ H l = some (.lst us) ∧ Row (PpAt H) us (E4.map fun e => (e, f e)) ∧ (∀ e ∈ E4, 0 ≤ f e) ∧ ∀ r M H', Same H H' → LdNew w H H' r M → Ls M f → Q r H'
theorem e4_nd : E4.Nodup := by decide
theorem ok__law_row (T : Txt w K mg a) : FnOk P w K mg base CX0 1 a._law_row a.fd__law_row ["pairs"] (sp__law_row w) := by
  refine T.fn__law_row.ok sc__law_row (fun vs H Q E h => ?_) (fun cdv A outer s H vs Q E hr h => ?_)
  · obtain ⟨_, _, _, rfl, _⟩ := h
    rfl
  · obtain ⟨l, us, f, rfl, hl, hrow, hf, k⟩ := h
    refine ⟨_, (pss_cons (ps_set (i := 1) sc__law_row.nd rfl (Or.inl rfl) (pe_nnew (w := w)))
  (pss_cons (ps_for PassesOwn.never rfl (pi_listK (K := K) (pv 0)) (pg_tupK (K := K) rfl (pgs_cons (pg_name (i := 2) sc__law_row.nd rfl (Or.inl rfl)) (pgs_cons (pg_name (i := 3) sc__law_row.nd rfl (Or.inl rfl)) pgs_nil)))
  (pss_one (ps_if (pt_cmpR op_gt (pv 3) pe_int (nomark _))
  (pss_one (ps_nput (w := w) (r64 hr) (pv 1) (pv 2) (pv 3) rfl))
  pss_nil)))
  (pss_one (ps_ret (pv 1))))), ?_⟩
    have hs := Hs.start H
    walk_at "ss"
    rename_i d H1 hs1
    clear hs
    refine w_forL (SqL.of (hs1.old hl)) (fun i σ H' => ∃ (es : List Ent) (M : EM) (v2 v3 : Option V), σ = [some (.ref l), some (.ref d), v2, v3] ∧ Hs H [(d, DN w d es)] H' ∧ EntG H es (gmI M) ∧ Ls M fun e => if e ∈ E4.take i then f e else 0) (fun Q q => ⟨_, rfl, q⟩)
      ⟨[], [], none, none, rfl, hs1, EntG.nil, Ls.nil⟩ (fun i σ H' _ ⟨_, _, _, _, _, h, _⟩ => SqL.of (h.old hl)) ?_ ?_
    · clear hs1
      rintro i u σ H' hu ⟨es, M, v2, v3, rfl, hs, hE, hM⟩
      obtain ⟨x, hx, p, z, rfl, hp, q, rfl, hq⟩ := hrow.get hu
      rw [List.getElem?_map] at hx
      obtain ⟨e, he, rfl⟩ := Option.map_eq_some_iff.mp hx
      have he4 := e4_at he
      have hf0 := hf e he4
      have hp' : H p = some (.tup [.ref q, .int (f e)]) := hp
      have ht : E4.take (i + 1) = E4.take i ++ [e] := by
        rw [List.take_add_one, he]
        rfl
      have hno : e ∉ E4.take i := fun z => by
        have h1 := e4_nd
        rw [← List.take_append_drop i E4, List.nodup_append] at h1
        exact h1.2.2 e z e (List.mem_of_getElem? (i := 0) (by rw [List.getElem?_drop]; exact he)) rfl
      walk_at "ss"
      refine ifd (fun hl => ?_) (fun hl => ?_)
      · have hl : 0 < f e := hl
        walk_at "ss"
        refine wg_put hs .here hE (EnAt.kat hq) (by have := hM.rm.len; rw [gmI_len]; omega) fun H5 hs5 hE5 => ?_
        rw [gmI_put] at hE5
        refine ⟨_, _, _, _, rfl, hs5, hE5, (hM.put he4 hl).congr fun x hx => ?_⟩
        rw [ht]
        by_cases c : x = e
        · rw [if_pos c, c, if_pos (List.mem_append_right _ List.mem_cons_self)]
        · rw [if_neg c]
          by_cases c2 : x ∈ E4.take i
          · rw [if_pos c2, if_pos (List.mem_append_left _ c2)]
          · rw [if_neg c2, if_neg fun z => (List.mem_append.mp z).elim c2 fun z => c (List.mem_singleton.mp z)]
      · have hl : ¬ 0 < f e := hl
        refine ⟨_, _, _, _, rfl, hs, hE, hM.congr fun x hx => ?_⟩
        rw [ht]
        by_cases c : x = e
        · rw [c, if_neg hno, if_pos (List.mem_append_right _ List.mem_cons_self)]
          omega
        · by_cases c2 : x ∈ E4.take i
          · rw [if_pos c2, if_pos (List.mem_append_left _ c2)]
          · rw [if_neg c2, if_neg fun z => (List.mem_append.mp z).elim c2 fun z => c (List.mem_singleton.mp z)]
    · clear hs1
      rintro σ H' ⟨es, M, v2, v3, rfl, hs, hE, hM⟩
      walk_at "ss"
      refine k _ M H' hs.same ⟨d, es, rfl, hs.out _ List.mem_cons_self, hs.g0, hE.same hs.same⟩ (hM.congr fun e he => ?_)
      rw [hrow.1, List.length_map, List.take_length, if_pos he]
def sp__law_all (w : World) : Sp := fun vs H Q _ => ∃ (v : V) (fs : List Fl), vs = [v] ∧ FsAt H v fs ∧ FsOk fs ∧ ∀ r M H', Same H H' → LdNew w H H' r M → Ls M (lds fs) → Q r H'
theorem ok__law_all (T : Txt w K mg a) : FnOk P w K mg base CX0 2 a._law_all a.fd__law_all ["flows"] (sp__law_all w) := by
  have G__law_load := ok__law_load (P := P) (w := w) (base := base) T
  have G__law_row := ok__law_row (P := P) (w := w) (base := base) T
  refine T.fn__law_all.ok sc__law_all (fun vs H Q E h => ?_) (fun cdv A outer s H vs Q E hr h => ?_)
  · obtain ⟨_, _, rfl, _⟩ := h
    rfl
  · obtain ⟨v, fs, rfl, hv, hok, k⟩ := h
    refine ⟨_, (pss_cons (ps_set (i := 1) sc__law_all.nd rfl (Or.inl rfl) (pe_lst (pa_cons (pe_tup (pa_cons pe_int (pa_cons pe_int pa_nil))) (pa_cons (pe_tup (pa_cons pe_int (pa_cons pe_int pa_nil))) (pa_cons (pe_tup (pa_cons pe_int (pa_cons pe_int pa_nil))) (pa_cons (pe_tup (pa_cons pe_int (pa_cons pe_int pa_nil))) pa_nil))))))
  (pss_one (ps_ret (pe_call G__law_row (hr.mono (by first | decide | omega)) rfl T.mg__law_row T.kp__law_row T.bi__law_row .nil pass0 (pa_cons (pe_lc (own := [("end", 2)]) (g := (gName 2)) (tt := tYes) rfl sc__law_all.nd (pi_listK (K := K) (pv 1)) (blkOk_by (own := [("end", 2)]) (N := N__law_all) (sc := defScope s__law_all) (by decide +kernel)) (fun _ _ _ _ _ => by exact (pg_name (i := 2) sc__law_all.nd rfl (by first | exact Or.inl rfl | exact Or.inr rfl))) (fun _ _ _ _ _ => pts_nil) (fun _ _ _ _ _ => by exact (pe_tup (pa_cons (pv 2) (pa_cons (pe_call G__law_load (hr.mono (by first | decide | omega)) rfl T.mg__law_load T.kp__law_load T.bi__law_load .nil pass0 (pa_cons (pv 0) (pa_cons (pv 2) pa_nil))) pa_nil))))) pa_nil))))), ?_⟩
    have hs := Hs.start H
    walk_at "ss"
    rename_i el H1 hs1
    obtain ⟨B, eus, sB, hs2, hel, hrow⟩ := ground_ends hs1
    clear hs hs1
    refine w_lc (SqL.of (hs2.old hel)) (fun D i H' => ∃ (B2 : Hp) (acc : List V), Same B B2 ∧ Hs B2 [(D, .lst acc)] H' ∧ Row (PpAt B2) acc ((E4.map fun e => (e, lds fs e)).take i)) (fun Q q => ⟨_, rfl, q⟩) (fun D hD => ⟨B, [], Same.refl _, hs2.new hD, Row.nil⟩) (fun D i H' _ ⟨B2, _, s2, h, _⟩ => SqL.of (h.old (s2 _ _ hel))) ?_ ?_
    · clear hs2
      rintro D i u H' hu ⟨B2, acc, s2, hs, hacc⟩
      obtain ⟨e, he, p, rfl, hp⟩ := hrow.get hu
      have hi : i < 4 := (List.getElem?_eq_some_iff.mp he).1
      have hal : acc.length ≤ 4 := by
        have := hacc.1
        rw [List.length_take] at this
        omega
      walk_at "ss"
      refine ⟨rfl, ?_⟩
      walk_at "ss"
      try (with_reducible refine iteT ?_)
      walk_at "ss"
      refine ⟨v, _, fs, e, rfl, hv.same (sB.trans (s2.trans hs.same)), ⟨p, rfl, hs.old (s2 _ _ hp)⟩, fun H2 sm2 => ?_⟩
      have hs3 := hs.keep sm2
      walk_at "ss"
      rename_i tp H5 hs5
      obtain ⟨B3, s3, htp, hs6⟩ := frz_hs hs5
      refine ⟨_, hs6.g0, szl (by omega), B3, _, s2.trans s3, hs6.p0 _, ?_⟩
      rw [List.take_add_one, List.getElem?_map, he]
      exact (hacc.mono fun _ _ => PpAt.same s3).snoc ⟨tp, .ref p, rfl, htp, p, rfl, s3 _ _ (s2 _ _ hp)⟩
    · clear hs2
      rintro D H' ⟨B2, acc, s2, hs, hacc⟩
      rw [hrow.1, List.take_of_length_le (by rw [List.length_map]; exact Nat.le_refl _)] at hacc
      walk_at "ss"
      exact ⟨D, acc, lds fs, rfl, hs.g0, hacc.mono fun _ _ => PpAt.same hs.same, fun e _ => lds_nn hok e, fun r M H2 sm2 hn hM => k r M H2 (sB.trans (s2.trans (hs.same.trans sm2))) (hn.low (sB.trans (s2.trans hs.same))) hM⟩
end
local macro_rules | `(tactic| walk_at "v") => `(tactic| first | exact v0 | exact v1 | exact v2 | exact v3 | exact v4 | exact v5 | exact v6 | exact v7 | exact v8)
local macro_rules | `(tactic| walk_at "vs") => `(tactic| first | exact st0 | exact st1 | exact st2 | exact st3 | exact st4 | exact st5 | exact st6 | exact st7 | exact st8)
local macro_rules | `(tactic| walk_at "s") => `(tactic| first
  | with_reducible refine w_dget ?_
  | ((with_reducible refine' w_dgetZ ?h ?nd ?hk ?hv ?_); (case h => walk_at "g"); (case nd => walk_at "nd"); (case hk => walk_at "k"); (case hv => walk_at "v"))
  | ((with_reducible refine' w_dputZ ?hs ?h ?nd ?hk ?hv ?hu ?hl ?_); (case hs => assumption); (case h => walk_at "p"); (case nd => walk_at "nd"); (case hk => walk_at "k"); (case hv => walk_at "v"); (case hu => walk_at "vs"); (case hl => decide); intro _ _)
  | with_reducible refine w_gsub ?_
  | with_reducible refine w_setD ?_
  | with_reducible refine w_disp ?_
  | ((with_reducible refine' w_newP ?hs ?_); (case hs => assumption); intro _ _ _)
  | with_reducible refine w_pcons ?_
  | with_reducible refine w_pnil ?_)

local macro_rules | `(tactic| walk_at "s") => `(tactic| first
  | with_reducible refine w_nget ?_
  | with_reducible refine w_nin ?_
  | with_reducible refine w_nnot ?_
  | with_reducible refine w_nput ?_
  | with_reducible refine w_ndel ?_
  | with_reducible refine w_npop ?_
  | ((with_reducible refine' w_nnew ?hs ?_); (case hs => assumption); intro _ _ _))

local macro_rules | `(tactic| walk_at "s") => `(tactic| first
  | with_reducible refine w_ninF ?_
  | with_reducible refine w_nsetd ?_
  | with_reducible refine w_ckw ?_)

local macro_rules | `(tactic| walk_at "s") => `(tactic| first
  | with_reducible refine w_ngetF ?_
  | with_reducible refine w_nnotF ?_
  | with_reducible refine w_naug ?_)

local macro_rules | `(tactic| walk_at "s") => `(tactic| first
  | with_reducible refine w_m0 ?_
  | with_reducible refine w_m1 ?_
  | with_reducible refine w_m0b ?_
  | with_reducible refine w_m1b ?_
  | with_reducible refine w_kget ?_
  | with_reducible refine w_nS ?_)

local macro_rules | `(tactic| walk_at "s") => `(tactic| first
  | with_reducible refine w_ng2 ?_
  | with_reducible refine w_ng1 ?_
  | ((with_reducible refine' w_isND ?h ?_); (case h => walk_at "g"))
  | with_reducible refine w_listZip ?_)

section
variable {P : Program} [IsP P] {w : World} {K : PySem.W.Frag} {mg : Str → Option Value} {base : Heap} {a : Ad}
theorem lds_one (f : Fl) (e : En) : lds [f] e = ld f e := by
  show ld f e + 0 = _
  rw [Int.add_zero]
def mxL (fs gs : List Fl) (e : En) : List Int := List.zipWith (fun f g => max (ld f e) (ld g e)) fs gs
theorem mxL_sum : ∀ (fs gs : List Fl) (e : En), (mxL fs gs e).sum = mxs fs gs e
  | f :: fs, g :: gs, e => by
    show (max (ld f e) (ld g e) :: mxL fs gs e).sum = max (ld f e) (ld g e) + mxs fs gs e
    rw [List.sum_cons, mxL_sum]
  | [], [], _ => rfl
  | [], _ :: _, _ => rfl
  | _ :: _, [], _ => rfl
theorem mxs_nn {fs gs : List Fl} (h : FsOk fs) (e : En) : 0 ≤ mxs fs gs e := by
  rw [← mxL_sum]
  refine sum_nn fun x hx => ?_
  unfold mxL at hx
  obtain ⟨i, hi, rfl⟩ := List.mem_iff_getElem.mp hx
  have hi' : i < fs.length := by
    rw [List.length_zipWith] at hi
    omega
  rw [List.getElem_zipWith]
  have := ld_nn (h.2 fs[i] (List.getElem_mem hi')) e
  omega
def sp__law_greatest (w : World) : Sp := fun vs H Q _ => ∃ (u v : V) (fs gs : List Fl), vs = [u, v] ∧ FsAt H u fs ∧ FsOk fs ∧ FsAt H v gs ∧ FsOk gs ∧ fs.length = gs.length ∧ ∀ r M H', Same H H' → LdNew w H H' r M → Ls M (mxs fs gs) → Q r H'
theorem ok__law_greatest (T : Txt w K mg a) : FnOk P w K mg base CX0 2 a._law_greatest a.fd__law_greatest ["flows", "others"] (sp__law_greatest w) := by
  have G__law_load := ok__law_load (P := P) (w := w) (base := base) T
  have G__law_row := ok__law_row (P := P) (w := w) (base := base) T
  refine T.fn__law_greatest.ok sc__law_greatest (fun vs H Q E h => ?_) (fun cdv A outer s H vs Q E hr h => ?_)
  · obtain ⟨_, _, _, _, rfl, _⟩ := h
    rfl
  · obtain ⟨_, _, fs, gs, rfl, ⟨l, us, rfl, hl, hrow⟩, hok, ⟨m, vs, rfl, hm, hrow2⟩, hok2, hlen, k⟩ := h
    refine ⟨_, (pss_cons (ps_set (i := 2) sc__law_greatest.nd rfl (Or.inl rfl) (pe_lst pa_nil))
  (pss_cons (ps_for PassesOwn.never rfl (pi_listK (K := K) (pe_lst (pa_cons (pe_tup (pa_cons pe_int (pa_cons pe_int pa_nil))) (pa_cons (pe_tup (pa_cons pe_int (pa_cons pe_int pa_nil))) (pa_cons (pe_tup (pa_cons pe_int (pa_cons pe_int pa_nil))) (pa_cons (pe_tup (pa_cons pe_int (pa_cons pe_int pa_nil))) pa_nil)))))) (pg_name (i := 3) sc__law_greatest.nd rfl (by first | exact Or.inr rfl | exact Or.inl rfl))
  (pss_cons (ps_setLc (i := 4) (own := [("k", 5)]) (g := (gName 5)) (tt := tYes) rfl sc__law_greatest.nd rfl rfl (sw_true rfl rfl rfl (by decide +kernel)) (pi_range1 rfl T.mg_range (pa_cons (pe_callB (call_lenK (K := K)) (by rfl) T.mg_len PySem.boot_len (pa_cons (pv 0) pa_nil)) pa_nil)) (blkOk_by (own := [("k", 5)]) (N := N__law_greatest) (sc := defScope s__law_greatest) (by decide +kernel)) (fun _ _ _ _ _ => by exact (pg_name (i := 5) sc__law_greatest.nd rfl (by first | exact Or.inl rfl | exact Or.inr rfl))) (fun _ _ _ _ _ => pts_nil) (fun _ _ _ _ _ => by exact (pe_callB (call_maxQ rfl) (by rfl) T.mg_max (by decide +kernel) (pa_cons (pe_call G__law_load (hr.mono (by first | decide | omega)) rfl T.mg__law_load T.kp__law_load T.bi__law_load .nil pass0 (pa_cons (pe_lst (pa_cons (pe_ix (ix_listK (K := K)) (pv 0) (pv 5) (fun _ _ => rfl)) pa_nil)) (pa_cons (pv 3) pa_nil))) (pa_cons (pe_call G__law_load (hr.mono (by first | decide | omega)) rfl T.mg__law_load T.kp__law_load T.bi__law_load .nil pass0 (pa_cons (pe_lst (pa_cons (pe_ix (ix_listK (K := K)) (pv 1) (pv 5) (fun _ _ => rfl)) pa_nil)) (pa_cons (pv 3) pa_nil))) pa_nil)))))
  (pss_one (ps_expr (pe_bmK (K := K) PySem.F.plainAttrs_list PySem.F.slot_list_append PySem.F.type_list_append mt_append (pv 2) (pa_cons (pe_tup (pa_cons (pv 3) (pa_cons (pe_callB (cr_sumK (K := K) rfl) (by rfl) T.mg_sum (by decide +kernel) (pa_cons (pv 4) pa_nil)) pa_nil))) pa_nil))))))
  (pss_one (ps_ret (pe_call G__law_row (hr.mono (by first | decide | omega)) rfl T.mg__law_row T.kp__law_row T.bi__law_row .nil pass0 (pa_cons (pv 2) pa_nil)))))), ?_⟩
    have hs := Hs.start H
    have hul : us.length = fs.length := hrow.1
    have hvl : vs.length = fs.length := hrow2.1.trans hlen.symm
    have hfl := hok.1
    walk_at "ss"
    rename_i pd H1 hs1
    clear hs
    refine w_forS ?_
    walk_at "ss"
    rename_i el H2 hs2
    obtain ⟨B, eus, sB, hs3, hel, hre⟩ := ground_ends hs2
    clear hs1 hs2
    refine w_forL (SqL.of (hs3.old hel)) (fun i σ H' => ∃ (B2 : Hp) (acc : List V) (v3 v4 : Option V), σ = [some (.ref l), some (.ref m), some (.ref pd), v3, v4, none] ∧ Same B B2 ∧ Hs B2 [(pd, .lst acc)] H' ∧ Row (PpAt B2) acc ((E4.map fun e => (e, mxs fs gs e)).take i)) (fun Q q => q)
      ⟨B, [], none, none, rfl, Same.refl _, hs3, Row.nil⟩ (fun i σ H' _ ⟨B2, _, _, _, _, s2, h, _⟩ => SqL.of (h.old (s2 _ _ hel))) ?_ ?_
    · clear hs3
      rintro i u σ H' hu ⟨B2, acc, v3, v4, rfl, s2, hs, hacc⟩
      obtain ⟨e, he, p, rfl, hp⟩ := hre.get hu
      have hi : i < 4 := (List.getElem?_eq_some_iff.mp he).1
      have hal : acc.length ≤ 4 := by
        have := hacc.1
        rw [List.length_take] at this
        omega
      have hpB := s2 _ _ hp
      have hlB := s2 _ _ (sB _ _ hl)
      have hmB := s2 _ _ (sB _ _ hm)
      walk_at "ss"
      refine w_lcG ?_
      walk_at "ss"
      refine w_rngR (by omega) (by rw [hul]; omega) fun D hD => ?_
      rw [hul, Int.toNat_natCast]
      have hs4 := hs.new (o := .lst []) hD
      refine turns_range (fun j H3 => ∃ B3 : Hp, Same B2 B3 ∧ Hs B3 [(D, .lst (((mxL fs gs e).take j).map V.int)), (pd, .lst acc)] H3) ⟨B2, Same.refl _, hs4⟩ ?_ ?_
      · clear hs4 hs hD
        rintro j H3 hj ⟨B3, s3, hs⟩
        obtain ⟨f, hf⟩ : ∃ f, fs[j]? = some f := ⟨_, List.getElem?_eq_getElem hj⟩
        obtain ⟨g, hg⟩ : ∃ g, gs[j]? = some g := ⟨_, List.getElem?_eq_getElem (by omega)⟩
        obtain ⟨ux, hux⟩ : ∃ ux, us[j]? = some ux := ⟨_, List.getElem?_eq_getElem (by omega)⟩
        obtain ⟨vx, hvx⟩ : ∃ vx, vs[j]? = some vx := ⟨_, List.getElem?_eq_getElem (by omega)⟩
        have hfx := hrow.2 j ux f hux hf
        have hgx := hrow2.2 j vx g hvx hg
        have sA := sB.trans (s2.trans s3)
        have hpB3 := s3 _ _ hpB
        refine ⟨rfl, ?_⟩
        walk_at "ss"
        try (with_reducible refine iteT ?_)
        walk_at "ss"
        refine w_ixL (SqL.of (hs.old (s3 _ _ hlB))) (at_of rfl hux) ?_
        walk_at "ss"
        rename_i n1 H4 hs5
        obtain ⟨B4, s4, hn1, hs6⟩ := frz_hs hs5
        clear hs hs5
        refine ⟨.ref n1, .ref p, [f], e, rfl, ⟨n1, _, rfl, hs6.old hn1, .cons (hfx.same (sA.trans (s4.trans hs6.same))) Row.nil⟩, ⟨p, rfl, hs6.old (s4 _ _ hpB3)⟩, fun H5 sm5 => ?_⟩
        rw [lds_one]
        have hs7 := hs6.keep sm5
        clear hs6
        walk_at "ss"
        refine w_ixL (SqL.of (hs7.old (s4 _ _ (s3 _ _ hmB)))) (at_of rfl hvx) ?_
        walk_at "ss"
        rename_i n2 H6 hs8
        obtain ⟨B5, s5, hn2, hs9⟩ := frz_hs hs8
        clear hs7 hs8
        refine ⟨.ref n2, .ref p, [g], e, rfl, ⟨n2, _, rfl, hs9.old hn2, .cons (hgx.same (sA.trans (s4.trans (s5.trans hs9.same)))) Row.nil⟩, ⟨p, rfl, hs9.old (s5 _ _ (s4 _ _ hpB3))⟩, fun H7 sm7 => ?_⟩
        rw [lds_one]
        have hs10 := hs9.keep sm7
        clear hs9
        walk_at "ss"
        have hmx : (if ld g e > ld f e then ld g e else ld f e) = max (ld f e) (ld g e) := by split <;> omega
        rw [hmx]
        refine ⟨_, hs10.g0, szl (by rw [List.length_map, List.length_take]; unfold mxL; rw [List.length_zipWith]; omega), B5, s3.trans (s4.trans s5), ?_⟩
        have h1 := hs10.p0 (.lst (((mxL fs gs e).take j).map V.int ++ [V.int (max (ld f e) (ld g e))]))
        have ht : (mxL fs gs e)[j]? = some (max (ld f e) (ld g e)) := by
          unfold mxL
          rw [List.getElem?_zipWith, hf, hg]
        rw [List.take_add_one, ht, List.map_append]
        exact h1
      · clear hs4 hs hD
        rintro H3 ⟨B3, s3, hs⟩
        rw [List.take_of_length_le (by unfold mxL; rw [List.length_zipWith]; omega)] at hs
        obtain ⟨B4, s4, hD, hs5⟩ := frz_hs hs
        clear hs
        walk_at "ss"
        refine ⟨D, mxL fs gs e, rfl, SqL.of (hs5.old hD), ?_⟩
        rw [mxL_sum]
        walk_at "ss"
        rename_i tp H6 hs6 H7 hs7
        obtain ⟨B5, s5, htp, hs8⟩ := frz_hs hs7
        refine ⟨B5, _, _, _, rfl, s2.trans (s3.trans (s4.trans s5)), hs8, ?_⟩
        rw [List.take_add_one, List.getElem?_map, he]
        exact (hacc.mono fun _ _ => PpAt.same (s3.trans (s4.trans s5))).snoc ⟨tp, .ref p, rfl, htp, p, rfl, s5 _ _ (s4 _ _ (s3 _ _ hpB))⟩
    · clear hs3
      rintro σ H' ⟨B2, acc, v3, v4, rfl, s2, hs, hacc⟩
      rw [hre.1, List.take_of_length_le (by rw [List.length_map]; exact Nat.le_refl _)] at hacc
      walk_at "ss"
      exact ⟨pd, acc, mxs fs gs, rfl, hs.g0, hacc.mono fun _ _ => PpAt.same hs.same, fun e _ => mxs_nn hok e, fun r M H2 sm2 hn hM => k r M H2 (sB.trans (s2.trans (hs.same.trans sm2))) (hn.low (sB.trans (s2.trans hs.same))) hM⟩
end
local macro_rules | `(tactic| walk_at "v") => `(tactic| first | exact v0 | exact v1 | exact v2 | exact v3 | exact v4 | exact v5 | exact v6 | exact v7 | exact v8)
local macro_rules | `(tactic| walk_at "vs") => `(tactic| first | exact st0 | exact st1 | exact st2 | exact st3 | exact st4 | exact st5 | exact st6 | exact st7 | exact st8)
local macro_rules | `(tactic| walk_at "s") => `(tactic| first
  | with_reducible refine w_dget ?_
  | ((with_reducible refine' w_dgetZ ?h ?nd ?hk ?hv ?_); (case h => walk_at "g"); (case nd => walk_at "nd"); (case hk => walk_at "k"); (case hv => walk_at "v"))
  | ((with_reducible refine' w_dputZ ?hs ?h ?nd ?hk ?hv ?hu ?hl ?_); (case hs => assumption); (case h => walk_at "p"); (case nd => walk_at "nd"); (case hk => walk_at "k"); (case hv => walk_at "v"); (case hu => walk_at "vs"); (case hl => decide); intro _ _)
  | with_reducible refine w_gsub ?_
  | with_reducible refine w_setD ?_
  | with_reducible refine w_disp ?_
  | ((with_reducible refine' w_newP ?hs ?_); (case hs => assumption); intro _ _ _)
  | with_reducible refine w_pcons ?_
  | with_reducible refine w_pnil ?_)

local macro_rules | `(tactic| walk_at "s") => `(tactic| first
  | with_reducible refine w_nget ?_
  | with_reducible refine w_nin ?_
  | with_reducible refine w_nnot ?_
  | with_reducible refine w_nput ?_
  | with_reducible refine w_ndel ?_
  | with_reducible refine w_npop ?_
  | ((with_reducible refine' w_nnew ?hs ?_); (case hs => assumption); intro _ _ _))

local macro_rules | `(tactic| walk_at "s") => `(tactic| first
  | with_reducible refine w_ninF ?_
  | with_reducible refine w_nsetd ?_
  | with_reducible refine w_ckw ?_)

local macro_rules | `(tactic| walk_at "s") => `(tactic| first
  | with_reducible refine w_ngetF ?_
  | with_reducible refine w_nnotF ?_
  | with_reducible refine w_naug ?_)

local macro_rules | `(tactic| walk_at "s") => `(tactic| first
  | with_reducible refine w_m0 ?_
  | with_reducible refine w_m1 ?_
  | with_reducible refine w_m0b ?_
  | with_reducible refine w_m1b ?_
  | with_reducible refine w_kget ?_
  | with_reducible refine w_nS ?_)

local macro_rules | `(tactic| walk_at "s") => `(tactic| first
  | with_reducible refine w_ng2 ?_
  | with_reducible refine w_ng1 ?_
  | ((with_reducible refine' w_isND ?h ?_); (case h => walk_at "g"))
  | with_reducible refine w_listZip ?_)

section
variable {P : Program} [IsP P] {w : World} {K : PySem.W.Frag} {mg : Str → Option Value} {base : Heap} {a : Ad}
def mixR : List Fl → List Fl → Nat → List Fl
  | f :: fs, g :: gs, t => (if t % 2 = 1 then g else f) :: mixR fs gs (t / 2)
  | _, _, _ => []
theorem mixR_len : ∀ (fs gs : List Fl) (t : Nat), fs.length = gs.length → (mixR fs gs t).length = fs.length
  | [], [], _, _ => rfl
  | f :: fs, g :: gs, t, h => by
    show (mixR fs gs (t / 2)).length + 1 = fs.length + 1
    rw [mixR_len fs gs _ (Nat.succ.inj h)]
  | [], _ :: _, _, h => nomatch h
  | _ :: _, [], _, h => nomatch h
theorem mixR_get : ∀ (fs gs : List Fl) (t k : Nat) (f g : Fl), fs[k]? = some f → gs[k]? = some g → (mixR fs gs t)[k]? = some (if t / 2 ^ k % 2 = 1 then g else f)
  | [], _, _, _, _, _, h, _ => nomatch h
  | _ :: _, [], _, _, _, _, _, h => nomatch h
  | f :: fs, g :: gs, t, 0, f', g', h1, h2 => by
    rw [← Option.some.inj h1, ← Option.some.inj h2]
    show some (if t % 2 = 1 then g else f) = _
    rw [Nat.pow_zero, Nat.div_one]
  | f :: fs, g :: gs, t, k + 1, f', g', h1, h2 => by
    show (mixR fs gs (t / 2))[k]? = _
    rw [mixR_get fs gs (t / 2) k f' g' (by simpa using h1) (by simpa using h2), Nat.div_div_eq_div_mul, show 2 * 2 ^ k = 2 ^ (k + 1) by rw [Nat.pow_succ]; omega]
theorem mixR_le : ∀ (fs gs : List Fl) (t : Nat) (e : En), fs.length = gs.length → lds (mixR fs gs t) e ≤ mxs fs gs e
  | [], [], _, _, _ => Int.le_refl _
  | f :: fs, g :: gs, t, e, h => by
    have ih := mixR_le fs gs (t / 2) e (Nat.succ.inj h)
    show ld (if t % 2 = 1 then g else f) e + lds (mixR fs gs (t / 2)) e ≤ max (ld f e) (ld g e) + mxs fs gs e
    split <;> omega
  | [], _ :: _, _, _, h => nomatch h
  | _ :: _, [], _, _, h => nomatch h
theorem mixR_max : ∀ (fs gs : List Fl) (e : En), fs.length = gs.length → ∃ t, t < 2 ^ fs.length ∧ lds (mixR fs gs t) e = mxs fs gs e
  | [], [], _, _ => ⟨0, by decide, rfl⟩
  | f :: fs, g :: gs, e, h => by
    obtain ⟨t, ht, q⟩ := mixR_max fs gs e (Nat.succ.inj h)
    have hp : 2 ^ (f :: fs).length = 2 * 2 ^ fs.length := by
      rw [List.length_cons, Nat.pow_succ]
      omega
    by_cases c : ld f e ≤ ld g e
    · refine ⟨2 * t + 1, by omega, ?_⟩
      show ld (if (2 * t + 1) % 2 = 1 then g else f) e + lds (mixR fs gs ((2 * t + 1) / 2)) e = max (ld f e) (ld g e) + mxs fs gs e
      rw [if_pos (by omega), show (2 * t + 1) / 2 = t by omega, q]
      omega
    · refine ⟨2 * t, by omega, ?_⟩
      show ld (if (2 * t) % 2 = 1 then g else f) e + lds (mixR fs gs ((2 * t) / 2)) e = max (ld f e) (ld g e) + mxs fs gs e
      rw [if_neg (by omega), show 2 * t / 2 = t by omega, q]
      omega
  | [], _ :: _, _, h => nomatch h
  | _ :: _, [], _, h => nomatch h
theorem safe_of {R : EM} {fs gs : List Fl} (h : fs.length = gs.length) : fitB R (mxs fs gs) = decide (∀ t, t < 2 ^ fs.length → fitB R (lds (mixR fs gs t)) = true) := by
  rw [Bool.eq_iff_iff, decide_eq_true_iff]
  unfold fitB
  rw [decide_eq_true_iff]
  constructor
  · intro q t _
    exact decide_eq_true fun e he => Int.le_trans (mixR_le fs gs t e h) (q e he)
  · intro q e he
    obtain ⟨t, ht, z⟩ := mixR_max fs gs e h
    rw [← z]
    exact of_decide_eq_true (q t ht) e he
def sp__law_safe (w : World) : Sp := fun vs H Q _ => ∃ (B : Hp) (R : List (Addr × HO)) (u v x : V) (M : EM) (fs gs : List Fl), vs = [u, v, x] ∧ Hs B R H ∧ LdAt w B u M ∧ FsAt B v fs ∧ FsOk fs ∧ FsAt B x gs ∧ FsOk gs ∧ fs.length = gs.length ∧ fs.length ≤ 6 ∧ ∀ B2 H', Same B B2 → Hs B2 R H' → Q (.bl (fitB M (mxs fs gs))) H'
theorem ok__law_safe (T : Txt w K mg a) : FnOk P w K mg base CX0 3 a._law_safe a.fd__law_safe ["rooms", "flows", "others"] (sp__law_safe w) := by
  have G__law_fits := ok__law_fits (P := P) (w := w) (base := base) T
  refine T.fn__law_safe.ok sc__law_safe (fun vs H Q E h => ?_) (fun cdv A outer s H vs Q E hr h => ?_)
  · obtain ⟨_, _, _, _, _, _, _, _, rfl, _⟩ := h
    rfl
  · obtain ⟨B0, R, u, _, _, M, fs, gs, rfl, hs, hu, ⟨l, us, rfl, hl, hrow⟩, hok, ⟨m, vs, rfl, hm, hrow2⟩, hok2, hlen, h6, k⟩ := h
    refine ⟨_, (pss_cons (ps_for PassesOwn.never rfl (pi_range1 rfl T.mg_range (pa_cons (pe_op op_shl pe_int (pe_callB (call_lenK (K := K)) (by rfl) T.mg_len PySem.boot_len (pa_cons (pv 1) pa_nil))) pa_nil)) (pg_name (i := 3) sc__law_safe.nd rfl (by first | exact Or.inr rfl | exact Or.inl rfl))
  (pss_cons (ps_setLc (i := 4) (own := [("k", 5)]) (g := (gName 5)) (tt := tYes) rfl sc__law_safe.nd rfl rfl (sw_true rfl rfl rfl (by decide +kernel)) (pi_range1 rfl T.mg_range (pa_cons (pe_callB (call_lenK (K := K)) (by rfl) T.mg_len PySem.boot_len (pa_cons (pv 1) pa_nil)) pa_nil)) (blkOk_by (own := [("k", 5)]) (N := N__law_safe) (sc := defScope s__law_safe) (by decide +kernel)) (fun _ _ _ _ _ => by exact (pg_name (i := 5) sc__law_safe.nd rfl (by first | exact Or.inl rfl | exact Or.inr rfl))) (fun _ _ _ _ _ => pts_nil) (fun _ _ _ _ _ => by exact (pe_ifExp (pt_cmpR op_eq (pe_op op_and (pe_op op_shr (pv 3) (pv 5)) pe_int) pe_int (nomark _)) (pe_ix (ix_listK (K := K)) (pv 2) (pv 5) (fun _ _ => rfl)) (pe_ix (ix_listK (K := K)) (pv 1) (pv 5) (fun _ _ => rfl)))))
  (pss_one (ps_if (pt_not (pt_val (pe_call G__law_fits (hr.mono (by first | decide | omega)) rfl T.mg__law_fits T.kp__law_fits T.bi__law_fits .nil pass0 (pa_cons (pv 0) (pa_cons (pv 4) pa_nil)))))
  (pss_one (ps_ret pe_bl))
  pss_nil))))
  (pss_one (ps_ret pe_bl))), ?_⟩
    have hul : us.length = fs.length := hrow.1
    have hvl : vs.length = fs.length := hrow2.1.trans hlen.symm
    have hl1 := hs.old hl
    refine w_for1 ?_
    walk_at "ss"
    refine w_I (⟨by omega, by omega, by decide⟩) ?_
    walk_at "ss"
    have he : (1 : Int) * 2 ^ ((us.length : Nat) : Int).toNat = ((2 ^ fs.length : Nat) : Int) := by
      rw [hul, Int.toNat_natCast, Int.one_mul]
      exact (Int.natCast_pow 2 fs.length).symm
    rw [he]
    have hp64 : 2 ^ fs.length ≤ 64 := Nat.le_trans (Nat.pow_le_pow_right (by decide) h6) (by decide)
    obtain ⟨N, hN⟩ : ∃ N, N = 2 ^ fs.length := ⟨_, rfl⟩
    rw [← hN] at hp64 ⊢
    clear he
    refine w_forR (n := (N : Int)) (by omega) (fun t σ H' => ∃ (B : Hp) (v3 v4 : Option V), σ = [some u, some (.ref l), some (.ref m), v3, v4, none] ∧ Same B0 B ∧ Hs B R H' ∧ ∀ t', t' < t → fitB M (lds (mixR fs gs t')) = true) (fun Q' q => q) (by omega) ⟨B0, none, none, rfl, Same.refl _, hs, fun _ z => absurd z (Nat.not_lt_zero _)⟩ ?_ ?_
    · clear hs hl1
      rintro t σ H' ht ⟨B, v3, v4, rfl, sm, hs, hall⟩
      have hlB := sm _ _ hl
      have hmB := sm _ _ hm
      have hl2 := hs.old hlB
      walk_at "ss"
      refine w_lcG ?_
      walk_at "ss"
      refine w_rngR (by omega) (by rw [hul]; omega) fun D hD => ?_
      rw [hul, Int.toNat_natCast]
      have hs2 := hs.new (o := .lst []) hD
      refine turns_range (fun j H3 => ∃ acc : List V, Hs B ((D, .lst acc) :: R) H3 ∧ Row (FlAt B) acc ((mixR fs gs t).take j)) ⟨[], hs2, Row.nil⟩ ?_ ?_
      · clear hs2 hs hD hl2
        rintro j H3 hj ⟨acc, hs, hacc⟩
        obtain ⟨f, hf⟩ : ∃ f, fs[j]? = some f := ⟨_, List.getElem?_eq_getElem hj⟩
        obtain ⟨g, hg⟩ : ∃ g, gs[j]? = some g := ⟨_, List.getElem?_eq_getElem (by omega)⟩
        obtain ⟨ux, hux⟩ : ∃ ux, us[j]? = some ux := ⟨_, List.getElem?_eq_getElem (by omega)⟩
        obtain ⟨vx, hvx⟩ : ∃ vx, vs[j]? = some vx := ⟨_, List.getElem?_eq_getElem (by omega)⟩
        have hfx := (hrow.2 j ux f hux hf).same sm
        have hgx := (hrow2.2 j vx g hvx hg).same sm
        have hal : acc.length ≤ 6 := by
          have := hacc.1
          rw [List.length_take] at this
          omega
        have htk := mixR_get fs gs t j f g hf hg
        refine ⟨rfl, ?_⟩
        walk_at "ss"
        try (with_reducible refine iteT ?_)
        walk_at "ss"
        have hb : Builtin.bitAnd ((t : Int) / 2 ^ ((j : Nat) : Int).toNat) 1 = ((t / 2 ^ j % 2 : Nat) : Int) := by
          rw [PyProof.Rows.bitAnd_m1, Int.toNat_natCast]
          norm_cast
        rw [hb]
        have fin : ∀ (x : V) (f1 : Fl), FlAt B x f1 → (mixR fs gs t)[j]? = some f1 → ∃ acc', H3 D = some (.lst acc') ∧ acc'.length < sizeLine ∧ ∃ acc : List V, Hs B ((D, .lst acc) :: R) (upd H3 D (.lst (acc' ++ [x]))) ∧ Row (FlAt B) acc ((mixR fs gs t).take (j + 1)) := fun x f1 hx h1 => by
          refine ⟨acc, hs.g0, szl (by omega), _, hs.p0 _, ?_⟩
          rw [List.take_add_one, h1]
          exact hacc.snoc hx
        by_cases c : t / 2 ^ j % 2 = 1
        · rw [if_pos c] at htk
          rw [c]
          refine iteT ?_
          walk_at "ss"
          refine w_ixL (SqL.of (hs.old hmB)) (at_of rfl hvx) ?_
          exact fin vx g hgx htk
        · rw [if_neg c] at htk
          have hc : decide (((t / 2 ^ j % 2 : Nat) : Int) = 1) = false := decide_eq_false fun z => c (Int.ofNat.inj z)
          rw [hc]
          refine iteF ?_
          walk_at "ss"
          refine w_ixL (SqL.of (hs.old hlB)) (at_of rfl hux) ?_
          exact fin ux f hfx htk
      · clear hs2 hs hD hl2
        rintro H3 ⟨acc, hs, hacc⟩
        rw [List.take_of_length_le (by rw [mixR_len _ _ _ hlen]; exact Nat.le_refl _)] at hacc
        obtain ⟨B2, s2, hDB, hs3⟩ := frz_hs hs
        walk_at "ss"
        refine ⟨u, .ref D, M, _, rfl, hu.same (sm.trans (s2.trans hs3.same)), ⟨D, acc, rfl, hs3.old hDB, hacc.mono fun _ _ => FlAt.same (s2.trans hs3.same)⟩, fun H4 sm4 => ?_⟩
        have hs4 := hs3.keep sm4
        walk_at "ss"
        cases hq : fitB M (lds (mixR fs gs t)) with
        | false =>
          refine iteT ?_
          walk_at "ss"
          have q := k B2 H4 (sm.trans s2) hs4
          have hno : ¬ ∀ t', t' < 2 ^ fs.length → fitB M (lds (mixR fs gs t')) = true := fun z => by
            have := z t (by rw [← hN]; omega)
            rw [hq] at this
            cases this
          rw [safe_of hlen, decide_eq_false hno] at q
          exact q
        | true =>
          refine iteF ?_
          walk_at "ss"
          refine ⟨B2, _, _, rfl, sm.trans s2, hs4, fun t' ht' => ?_⟩
          rcases Nat.lt_or_eq_of_le (Nat.le_of_lt_succ ht') with h | rfl
          · exact hall t' h
          · exact hq
    · clear hs hl1
      rintro σ H' ⟨B, v3, v4, rfl, sm, hs, hall⟩
      rw [Int.toNat_natCast] at hall
      walk_at "ss"
      have q := k B H' sm hs
      rw [hN] at hall
      rw [safe_of hlen, decide_eq_true hall] at q
      exact q
end
local macro_rules | `(tactic| walk_at "v") => `(tactic| first | exact v0 | exact v1 | exact v2 | exact v3 | exact v4 | exact v5 | exact v6 | exact v7 | exact v8)
local macro_rules | `(tactic| walk_at "vs") => `(tactic| first | exact st0 | exact st1 | exact st2 | exact st3 | exact st4 | exact st5 | exact st6 | exact st7 | exact st8)
local macro_rules | `(tactic| walk_at "s") => `(tactic| first
  | with_reducible refine w_dget ?_
  | ((with_reducible refine' w_dgetZ ?h ?nd ?hk ?hv ?_); (case h => walk_at "g"); (case nd => walk_at "nd"); (case hk => walk_at "k"); (case hv => walk_at "v"))
  | ((with_reducible refine' w_dputZ ?hs ?h ?nd ?hk ?hv ?hu ?hl ?_); (case hs => assumption); (case h => walk_at "p"); (case nd => walk_at "nd"); (case hk => walk_at "k"); (case hv => walk_at "v"); (case hu => walk_at "vs"); (case hl => decide); intro _ _)
  | with_reducible refine w_gsub ?_
  | with_reducible refine w_setD ?_
  | with_reducible refine w_disp ?_
  | ((with_reducible refine' w_newP ?hs ?_); (case hs => assumption); intro _ _ _)
  | with_reducible refine w_pcons ?_
  | with_reducible refine w_pnil ?_)

local macro_rules | `(tactic| walk_at "s") => `(tactic| first
  | with_reducible refine w_nget ?_
  | with_reducible refine w_nin ?_
  | with_reducible refine w_nnot ?_
  | with_reducible refine w_nput ?_
  | with_reducible refine w_ndel ?_
  | with_reducible refine w_npop ?_
  | ((with_reducible refine' w_nnew ?hs ?_); (case hs => assumption); intro _ _ _))

local macro_rules | `(tactic| walk_at "s") => `(tactic| first
  | with_reducible refine w_ninF ?_
  | with_reducible refine w_nsetd ?_
  | with_reducible refine w_ckw ?_)

local macro_rules | `(tactic| walk_at "s") => `(tactic| first
  | with_reducible refine w_ngetF ?_
  | with_reducible refine w_nnotF ?_
  | with_reducible refine w_naug ?_)

local macro_rules | `(tactic| walk_at "s") => `(tactic| first
  | with_reducible refine w_m0 ?_
  | with_reducible refine w_m1 ?_
  | with_reducible refine w_m0b ?_
  | with_reducible refine w_m1b ?_
  | with_reducible refine w_kget ?_
  | with_reducible refine w_nS ?_)

local macro_rules | `(tactic| walk_at "s") => `(tactic| first
  | with_reducible refine w_ng2 ?_
  | with_reducible refine w_ng1 ?_
  | ((with_reducible refine' w_isND ?h ?_); (case h => walk_at "g"))
  | with_reducible refine w_listZip ?_)

section
variable {P : Program} [IsP P] {w : World} {K : PySem.W.Frag} {mg : Str → Option Value} {base : Heap} {a : Ad}
def kW (y : Wy) : IK := y.map fun e => Sum.inr [e.1, e.2]
theorem kW_inj : ∀ {y z : Wy}, kW y = kW z ↔ y = z
  | [], [] => ⟨fun _ => rfl, fun _ => rfl⟩
  | [], _ :: _ => ⟨(fun h => by cases h), (fun h => by cases h)⟩
  | _ :: _, [] => ⟨(fun h => by cases h), (fun h => by cases h)⟩
  | e :: y, f :: z => by
    constructor
    · intro h
      have h : (Sum.inr [e.1, e.2] : Itm) :: kW y = Sum.inr [f.1, f.2] :: kW z := h
      obtain ⟨h1, h2⟩ := List.cons.inj h
      have h3 := Sum.inr.inj h1
      have h4 := (List.cons.inj h3).1
      have h5 := (List.cons.inj (List.cons.inj h3).2).1
      rw [kW_inj.mp h2, Prod.ext h4 h5]
    · rintro h
      rw [h]
theorem row_paired {H : Hp} : ∀ {us : List V} {y : Wy}, Row (EnAt H) us y → Paired (fun v x => ItAt H v x) us (kW y)
  | [], [], _ => .nil
  | [], _ :: _, h => nomatch h.1
  | _ :: _, [], h => nomatch h.1
  | u :: us, e :: y, h => .cons (by
      obtain ⟨p, h1, h2⟩ := h.2 0 u e rfl rfl
      exact ⟨p, h1, h2⟩) (row_paired ⟨Nat.succ.inj h.1, fun i v x h1 h2 => h.2 (i + 1) v x (by simpa using h1) (by simpa using h2)⟩)
theorem kat_wy {H : Hp} {p : Addr} {us : List V} {y : Wy} (h : H p = some (.tup us)) (r : Row (EnAt H) us y) : KAt H p (kW y) := ⟨us, h, row_paired r⟩
/-- what is told by way -/
def ByW (M : GM) (f : Fl) : Prop := ∀ y, (valG M (kW y)).getD (.int 0) = .int (amtM f y)
def sp__law_by_way (w : World) : Sp := fun vs H Q _ => ∃ (v : V) (f : Fl), vs = [v] ∧ FlAt H v f ∧ f.length ≤ 100 ∧ ∀ d es M H', Same H H' → H d = none → H' d = some (DN w d es) → EntG H' es M → ByW M f → Q (.ref d) H'
theorem amt_take {f : Fl} {i : Nat} {x : Wy × Int} (h : f[i]? = some x) (y : Wy) : amtM (f.take (i + 1)) y = amtM (f.take i) y + if x.1 = y then x.2 else 0 := by
  unfold amtM
  rw [List.take_add_one, h, List.map_append, List.sum_append]
  show _ + ((if x.1 = y then x.2 else 0) + 0) = _
  rw [Int.add_zero]
theorem ok__law_by_way (T : Txt w K mg a) : FnOk P w K mg base CX0 1 a._law_by_way a.fd__law_by_way ["flow"] (sp__law_by_way w) := by
  refine T.fn__law_by_way.ok sc__law_by_way (fun vs H Q E h => ?_) (fun cdv A outer s H vs Q E hr h => ?_)
  · obtain ⟨_, _, rfl, _⟩ := h
    rfl
  · obtain ⟨_, f, rfl, ⟨l, us, rfl, hl, hrow⟩, hfl, k⟩ := h
    refine ⟨_, (pss_cons (ps_set (i := 1) sc__law_by_way.nd rfl (Or.inl rfl) (pe_nnew (w := w)))
  (pss_cons (ps_for PassesOwn.never rfl (pi_listK (K := K) (pv 0)) (pg_tupK (K := K) rfl (pgs_cons (pg_name (i := 2) sc__law_by_way.nd rfl (Or.inl rfl)) (pgs_cons (pg_name (i := 3) sc__law_by_way.nd rfl (Or.inl rfl)) pgs_nil)))
  (pss_one (ps_nput (w := w) (r64 hr) (pv 1) (pe_callTy (call_tuple_ofK (K := K)) (by rfl) T.mg_tuple (by decide +kernel) (pa_cons (pv 2) pa_nil)) (pe_op op_add (pe_nget2 (w := w) (r64 hr) (pv 1) (pe_callTy (call_tuple_ofK (K := K)) (by rfl) T.mg_tuple (by decide +kernel) (pa_cons (pv 2) pa_nil)) pe_int ⟨rfl, rfl, rfl, rfl⟩) (pv 3)) rfl)))
  (pss_one (ps_ret (pv 1))))), ?_⟩
    have hs := Hs.start H
    walk_at "ss"
    rename_i d H1 hs1
    clear hs
    refine w_forL (SqL.of (hs1.old hl)) (fun i σ H' => ∃ (B : Hp) (es : List Ent) (M : GM) (v2 v3 : Option V), σ = [some (.ref l), some (.ref d), v2, v3] ∧ Same H B ∧ Hs B [(d, DN w d es)] H' ∧ EntG B es M ∧ ByW M (f.take i) ∧ M.length ≤ i) (fun Q q => ⟨_, rfl, q⟩)
      ⟨H, [], [], none, none, rfl, Same.refl _, hs1, EntG.nil, fun _ => rfl, Nat.le_refl _⟩ (fun i σ H' _ ⟨B, _, _, _, _, _, sm, h, _⟩ => SqL.of (h.old (sm _ _ hl))) ?_ ?_
    · clear hs1
      rintro i u σ H' hu ⟨B, es, M, v2, v3, rfl, sm, hs, hE, hM, hz⟩
      obtain ⟨⟨y, n⟩, hx, p, z, rfl, hp, q, ws, rfl, hq, hw⟩ := hrow.get hu
      have hi : i < 100 := by
        have := (List.getElem?_eq_some_iff.mp hx).1
        omega
      have hpB : B p = some (.tup [.ref q, .int n]) := sm _ _ hp
      have hqB := sm _ _ hq
      have hwB : Row (EnAt B) ws y := hw.mono fun _ _ => EnAt.same sm
      walk_at "ss"
      refine ⟨q, ws, rfl, .inl ⟨SqL.of (hs.old hqB), fun t1 ht1 => ?_⟩⟩
      obtain ⟨B2, s2, ht1B, hs2⟩ := frz_hs (hs.new (o := .tup ws) ht1)
      generalize upd H' t1 (.tup ws) = H2 at hs2 ⊢
      walk_at "ss"
      refine wg_def hs2 hs2.g0 (hE.same s2) (kat_wy (hs2.old ht1B) (hwB.mono fun _ _ => EnAt.same (s2.trans hs2.same))) ?_
      rw [hM y]
      walk_at "ss"
      refine ⟨q, ws, rfl, .inl ⟨SqL.of (hs2.old (s2 _ _ hqB)), fun t2 ht2 => ?_⟩⟩
      obtain ⟨B3, s3, ht2B, hs3⟩ := frz_hs (hs2.new (o := .tup ws) ht2)
      generalize upd H2 t2 (.tup ws) = H3 at hs3 ⊢
      have hE3 := hE.same (s2.trans s3)
      walk_at "ss"
      refine wg_put hs3 .here hE3 (kat_wy ht2B (hwB.mono fun _ _ => EnAt.same (s2.trans s3))) (by omega) fun H5 hs5 hE5 => ?_
      refine ⟨B3, _, _, _, _, rfl, sm.trans (s2.trans s3), hs5, hE5, fun y' => ?_, Nat.le_trans putG_len (Nat.succ_le_succ hz)⟩
      rw [valG_put, amt_take hx]
      by_cases c : y = y'
      · rw [if_pos (by rw [c]), if_pos (show (y, n).1 = y' from c), c]
        rfl
      · rw [if_neg fun z => c (kW_inj.mp z).symm, if_neg (show ¬ (y, n).1 = y' from c), Int.add_zero]
        exact hM y'
    · clear hs1
      rintro σ H' ⟨B, es, M, v2, v3, rfl, sm, hs, hE, hM, hz⟩
      rw [hrow.1, List.take_length] at hM
      walk_at "ss"
      exact k d es M H' (sm.trans hs.same) (sm.free (hs.out _ List.mem_cons_self)) hs.g0 (hE.same hs.same) hM
end
local macro_rules | `(tactic| walk_at "v") => `(tactic| first | exact v0 | exact v1 | exact v2 | exact v3 | exact v4 | exact v5 | exact v6 | exact v7 | exact v8)
local macro_rules | `(tactic| walk_at "vs") => `(tactic| first | exact st0 | exact st1 | exact st2 | exact st3 | exact st4 | exact st5 | exact st6 | exact st7 | exact st8)
local macro_rules | `(tactic| walk_at "s") => `(tactic| first
  | with_reducible refine w_dget ?_
  | ((with_reducible refine' w_dgetZ ?h ?nd ?hk ?hv ?_); (case h => walk_at "g"); (case nd => walk_at "nd"); (case hk => walk_at "k"); (case hv => walk_at "v"))
  | ((with_reducible refine' w_dputZ ?hs ?h ?nd ?hk ?hv ?hu ?hl ?_); (case hs => assumption); (case h => walk_at "p"); (case nd => walk_at "nd"); (case hk => walk_at "k"); (case hv => walk_at "v"); (case hu => walk_at "vs"); (case hl => decide); intro _ _)
  | with_reducible refine w_gsub ?_
  | with_reducible refine w_setD ?_
  | with_reducible refine w_disp ?_
  | ((with_reducible refine' w_newP ?hs ?_); (case hs => assumption); intro _ _ _)
  | with_reducible refine w_pcons ?_
  | with_reducible refine w_pnil ?_)

local macro_rules | `(tactic| walk_at "s") => `(tactic| first
  | with_reducible refine w_nget ?_
  | with_reducible refine w_nin ?_
  | with_reducible refine w_nnot ?_
  | with_reducible refine w_nput ?_
  | with_reducible refine w_ndel ?_
  | with_reducible refine w_npop ?_
  | ((with_reducible refine' w_nnew ?hs ?_); (case hs => assumption); intro _ _ _))

local macro_rules | `(tactic| walk_at "s") => `(tactic| first
  | with_reducible refine w_ninF ?_
  | with_reducible refine w_nsetd ?_
  | with_reducible refine w_ckw ?_)

local macro_rules | `(tactic| walk_at "s") => `(tactic| first
  | with_reducible refine w_ngetF ?_
  | with_reducible refine w_nnotF ?_
  | with_reducible refine w_naug ?_)

local macro_rules | `(tactic| walk_at "s") => `(tactic| first
  | with_reducible refine w_m0 ?_
  | with_reducible refine w_m1 ?_
  | with_reducible refine w_m0b ?_
  | with_reducible refine w_m1b ?_
  | with_reducible refine w_kget ?_
  | with_reducible refine w_nS ?_)

local macro_rules | `(tactic| walk_at "s") => `(tactic| first
  | with_reducible refine w_ng2 ?_
  | with_reducible refine w_ng1 ?_
  | ((with_reducible refine' w_isND ?h ?_); (case h => walk_at "g"))
  | with_reducible refine w_listZip ?_)

section
variable {P : Program} [IsP P] {w : World} {K : PySem.W.Frag} {mg : Str → Option Value} {base : Heap} {a : Ad}
def sp__law_multiplied (w : World) : Sp := fun vs H Q _ => ∃ (u : V) (M : EM) (n : Int), vs = [u, .int n] ∧ LdAt w H u M ∧ RM M ∧ 0 ≤ n ∧ n ≤ 1000 ∧ ∀ r H', Same H H' → LdNew w H H' r (M.map fun x => (x.1, x.2 * n)) → Q r H'
theorem ok__law_multiplied (T : Txt w K mg a) : FnOk P w K mg base CX0 1 a._law_multiplied a.fd__law_multiplied ["rooms", "factor"] (sp__law_multiplied w) := by
  refine T.fn__law_multiplied.ok sc__law_multiplied (fun vs H Q E h => ?_) (fun cdv A outer s H vs Q E hr h => ?_)
  · obtain ⟨_, _, _, rfl, _⟩ := h
    rfl
  · obtain ⟨_, M, n, rfl, ⟨d, es, rfl, hd, hE⟩, hM, hn0, hn1, k⟩ := h
    refine ⟨_, (pss_cons (ps_set (i := 2) sc__law_multiplied.nd rfl (Or.inl rfl) (pe_nnew (w := w)))
  (pss_cons (ps_lock (ps_for PassesOwn.never rfl (pi_keysNL (w := w) (pv 0)) (pg_name (i := 3) sc__law_multiplied.nd rfl (Or.inl rfl))
  (pss_one (ps_nput (w := w) (r64 hr) (pv 2) (pv 3) (pe_op op_mul (pe_ndgetF (w := w) (r64 hr) (pv 0) (pv 3) (fun _ _ => rfl)) (pv 1)) rfl))))
  (pss_one (ps_ret (pv 2))))), ?_⟩
    have hs := Hs.start H
    walk_at "ss"
    rename_i t H1 hs1
    clear hs
    obtain ⟨B, hs2, hEB, tp, sBH, _, back⟩ := own_ld hd hE hs1
    refine w_lockSN (d := d) (es := es) hs2 (fun od => .there .here) fun od H3 hs3 => ?_
    refine w_forKNL ?_
    walk_at "ss"
    refine w_keyNLR hs3.g1 ?_
    refine for_keysN (fun i σ H' => ∃ (es2 : List Ent) (v3 : Option V), σ = [some (.ref d), some (.int n), some (.ref t), v3] ∧ Hs B [(t, DN w t es2), (d, .frz od (DN w d es))] H' ∧ EntG B es2 (gmI ((M.take i).map fun x => (x.1, x.2 * n))))
      ⟨[], none, rfl, hs3, EntG.nil⟩ (fun i σ H' _ ⟨_, _, _, h, _⟩ => h.g1) ?_ ?_
    · clear hs3 hs2 hs1
      rintro i en σ H' hi ⟨es2, v3, rfl, hs, hE2⟩
      obtain ⟨y, hy, e1, e2, e3⟩ := paired_get hEB hi
      unfold gmI at hy
      rw [List.getElem?_map] at hy
      obtain ⟨x, hxM, rfl⟩ := Option.map_eq_some_iff.mp hy
      have e3 : KAt B en.2.1 (kE x.1) := e3
      have hMl := hM.len
      walk_at "ss"
      refine wg_getF hs hs.g1 hEB (e3.same hs.same) (v := V.int x.2) ?_ ?_
      · rw [valG_gmI, eL_mem hM.nd (List.mem_of_getElem? hxM)]
        rfl
      walk_at "ss"
      refine wg_put hs .here hE2 e3 (by rw [gmI_len, List.length_map, List.length_take]; omega) fun H5 hs5 hE5 => ?_
      refine ⟨_, _, rfl, hs5, ?_⟩
      rw [gmI_put] at hE5
      have hin : x.1 ∉ (M.take i).map (·.1) := fun z => by
        have h1 := hM.nd
        rw [← List.take_append_drop i M, List.map_append, List.nodup_append] at h1
        exact h1.2.2 x.1 z x.1 (List.mem_map_of_mem (List.mem_of_getElem? (i := 0) (by rw [List.getElem?_drop]; exact hxM))) rfl
      have hno : ¬ (eL ((M.take i).map fun x => (x.1, x.2 * n)) x.1).isSome = true := fun z => hin (by
        have := eL_isSome.mp z
        rw [List.map_map] at this
        exact this)
      unfold putE at hE5
      rw [if_neg hno] at hE5
      rw [List.take_add_one, hxM, List.map_append]
      exact hE5
    · clear hs3 hs2 hs1
      rintro σ H' ⟨es2, v3, rfl, hs, hE2⟩
      rw [hEB.len, gmI_len, List.take_length] at hE2
      refine ⟨hs.g1, ?_⟩
      have hs4 := back [(t, DN w t es2)] _ (hs.p1 (DN w d es))
      generalize upd H' d (DN w d es) = H2 at hs4 ⊢
      walk_at "ss"
      exact k _ H2 hs4.same ⟨t, es2, rfl, hs4.out _ List.mem_cons_self, hs4.g0, (hE2.same sBH).same hs4.same⟩
theorem any_wy (l : List Wy) (y : Wy) : (l.map dWy).any (fun z => PyData.eqv z (dWy y)) = decide (y ∈ l) := by
  rw [List.any_map, Bool.eq_iff_iff, List.any_eq_true, decide_eq_true_iff]
  constructor
  · rintro ⟨z, hz, e⟩
    have e : PyData.eqv (dWy z) (dWy y) = true := e
    rw [eqv_wy] at e
    exact of_decide_eq_true e ▸ hz
  · intro h
    exact ⟨y, h, (eqv_wy y y).trans (decide_eq_true rfl)⟩
theorem evM_eq (f g : Fl) (n j : Int) : evM f g (n - j) j = ((wysM f g).map fun y => (y, amtM f y * (n - j) + amtM g y * j)).filter fun x => decide (0 < x.2) := by
  have key : ∀ (ws : List Wy) (h : Wy → Int), ws.zip (ws.map h) = ws.map fun y => (y, h y) := fun ws h => by
    induction ws with
    | nil => rfl
    | cons y ws ih => rw [List.map_cons, List.map_cons, List.zip_cons_cons, ih]
  unfold evM flowM
  rw [key]
  congr 1
  refine List.map_congr_left fun y _ => ?_
  rw [Int.mul_comm (n - j), Int.mul_comm j]
def sp__law_even : Sp := fun vs H Q _ => ∃ (B : Hp) (R : List (Addr × HO)) (u v : V) (f g : Fl) (n j : Int), vs = [u, v, .int n, .int j] ∧ Hs B R H ∧ R.all (fun e => noTup e.2) = true ∧ FlAt B u f ∧ FlAt B v g ∧ f.length ≤ 100 ∧ g.length ≤ 100 ∧ 0 ≤ j ∧ j ≤ n ∧ n ≤ 100 ∧ ∀ r B2 H', Same B B2 → Hs B2 R H' → FlAt B2 r (evM f g (n - j) j) → Q r H'
theorem ok__law_even (T : Txt w K mg a) : FnOk P w K mg base CX0 2 a._law_even a.fd__law_even ["flow", "other", "count", "k"] sp__law_even := by
  have G__law_by_way := ok__law_by_way (P := P) (w := w) (base := base) T
  refine T.fn__law_even.ok sc__law_even (fun vs H Q E h => ?_) (fun cdv A outer s H vs Q E hr h => ?_)
  · obtain ⟨_, _, _, _, _, _, _, _, rfl, _⟩ := h
    rfl
  · obtain ⟨B0, R, _, _, f, g, n, j, rfl, hs, hRt, ⟨l, us, rfl, hl, hrow⟩, ⟨m, vs, rfl, hm, hrow2⟩, hfl, hgl, hj0, hjn, hn1, k⟩ := h
    refine ⟨_, (pss_cons (ps_set (i := 4) sc__law_even.nd rfl (by first | exact Or.inr rfl | exact Or.inl rfl) (pe_call G__law_by_way (hr.mono (by first | decide | omega)) rfl T.mg__law_by_way T.kp__law_by_way T.bi__law_by_way .nil pass0 (pa_cons (pv 0) pa_nil)))
  (pss_cons (ps_set (i := 5) sc__law_even.nd rfl (by first | exact Or.inr rfl | exact Or.inl rfl) (pe_call G__law_by_way (hr.mono (by first | decide | omega)) rfl T.mg__law_by_way T.kp__law_by_way T.bi__law_by_way .nil pass0 (pa_cons (pv 1) pa_nil)))
  (pss_cons (ps_set (i := 6) sc__law_even.nd rfl (Or.inl rfl) (pe_lst pa_nil))
  (pss_cons (ps_for PassesOwn.never rfl (pi_listK (K := K) (pe_op op_cat (pv 0) (pv 1))) (pg_tupK (K := K) rfl (pgs_cons (pg_name (i := 7) sc__law_even.nd rfl (Or.inl rfl)) (pgs_cons (pg_name (i := 8) sc__law_even.nd rfl (Or.inl rfl)) pgs_nil)))
  (pss_one (ps_if (pt_cmpR (op_niDL (K := K) (r65 hr)) (pv 7) (pv 6) (by rfl))
  (pss_one (ps_expr (pe_bmK (K := K) PySem.F.plainAttrs_list PySem.F.slot_list_append PySem.F.type_list_append mt_append (pv 6) (pa_cons (pv 7) pa_nil))))
  pss_nil)))
  (pss_cons (ps_setLc (i := 9) (own := [("ends", 7)]) (g := (gName 7)) (tt := tYes) rfl sc__law_even.nd rfl rfl (sw_true rfl rfl rfl (by decide +kernel)) (pi_listK (K := K) (pv 6)) (blkOk_by (own := [("ends", 7)]) (N := N__law_even) (sc := defScope s__law_even) (by decide +kernel)) (fun _ _ _ _ _ => by exact (pg_name (i := 7) sc__law_even.nd rfl (by first | exact Or.inl rfl | exact Or.inr rfl))) (fun _ _ _ _ _ => pts_nil) (fun _ _ _ _ _ => by exact (pe_tup (pa_cons (pv 7) (pa_cons (pe_op op_add (pe_op op_mul (pe_nget2 (w := w) (r64 hr) (pv 4) (pe_callTy (call_tuple_ofK (K := K)) (by rfl) T.mg_tuple (by decide +kernel) (pa_cons (pv 7) pa_nil)) pe_int ⟨rfl, rfl, rfl, rfl⟩) (pe_op op_sub (pv 2) (pv 3))) (pe_op op_mul (pe_nget2 (w := w) (r64 hr) (pv 5) (pe_callTy (call_tuple_ofK (K := K)) (by rfl) T.mg_tuple (by decide +kernel) (pa_cons (pv 7) pa_nil)) pe_int ⟨rfl, rfl, rfl, rfl⟩) (pv 3))) pa_nil)))))
  (pss_one (ps_ret (pe_lc (own := [("row", 10)]) (g := (gName 10)) rfl sc__law_even.nd (pi_listK (K := K) (pv 9)) (blkOk_by (own := [("row", 10)]) (N := N__law_even) (sc := defScope s__law_even) (by decide +kernel)) (fun _ _ _ _ _ => by exact (pg_name (i := 10) sc__law_even.nd rfl (by first | exact Or.inl rfl | exact Or.inr rfl))) (fun _ _ _ _ _ => by exact pts_one (pt_cmpR op_gt (pe_ix (ix_tupK (K := K)) (pv 10) pe_int (fun _ _ => rfl)) pe_int (nomark _))) (fun _ _ _ _ _ => by exact (pv 10)))))))))), ?_⟩
    walk_at "ss"
    refine ⟨.ref l, f, rfl, ⟨l, us, rfl, hs.old hl, hrow.mono fun _ _ => PrAt.same hs.same⟩, hfl, fun d1 es1 M1 H1 s1 n1 e1 hE1 hM1 => ?_⟩
    obtain ⟨B1, sB1, hs1, g1, g2⟩ := grow hs s1 hRt
    have hd1 := g1 _ _ n1 e1
    have hE1 := hE1.mono g2
    clear hs
    walk_at "ss"
    refine ⟨.ref m, g, rfl, ⟨m, vs, rfl, hs1.old (sB1 _ _ hm), hrow2.mono fun _ _ => PrAt.same (sB1.trans hs1.same)⟩, hgl, fun d2 es2 M2 H2 s2 n2 e2 hE2 hM2 => ?_⟩
    obtain ⟨B2, sB2, hs2, g1', g2'⟩ := grow hs1 s2 hRt
    have hd2 := g1' _ _ n2 e2
    have hE2 := hE2.mono g2'
    clear hs1
    have sA := sB1.trans sB2
    have hlB := sA _ _ hl
    have hmB := sA _ _ hm
    have hd1B := sB2 _ _ hd1
    have hE1B := hE1.same sB2
    walk_at "ss"
    rename_i wy H3 hs3
    clear hs2
    refine w_forS ?_
    have hl3 : H3 l = some (.lst us) := hs3.old hlB
    have hm3 : H3 m = some (.lst vs) := hs3.old hmB
    have hlu := hrow.1
    have hlv := hrow2.1
    walk_at "ss"
    rename_i bd H4 hs3'
    obtain ⟨B3, s3, hbd, hs4⟩ := frz_hs hs3'
    clear hs3'
    clear hs3
    have hrB : Row (PrAt B3) (us ++ vs) (f ++ g) := (hrow.mono fun _ _ => PrAt.same (sA.trans s3)).app (hrow2.mono fun _ _ => PrAt.same (sA.trans s3))
    refine w_forL (SqL.of (hs4.old hbd)) (fun i σ H' => ∃ (B : Hp) (acc : List V) (v7 v8 : Option V), σ = [some (.ref l), some (.ref m), some (.int n), some (.int j), some (.ref d1), some (.ref d2), some (.ref wy), v7, v8, none, none] ∧ Same B3 B ∧ Hs B ((wy, .lst acc) :: R) H' ∧ Row (WyAt B) acc (wysA [] (((f ++ g).map (·.1)).take i))) (fun Q q => q)
      ⟨B3, [], none, none, rfl, Same.refl _, hs4, Row.nil⟩ (fun i σ H' _ ⟨B, _, _, _, _, sm, h, _⟩ => SqL.of (h.old (sm _ _ hbd))) ?_ ?_
    · clear hs4
      rintro i u σ H' hu ⟨B, acc, v7, v8, rfl, sm, hs, hacc⟩
      obtain ⟨⟨y, z⟩, hx, p, q, rfl, hp, hq⟩ := hrB.get hu
      have hp' : B p = some (.tup [q, .int z]) := sm _ _ hp
      have hqB : WyAt B q y := hq.same sm
      have hxi : ((f ++ g).map (·.1))[i]? = some y := by
        rw [List.getElem?_map, hx]
        rfl
      walk_at "ss"
      refine ⟨_, _, wy_dp (hqB.same hs.same), .lst (SqL.of hs.g0) ((hacc.mono fun _ _ => WyAt.same hs.same).dpAll (d := dWy) fun _ _ h => wy_dp h), shp_of (lay_wy y) (by decide), shp_of (n := 3) (lay_list fun d hd => ?_) (by decide), ?_⟩
      · obtain ⟨z, _, rfl⟩ := List.mem_map.mp hd
        exact lay_wy z
      rw [any_wy]
      have hstep := wysA_take hxi []
      have hal : acc.length ≤ 200 := by
        have h1 := wysA_len (((f ++ g).map (·.1)).take i) []
        rw [List.length_take, List.length_map, List.length_append] at h1
        have := hacc.1
        rw [List.length_nil] at h1
        omega
      by_cases c : y ∈ wysA [] (((f ++ g).map (·.1)).take i)
      · rw [if_pos c] at hstep
        simp only [if_true, decide_eq_true c, Bool.not_true]
        refine ⟨_, rfl, ?_⟩
        refine iteF ?_
        walk_at "ss"
        exact ⟨B, acc, _, _, rfl, sm, hs, by rw [hstep]; exact hacc⟩
      · rw [if_neg c] at hstep
        simp only [if_true, decide_eq_false c, Bool.not_false]
        refine ⟨_, rfl, ?_⟩
        refine iteT ?_
        walk_at "ss"
        rename_i H5 hs5
        exact ⟨B, _, _, _, rfl, sm, hs5, by rw [hstep]; exact hacc.snoc hqB⟩
    · clear hs4
      rintro σ H' ⟨B, acc, v7, v8, rfl, sm, hs, hacc⟩
      rw [hrB.1, List.take_of_length_le (by rw [List.length_map]; exact Nat.le_refl _)] at hacc
      have hwl : (wysM f g).length ≤ 200 := by
        have := wysA_len ((f ++ g).map (·.1)) []
        rw [List.length_map, List.length_append, List.length_nil] at this
        show (wysA _ _).length ≤ _
        omega
      obtain ⟨B4, s4, hwy, hs2⟩ := frz_hs hs
      clear hs
      have sB4 := s3.trans (sm.trans s4)
      have hd1' := sB4 _ _ hd1B
      have hd2' := sB4 _ _ hd2
      have hE1' := hE1B.same sB4
      have hE2' := hE2.same sB4
      have hwr : Row (WyAt B4) acc (wysM f g) := hacc.mono fun _ _ => WyAt.same s4
      walk_at "ss"
      refine w_lc (SqL.of (hs2.old hwy)) (fun D i H2 => ∃ (B : Hp) (acc2 : List V), Same B4 B ∧ Hs B ((D, .lst acc2) :: R) H2 ∧ Row (PrAt B) acc2 ((((wysM f g).map fun y => (y, amtM f y * (n - j) + amtM g y * j)).take i))) (fun Q q => ⟨_, rfl, q⟩)
        (fun D hD => ⟨B4, [], Same.refl _, hs2.new hD, Row.nil⟩) (fun D i H2 _ ⟨B, _, sm, h, _⟩ => SqL.of (h.old (sm _ _ hwy))) ?_ ?_
      · clear hs2
        rintro D i u H2 hu ⟨B5, acc2, s5, hs, hacc2⟩
        obtain ⟨y, hy, hyw⟩ := hwr.get hu
        obtain ⟨q, ws, rfl, hq, hw⟩ := hyw.same s5
        have hi : i < 200 := by
          have := (List.getElem?_eq_some_iff.mp hy).1
          omega
        have hal : acc2.length ≤ 200 := by
          have := hacc2.1
          rw [List.length_take] at this
          omega
        have hd15 := s5 _ _ hd1'
        have hd25 := s5 _ _ hd2'
        walk_at "ss"
        refine ⟨rfl, ?_⟩
        walk_at "ss"
        try (with_reducible refine iteT ?_)
        walk_at "ss"
        refine ⟨q, ws, rfl, .inl ⟨SqL.of (hs.old hq), fun t1 ht1 => ?_⟩⟩
        obtain ⟨B6, s6, ht1B, hs3⟩ := frz_hs (hs.new (o := .tup ws) ht1)
        generalize upd H2 t1 (.tup ws) = H5 at hs3 ⊢
        clear hs
        walk_at "ss"
        refine wg_def hs3 (hs3.old (s6 _ _ hd15)) (hE1'.same (s5.trans s6)) (kat_wy (hs3.old ht1B) (hw.mono fun _ _ => EnAt.same (s6.trans hs3.same))) ?_
        rw [hM1 y]
        walk_at "ss"
        refine w_isND (hs3.old (s6 _ _ hd25)) ?_
        walk_at "ss"
        refine ⟨q, ws, rfl, .inl ⟨SqL.of (hs3.old (s6 _ _ hq)), fun t2 ht2 => ?_⟩⟩
        obtain ⟨B7, s7, ht2B, hs4⟩ := frz_hs (hs3.new (o := .tup ws) ht2)
        generalize upd H5 t2 (.tup ws) = H6 at hs4 ⊢
        clear hs3
        have s57 := s5.trans (s6.trans s7)
        walk_at "ss"
        refine wg_def hs4 (hs4.old (s57 _ _ hd2')) (hE2'.same s57) (kat_wy (hs4.old ht2B) (hw.mono fun _ _ => EnAt.same ((s6.trans s7).trans hs4.same))) ?_
        rw [hM2 y]
        walk_at "ss"
        rename_i tp H7 hs5
        obtain ⟨B8, s8, htp, hs6⟩ := frz_hs hs5
        refine ⟨acc2, hs6.g0, szl (by omega), B8, _, s57.trans s8, hs6.p0 _, ?_⟩
        rw [List.take_add_one, List.getElem?_map, hy]
        exact (hacc2.mono fun _ _ => PrAt.same ((s6.trans s7).trans s8)).snoc ⟨tp, .ref q, rfl, htp, q, ws, rfl, s8 _ _ (s7 _ _ (s6 _ _ hq)), hw.mono fun _ _ => EnAt.same ((s6.trans s7).trans s8)⟩
      · clear hs2
        rintro D H2 ⟨B5, acc2, s5, hs, hacc2⟩
        rw [hacc.1, List.take_of_length_le (by rw [List.length_map]; exact Nat.le_refl _)] at hacc2
        obtain ⟨B6, s6, hD, hs3⟩ := frz_hs hs
        have hr6 : Row (PrAt B6) acc2 ((wysM f g).map fun y => (y, amtM f y * (n - j) + amtM g y * j)) := hacc2.mono fun _ _ => PrAt.same s6
        walk_at "ss"
        refine w_lc (SqL.of (hs3.old hD)) (fun D2 i H3 => ∃ acc3 : List V, Hs B6 ((D2, .lst acc3) :: R) H3 ∧ Row (PrAt B6) acc3 ((((wysM f g).map fun y => (y, amtM f y * (n - j) + amtM g y * j)).take i).filter fun x => decide (0 < x.2))) (fun Q q => ⟨_, rfl, q⟩)
          (fun D2 hD2 => ⟨[], hs3.new hD2, Row.nil⟩) (fun D2 i H3 _ ⟨_, h, _⟩ => SqL.of (h.old hD)) ?_ ?_
        · clear hs3
          rintro D2 i u H3 hu ⟨acc3, hs, hacc3⟩
          obtain ⟨⟨y, z⟩, hy, p, x, rfl, hp, hxw⟩ := hr6.get hu
          have hp' : B6 p = some (.tup [x, .int z]) := hp
          have hi : i < 200 := by
            have := (List.getElem?_eq_some_iff.mp hy).1
            rw [List.length_map] at this
            omega
          have hal : acc3.length ≤ 200 := by
            have h1 := hacc3.1
            have h2 := List.length_filter_le (fun x : Wy × Int => decide (0 < x.2)) ((((wysM f g).map fun y => (y, amtM f y * (n - j) + amtM g y * j)).take i))
            rw [List.length_take] at h2
            omega
          have htk : (((wysM f g).map fun y => (y, amtM f y * (n - j) + amtM g y * j)).take (i + 1)).filter (fun x => decide (0 < x.2)) = (((wysM f g).map fun y => (y, amtM f y * (n - j) + amtM g y * j)).take i).filter (fun x => decide (0 < x.2)) ++ if 0 < z then [(y, z)] else [] := by
            rw [List.take_add_one, hy, List.filter_append]
            congr 1
            show List.filter _ [(y, z)] = _
            by_cases c : 0 < z
            · rw [if_pos c, List.filter_cons_of_pos (by exact decide_eq_true c)]
              rfl
            · rw [if_neg c, List.filter_cons_of_neg (by rw [decide_eq_false c]; exact Bool.false_ne_true)]
              rfl
          refine ⟨rfl, ?_⟩
          walk_at "ss"
          refine ifd (fun c => ?_) (fun c => ?_)
          · have c : 0 < z := c
            rw [if_pos c] at htk
            walk_at "ss"
            refine ⟨_, hs.g0, szl (by omega), _, hs.p0 _, ?_⟩
            rw [htk]
            exact hacc3.snoc ⟨p, x, rfl, hp, hxw⟩
          · have c : ¬ 0 < z := c
            rw [if_neg c, List.append_nil] at htk
            refine ⟨acc3, hs, ?_⟩
            rw [htk]
            exact hacc3
        · clear hs3
          rintro D2 H3 ⟨acc3, hs, hacc3⟩
          rw [hr6.1, List.take_of_length_le (by rw [List.length_map]; exact Nat.le_refl _)] at hacc3
          obtain ⟨B7, s7, hD2, hs4⟩ := frz_hs hs
          refine k _ B7 H3 (sA.trans (sB4.trans (s5.trans (s6.trans s7)))) hs4 ?_
          rw [evM_eq]
          exact ⟨D2, acc3, rfl, hD2, hacc3.mono fun _ _ => PrAt.same s7⟩
end
local macro_rules | `(tactic| walk_at "v") => `(tactic| first | exact v0 | exact v1 | exact v2 | exact v3 | exact v4 | exact v5 | exact v6 | exact v7 | exact v8)
local macro_rules | `(tactic| walk_at "vs") => `(tactic| first | exact st0 | exact st1 | exact st2 | exact st3 | exact st4 | exact st5 | exact st6 | exact st7 | exact st8)
local macro_rules | `(tactic| walk_at "s") => `(tactic| first
  | with_reducible refine w_dget ?_
  | ((with_reducible refine' w_dgetZ ?h ?nd ?hk ?hv ?_); (case h => walk_at "g"); (case nd => walk_at "nd"); (case hk => walk_at "k"); (case hv => walk_at "v"))
  | ((with_reducible refine' w_dputZ ?hs ?h ?nd ?hk ?hv ?hu ?hl ?_); (case hs => assumption); (case h => walk_at "p"); (case nd => walk_at "nd"); (case hk => walk_at "k"); (case hv => walk_at "v"); (case hu => walk_at "vs"); (case hl => decide); intro _ _)
  | with_reducible refine w_gsub ?_
  | with_reducible refine w_setD ?_
  | with_reducible refine w_disp ?_
  | ((with_reducible refine' w_newP ?hs ?_); (case hs => assumption); intro _ _ _)
  | with_reducible refine w_pcons ?_
  | with_reducible refine w_pnil ?_)

local macro_rules | `(tactic| walk_at "s") => `(tactic| first
  | with_reducible refine w_nget ?_
  | with_reducible refine w_nin ?_
  | with_reducible refine w_nnot ?_
  | with_reducible refine w_nput ?_
  | with_reducible refine w_ndel ?_
  | with_reducible refine w_npop ?_
  | ((with_reducible refine' w_nnew ?hs ?_); (case hs => assumption); intro _ _ _))

local macro_rules | `(tactic| walk_at "s") => `(tactic| first
  | with_reducible refine w_ninF ?_
  | with_reducible refine w_nsetd ?_
  | with_reducible refine w_ckw ?_)

local macro_rules | `(tactic| walk_at "s") => `(tactic| first
  | with_reducible refine w_ngetF ?_
  | with_reducible refine w_nnotF ?_
  | with_reducible refine w_naug ?_)

local macro_rules | `(tactic| walk_at "s") => `(tactic| first
  | with_reducible refine w_m0 ?_
  | with_reducible refine w_m1 ?_
  | with_reducible refine w_m0b ?_
  | with_reducible refine w_m1b ?_
  | with_reducible refine w_kget ?_
  | with_reducible refine w_nS ?_)

local macro_rules | `(tactic| walk_at "s") => `(tactic| first
  | with_reducible refine w_ng2 ?_
  | with_reducible refine w_ng1 ?_
  | ((with_reducible refine' w_isND ?h ?_); (case h => walk_at "g"))
  | with_reducible refine w_listZip ?_)

section
variable {P : Program} [IsP P] {w : World} {K : PySem.W.Frag} {mg : Str → Option Value} {base : Heap} {a : Ad}
/-! ## the mathematics of even steps -/
theorem map_add (ws : List Wy) (h g : Wy → Int) : (ws.map fun y => h y + g y).sum = (ws.map h).sum + (ws.map g).sum := by
  induction ws with
  | nil => rfl
  | cons y ws ih =>
    rw [List.map_cons, List.map_cons, List.map_cons, List.sum_cons, List.sum_cons, List.sum_cons, ih]
    omega
theorem map_mul (ws : List Wy) (c : Int) (h : Wy → Int) : (ws.map fun y => c * h y).sum = c * (ws.map h).sum := by
  induction ws with
  | nil => rw [List.map_nil, List.map_nil, List.sum_nil, Int.mul_zero]
  | cons y ws ih =>
    rw [List.map_cons, List.map_cons, List.sum_cons, List.sum_cons, ih, Int.mul_add]
theorem sum_zero (ws : List Wy) (h : Wy → Int) (z : ∀ y ∈ ws, h y = 0) : (ws.map h).sum = 0 := by
  induction ws with
  | nil => rfl
  | cons y ws ih =>
    rw [List.map_cons, List.sum_cons, z y List.mem_cons_self, ih fun x hx => z x (List.mem_cons_of_mem _ hx)]
    rfl
theorem sum_one (c : Int) (x : Wy) (e : En) : ∀ (ws : List Wy), ws.Nodup → x ∈ ws → (ws.map fun y => if e ∈ y then (if x = y then c else 0) else 0).sum = if e ∈ x then c else 0
  | [], _, h => nomatch h
  | y :: ws, nd, h => by
    rw [List.nodup_cons] at nd
    rw [List.map_cons, List.sum_cons]
    by_cases q : x = y
    · rw [sum_zero ws _ fun z hz => ?_, if_pos q, Int.add_zero, q]
      have : x ≠ z := fun w => nd.1 (by rw [← q, w]; exact hz)
      rw [if_neg this]
      split <;> rfl
    · rw [sum_one c x e ws nd.2 ((List.mem_cons.mp h).resolve_left q), if_neg q]
      split <;> rw [Int.zero_add]
theorem amt_cons (x : Wy × Int) (f : Fl) (y : Wy) : amtM (x :: f) y = (if x.1 = y then x.2 else 0) + amtM f y := by
  unfold amtM
  rw [List.map_cons, List.sum_cons]
theorem sum_ways (e : En) (ws : List Wy) (nd : ws.Nodup) : ∀ (f : Fl), (∀ x ∈ f, x.1 ∈ ws) → (ws.map fun y => if e ∈ y then amtM f y else 0).sum = ld f e
  | [], _ => sum_zero _ _ fun y _ => by
    show (if e ∈ y then 0 else 0) = 0
    split <;> rfl
  | x :: f, h => by
    have ih := sum_ways e ws nd f fun z hz => h z (List.mem_cons_of_mem _ hz)
    have e1 : (fun y => if e ∈ y then amtM (x :: f) y else 0) = fun y => (if e ∈ y then (if x.1 = y then x.2 else 0) else 0) + (if e ∈ y then amtM f y else 0) := by
      funext y
      rw [amt_cons]
      split
      · rfl
      · rfl
    rw [e1, map_add, ih, sum_one x.2 x.1 e ws nd (h x List.mem_cons_self)]
    show _ = (on x e :: (f.map fun x => on x e)).sum
    rw [List.sum_cons]
    rfl
theorem amt_nn {f : Fl} (h : ∀ x ∈ f, 0 < x.2) (y : Wy) : 0 ≤ amtM f y := sum_nn fun z hz => by
  obtain ⟨x, hx, rfl⟩ := List.mem_map.mp hz
  have := h x hx
  split <;> omega
theorem ld_filter (e : En) (h : Wy → Int) : ∀ (ws : List Wy), (∀ y ∈ ws, 0 ≤ h y) → ld (((ws.map fun y => (y, h y)).filter fun x => decide (0 < x.2))) e = (ws.map fun y => if e ∈ y then h y else 0).sum
  | [], _ => rfl
  | y :: ws, hn => by
    have ih := ld_filter e h ws fun z hz => hn z (List.mem_cons_of_mem _ hz)
    have h0 := hn y List.mem_cons_self
    rw [List.map_cons, List.map_cons, List.sum_cons]
    by_cases c : 0 < h y
    · rw [List.filter_cons_of_pos (by exact decide_eq_true c)]
      show ((if e ∈ y then h y else 0) :: ((((ws.map fun y => (y, h y)).filter fun x => decide (0 < x.2))).map fun x => on x e)).sum = _
      rw [List.sum_cons]
      exact congrArg _ ih
    · rw [List.filter_cons_of_neg (by rw [decide_eq_false c]; exact Bool.false_ne_true), ih]
      have : h y = 0 := by omega
      rw [this]
      split <;> rw [Int.zero_add]
theorem zip_map (ws : List Wy) (h : Wy → Int) : ws.zip (ws.map h) = ws.map fun y => (y, h y) := by
  induction ws with
  | nil => rfl
  | cons y ws ih => rw [List.map_cons, List.map_cons, List.zip_cons_cons, ih]
theorem ld_ev {f g : Fl} (hf : ∀ x ∈ f, 0 < x.2) (hg : ∀ x ∈ g, 0 < x.2) {p q : Int} (hp : 0 ≤ p) (hq : 0 ≤ q) (e : En) : ld (evM f g p q) e = p * ld f e + q * ld g e := by
  have nd : (wysM f g).Nodup := wysA_nd _ _ .nil
  have mem : ∀ x ∈ f ++ g, x.1 ∈ wysM f g := fun x hx => (wysA_mem _ _ _).mpr (.inr (List.mem_map_of_mem hx))
  unfold evM flowM
  rw [zip_map, ld_filter e _ _ fun y _ => ?_]
  · have e1 : (fun y => if e ∈ y then p * amtM f y + q * amtM g y else 0) = fun y => p * (if e ∈ y then amtM f y else 0) + q * (if e ∈ y then amtM g y else 0) := by
      funext y
      split
      · rfl
      · rw [Int.mul_zero, Int.mul_zero]
        rfl
    rw [e1, map_add, map_mul, map_mul, sum_ways e _ nd f fun x hx => mem x (List.mem_append_left _ hx), sum_ways e _ nd g fun x hx => mem x (List.mem_append_right _ hx)]
  · have h1 := Int.mul_nonneg hp (amt_nn hf y)
    have h2 := Int.mul_nonneg hq (amt_nn hg y)
    omega
theorem mx_ev (e : En) {p q : Int} (hp : 1 ≤ p) (hq : 0 ≤ q) : ∀ {fs gs : List Fl}, (∀ f ∈ fs, FlOk f) → (∀ f ∈ gs, FlOk f) → fs.length = gs.length → mxs (evS fs gs p q) (evS fs gs (p - 1) (q + 1)) e ≤ p * lds fs e + (q + 1) * lds gs e
  | [], [], _, _, _ => by
    show 0 ≤ p * 0 + (q + 1) * 0
    omega
  | f :: fs, g :: gs, hf, hg, h => by
    have ih := mx_ev e hp hq (fs := fs) (gs := gs) (fun x hx => hf x (List.mem_cons_of_mem _ hx)) (fun x hx => hg x (List.mem_cons_of_mem _ hx)) (Nat.succ.inj h)
    have of := hf f List.mem_cons_self
    have og := hg g List.mem_cons_self
    show max (ld (evM f g p q) e) (ld (evM f g (p - 1) (q + 1)) e) + mxs (evS fs gs p q) (evS fs gs (p - 1) (q + 1)) e ≤ p * (ld f e + lds fs e) + (q + 1) * (ld g e + lds gs e)
    rw [ld_ev (fun x hx => (of.2 x hx).2) (fun x hx => (og.2 x hx).2) (by omega) hq, ld_ev (fun x hx => (of.2 x hx).2) (fun x hx => (og.2 x hx).2) (by omega) (by omega)]
    have n1 := ld_nn of e
    have n2 := ld_nn og e
    rw [Int.mul_add, Int.mul_add, Int.sub_mul, Int.one_mul, Int.add_mul, Int.one_mul, Int.add_mul, Int.one_mul]
    rw [Int.add_mul, Int.one_mul] at ih
    generalize p * ld f e = A1 at *
    generalize q * ld g e = A2 at *
    generalize p * lds fs e = A3 at *
    generalize q * lds gs e = A4 at *
    omega
  | [], _ :: _, _, _, h => nomatch h
  | _ :: _, [], _, _, h => nomatch h
theorem ev_ok {f g : Fl} (hf : FlOk f) (hg : FlOk g) (hz : f.length + g.length ≤ 100) (p q : Int) : FlOk (evM f g p q) := by
  unfold evM flowM
  rw [zip_map]
  have hl := wysA_len ((f ++ g).map (·.1)) []
  rw [List.length_map, List.length_append, List.length_nil] at hl
  constructor
  · refine Nat.le_trans (List.length_filter_le _ _) ?_
    rw [List.length_map]
    show (wysA _ _).length ≤ _
    omega
  · intro x hx
    obtain ⟨h1, h2⟩ := List.mem_filter.mp hx
    obtain ⟨y, hy, rfl⟩ := List.mem_map.mp h1
    refine ⟨?_, of_decide_eq_true h2⟩
    rcases (wysA_mem _ _ _).mp hy with hy | hy
    · cases hy
    · obtain ⟨z, hz, rfl⟩ := List.mem_map.mp hy
      rcases List.mem_append.mp hz with hz | hz
      · exact (hf.2 z hz).1
      · exact (hg.2 z hz).1
theorem evS_len (fs gs : List Fl) (p q : Int) (h : fs.length = gs.length) : (evS fs gs p q).length = fs.length := by
  unfold evS
  rw [List.length_zipWith]
  omega
theorem evS_ok {fs gs : List Fl} {n : Nat} (hf : LsOk fs n) (hg : LsOk gs n) (hn : n ≤ 100) (p q : Int) : FsOk (evS fs gs p q) := by
  constructor
  · unfold evS
    rw [List.length_zipWith]
    have := hf.1
    omega
  · intro x hx
    unfold evS at hx
    obtain ⟨i, hi, rfl⟩ := List.mem_iff_getElem.mp hx
    rw [List.length_zipWith] at hi
    rw [List.getElem_zipWith]
    have o1 := hf.2 fs[i] (List.getElem_mem _)
    have o2 := hg.2 gs[i] (List.getElem_mem _)
    exact ev_ok o1.fl o2.fl (by have := o1.1; have := o2.1; omega) p q
/-- rooms wide enough -/
theorem wide_fit {W : EM} {fs gs : List Fl} {n k m : Nat} (hf : LsOk fs m) (hg : LsOk gs m) (hm : m ≤ 100) (hlen : fs.length = gs.length) (hk : k < n)
    (hW : ∀ e ∈ E4, (max (lds fs e) (lds gs e)) * ((n : Int) + 1) ≤ eG W e * (n : Int)) : fitB (W.map fun x => (x.1, x.2 * (n : Int))) (mxs (evS fs gs ((n : Int) - (k : Int)) (k : Int)) (evS fs gs ((n : Int) - ((k + 1 : Nat) : Int)) ((k + 1 : Nat) : Int))) = true := by
  refine decide_eq_true fun e he => ?_
  have h1 := mx_ev e (p := (n : Int) - (k : Int)) (q := (k : Int)) (by omega) (by omega) (fun f hx => (hf.2 f hx).fl) (fun f hx => (hg.2 f hx).fl) hlen
  have e1 : (n : Int) - (k : Int) - 1 = (n : Int) - ((k + 1 : Nat) : Int) := by omega
  have e2 : (k : Int) + 1 = ((k + 1 : Nat) : Int) := by omega
  rw [e1, e2] at h1
  refine Int.le_trans h1 ?_
  have e3 : eG (W.map fun x => (x.1, x.2 * (n : Int))) e = eG W e * (n : Int) := by
    unfold eG
    clear h1 hW
    induction W with
    | nil => exact (Int.zero_mul _).symm
    | cons x W ih =>
      rw [List.map_cons, eL_cons, eL_cons]
      by_cases c : x.1 = e
      · rw [if_pos c, if_pos c]
        rfl
      · rw [if_neg c, if_neg c]
        exact ih
  rw [e3]
  refine Int.le_trans ?_ (hW e he)
  have f1 : lds fs e ≤ max (lds fs e) (lds gs e) := Int.le_max_left _ _
  have f2 : lds gs e ≤ max (lds fs e) (lds gs e) := Int.le_max_right _ _
  have n1 : 0 ≤ lds fs e := lds_nn (hf.fs hm) e
  have g1 := Int.mul_le_mul_of_nonneg_left f1 (show 0 ≤ (n : Int) - (k : Int) by omega)
  have g2 := Int.mul_le_mul_of_nonneg_left f2 (show 0 ≤ ((k + 1 : Nat) : Int) by omega)
  have g3 : ((n : Int) - (k : Int)) * max (lds fs e) (lds gs e) + ((k + 1 : Nat) : Int) * max (lds fs e) (lds gs e) = max (lds fs e) (lds gs e) * ((n : Int) + 1) := by
    rw [← Int.add_mul, Int.mul_comm]
    congr 1
    omega
  omega
/-! ## what repr shows -/
theorem sh_en {e : En} (h : e ∈ E4) : Sh 1 2 (dEn e) := by
  have hb : IB e.1 ∧ IB e.2 := by
    have : ∀ e ∈ E4, (0 ≤ e.1 ∧ e.1 ≤ 100) ∧ 0 ≤ e.2 ∧ e.2 ≤ 100 := by decide
    exact this e h
  have := Sh.ints (ns := [e.1, e.2]) fun x hx => by
    rcases List.mem_cons.mp hx with rfl | hx
    · exact hb.1
    · rw [List.mem_singleton.mp hx]
      exact hb.2
  exact this
theorem WyOk.len {y : Wy} (h : WyOk y) : y.length ≤ 4 := h.2.length_le_of_subset (l₂ := E4) fun x hx => h.1 x hx
theorem sh_wy {y : Wy} (h : WyOk y) : Sh 2 12 (dWy y) := by
  refine (Sh.lst (ShA.all (D := 1) (b := 2) (xs := y.map dEn) fun d hd => ?_)).mono (Nat.le_refl _) ?_
  · obtain ⟨e, he, rfl⟩ := List.mem_map.mp hd
    exact sh_en (h.1 e he)
  · rw [List.length_map]
    have := h.len
    omega
theorem sh_pr {x : Wy × Int} (h : WyOk x.1) (h0 : 0 < x.2) (h4 : x.2 ≤ 4) : Sh 3 14 (dPr x) :=
  (Sh.tup (ShA.cons (sh_wy h) (ShA.cons ((Sh.int (n := x.2) ⟨by omega, by omega⟩).mono (by decide) (Nat.le_refl _)) (ShA.nil (b := 0))))).mono (by decide) (by decide)
theorem sh_fl {f : Fl} (h : LfOk f) : Sh 4 60 (dFl f) := by
  refine (Sh.lst (ShA.all (D := 3) (b := 14) (xs := f.map dPr) fun d hd => ?_)).mono (Nat.le_refl _) ?_
  · obtain ⟨x, hx, rfl⟩ := List.mem_map.mp hd
    exact sh_pr (h.2 x hx).1 (h.2 x hx).2.1 (h.2 x hx).2.2
  · rw [List.length_map]
    have := h.1
    omega
theorem sh_fs {fs : List Fl} (h : LsOk fs 6) : Sh 50 400 (dFs fs) := by
  refine (Sh.lst (ShA.all (D := 4) (b := 60) (xs := fs.map dFl) fun d hd => ?_)).mono (by decide) ?_
  · obtain ⟨x, hx, rfl⟩ := List.mem_map.mp hd
    exact sh_fl (h.2 x hx)
  · rw [List.length_map]
    have := h.1
    omega
end
local macro_rules | `(tactic| walk_at "v") => `(tactic| first | exact v0 | exact v1 | exact v2 | exact v3 | exact v4 | exact v5 | exact v6 | exact v7 | exact v8)
local macro_rules | `(tactic| walk_at "vs") => `(tactic| first | exact st0 | exact st1 | exact st2 | exact st3 | exact st4 | exact st5 | exact st6 | exact st7 | exact st8)
local macro_rules | `(tactic| walk_at "s") => `(tactic| first
  | with_reducible refine w_dget ?_
  | ((with_reducible refine' w_dgetZ ?h ?nd ?hk ?hv ?_); (case h => walk_at "g"); (case nd => walk_at "nd"); (case hk => walk_at "k"); (case hv => walk_at "v"))
  | ((with_reducible refine' w_dputZ ?hs ?h ?nd ?hk ?hv ?hu ?hl ?_); (case hs => assumption); (case h => walk_at "p"); (case nd => walk_at "nd"); (case hk => walk_at "k"); (case hv => walk_at "v"); (case hu => walk_at "vs"); (case hl => decide); intro _ _)
  | with_reducible refine w_gsub ?_
  | with_reducible refine w_setD ?_
  | with_reducible refine w_disp ?_
  | ((with_reducible refine' w_newP ?hs ?_); (case hs => assumption); intro _ _ _)
  | with_reducible refine w_pcons ?_
  | with_reducible refine w_pnil ?_)

local macro_rules | `(tactic| walk_at "s") => `(tactic| first
  | with_reducible refine w_nget ?_
  | with_reducible refine w_nin ?_
  | with_reducible refine w_nnot ?_
  | with_reducible refine w_nput ?_
  | with_reducible refine w_ndel ?_
  | with_reducible refine w_npop ?_
  | ((with_reducible refine' w_nnew ?hs ?_); (case hs => assumption); intro _ _ _))

local macro_rules | `(tactic| walk_at "s") => `(tactic| first
  | with_reducible refine w_ninF ?_
  | with_reducible refine w_nsetd ?_
  | with_reducible refine w_ckw ?_)

local macro_rules | `(tactic| walk_at "s") => `(tactic| first
  | with_reducible refine w_ngetF ?_
  | with_reducible refine w_nnotF ?_
  | with_reducible refine w_naug ?_)

local macro_rules | `(tactic| walk_at "s") => `(tactic| first
  | with_reducible refine w_m0 ?_
  | with_reducible refine w_m1 ?_
  | with_reducible refine w_m0b ?_
  | with_reducible refine w_m1b ?_
  | with_reducible refine w_kget ?_
  | with_reducible refine w_nS ?_)

local macro_rules | `(tactic| walk_at "s") => `(tactic| first
  | with_reducible refine w_ng2 ?_
  | with_reducible refine w_ng1 ?_
  | ((with_reducible refine' w_isND ?h ?_); (case h => walk_at "g"))
  | with_reducible refine w_listZip ?_)

section
variable {P : Program} [IsP P] {w : World} {K : PySem.W.Frag} {mg : Str → Option Value} {base : Heap} {a : Ad}
/-! ## the law -/
theorem cut_one (x : V) (xs : List V) : cutV (x :: xs) none (some 1) = [x] := by
  unfold cutV
  simp [HT.sIx]
theorem w_neLd {w : World} {H : Hp} {Q : VK} {x y : V} {M N : EM} {f : En → Int} (h1 : LdAt w H x M) (h2 : LdAt w H y N) (a : Ls M f) (b : Ls N f) (q : Q (.bl false) H) : rNeND w x y H Q := by
  obtain ⟨d, es, rfl, hd, hE⟩ := h1
  obtain ⟨e, fs, rfl, he, hF⟩ := h2
  exact ⟨d, e, es, fs, gmI M, gmI N, rfl, rfl, hd, he, hE, hF, by rw [gmI_len, gmI_len]; exact a.len b, a.like b, q⟩
def dTl (ts : List (List Fl)) : PyData := .list (ts.map dFs)
theorem tl_dp {H : Hp} {v : V} {ts : List (List Fl)} (h : TlAt H v ts) : Dp K H v (dTl ts) := by
  obtain ⟨p, us, rfl, h, r⟩ := h
  exact .lst (SqL.of h) (r.dpAll (d := dFs) fun _ _ h => fs_dp h)
theorem lay_tl (f : List (List Fl)) : (dTl f).canLay0 = true ∧ (dTl f).depth ≤ 6 := lay_list fun d hd => by
  obtain ⟨e, _, rfl⟩ := List.mem_map.mp hd
  exact lay_fs e
def txt (fs gs : List Fl) (R : EM) : Str := (PyData.list [dFs fs, dFs gs, .dict (kvI R)]).shown
theorem w_repr {w : World} {B H : Hp} {Q : VK} {L : List (Addr × HO)} {l p q rd : Addr} {fs gs : List Fl} {res : List Ent} {R : EM} (hs : Hs B ((l, .lst [.ref p, .ref q, .ref rd]) :: L) H) (h1 : FsAt B (.ref p) fs) (h2 : FsAt B (.ref q) gs) (o1 : LsOk fs 6) (o2 : LsOk gs 6) (hd : B rd = some (DN w rd res)) (hE : EntG B res (gmI R)) (hR : Rm R) (h9 : ∀ x ∈ R, x.2 ≤ 9) (k : Q (.str (txt fs gs R)) H) : rReprR K w [.ref l] H Q := by
  refine ⟨l, rd, .ref p, .ref q, dFs fs, dFs gs, 400, 400, res, R, rfl, hs.g0, fs_dp (h1.same hs.same), fs_dp (h2.same hs.same), sh_fs o1, sh_fs o2, hs.old hd, hE.same hs.same, fun e he => ?_, Nat.le_trans hR.rm.len (by decide), by decide, by decide, k⟩
  have h4 := hR.rm.e4 e he
  have hb : IB e.1.1 ∧ IB e.1.2 := by
    have : ∀ e ∈ E4, (0 ≤ e.1 ∧ e.1 ≤ 100) ∧ 0 ≤ e.2 ∧ e.2 ≤ 100 := by decide
    exact this e.1 h4
  exact ⟨hb.1, hb.2, hR.nn e he, Int.le_trans (h9 e he) (by decide)⟩
theorem val_ok (n mx : Int) (b : Bool) (hn : 1 ≤ n) (hm : 0 ≤ mx) : 0 ≤ (mx * (n + 1) + n - 1) / n + (if b = true then 1 else 0) ∧ mx * (n + 1) ≤ ((mx * (n + 1) + n - 1) / n + (if b = true then 1 else 0)) * n := by
  have hL : 0 ≤ mx * (n + 1) := Int.mul_nonneg hm (by omega)
  generalize mx * (n + 1) = L at hL
  have h1 := Int.emod_add_mul_ediv (L + n - 1) n
  have h2 := Int.emod_lt_of_pos (L + n - 1) (show 0 < n by omega)
  have h3 : 0 ≤ (L + n - 1) / n := Int.ediv_nonneg (by omega) (by omega)
  have h4 : 0 ≤ (L + n - 1) % n := Int.emod_nonneg _ (by omega)
  have h5 : L ≤ (L + n - 1) / n * n := by
    rw [Int.mul_comm]
    omega
  cases b with
  | false => exact ⟨by simpa using h3, by simpa using h5⟩
  | true =>
    refine ⟨by simp; omega, ?_⟩
    simp only [if_true]
    rw [Int.add_mul, Int.one_mul]
    omega
def sp_law (K : PySem.W.Frag) : Sp := fun vs H Q _ => ∃ (x : Addr) (ns : List Int), vs = [.ref x] ∧ SqL K H x (ns.map V.int) ∧ ns.length ≤ 63 ∧ ∀ H', Q (.bl true) H'
theorem ok_law (T : Txt w K mg a) : LawRun P w K mg base 20 a.law a.fd_law ["script"] (sp_law K) := by
  have G__law_state := ok__law_state (P := P) (w := w) (base := base) T
  have G__law_draw := ok__law_draw (P := P) (w := w) (base := base) T
  have G__law_flows := ok__law_flows (P := P) (base := base) T
  have G__law_rooms := ok__law_rooms (P := P) (w := w) (base := base) T
  have G_loads := ok_loads (P := P) (w := w) (base := base) T
  have G__law_all := ok__law_all (P := P) (w := w) (base := base) T
  have G_load_of := ok_load_of (P := P) (w := w) (base := base) T
  have G_greatest_loads := ok_greatest_loads (P := P) (w := w) (base := base) T
  have G__law_greatest := ok__law_greatest (P := P) (w := w) (base := base) T
  have G_fits_rooms := ok_fits_rooms (P := P) (w := w) (base := base) T
  have G__law_fits := ok__law_fits (P := P) (w := w) (base := base) T
  have G_is_safe := ok_is_safe (P := P) (w := w) (base := base) T
  have G__law_safe := ok__law_safe (P := P) (w := w) (base := base) T
  have G_even_steps := ok_even_steps (P := P) (base := base) T
  have G__law_even := ok__law_even (P := P) (w := w) (base := base) T
  have G_scaled_flows := ok_scaled_flows (P := P) (base := base) T
  have G__law_load := ok__law_load (P := P) (w := w) (base := base) T
  have G__law_multiplied := ok__law_multiplied (P := P) (w := w) (base := base) T
  refine law_run (k := 19) T.fn_law sc_law (fun vs H Q E h => ?_) (fun cdv s H vs Q E hr h => ?_)
  · obtain ⟨_, _, rfl, _⟩ := h
    rfl
  · obtain ⟨x, ns, rfl, hx, hl, k⟩ := h
    have hu := hu_of hr
    refine ⟨_, (pss_cons (ps_set (i := 1) sc_law.nd rfl (Or.inl rfl) (pe_call G__law_state (hr.mono (by first | decide | omega)) rfl T.mg__law_state T.kp__law_state T.bi__law_state .nil pass0 (pa_cons (pv 0) pa_nil)))
  (pss_cons (ps_asg (pe_call G__law_flows (hr.mono (by first | decide | omega)) rfl T.mg__law_flows T.kp__law_flows T.bi__law_flows .nil pass0 (pa_cons (pv 1) pa_nil)) (pg_tupK (K := K) rfl (pgs_cons (pg_name (i := 2) sc_law.nd rfl (by first | exact Or.inr rfl | exact Or.inl rfl)) (pgs_cons (pg_name (i := 3) sc_law.nd rfl (by first | exact Or.inr rfl | exact Or.inl rfl)) pgs_nil))))
  (pss_cons (ps_for PassesOwn.never rfl (pi_range1 rfl T.mg_range (pa_cons (pe_call G__law_draw (hr.mono (by first | decide | omega)) rfl T.mg__law_draw T.kp__law_draw T.bi__law_draw .nil pass0 (pa_cons (pv 1) (pa_cons pe_int pa_nil))) pa_nil)) (pg_name (i := 4) sc_law.nd rfl (by first | exact Or.inr rfl | exact Or.inl rfl))
  (pss_cons (ps_asg (pe_call G__law_flows (hr.mono (by first | decide | omega)) rfl T.mg__law_flows T.kp__law_flows T.bi__law_flows .nil pass0 (pa_cons (pv 1) pa_nil)) (pg_tupK (K := K) rfl (pgs_cons (pg_name (i := 5) sc_law.nd rfl (Or.inl rfl)) (pgs_cons (pg_name (i := 6) sc_law.nd rfl (Or.inl rfl)) pgs_nil))))
  (pss_one (ps_asg (pe_tup (pa_cons (pe_op op_cat (pv 2) (pe_slice (sl_listK (K := K)) (pv 5) po_none (po_some pe_int))) (pa_cons (pe_op op_cat (pv 3) (pe_slice (sl_listK (K := K)) (pv 6) po_none (po_some pe_int))) pa_nil))) (pg_tupK (K := K) rfl (pgs_cons (pg_name (i := 2) sc_law.nd rfl (by first | exact Or.inr rfl | exact Or.inl rfl)) (pgs_cons (pg_name (i := 3) sc_law.nd rfl (by first | exact Or.inr rfl | exact Or.inl rfl)) pgs_nil)))))))
  (pss_cons (ps_set (i := 7) sc_law.nd rfl (Or.inl rfl) (pe_call G__law_rooms (hr.mono (by first | decide | omega)) rfl T.mg__law_rooms T.kp__law_rooms T.bi__law_rooms .nil pass0 (pa_cons (pv 1) pa_nil)))
  (pss_cons (ps_set (i := 8) sc_law.nd rfl (Or.inl rfl) (pe_callB (call_reprRK (K := K) (w := w) rfl hr.units) (by rfl) T.mg_repr (by decide +kernel) (pa_cons (pe_lst (pa_cons (pv 2) (pa_cons (pv 3) (pa_cons (pv 7) pa_nil)))) pa_nil)))
  (pss_cons (ps_if (PW.pt (pw_or (pt_cmpR (op_neND (w := w) (r65 hr)) (pe_call G_loads (hr.mono (by first | decide | omega)) rfl T.mg_loads T.kp_loads T.bi_loads .nil pass0 (pa_cons (pv 2) pa_nil)) (pe_call G__law_all (hr.mono (by first | decide | omega)) rfl T.mg__law_all T.kp__law_all T.bi__law_all .nil pass0 (pa_cons (pv 2) pa_nil)) (nomark _)) (pw_or1 (pt_cmpR (op_neND (w := w) (r65 hr)) (pe_call G_load_of (hr.mono (by first | decide | omega)) rfl T.mg_load_of T.kp_load_of T.bi_load_of .nil pass0 (pa_cons (pe_ix (ix_listK (K := K)) (pv 2) pe_int (fun _ _ => rfl)) pa_nil)) (pe_call G__law_all (hr.mono (by first | decide | omega)) rfl T.mg__law_all T.kp__law_all T.bi__law_all .nil pass0 (pa_cons (pe_slice (sl_listK (K := K)) (pv 2) po_none (po_some pe_int)) pa_nil)) (nomark _)))))
  (pss_one (ps_ret pe_bl))
  pss_nil)
  (pss_cons (ps_if (pt_cmpR (op_neND (w := w) (r65 hr)) (pe_call G_greatest_loads (hr.mono (by first | decide | omega)) rfl T.mg_greatest_loads T.kp_greatest_loads T.bi_greatest_loads .nil pass0 (pa_cons (pv 2) (pa_cons (pv 3) pa_nil))) (pe_call G__law_greatest (hr.mono (by first | decide | omega)) rfl T.mg__law_greatest T.kp__law_greatest T.bi__law_greatest .nil pass0 (pa_cons (pv 2) (pa_cons (pv 3) pa_nil))) (nomark _))
  (pss_one (ps_ret pe_bl))
  pss_nil)
  (pss_cons (ps_if (pt_cmpR op_ne (pe_call G_fits_rooms (hr.mono (by first | decide | omega)) rfl T.mg_fits_rooms T.kp_fits_rooms T.bi_fits_rooms .nil pass0 (pa_cons (pv 7) (pa_cons (pv 2) pa_nil))) (pe_call G__law_fits (hr.mono (by first | decide | omega)) rfl T.mg__law_fits T.kp__law_fits T.bi__law_fits .nil pass0 (pa_cons (pv 7) (pa_cons (pv 2) pa_nil))) (nomark _))
  (pss_one (ps_ret pe_bl))
  pss_nil)
  (pss_cons (ps_if (pt_cmpR op_ne (pe_call G_is_safe (hr.mono (by first | decide | omega)) rfl T.mg_is_safe T.kp_is_safe T.bi_is_safe .nil pass0 (pa_cons (pv 7) (pa_cons (pv 2) (pa_cons (pv 3) pa_nil)))) (pe_call G__law_safe (hr.mono (by first | decide | omega)) rfl T.mg__law_safe T.kp__law_safe T.bi__law_safe .nil pass0 (pa_cons (pv 7) (pa_cons (pv 2) (pa_cons (pv 3) pa_nil)))) (nomark _))
  (pss_one (ps_ret pe_bl))
  pss_nil)
  (pss_cons (ps_set (i := 9) sc_law.nd rfl (by first | exact Or.inr rfl | exact Or.inl rfl) (pe_op op_add pe_int (pe_call G__law_draw (hr.mono (by first | decide | omega)) rfl T.mg__law_draw T.kp__law_draw T.bi__law_draw .nil pass0 (pa_cons (pv 1) (pa_cons pe_int pa_nil)))))
  (pss_cons (ps_set (i := 10) sc_law.nd rfl (Or.inl rfl) (pe_call G_even_steps (hr.mono (by first | decide | omega)) rfl T.mg_even_steps T.kp_even_steps T.bi_even_steps .nil pass0 (pa_cons (pv 2) (pa_cons (pv 3) (pa_cons (pv 9) pa_nil)))))
  (pss_cons (ps_setLc (i := 11) (own := [("k", 4)]) (g := (gName 4)) (tt := tYes) rfl sc_law.nd rfl rfl (sw_true rfl rfl rfl (by decide +kernel)) (pi_range1 rfl T.mg_range (pa_cons (pe_op op_add (pv 9) pe_int) pa_nil)) (blkOk_by (own := [("k", 4)]) (N := N_law) (sc := defScope s_law) (by decide +kernel)) (fun _ _ _ _ _ => by exact (pg_name (i := 4) sc_law.nd rfl (by first | exact Or.inl rfl | exact Or.inr rfl))) (fun _ _ _ _ _ => pts_nil) (fun _ _ _ _ _ => by exact (pe_lc (own := [("j", 15)]) (g := (gName 15)) (tt := tYes) rfl sc_law.nd (pi_range1 rfl T.mg_range (pa_cons (pe_callB (call_lenK (K := K)) (by rfl) T.mg_len PySem.boot_len (pa_cons (pv 2) pa_nil)) pa_nil)) (blkOk_in (own := [("j", 15)]) (N := N_law) (by decide +kernel)) (fun _ _ _ _ _ => by exact (pg_name (i := 15) sc_law.nd rfl (by first | exact Or.inl rfl | exact Or.inr rfl))) (fun _ _ _ _ _ => pts_nil) (fun _ _ _ _ _ => by exact (pe_call G__law_even (hr.mono (by first | decide | omega)) rfl T.mg__law_even T.kp__law_even T.bi__law_even .nil pass0 (pa_cons (pe_ix (ix_listK (K := K)) (pv 2) (pv 15) (fun _ _ => rfl)) (pa_cons (pe_ix (ix_listK (K := K)) (pv 3) (pv 15) (fun _ _ => rfl)) (pa_cons (pv 9) (pa_cons (pv 4) pa_nil)))))))))
  (pss_cons (ps_if (PW.pt (pw_or (pt_cmpR (op_neDK (K := K) hr.units) (pv 10) (pv 11) (nomark _)) (pw_or1 (pt_cmpR (op_neDK (K := K) hr.units) (pe_call G_scaled_flows (hr.mono (by first | decide | omega)) rfl T.mg_scaled_flows T.kp_scaled_flows T.bi_scaled_flows .nil pass0 (pa_cons (pv 2) (pa_cons pe_int pa_nil))) (pe_lc (own := [("flow", 16)]) (g := (gName 16)) (tt := tYes) rfl sc_law.nd (pi_listK (K := K) (pv 2)) (blkOk_by (own := [("flow", 16)]) (N := N_law) (sc := defScope s_law) (by decide +kernel)) (fun _ _ _ _ _ => by exact (pg_name (i := 16) sc_law.nd rfl (by first | exact Or.inl rfl | exact Or.inr rfl))) (fun _ _ _ _ _ => pts_nil) (fun _ _ _ _ _ => by exact (pe_lc (own := [("ends", 17), ("amount", 18)]) (g := (gTup K 2 (gCons (gName 17) (gCons (gName 18) gNil)))) (tt := tYes) rfl sc_law.nd (pi_listK (K := K) (pv 16)) (blkOk_in (own := [("ends", 17), ("amount", 18)]) (N := N_law) (by decide +kernel)) (fun _ _ _ _ _ => by exact (pg_tupK (K := K) rfl (pgs_cons (pg_name (i := 17) sc_law.nd rfl (by first | exact Or.inl rfl | exact Or.inr rfl)) (pgs_cons (pg_name (i := 18) sc_law.nd rfl (by first | exact Or.inl rfl | exact Or.inr rfl)) pgs_nil)))) (fun _ _ _ _ _ => pts_nil) (fun _ _ _ _ _ => by exact (pe_tup (pa_cons (pv 17) (pa_cons (pe_op op_mul pe_int (pv 18)) pa_nil))))))) (nomark _)))))
  (pss_one (ps_ret pe_bl))
  pss_nil)
  (pss_cons (ps_set (i := 12) sc_law.nd rfl (Or.inl rfl) (pe_nnew (w := w)))
  (pss_cons (ps_for PassesOwn.never rfl (pi_listK (K := K) (pe_lst (pa_cons (pe_tup (pa_cons pe_int (pa_cons pe_int pa_nil))) (pa_cons (pe_tup (pa_cons pe_int (pa_cons pe_int pa_nil))) (pa_cons (pe_tup (pa_cons pe_int (pa_cons pe_int pa_nil))) (pa_cons (pe_tup (pa_cons pe_int (pa_cons pe_int pa_nil))) pa_nil)))))) (pg_name (i := 13) sc_law.nd rfl (Or.inl rfl))
  (pss_cons (ps_set (i := 14) sc_law.nd rfl (Or.inl rfl) (pe_op op_mul (pe_callB (call_maxQ rfl) (by rfl) T.mg_max (by decide +kernel) (pa_cons (pe_call G__law_load (hr.mono (by first | decide | omega)) rfl T.mg__law_load T.kp__law_load T.bi__law_load .nil pass0 (pa_cons (pv 2) (pa_cons (pv 13) pa_nil))) (pa_cons (pe_call G__law_load (hr.mono (by first | decide | omega)) rfl T.mg__law_load T.kp__law_load T.bi__law_load .nil pass0 (pa_cons (pv 3) (pa_cons (pv 13) pa_nil))) pa_nil))) (pe_op op_add (pv 9) pe_int)))
  (pss_one (ps_nput (w := w) (r64 hr) (pv 12) (pv 13) (pe_op op_add (pe_op op_fdivW (pe_op op_sub (pe_op op_add (pv 14) (pv 9)) pe_int) (pv 9)) (pe_callTy call_intQ (by rfl) T.mg_int (by decide +kernel) (pa_cons (pe_cmpR op_eq (pe_call G__law_draw (hr.mono (by first | decide | omega)) rfl T.mg__law_draw T.kp__law_draw T.bi__law_draw .nil pass0 (pa_cons (pv 1) (pa_cons pe_int pa_nil))) pe_int (nomark _)) pa_nil))) rfl))))
  (pss_cons (ps_set (i := 12) sc_law.nd rfl (Or.inl rfl) (pe_call G__law_multiplied (hr.mono (by first | decide | omega)) rfl T.mg__law_multiplied T.kp__law_multiplied T.bi__law_multiplied .nil pass0 (pa_cons (pv 12) (pa_cons (pv 9) pa_nil))))
  (pss_cons (ps_for PassesOwn.never rfl (pi_range1 rfl T.mg_range (pa_cons (pv 9) pa_nil)) (pg_name (i := 4) sc_law.nd rfl (by first | exact Or.inr rfl | exact Or.inl rfl))
  (pss_one (ps_if (PW.pt (pw_or (pt_not (pt_val (pe_call G__law_safe (hr.mono (by first | decide | omega)) rfl T.mg__law_safe T.kp__law_safe T.bi__law_safe .nil pass0 (pa_cons (pv 12) (pa_cons (pe_ix (ix_listK (K := K)) (pv 10) (pv 4) (fun _ _ => rfl)) (pa_cons (pe_ix (ix_listK (K := K)) (pv 10) (pe_op op_add (pv 4) pe_int) (fun _ _ => rfl)) pa_nil)))))) (pw_or1 (pt_cmpR op_notBl (pe_call G_is_safe (hr.mono (by first | decide | omega)) rfl T.mg_is_safe T.kp_is_safe T.bi_is_safe .nil pass0 (pa_cons (pv 12) (pa_cons (pe_ix (ix_listK (K := K)) (pv 10) (pv 4) (fun _ _ => rfl)) (pa_cons (pe_ix (ix_listK (K := K)) (pv 10) (pe_op op_add (pv 4) pe_int) (fun _ _ => rfl)) pa_nil)))) pe_bl (nomark _)))))
  (pss_one (ps_ret pe_bl))
  pss_nil)))
  (pss_one (ps_ret (pe_cmpR op_eq (pe_callB (call_reprRK (K := K) (w := w) rfl hr.units) (by rfl) T.mg_repr (by decide +kernel) (pa_cons (pe_lst (pa_cons (pv 2) (pa_cons (pv 3) (pa_cons (pv 7) pa_nil)))) pa_nil)) (pv 8) (nomark _))))))))))))))))))))), ?_⟩
    walk_at "ss"
    refine ⟨x, ns, rfl, hx, by omega, fun st c m cells H1 hs1 g => ?_⟩
    walk_at "ss"
    refine ⟨H, [], st, c, m, cells, rfl, hs1, g, fun t p q us vs fs gs m2 c2 B2 H2 s2 hs2 g2 ht hp hru hq hrv hfo hgo hlen h1 => ?_⟩
    clear hs1 g
    walk_at "ss"
    refine w_for1 ?_
    walk_at "ss"
    refine w_draw hs2 g2 (by decide) fun r m3 c3 H3 hs3 g3 _ hr3 => ?_
    obtain ⟨r0, r1⟩ := hr3 (by decide)
    clear hs2 g2
    walk_at "ss"
    refine w_forR (n := r) (by omega) (fun i σ H' => ∃ (B : Hp) (m' : Int) (c' : List Int) (p q : Addr) (us vs : List V) (fs gs : List Fl) (v4 v5 v6 : Option V), σ = [some (.ref x), some (.ref st), some (.ref p), some (.ref q), v4, v5, v6, none, none, none, none, none, none, none, none, none, none, none, none] ∧ Hs B [(st, sto c m'), (c, clo c')] H' ∧ Good m' c' ∧ B p = some (.lst us) ∧ Row (FlAt B) us fs ∧ B q = some (.lst vs) ∧ Row (FlAt B) vs gs ∧ LsOk fs (2 + i) ∧ LsOk gs (2 + i) ∧ fs.length = gs.length ∧ 1 ≤ fs.length) (fun Q' q => q) (by omega) ⟨B2, m3, c3, p, q, us, vs, fs, gs, none, none, none, rfl, hs3, g3, hp, hru, hq, hrv, hfo, hgo, hlen, h1⟩ ?_ ?_
    · clear hs3 g3 hp hru hq hrv hfo hgo hlen h1
      rintro i σ H' hi ⟨B, m', c', p, q, us, vs, fs, gs, v4, v5, v6, rfl, hs, g, hp, hru, hq, hrv, hfo, hgo, hlen, h1⟩
      walk_at "ss"
      refine ⟨B, [], st, c, m', c', rfl, hs, g, fun t p2 q2 us2 vs2 fs2 gs2 m4 c4 B3 H4 s3 hs4 g4 ht hp2 hru2 hq2 hrv2 hfo2 hgo2 hlen2 h12 => ?_⟩
      clear hs g
      have hpB := s3 _ _ hp
      have hqB := s3 _ _ hq
      have hul : us.length ≤ 6 := by
        have := hru.1
        have := hfo.1
        omega
      have hvl : vs.length ≤ 6 := by
        have := hrv.1
        have := hgo.1
        omega
      obtain ⟨f1, fr, rfl⟩ : ∃ f1 fr, fs2 = f1 :: fr := by
        cases fs2 with
        | nil => cases h12
        | cons f1 fr => exact ⟨f1, fr, rfl⟩
      obtain ⟨g1, gr, rfl⟩ : ∃ g1 gr, gs2 = g1 :: gr := by
        cases gs2 with
        | nil => cases hlen2
        | cons f1 fr => exact ⟨f1, fr, rfl⟩
      obtain ⟨u1, ur, rfl⟩ : ∃ u1 ur, us2 = u1 :: ur := by
        cases us2 with
        | nil => cases hru2.1
        | cons f1 fr => exact ⟨f1, fr, rfl⟩
      obtain ⟨w1, wr, rfl⟩ : ∃ w1 wr, vs2 = w1 :: wr := by
        cases vs2 with
        | nil => cases hrv2.1
        | cons f1 fr => exact ⟨f1, fr, rfl⟩
      have hu1 : FlAt B3 u1 f1 := hru2.2 0 u1 f1 rfl rfl
      have hw1 : FlAt B3 w1 g1 := hrv2.2 0 w1 g1 rfl rfl
      walk_at "ss"
      rename_i l1 H5 hs5
      rw [cut_one] at hs5
      walk_at "ss"
      rename_i l2 H6 hs6 l3 H7 hs7
      rw [cut_one] at hs7
      walk_at "ss"
      rename_i l4 H8 hs8 l5 H9 hs9
      clear hs5 hs6 hs7 hs8
      obtain ⟨B4, s4, hl4, hs10⟩ := frz_hs hs9.tl
      obtain ⟨B5, s5, hl2, hs11⟩ := frz_hs hs10.tl
      have sA := s3.trans (s4.trans s5)
      exact ⟨B5, m4, c4, l2, l4, _, _, fs ++ [f1], gs ++ [g1], _, _, _, rfl, hs11.tl, g4, hl2, (hru.mono fun _ _ => FlAt.same sA).snoc (hu1.same (s4.trans s5)), s5 _ _ hl4, (hrv.mono fun _ _ => FlAt.same sA).snoc (hw1.same (s4.trans s5)), ⟨by rw [List.length_append]; exact Nat.succ_le_succ hfo.1, fun f hf => (List.mem_append.mp hf).elim (hfo.2 f) fun z => by rw [List.mem_singleton.mp z]; exact hfo2.2 _ List.mem_cons_self⟩, ⟨by rw [List.length_append]; exact Nat.succ_le_succ hgo.1, fun f hf => (List.mem_append.mp hf).elim (hgo.2 f) fun z => by rw [List.mem_singleton.mp z]; exact hgo2.2 _ List.mem_cons_self⟩, by rw [List.length_append, List.length_append, hlen]; rfl, by rw [List.length_append]; exact Nat.le_add_left _ _⟩
    · clear hs3 g3 hp hru hq hrv hfo hgo hlen h1
      rintro σ H' ⟨B, m', c', p, q, us, vs, fs, gs, v4, v5, v6, rfl, hs, g, hp, hru, hq, hrv, hfo, hgo, hlen, h1⟩
      have hfo : LsOk fs 6 := ⟨by have := hfo.1; omega, hfo.2⟩
      have hgo : LsOk gs 6 := ⟨by have := hgo.1; omega, hgo.2⟩
      walk_at "ss"
      refine ⟨B, [], st, c, m', c', rfl, hs, g, fun rr R m4 c4 B3 H4 s3 hs4 g4 hR hRm hR9 => ?_⟩
      clear hs g
      have hpB := s3 _ _ hp
      have hqB := s3 _ _ hq
      have hru := hru.mono fun _ _ => FlAt.same s3
      have hrv := hrv.mono fun _ _ => FlAt.same s3
      obtain ⟨rd, res, rfl, hrd, hrE⟩ := id hR
      have hfP : FsAt B3 (.ref p) fs := ⟨p, us, rfl, hpB, hru⟩
      have hgP : FsAt B3 (.ref q) gs := ⟨q, vs, rfl, hqB, hrv⟩
      have ff := hfo.fs (by decide)
      have gg := hgo.fs (by decide)
      walk_at "ss"
      rename_i lr H5 hs5
      refine w_repr hs5 hfP hgP hfo hgo hrd hrE hRm hR9 ?_
      have hs4 := hs5.tl
      clear hs5
      walk_at "ss"
      refine ⟨_, fs, rfl, hfP.same hs4.same, ff, fun y1 M1 H6 s6 n1 L1 => ?_⟩
      obtain ⟨B4, sB4, hs6, g1, g2⟩ := grow hs4 s6 rfl
      have a1 := n1.grow g1 g2
      clear hs4 s6 n1 g1 g2
      walk_at "ss"
      refine ⟨_, fs, rfl, (hfP.same sB4).same hs6.same, ff, fun y2 M2 H7 s7 n2 L2 => ?_⟩
      obtain ⟨B5, sB5, hs7, g1, g2⟩ := grow hs6 s7 rfl
      have a2 := n2.grow g1 g2
      clear hs6 s7 n2 g1 g2
      walk_at "ss"
      refine w_neLd ((a1.same sB5).same hs7.same) (a2.same hs7.same) L1 L2 ?_
      clear a1 a2 L1 L2
      have s35 := sB4.trans sB5
      obtain ⟨f0, fr, hf0⟩ : ∃ f0 fr, fs = f0 :: fr := by
        cases fs with
        | nil => cases h1
        | cons f1 fr => exact ⟨f1, fr, rfl⟩
      obtain ⟨u0, ur, hu0⟩ : ∃ u1 ur, us = u1 :: ur := by
        cases us with
        | nil =>
          have := hru.1
          rw [hf0] at this
          cases this
        | cons f1 fr => exact ⟨f1, fr, rfl⟩
      have hu0f : FlAt B3 u0 f0 := hru.2 0 u0 f0 (by rw [hu0]; rfl) (by rw [hf0]; rfl)
      have hf0o : FlOk f0 := ff.2 f0 (by rw [hf0]; exact List.mem_cons_self)
      have hp5 := s35 _ _ hpB
      walk_at "ss"
      refine w_ixL (SqL.of (hs7.old hp5)) (at_of (j := 0) rfl (by rw [hu0]; rfl)) ?_
      walk_at "ss"
      refine ⟨_, f0, rfl, (hu0f.same s35).same hs7.same, hf0o, fun y1 M1 H8 s8 n1 L1 => ?_⟩
      obtain ⟨B6, sB6, hs8, g1, g2⟩ := grow hs7 s8 rfl
      have a1 := n1.grow g1 g2
      clear hs7 s8 n1 g1 g2
      have hp6 := sB6 _ _ hp5
      walk_at "ss"
      rename_i lc H9 hs9
      rw [hu0, cut_one] at hs9
      obtain ⟨B7, sB7, hlc, hs10⟩ := frz_hs hs9
      clear hs8 hs9
      have s37 := s35.trans (sB6.trans sB7)
      refine ⟨_, [f0], rfl, ⟨lc, _, rfl, hs10.old hlc, .cons ((hu0f.same s37).same hs10.same) Row.nil⟩, ⟨(show 1 ≤ 100 by decide), fun f hf => by rw [List.mem_singleton.mp hf]; exact hf0o⟩, fun y2 M2 H11 s11 n2 L2 => ?_⟩
      obtain ⟨B8, sB8, hs11, g1, g2⟩ := grow hs10 s11 rfl
      have a2 := n2.grow g1 g2
      clear hs10 s11 n2 g1 g2
      walk_at "ss"
      refine w_neLd ((a1.same (sB7.trans sB8)).same hs11.same) (a2.same hs11.same) L1 (L2.congr fun e _ => lds_one f0 e) ?_
      clear a1 a2 L1 L2
      refine ⟨_, rfl, iteF ?_⟩
      walk_at "ss"
      have s38 := s37.trans sB8
      have hf8 := hfP.same s38
      have hg8 := hgP.same s38
      refine ⟨_, _, fs, gs, rfl, hf8.same hs11.same, ff, hg8.same hs11.same, gg, hlen, fun y1 M1 H12 s12 n1 L1 => ?_⟩
      obtain ⟨B9, sB9, hs12, g1, g2⟩ := grow hs11 s12 rfl
      have a1 := n1.grow g1 g2
      clear hs11 s12 n1 g1 g2
      walk_at "ss"
      refine ⟨_, _, fs, gs, rfl, (hf8.same sB9).same hs12.same, ff, (hg8.same sB9).same hs12.same, gg, hlen, fun y2 M2 H13 s13 n2 L2 => ?_⟩
      obtain ⟨B10, sB10, hs13, g1, g2⟩ := grow hs12 s13 rfl
      have a2 := n2.grow g1 g2
      clear hs12 s13 n2 g1 g2
      walk_at "ss"
      refine w_neLd ((a1.same sB10).same hs13.same) (a2.same hs13.same) L1 L2 ?_
      clear a1 a2 L1 L2
      refine ⟨_, rfl, iteF ?_⟩
      have s310 := s38.trans (sB9.trans sB10)
      have hfX := hfP.same s310
      have hgX := hgP.same s310
      have hRX := hR.same s310
      walk_at "ss"
      refine ⟨_, _, R, fs, rfl, hRX.same hs13.same, hRm, hfX.same hs13.same, ff, fun H14 s14 => ?_⟩
      replace hs13 := hs13.keep s14
      clear s14
      walk_at "ss"
      refine ⟨_, _, R, fs, rfl, hRX.same hs13.same, hfX.same hs13.same, fun H15 s15 => ?_⟩
      replace hs13 := hs13.keep s15
      clear s15
      walk_at "ss"
      rw [if_neg (by simp)]
      walk_at "ss"
      refine ⟨_, _, _, R, fs, gs, rfl, hRX.same hs13.same, hRm, hfX.same hs13.same, ff, hgX.same hs13.same, gg, hlen, fun H16 s16 => ?_⟩
      replace hs13 := hs13.keep s16
      clear s16
      walk_at "ss"
      refine ⟨B10, _, _, _, _, R, fs, gs, rfl, hs13, hRX, hfX, ff, hgX, gg, hlen, hfo.1, fun B11 H17 sB11 hs17 => ?_⟩
      clear hs13
      walk_at "ss"
      rw [if_neg (by simp)]
      walk_at "ss"
      refine w_draw hs17 g4 (by decide) fun r2 m5 c5 H18 hs18 g5 _ hr5 => ?_
      obtain ⟨q0, q1⟩ := hr5 (by decide)
      clear hs17 g4
      obtain ⟨n, hn⟩ : ∃ n : Nat, (1 : Int) + r2 = (n : Int) := ⟨(1 + r2).toNat, by omega⟩
      have hn1 : 1 ≤ n := by omega
      have hn4 : n ≤ 4 := by omega
      have s311 := s310.trans sB11
      have hfY := hfP.same s311
      have hgY := hgP.same s311
      walk_at "ss"
      rw [hn]
      clear hn q0 q1
      refine ⟨B11, _, _, _, fs, gs, n, rfl, hs18, hfY, hgY, ff, gg, hlen, by omega, fun td B12 H19 sB12 hs19 hT => ?_⟩
      clear hs18
      have s312 := s311.trans sB12
      have hp12 := s312 _ _ hpB
      have hq12 := s312 _ _ hqB
      have hul : us.length = fs.length := hru.1
      have hvl : vs.length = fs.length := hrv.1.trans hlen.symm
      have hf6 := hfo.1
      walk_at "ss"
      refine w_lcG ?_
      walk_at "ss"
      refine ⟨(n : Int) + 1, rfl, by omega, by omega, ?_⟩
      rw [show ((n : Int) + 1).toNat = n + 1 by omega]
      intro D hD
      have hs20 := hs19.new (o := .lst []) hD
      refine turns_range (fun i H2 => ∃ (B : Hp) (acc : List V), Same B12 B ∧ Hs B [(D, .lst acc), (st, sto c m5), (c, clo c5)] H2 ∧ Row (FsAt B) acc ((tlM fs gs n).take i)) ⟨B12, [], Same.refl _, hs20, Row.nil⟩ ?_ ?_
      · clear hs20 hs19 hD
        rintro i H2 hi ⟨B, acc, sm, hs, hacc⟩
        have hal : acc.length ≤ 101 := by
          have h1 := hacc.1
          unfold tlM at h1
          rw [List.length_take, List.length_map, List.length_range] at h1
          omega
        have ht : (tlM fs gs n).take (i + 1) = (tlM fs gs n).take i ++ [evS fs gs ((n : Int) - (i : Int)) (i : Int)] := by
          unfold tlM
          rw [List.take_add_one, List.getElem?_map, List.getElem?_range hi]
          rfl
        have hpb := hs.old (sm _ _ hp12)
        refine ⟨rfl, ?_⟩
        walk_at "ss"
        refine w_lcG ?_
        walk_at "ss"
        refine w_rngR (by omega) (by rw [hul]; omega) fun D2 hD2 => ?_
        rw [hul, Int.toNat_natCast]
        have hs2 := hs.new (o := .lst []) hD2
        refine turns_range (fun j H3 => ∃ (B3 : Hp) (acc2 : List V), Same B B3 ∧ Hs B3 [(D2, .lst acc2), (D, .lst acc), (st, sto c m5), (c, clo c5)] H3 ∧ Row (FlAt B3) acc2 ((evS fs gs ((n : Int) - (i : Int)) (i : Int)).take j)) ⟨B, [], Same.refl _, hs2, Row.nil⟩ ?_ ?_
        · clear hs2 hs hD2 hpb
          rintro j H3 hj ⟨B13, acc2, s13, hs, hacc2⟩
          obtain ⟨f, hf⟩ : ∃ f, fs[j]? = some f := ⟨_, List.getElem?_eq_getElem hj⟩
          obtain ⟨g, hg⟩ : ∃ g, gs[j]? = some g := ⟨_, List.getElem?_eq_getElem (by omega)⟩
          obtain ⟨ux, hux⟩ : ∃ ux, us[j]? = some ux := ⟨_, List.getElem?_eq_getElem (by omega)⟩
          obtain ⟨vx, hvx⟩ : ∃ vx, vs[j]? = some vx := ⟨_, List.getElem?_eq_getElem (by omega)⟩
          have sC := s312.trans (sm.trans s13)
          have hfl := (hru.2 j ux f hux hf).same sC
          have hgl := (hrv.2 j vx g hvx hg).same sC
          have hfo2 := hfo.2 f (List.mem_of_getElem? hf)
          have hgo2 := hgo.2 g (List.mem_of_getElem? hg)
          have hal2 : acc2.length ≤ 100 := by
            have h1 := hacc2.1
            rw [List.length_take] at h1
            omega
          have ht2 : (evS fs gs ((n : Int) - (i : Int)) (i : Int)).take (j + 1) = (evS fs gs ((n : Int) - (i : Int)) (i : Int)).take j ++ [evM f g ((n : Int) - (i : Int)) (i : Int)] := by
            unfold evS
            rw [List.take_add_one, List.getElem?_zipWith, hf, hg]
            rfl
          refine ⟨rfl, ?_⟩
          walk_at "ss"
          try (with_reducible refine iteT ?_)
          walk_at "ss"
          refine w_ixL (SqL.of (hs.old (sC _ _ hpB))) (at_of rfl hux) ?_
          walk_at "ss"
          refine w_ixL (SqL.of (hs.old (sC _ _ hqB))) (at_of rfl hvx) ?_
          walk_at "ss"
          refine ⟨B13, _, _, _, f, g, (n : Int), (i : Int), rfl, hs, rfl, hfl, hgl, hfo2.fl.1, hgo2.fl.1, by omega, by omega, by omega, fun r B14 H4 s14 hs4 hr4 => ?_⟩
          refine ⟨acc2, hs4.g0, szl (by omega), B14, _, s13.trans s14, hs4.p0 _, ?_⟩
          rw [ht2]
          exact (hacc2.mono fun _ _ => FlAt.same s14).snoc hr4
        · clear hs2 hs hD2 hpb
          rintro H3 ⟨B13, acc2, s13, hs, hacc2⟩
          rw [List.take_of_length_le (by rw [evS_len _ _ _ _ hlen]; exact Nat.le_refl _)] at hacc2
          obtain ⟨B14, s14, hB4, hs4⟩ := frz_hs hs
          refine ⟨acc, hs4.g0, szl (by omega), B14, _, sm.trans (s13.trans s14), hs4.p0 _, ?_⟩
          rw [ht]
          exact (hacc.mono fun _ _ => FsAt.same (s13.trans s14)).snoc ⟨D2, acc2, rfl, hB4, hacc2.mono fun _ _ => FlAt.same s14⟩
      clear hs20 hs19 hD
      rintro H2 ⟨B, acc, sm, hs, hacc⟩
      rw [List.take_of_length_le (by unfold tlM; rw [List.length_map, List.length_range]; exact Nat.le_refl _)] at hacc
      obtain ⟨B13, s13, hDB, hs20⟩ := frz_hs hs
      have hD13 : TlAt B13 (.ref D) (tlM fs gs n) := ⟨D, acc, rfl, hDB, hacc.mono fun _ _ => FsAt.same s13⟩
      have hT13 : TlAt B13 td (tlM fs gs n) := hT.same (sm.trans s13)
      have s313 := s312.trans (sm.trans s13)
      clear hs hacc hDB
      walk_at "ss"
      refine w_neRefl (tl_dp (hT13.same hs20.same)) (tl_dp (hD13.same hs20.same)) (shp_of (lay_tl _) (by decide)) ?_
      walk_at "ss"
      refine ⟨B13, _, _, 3, fs, rfl, hs20, hfP.same s313, ff, by decide, by decide, fun sc B14 H21 s14 hs21 hsc => ?_⟩
      clear hs20
      have s314 := s313.trans s14
      have hp14 := s314 _ _ hpB
      walk_at "ss"
      show tLc _ _ _ _ _ _ _ _
      refine w_lc (SqL.of (hs21.old hp14)) (fun D i H2 => ∃ (B : Hp) (acc : List V), Same B14 B ∧ Hs B [(D, .lst acc), (st, sto c m5), (c, clo c5)] H2 ∧ Row (FlAt B) acc ((fs.map (sclF 3)).take i)) (fun Q q => ⟨_, rfl, q⟩)
        (fun D hD => ⟨B14, [], Same.refl _, hs21.new hD, Row.nil⟩) (fun D i H2 _ ⟨B, _, sm, h, _⟩ => SqL.of (h.old (sm _ _ hp14))) ?_ ?_
      · clear hs21
        rintro D i u H2 hu ⟨B, acc, sm, hs2, hacc⟩
        obtain ⟨f, hf, hfl⟩ := (hru.mono fun _ _ => FlAt.same s314).get hu
        have hfo2 := ff.2 f (List.mem_of_getElem? hf)
        have hal : acc.length ≤ 100 := by
          have h1 := hacc.1
          rw [List.length_take, List.length_map] at h1
          have := ff.1
          omega
        obtain ⟨q, qs, rfl, hq, hqs⟩ := hfl.same sm
        walk_at "ss"
        refine ⟨rfl, ?_⟩
        walk_at "ss"
        try (with_reducible refine iteT ?_)
        walk_at "ss"
        refine w_lc (SqL.of (hs2.old hq)) (fun D2 j H3 => ∃ (B2 : Hp) (acc2 : List V), Same B B2 ∧ Hs B2 [(D2, .lst acc2), (D, .lst acc), (st, sto c m5), (c, clo c5)] H3 ∧ Row (PrAt B2) acc2 ((sclF 3 f).take j)) (fun Q q => ⟨_, rfl, q⟩)
          (fun D2 hD2 => ⟨B, [], Same.refl _, hs2.new hD2, Row.nil⟩) (fun D2 j H3 _ ⟨B2, _, s2, h, _⟩ => SqL.of (h.old (s2 _ _ hq))) ?_ ?_
        · rintro D2 j v H3 hv ⟨B2, acc2, s2, hs3, hacc2⟩
          obtain ⟨⟨z, m⟩, hx, p, w1, rfl, hp, hw1⟩ := hqs.get hv
          have hp' : B2 p = some (.tup [w1, .int m]) := s2 _ _ hp
          have hw2 : WyAt B2 w1 z := hw1.same s2
          have hal2 : acc2.length ≤ 100 := by
            have h1 := hacc2.1
            unfold sclF at h1
            rw [List.length_take, List.length_map] at h1
            have := hfo2.1
            omega
          walk_at "ss"
          refine ⟨rfl, ?_⟩
          walk_at "ss"
          try (with_reducible refine iteT ?_)
          walk_at "ss"
          rename_i tp H5 hs5
          obtain ⟨B4, s4, htB, hs6⟩ := frz_hs hs5
          refine ⟨acc2, hs6.g0, szl (by omega), B4, _, s2.trans s4, hs6.p0 _, ?_⟩
          have ht : (sclF 3 f).take (j + 1) = (sclF 3 f).take j ++ [(z, m * 3)] := by
            unfold sclF
            rw [List.take_add_one, List.getElem?_map, hx]
            rfl
          rw [ht]
          exact (hacc2.mono fun _ _ => PrAt.same s4).snoc ⟨tp, w1, rfl, by rw [htB, Int.mul_comm], hw2.same s4⟩
        · rintro D2 H3 ⟨B2, acc2, s2, hs3, hacc2⟩
          rw [List.take_of_length_le (by unfold sclF; rw [List.length_map, hqs.1]; exact Nat.le_refl _)] at hacc2
          obtain ⟨B3, s3, hnB, hs4⟩ := frz_hs hs3
          refine ⟨acc, hs4.g0, szl (by omega), B3, _, sm.trans (s2.trans s3), hs4.p0 _, ?_⟩
          have ht : (fs.map (sclF 3)).take (i + 1) = (fs.map (sclF 3)).take i ++ [sclF 3 f] := by
            rw [List.take_add_one, List.getElem?_map, hf]
            rfl
          rw [ht]
          exact (hacc.mono fun _ _ => FlAt.same (s2.trans s3)).snoc ⟨D2, acc2, rfl, hnB, hacc2.mono fun _ _ => PrAt.same s3⟩
      clear hs21
      rintro D2 H2 ⟨B, acc, sm, hs, hacc⟩
      rw [List.take_of_length_le (by rw [List.length_map, hul]; exact Nat.le_refl _)] at hacc
      obtain ⟨B15, s15, hDB, hs22⟩ := frz_hs hs
      have hD15 : FsAt B15 (.ref D2) (fs.map (sclF 3)) := ⟨D2, acc, rfl, hDB, hacc.mono fun _ _ => FlAt.same s15⟩
      have hsc15 := hsc.same (sm.trans s15)
      have s315 := s314.trans (sm.trans s15)
      have hT15 := hT13.same (s14.trans (sm.trans s15))
      clear hs hacc hDB
      walk_at "ss"
      refine w_neRefl (fs_dp (hsc15.same hs22.same)) (fs_dp (hD15.same hs22.same)) (shp_of (lay_fs _) (by decide)) ?_
      refine ⟨_, rfl, iteF ?_⟩
      walk_at "ss"
      rename_i wd H23 hs23
      clear hs22
      refine w_forS ?_
      walk_at "ss"
      rename_i el H24 hs24
      clear hs23
      obtain ⟨B16, eus, s16, hs25, hel, hre⟩ := ground_ends hs24
      clear hs24
      have hs26 : Hs B16 [(st, sto c m5), (c, clo c5), (wd, DN w wd [])] H24 := hs25.m2.m2
      clear hs25
      have s316 := s315.trans s16
      have hfZ := hfP.same s316
      have hgZ := hgP.same s316
      refine w_forL (SqL.of (hs26.old hel)) (fun i σ H' => ∃ (m' : Int) (c' : List Int) (es : List Ent) (M : EM) (v13 v14 : Option V), σ = [some (.ref x), some (.ref st), some (.ref p), some (.ref q), v4, v5, v6, some (.ref rd), some (.str (txt fs gs R)), some (.int (n : Int)), some td, some (.ref D), some (.ref wd), v13, v14, none, none, none, none] ∧ Hs B16 [(st, sto c m'), (c, clo c'), (wd, DN w wd es)] H' ∧ Good m' c' ∧ EntG B16 es (gmI M) ∧ Rm M ∧ ∀ e ∈ E4.take i, max (lds fs e) (lds gs e) * ((n : Int) + 1) ≤ eG M e * (n : Int)) (fun Q q => q)
        ⟨m5, c5, [], [], none, none, rfl, hs26, g5, EntG.nil, ⟨RM.nil, fun _ z => nomatch z⟩, fun _ z => nomatch z⟩ (fun i σ H' _ ⟨_, _, _, _, _, _, _, h, _⟩ => SqL.of (h.old hel)) ?_ ?_
      · clear hs26 g5
        rintro i u σ H' hu ⟨m', c', es, M, v13, v14, rfl, hs, g, hE, hM, hW⟩
        obtain ⟨e, he, pe, rfl, hpe⟩ := hre.get hu
        have he4 := e4_at he
        walk_at "ss"
        refine ⟨_, _, fs, e, rfl, hfZ.same hs.same, ⟨pe, rfl, hs.old hpe⟩, fun H2 s2 => ?_⟩
        replace hs := hs.keep s2
        clear s2
        walk_at "ss"
        refine ⟨_, _, gs, e, rfl, hgZ.same hs.same, ⟨pe, rfl, hs.old hpe⟩, fun H3 s3 => ?_⟩
        replace hs := hs.keep s3
        clear s3
        walk_at "ss"
        have hmx : (if lds gs e > lds fs e then lds gs e else lds fs e) = max (lds fs e) (lds gs e) := by split <;> omega
        rw [hmx]
        have hmn : 0 ≤ max (lds fs e) (lds gs e) := by
          have := lds_nn ff e
          omega
        generalize hmxe : max (lds fs e) (lds gs e) = mx at hmn ⊢
        have hlog : ((n : Int)).natAbs.log2 < 9000 := by
          rcases (show n = 1 ∨ n = 2 ∨ n = 3 ∨ n = 4 by omega) with rfl | rfl | rfl | rfl <;> decide
        refine w_I ⟨by omega, hlog⟩ ?_
        walk_at "ss"
        refine w_draw hs g (by decide) fun r3 m6 c6 H4 hs3 g2 _ _ => ?_
        clear hs g
        walk_at "ss"
        try (refine w_intB ?_)
        walk_at "ss"
        refine wg_put hs3 (.there (.there .here)) hE (EnAt.kat hpe) (by have := hM.rm.len; rw [gmI_len]; omega) fun H5 hs5 hE5 => ?_
        rw [gmI_put] at hE5
        obtain ⟨z1, z2⟩ := val_ok (n : Int) mx (decide (r3 = 0)) (by omega) hmn
        refine ⟨m6, c6, _, _, _, _, rfl, hs5, g2, hE5, ⟨hM.rm.put _ he4, fun y hy => ?_⟩, fun y hy => ?_⟩
        · rcases putE_mem hy with rfl | ⟨h1, _⟩ | ⟨h1, _⟩
          · exact z1
          · exact hM.nn y h1
          · exact hM.nn y h1
        · rw [List.take_add_one, he] at hy
          rw [eG_put]
          by_cases cy : y = e
          · rw [if_pos cy, cy, hmxe]
            exact z2
          · rw [if_neg cy]
            rcases List.mem_append.mp hy with hy | hy
            · exact hW y hy
            · exact absurd (List.mem_singleton.mp hy) cy
      · clear hs26 g5
        rintro σ H' ⟨m', c', es, M, v13, v14, rfl, hs, g, hE, hM, hW⟩
        rw [hre.1, List.take_length] at hW
        obtain ⟨B17, s17, hwd, hs2⟩ := frz_hs hs.m2
        have hWd : LdAt w B17 (.ref wd) M := ⟨wd, es, rfl, hwd, hE.same s17⟩
        walk_at "ss"
        refine ⟨_, M, (n : Int), rfl, hWd.same hs2.same, hM.rm, by omega, by omega, fun wd2 H3 s3 n3 => ?_⟩
        obtain ⟨B18, s18, hs4, g1, g2⟩ := grow hs2 s3 rfl
        have hW2 := n3.grow g1 g2
        clear hs2 s3 n3 g1 g2 hs
        have hMr : Rm (M.map fun x => (x.1, x.2 * (n : Int))) := by
          refine ⟨⟨?_, fun y hy => ?_⟩, fun y hy => ?_⟩
          · rw [List.map_map]
            exact hM.rm.nd
          · obtain ⟨z, hz, rfl⟩ := List.mem_map.mp hy
            exact hM.rm.e4 z hz
          · obtain ⟨z, hz, rfl⟩ := List.mem_map.mp hy
            exact Int.mul_nonneg (hM.nn z hz) (by omega)
        have s318 := s316.trans (s17.trans s18)
        obtain ⟨tp, tus, rfl, htp, htr⟩ := hT15.same (s16.trans (s17.trans s18))
        walk_at "ss"
        refine w_for1 ?_
        walk_at "ss"
        refine w_forR (n := (n : Int)) (by omega) (fun k σ H' => ∃ (B : Hp) (v4 : Option V) (v13 v14 : Option V), σ = [some (.ref x), some (.ref st), some (.ref p), some (.ref q), v4, v5, v6, some (.ref rd), some (.str (txt fs gs R)), some (.int (n : Int)), some (.ref tp), some (.ref D), some wd2, v13, v14, none, none, none, none] ∧ Same B18 B ∧ Hs B [(st, sto c m'), (c, clo c')] H') (fun Q q => q) (by omega) ⟨B18, _, _, _, rfl, Same.refl _, hs4⟩ ?_ ?_
        · clear hs4
          rintro k σ H' hk ⟨B, v4, v13, v14, rfl, sm, hs⟩
          have hk : k < n := by omega
          have htl : tus.length = n + 1 := by
            have := htr.1
            unfold tlM at this
            rw [List.length_map, List.length_range] at this
            exact this
          obtain ⟨ua, hua⟩ : ∃ ua, tus[k]? = some ua := ⟨_, List.getElem?_eq_getElem (by omega)⟩
          obtain ⟨ub, hub⟩ : ∃ ub, tus[k + 1]? = some ub := ⟨_, List.getElem?_eq_getElem (by omega)⟩
          have hta := (htr.2 k ua (evS fs gs ((n : Int) - (k : Int)) (k : Int)) hua (by unfold tlM; rw [List.getElem?_map, List.getElem?_range (by omega)]; rfl)).same sm
          have htb := (htr.2 (k + 1) ub (evS fs gs ((n : Int) - ((k + 1 : Nat) : Int)) ((k + 1 : Nat) : Int)) hub (by unfold tlM; rw [List.getElem?_map, List.getElem?_range (by omega)]; rfl)).same sm
          have oa := evS_ok hfo hgo (by decide) ((n : Int) - (k : Int)) (k : Int)
          have ob := evS_ok hfo hgo (by decide) ((n : Int) - ((k + 1 : Nat) : Int)) ((k + 1 : Nat) : Int)
          have la := evS_len fs gs ((n : Int) - (k : Int)) (k : Int) hlen
          have lb := evS_len fs gs ((n : Int) - ((k + 1 : Nat) : Int)) ((k + 1 : Nat) : Int) hlen
          have hfit := wide_fit (W := M) hfo hgo (by decide) hlen hk hW
          have htpB := sm _ _ htp
          have hWB := hW2.same sm
          walk_at "ss"
          refine w_ixL (SqL.of (hs.old htpB)) (at_of rfl hua) ?_
          walk_at "ss"
          refine w_ixL (SqL.of (hs.old htpB)) (at_of (j := k + 1) (by omega) hub) ?_
          walk_at "ss"
          refine ⟨B, _, _, _, _, _, _, _, rfl, hs, hWB, hta, oa, htb, ob, la.trans lb.symm, by omega, fun B2 H2 s2 hs2 => ?_⟩
          rw [hfit]
          refine ⟨_, rfl, ?_⟩
          refine iteF ?_
          clear hs
          walk_at "ss"
          refine w_ixL (SqL.of (hs2.old (s2 _ _ htpB))) (at_of rfl hua) ?_
          walk_at "ss"
          refine w_ixL (SqL.of (hs2.old (s2 _ _ htpB))) (at_of (j := k + 1) (by omega) hub) ?_
          walk_at "ss"
          refine ⟨_, _, _, _, _, _, rfl, (hWB.same s2).same hs2.same, hMr, (hta.same s2).same hs2.same, oa, (htb.same s2).same hs2.same, ob, la.trans lb.symm, fun H3 s3 => ?_⟩
          rw [hfit]
          have hs3 := hs2.keep s3
          walk_at "ss"
          refine w_notBl ?_
          rw [show (!decide (true = true)) = false from rfl]
          refine ⟨_, rfl, ?_⟩
          refine iteF ?_
          walk_at "ss"
          exact ⟨B2, _, _, _, rfl, sm.trans s2, hs3⟩
        · clear hs4
          rintro σ H' ⟨B, v4, v13, v14, rfl, sm, hs⟩
          have sZ := s318.trans sm
          walk_at "ss"
          rename_i lr2 H9 hs9
          refine w_repr hs9 (hfP.same sZ) (hgP.same sZ) hfo hgo (sZ _ _ hrd) (hrE.same sZ) hRm hR9 ?_
          walk_at "ss"
          rw [decide_eq_true rfl]
          exact k H9
end
theorem all_mk {l : PySem.W.OpenLaw} {w : World} {K : PySem.W.Frag} {h : Heap} {mg : Str → Option Value} {fa : Addr} (hl : l.prog = PySem.Challenge.pw_hangbridge_k51_loads_and_safe_steps) (X : K.In h) (G : h.Ns mainGlobals mg) (hfa : mg "law" = some (.ref fa))
    {A_load_of A_summed A_greater A_is_within A_loads A_fits_rooms A_greatest_loads A_is_safe A_scaled_flows A_ways_of A_amounts_of A_flow_of A_even_step A_even_steps A__law_state A__law_draw A__law_way A__law_flow A__law_flows A__law_rooms A__law_load A__law_fits A__law_safe A__law_row A__law_all A__law_greatest A__law_by_way A__law_even A__law_multiplied A_law : Addr} {od_load_of an_load_of od_summed an_summed od_greater an_greater od_is_within an_is_within od_loads an_loads od_fits_rooms an_fits_rooms od_greatest_loads an_greatest_loads od_is_safe an_is_safe od_scaled_flows an_scaled_flows od_ways_of an_ways_of od_amounts_of an_amounts_of od_flow_of an_flow_of od_even_step an_even_step od_even_steps an_even_steps od__law_state an__law_state od__law_draw an__law_draw od__law_way an__law_way od__law_flow an__law_flow od__law_flows an__law_flows od__law_rooms an__law_rooms od__law_load an__law_load od__law_fits an__law_fits od__law_safe an__law_safe od__law_row an__law_row od__law_all an__law_all od__law_greatest an__law_greatest od__law_by_way an__law_by_way od__law_even an__law_even od__law_multiplied an__law_multiplied od_law an_law : Option Addr} {sl_load_of sl_summed sl_greater sl_is_within sl_loads sl_fits_rooms sl_greatest_loads sl_is_safe sl_scaled_flows sl_ways_of sl_amounts_of sl_flow_of sl_even_step sl_even_steps sl__law_state sl__law_draw sl__law_way sl__law_flow sl__law_flows sl__law_rooms sl__law_load sl__law_fits sl__law_safe sl__law_row sl__law_all sl__law_greatest sl__law_by_way sl__law_even sl__law_multiplied sl_law : Array (Option Value)} {oc_load_of kV_load_of dc_load_of pm_load_of cd_load_of ct_load_of oc_summed kV_summed dc_summed pm_summed cd_summed ct_summed oc_greater kV_greater dc_greater pm_greater cd_greater ct_greater oc_is_within kV_is_within dc_is_within pm_is_within cd_is_within ct_is_within oc_loads kV_loads dc_loads pm_loads cd_loads ct_loads oc_fits_rooms kV_fits_rooms dc_fits_rooms pm_fits_rooms cd_fits_rooms ct_fits_rooms oc_greatest_loads kV_greatest_loads dc_greatest_loads pm_greatest_loads cd_greatest_loads ct_greatest_loads oc_is_safe kV_is_safe dc_is_safe pm_is_safe cd_is_safe ct_is_safe oc_scaled_flows kV_scaled_flows dc_scaled_flows pm_scaled_flows cd_scaled_flows ct_scaled_flows oc_ways_of kV_ways_of dc_ways_of pm_ways_of cd_ways_of ct_ways_of oc_amounts_of kV_amounts_of dc_amounts_of pm_amounts_of cd_amounts_of ct_amounts_of oc_flow_of kV_flow_of dc_flow_of pm_flow_of cd_flow_of ct_flow_of oc_even_step kV_even_step dc_even_step pm_even_step cd_even_step ct_even_step oc_even_steps kV_even_steps dc_even_steps pm_even_steps cd_even_steps ct_even_steps oc__law_state kV__law_state dc__law_state pm__law_state cd__law_state ct__law_state oc__law_draw kV__law_draw dc__law_draw pm__law_draw cd__law_draw ct__law_draw oc__law_way kV__law_way dc__law_way pm__law_way cd__law_way ct__law_way oc__law_flow kV__law_flow dc__law_flow pm__law_flow cd__law_flow ct__law_flow oc__law_flows kV__law_flows dc__law_flows pm__law_flows cd__law_flows ct__law_flows oc__law_rooms kV__law_rooms dc__law_rooms pm__law_rooms cd__law_rooms ct__law_rooms oc__law_load kV__law_load dc__law_load pm__law_load cd__law_load ct__law_load oc__law_fits kV__law_fits dc__law_fits pm__law_fits cd__law_fits ct__law_fits oc__law_safe kV__law_safe dc__law_safe pm__law_safe cd__law_safe ct__law_safe oc__law_row kV__law_row dc__law_row pm__law_row cd__law_row ct__law_row oc__law_all kV__law_all dc__law_all pm__law_all cd__law_all ct__law_all oc__law_greatest kV__law_greatest dc__law_greatest pm__law_greatest cd__law_greatest ct__law_greatest oc__law_by_way kV__law_by_way dc__law_by_way pm__law_by_way cd__law_by_way ct__law_by_way oc__law_even kV__law_even dc__law_even pm__law_even cd__law_even ct__law_even oc__law_multiplied kV__law_multiplied dc__law_multiplied pm__law_multiplied cd__law_multiplied ct__law_multiplied oc_law kV_law dc_law pm_law cd_law ct_law : Value} 
        (h_aload_of : PySem.W.nsIn K mainGlobals "load_of" = some (some (.ref A_load_of)))
    (h_lload_of : K.lookup A_load_of = some ⟨oc_load_of, od_load_of, .func (PySem.W.fnOf "load_of" "load_of" (defArgs s_load_of) (defBody s_load_of) (defScope s_load_of) .none kV_load_of dc_load_of pm_load_of an_load_of cd_load_of ct_load_of), sl_load_of⟩)
    (h_cdload_of : PySem.W.codeIn K cd_load_of "load_of" = true)
    (h_kload_of : PySem.W.keepIn K (.ref A_load_of) = true)
    (h_asummed : PySem.W.nsIn K mainGlobals "summed" = some (some (.ref A_summed)))
    (h_lsummed : K.lookup A_summed = some ⟨oc_summed, od_summed, .func (PySem.W.fnOf "summed" "summed" (defArgs s_summed) (defBody s_summed) (defScope s_summed) .none kV_summed dc_summed pm_summed an_summed cd_summed ct_summed), sl_summed⟩)
    (h_cdsummed : PySem.W.codeIn K cd_summed "summed" = true)
    (h_ksummed : PySem.W.keepIn K (.ref A_summed) = true)
    (h_agreater : PySem.W.nsIn K mainGlobals "greater" = some (some (.ref A_greater)))
    (h_lgreater : K.lookup A_greater = some ⟨oc_greater, od_greater, .func (PySem.W.fnOf "greater" "greater" (defArgs s_greater) (defBody s_greater) (defScope s_greater) .none kV_greater dc_greater pm_greater an_greater cd_greater ct_greater), sl_greater⟩)
    (h_cdgreater : PySem.W.codeIn K cd_greater "greater" = true)
    (h_kgreater : PySem.W.keepIn K (.ref A_greater) = true)
    (h_ais_within : PySem.W.nsIn K mainGlobals "is_within" = some (some (.ref A_is_within)))
    (h_lis_within : K.lookup A_is_within = some ⟨oc_is_within, od_is_within, .func (PySem.W.fnOf "is_within" "is_within" (defArgs s_is_within) (defBody s_is_within) (defScope s_is_within) .none kV_is_within dc_is_within pm_is_within an_is_within cd_is_within ct_is_within), sl_is_within⟩)
    (h_cdis_within : PySem.W.codeIn K cd_is_within "is_within" = true)
    (h_kis_within : PySem.W.keepIn K (.ref A_is_within) = true)
    (h_aloads : PySem.W.nsIn K mainGlobals "loads" = some (some (.ref A_loads)))
    (h_lloads : K.lookup A_loads = some ⟨oc_loads, od_loads, .func (PySem.W.fnOf "loads" "loads" (defArgs s_loads) (defBody s_loads) (defScope s_loads) .none kV_loads dc_loads pm_loads an_loads cd_loads ct_loads), sl_loads⟩)
    (h_cdloads : PySem.W.codeIn K cd_loads "loads" = true)
    (h_kloads : PySem.W.keepIn K (.ref A_loads) = true)
    (h_afits_rooms : PySem.W.nsIn K mainGlobals "fits_rooms" = some (some (.ref A_fits_rooms)))
    (h_lfits_rooms : K.lookup A_fits_rooms = some ⟨oc_fits_rooms, od_fits_rooms, .func (PySem.W.fnOf "fits_rooms" "fits_rooms" (defArgs s_fits_rooms) (defBody s_fits_rooms) (defScope s_fits_rooms) .none kV_fits_rooms dc_fits_rooms pm_fits_rooms an_fits_rooms cd_fits_rooms ct_fits_rooms), sl_fits_rooms⟩)
    (h_cdfits_rooms : PySem.W.codeIn K cd_fits_rooms "fits_rooms" = true)
    (h_kfits_rooms : PySem.W.keepIn K (.ref A_fits_rooms) = true)
    (h_agreatest_loads : PySem.W.nsIn K mainGlobals "greatest_loads" = some (some (.ref A_greatest_loads)))
    (h_lgreatest_loads : K.lookup A_greatest_loads = some ⟨oc_greatest_loads, od_greatest_loads, .func (PySem.W.fnOf "greatest_loads" "greatest_loads" (defArgs s_greatest_loads) (defBody s_greatest_loads) (defScope s_greatest_loads) .none kV_greatest_loads dc_greatest_loads pm_greatest_loads an_greatest_loads cd_greatest_loads ct_greatest_loads), sl_greatest_loads⟩)
    (h_cdgreatest_loads : PySem.W.codeIn K cd_greatest_loads "greatest_loads" = true)
    (h_kgreatest_loads : PySem.W.keepIn K (.ref A_greatest_loads) = true)
    (h_ais_safe : PySem.W.nsIn K mainGlobals "is_safe" = some (some (.ref A_is_safe)))
    (h_lis_safe : K.lookup A_is_safe = some ⟨oc_is_safe, od_is_safe, .func (PySem.W.fnOf "is_safe" "is_safe" (defArgs s_is_safe) (defBody s_is_safe) (defScope s_is_safe) .none kV_is_safe dc_is_safe pm_is_safe an_is_safe cd_is_safe ct_is_safe), sl_is_safe⟩)
    (h_cdis_safe : PySem.W.codeIn K cd_is_safe "is_safe" = true)
    (h_kis_safe : PySem.W.keepIn K (.ref A_is_safe) = true)
    (h_ascaled_flows : PySem.W.nsIn K mainGlobals "scaled_flows" = some (some (.ref A_scaled_flows)))
    (h_lscaled_flows : K.lookup A_scaled_flows = some ⟨oc_scaled_flows, od_scaled_flows, .func (PySem.W.fnOf "scaled_flows" "scaled_flows" (defArgs s_scaled_flows) (defBody s_scaled_flows) (defScope s_scaled_flows) .none kV_scaled_flows dc_scaled_flows pm_scaled_flows an_scaled_flows cd_scaled_flows ct_scaled_flows), sl_scaled_flows⟩)
    (h_cdscaled_flows : PySem.W.codeIn K cd_scaled_flows "scaled_flows" = true)
    (h_kscaled_flows : PySem.W.keepIn K (.ref A_scaled_flows) = true)
    (h_aways_of : PySem.W.nsIn K mainGlobals "ways_of" = some (some (.ref A_ways_of)))
    (h_lways_of : K.lookup A_ways_of = some ⟨oc_ways_of, od_ways_of, .func (PySem.W.fnOf "ways_of" "ways_of" (defArgs s_ways_of) (defBody s_ways_of) (defScope s_ways_of) .none kV_ways_of dc_ways_of pm_ways_of an_ways_of cd_ways_of ct_ways_of), sl_ways_of⟩)
    (h_cdways_of : PySem.W.codeIn K cd_ways_of "ways_of" = true)
    (h_kways_of : PySem.W.keepIn K (.ref A_ways_of) = true)
    (h_aamounts_of : PySem.W.nsIn K mainGlobals "amounts_of" = some (some (.ref A_amounts_of)))
    (h_lamounts_of : K.lookup A_amounts_of = some ⟨oc_amounts_of, od_amounts_of, .func (PySem.W.fnOf "amounts_of" "amounts_of" (defArgs s_amounts_of) (defBody s_amounts_of) (defScope s_amounts_of) .none kV_amounts_of dc_amounts_of pm_amounts_of an_amounts_of cd_amounts_of ct_amounts_of), sl_amounts_of⟩)
    (h_cdamounts_of : PySem.W.codeIn K cd_amounts_of "amounts_of" = true)
    (h_kamounts_of : PySem.W.keepIn K (.ref A_amounts_of) = true)
    (h_aflow_of : PySem.W.nsIn K mainGlobals "flow_of" = some (some (.ref A_flow_of)))
    (h_lflow_of : K.lookup A_flow_of = some ⟨oc_flow_of, od_flow_of, .func (PySem.W.fnOf "flow_of" "flow_of" (defArgs s_flow_of) (defBody s_flow_of) (defScope s_flow_of) .none kV_flow_of dc_flow_of pm_flow_of an_flow_of cd_flow_of ct_flow_of), sl_flow_of⟩)
    (h_cdflow_of : PySem.W.codeIn K cd_flow_of "flow_of" = true)
    (h_kflow_of : PySem.W.keepIn K (.ref A_flow_of) = true)
    (h_aeven_step : PySem.W.nsIn K mainGlobals "even_step" = some (some (.ref A_even_step)))
    (h_leven_step : K.lookup A_even_step = some ⟨oc_even_step, od_even_step, .func (PySem.W.fnOf "even_step" "even_step" (defArgs s_even_step) (defBody s_even_step) (defScope s_even_step) .none kV_even_step dc_even_step pm_even_step an_even_step cd_even_step ct_even_step), sl_even_step⟩)
    (h_cdeven_step : PySem.W.codeIn K cd_even_step "even_step" = true)
    (h_keven_step : PySem.W.keepIn K (.ref A_even_step) = true)
    (h_aeven_steps : PySem.W.nsIn K mainGlobals "even_steps" = some (some (.ref A_even_steps)))
    (h_leven_steps : K.lookup A_even_steps = some ⟨oc_even_steps, od_even_steps, .func (PySem.W.fnOf "even_steps" "even_steps" (defArgs s_even_steps) (defBody s_even_steps) (defScope s_even_steps) .none kV_even_steps dc_even_steps pm_even_steps an_even_steps cd_even_steps ct_even_steps), sl_even_steps⟩)
    (h_cdeven_steps : PySem.W.codeIn K cd_even_steps "even_steps" = true)
    (h_keven_steps : PySem.W.keepIn K (.ref A_even_steps) = true)
    (h_a_law_state : PySem.W.nsIn K mainGlobals "_law_state" = some (some (.ref A__law_state)))
    (h_l_law_state : K.lookup A__law_state = some ⟨oc__law_state, od__law_state, .func (PySem.W.fnOf "_law_state" "_law_state" (defArgs s__law_state) (defBody s__law_state) (defScope s__law_state) .none kV__law_state dc__law_state pm__law_state an__law_state cd__law_state ct__law_state), sl__law_state⟩)
    (h_cd_law_state : PySem.W.codeIn K cd__law_state "_law_state" = true)
    (h_k_law_state : PySem.W.keepIn K (.ref A__law_state) = true)
    (h_a_law_draw : PySem.W.nsIn K mainGlobals "_law_draw" = some (some (.ref A__law_draw)))
    (h_l_law_draw : K.lookup A__law_draw = some ⟨oc__law_draw, od__law_draw, .func (PySem.W.fnOf "_law_draw" "_law_draw" (defArgs s__law_draw) (defBody s__law_draw) (defScope s__law_draw) .none kV__law_draw dc__law_draw pm__law_draw an__law_draw cd__law_draw ct__law_draw), sl__law_draw⟩)
    (h_cd_law_draw : PySem.W.codeIn K cd__law_draw "_law_draw" = true)
    (h_k_law_draw : PySem.W.keepIn K (.ref A__law_draw) = true)
    (h_a_law_way : PySem.W.nsIn K mainGlobals "_law_way" = some (some (.ref A__law_way)))
    (h_l_law_way : K.lookup A__law_way = some ⟨oc__law_way, od__law_way, .func (PySem.W.fnOf "_law_way" "_law_way" (defArgs s__law_way) (defBody s__law_way) (defScope s__law_way) .none kV__law_way dc__law_way pm__law_way an__law_way cd__law_way ct__law_way), sl__law_way⟩)
    (h_cd_law_way : PySem.W.codeIn K cd__law_way "_law_way" = true)
    (h_k_law_way : PySem.W.keepIn K (.ref A__law_way) = true)
    (h_a_law_flow : PySem.W.nsIn K mainGlobals "_law_flow" = some (some (.ref A__law_flow)))
    (h_l_law_flow : K.lookup A__law_flow = some ⟨oc__law_flow, od__law_flow, .func (PySem.W.fnOf "_law_flow" "_law_flow" (defArgs s__law_flow) (defBody s__law_flow) (defScope s__law_flow) .none kV__law_flow dc__law_flow pm__law_flow an__law_flow cd__law_flow ct__law_flow), sl__law_flow⟩)
    (h_cd_law_flow : PySem.W.codeIn K cd__law_flow "_law_flow" = true)
    (h_k_law_flow : PySem.W.keepIn K (.ref A__law_flow) = true)
    (h_a_law_flows : PySem.W.nsIn K mainGlobals "_law_flows" = some (some (.ref A__law_flows)))
    (h_l_law_flows : K.lookup A__law_flows = some ⟨oc__law_flows, od__law_flows, .func (PySem.W.fnOf "_law_flows" "_law_flows" (defArgs s__law_flows) (defBody s__law_flows) (defScope s__law_flows) .none kV__law_flows dc__law_flows pm__law_flows an__law_flows cd__law_flows ct__law_flows), sl__law_flows⟩)
    (h_cd_law_flows : PySem.W.codeIn K cd__law_flows "_law_flows" = true)
    (h_k_law_flows : PySem.W.keepIn K (.ref A__law_flows) = true)
    (h_a_law_rooms : PySem.W.nsIn K mainGlobals "_law_rooms" = some (some (.ref A__law_rooms)))
    (h_l_law_rooms : K.lookup A__law_rooms = some ⟨oc__law_rooms, od__law_rooms, .func (PySem.W.fnOf "_law_rooms" "_law_rooms" (defArgs s__law_rooms) (defBody s__law_rooms) (defScope s__law_rooms) .none kV__law_rooms dc__law_rooms pm__law_rooms an__law_rooms cd__law_rooms ct__law_rooms), sl__law_rooms⟩)
    (h_cd_law_rooms : PySem.W.codeIn K cd__law_rooms "_law_rooms" = true)
    (h_k_law_rooms : PySem.W.keepIn K (.ref A__law_rooms) = true)
    (h_a_law_load : PySem.W.nsIn K mainGlobals "_law_load" = some (some (.ref A__law_load)))
    (h_l_law_load : K.lookup A__law_load = some ⟨oc__law_load, od__law_load, .func (PySem.W.fnOf "_law_load" "_law_load" (defArgs s__law_load) (defBody s__law_load) (defScope s__law_load) .none kV__law_load dc__law_load pm__law_load an__law_load cd__law_load ct__law_load), sl__law_load⟩)
    (h_cd_law_load : PySem.W.codeIn K cd__law_load "_law_load" = true)
    (h_k_law_load : PySem.W.keepIn K (.ref A__law_load) = true)
    (h_a_law_fits : PySem.W.nsIn K mainGlobals "_law_fits" = some (some (.ref A__law_fits)))
    (h_l_law_fits : K.lookup A__law_fits = some ⟨oc__law_fits, od__law_fits, .func (PySem.W.fnOf "_law_fits" "_law_fits" (defArgs s__law_fits) (defBody s__law_fits) (defScope s__law_fits) .none kV__law_fits dc__law_fits pm__law_fits an__law_fits cd__law_fits ct__law_fits), sl__law_fits⟩)
    (h_cd_law_fits : PySem.W.codeIn K cd__law_fits "_law_fits" = true)
    (h_k_law_fits : PySem.W.keepIn K (.ref A__law_fits) = true)
    (h_a_law_safe : PySem.W.nsIn K mainGlobals "_law_safe" = some (some (.ref A__law_safe)))
    (h_l_law_safe : K.lookup A__law_safe = some ⟨oc__law_safe, od__law_safe, .func (PySem.W.fnOf "_law_safe" "_law_safe" (defArgs s__law_safe) (defBody s__law_safe) (defScope s__law_safe) .none kV__law_safe dc__law_safe pm__law_safe an__law_safe cd__law_safe ct__law_safe), sl__law_safe⟩)
    (h_cd_law_safe : PySem.W.codeIn K cd__law_safe "_law_safe" = true)
    (h_k_law_safe : PySem.W.keepIn K (.ref A__law_safe) = true)
    (h_a_law_row : PySem.W.nsIn K mainGlobals "_law_row" = some (some (.ref A__law_row)))
    (h_l_law_row : K.lookup A__law_row = some ⟨oc__law_row, od__law_row, .func (PySem.W.fnOf "_law_row" "_law_row" (defArgs s__law_row) (defBody s__law_row) (defScope s__law_row) .none kV__law_row dc__law_row pm__law_row an__law_row cd__law_row ct__law_row), sl__law_row⟩)
    (h_cd_law_row : PySem.W.codeIn K cd__law_row "_law_row" = true)
    (h_k_law_row : PySem.W.keepIn K (.ref A__law_row) = true)
    (h_a_law_all : PySem.W.nsIn K mainGlobals "_law_all" = some (some (.ref A__law_all)))
    (h_l_law_all : K.lookup A__law_all = some ⟨oc__law_all, od__law_all, .func (PySem.W.fnOf "_law_all" "_law_all" (defArgs s__law_all) (defBody s__law_all) (defScope s__law_all) .none kV__law_all dc__law_all pm__law_all an__law_all cd__law_all ct__law_all), sl__law_all⟩)
    (h_cd_law_all : PySem.W.codeIn K cd__law_all "_law_all" = true)
    (h_k_law_all : PySem.W.keepIn K (.ref A__law_all) = true)
    (h_a_law_greatest : PySem.W.nsIn K mainGlobals "_law_greatest" = some (some (.ref A__law_greatest)))
    (h_l_law_greatest : K.lookup A__law_greatest = some ⟨oc__law_greatest, od__law_greatest, .func (PySem.W.fnOf "_law_greatest" "_law_greatest" (defArgs s__law_greatest) (defBody s__law_greatest) (defScope s__law_greatest) .none kV__law_greatest dc__law_greatest pm__law_greatest an__law_greatest cd__law_greatest ct__law_greatest), sl__law_greatest⟩)
    (h_cd_law_greatest : PySem.W.codeIn K cd__law_greatest "_law_greatest" = true)
    (h_k_law_greatest : PySem.W.keepIn K (.ref A__law_greatest) = true)
    (h_a_law_by_way : PySem.W.nsIn K mainGlobals "_law_by_way" = some (some (.ref A__law_by_way)))
    (h_l_law_by_way : K.lookup A__law_by_way = some ⟨oc__law_by_way, od__law_by_way, .func (PySem.W.fnOf "_law_by_way" "_law_by_way" (defArgs s__law_by_way) (defBody s__law_by_way) (defScope s__law_by_way) .none kV__law_by_way dc__law_by_way pm__law_by_way an__law_by_way cd__law_by_way ct__law_by_way), sl__law_by_way⟩)
    (h_cd_law_by_way : PySem.W.codeIn K cd__law_by_way "_law_by_way" = true)
    (h_k_law_by_way : PySem.W.keepIn K (.ref A__law_by_way) = true)
    (h_a_law_even : PySem.W.nsIn K mainGlobals "_law_even" = some (some (.ref A__law_even)))
    (h_l_law_even : K.lookup A__law_even = some ⟨oc__law_even, od__law_even, .func (PySem.W.fnOf "_law_even" "_law_even" (defArgs s__law_even) (defBody s__law_even) (defScope s__law_even) .none kV__law_even dc__law_even pm__law_even an__law_even cd__law_even ct__law_even), sl__law_even⟩)
    (h_cd_law_even : PySem.W.codeIn K cd__law_even "_law_even" = true)
    (h_k_law_even : PySem.W.keepIn K (.ref A__law_even) = true)
    (h_a_law_multiplied : PySem.W.nsIn K mainGlobals "_law_multiplied" = some (some (.ref A__law_multiplied)))
    (h_l_law_multiplied : K.lookup A__law_multiplied = some ⟨oc__law_multiplied, od__law_multiplied, .func (PySem.W.fnOf "_law_multiplied" "_law_multiplied" (defArgs s__law_multiplied) (defBody s__law_multiplied) (defScope s__law_multiplied) .none kV__law_multiplied dc__law_multiplied pm__law_multiplied an__law_multiplied cd__law_multiplied ct__law_multiplied), sl__law_multiplied⟩)
    (h_cd_law_multiplied : PySem.W.codeIn K cd__law_multiplied "_law_multiplied" = true)
    (h_k_law_multiplied : PySem.W.keepIn K (.ref A__law_multiplied) = true)
    (h_alaw : PySem.W.nsIn K mainGlobals "law" = some (some (.ref A_law)))
    (h_llaw : K.lookup A_law = some ⟨oc_law, od_law, .func (PySem.W.fnOf "law" "law" (defArgs s_law) (defBody s_law) (defScope s_law) .none kV_law dc_law pm_law an_law cd_law ct_law), sl_law⟩)
    (h_cdlaw : PySem.W.codeIn K cd_law "law" = true)
    (h_klaw : PySem.W.keepIn K (.ref A_law) = true)
    (h_bmax : PySem.W.nsIn K mainGlobals "max" = some none)
    (h_ball : PySem.W.nsIn K mainGlobals "all" = some none)
    (h_bzip : PySem.W.nsIn K mainGlobals "zip" = some none)
    (h_blist : PySem.W.nsIn K mainGlobals "list" = some none)
    (h_bsum : PySem.W.nsIn K mainGlobals "sum" = some none)
    (h_brange : PySem.W.nsIn K mainGlobals "range" = some none)
    (h_babs : PySem.W.nsIn K mainGlobals "abs" = some none)
    (h_bint : PySem.W.nsIn K mainGlobals "int" = some none)
    (h_blen : PySem.W.nsIn K mainGlobals "len" = some none)
    (h_bmin : PySem.W.nsIn K mainGlobals "min" = some none)
    (h_btuple : PySem.W.nsIn K mainGlobals "tuple" = some none)
    (h_brepr : PySem.W.nsIn K mainGlobals "repr" = some none) :
    ∃ fd : FuncData, (∀ (s : Shared) (v : Value), BindsTo s fd ⟨[v], []⟩ [("script", v)]) ∧ ∀ base : Heap, K.In base → base.Ns mainGlobals mg → LawRun l.prog w K mg base 20 fa fd ["script"] (sp_law K) := by
  haveI : IsP l.prog := ⟨hl⟩
  have e := hfa.symm.trans (PySem.W.mg_of X G h_alaw)
  have e2 : fa = A_law := Value.ref.inj (Option.some.inj e)
  rw [e2]
  have T : Txt w K mg ⟨A_load_of, (PySem.W.fnOf "load_of" "load_of" (defArgs s_load_of) (defBody s_load_of) (defScope s_load_of) .none kV_load_of dc_load_of pm_load_of an_load_of cd_load_of ct_load_of), A_summed, (PySem.W.fnOf "summed" "summed" (defArgs s_summed) (defBody s_summed) (defScope s_summed) .none kV_summed dc_summed pm_summed an_summed cd_summed ct_summed), A_greater, (PySem.W.fnOf "greater" "greater" (defArgs s_greater) (defBody s_greater) (defScope s_greater) .none kV_greater dc_greater pm_greater an_greater cd_greater ct_greater), A_is_within, (PySem.W.fnOf "is_within" "is_within" (defArgs s_is_within) (defBody s_is_within) (defScope s_is_within) .none kV_is_within dc_is_within pm_is_within an_is_within cd_is_within ct_is_within), A_loads, (PySem.W.fnOf "loads" "loads" (defArgs s_loads) (defBody s_loads) (defScope s_loads) .none kV_loads dc_loads pm_loads an_loads cd_loads ct_loads), A_fits_rooms, (PySem.W.fnOf "fits_rooms" "fits_rooms" (defArgs s_fits_rooms) (defBody s_fits_rooms) (defScope s_fits_rooms) .none kV_fits_rooms dc_fits_rooms pm_fits_rooms an_fits_rooms cd_fits_rooms ct_fits_rooms), A_greatest_loads, (PySem.W.fnOf "greatest_loads" "greatest_loads" (defArgs s_greatest_loads) (defBody s_greatest_loads) (defScope s_greatest_loads) .none kV_greatest_loads dc_greatest_loads pm_greatest_loads an_greatest_loads cd_greatest_loads ct_greatest_loads), A_is_safe, (PySem.W.fnOf "is_safe" "is_safe" (defArgs s_is_safe) (defBody s_is_safe) (defScope s_is_safe) .none kV_is_safe dc_is_safe pm_is_safe an_is_safe cd_is_safe ct_is_safe), A_scaled_flows, (PySem.W.fnOf "scaled_flows" "scaled_flows" (defArgs s_scaled_flows) (defBody s_scaled_flows) (defScope s_scaled_flows) .none kV_scaled_flows dc_scaled_flows pm_scaled_flows an_scaled_flows cd_scaled_flows ct_scaled_flows), A_ways_of, (PySem.W.fnOf "ways_of" "ways_of" (defArgs s_ways_of) (defBody s_ways_of) (defScope s_ways_of) .none kV_ways_of dc_ways_of pm_ways_of an_ways_of cd_ways_of ct_ways_of), A_amounts_of, (PySem.W.fnOf "amounts_of" "amounts_of" (defArgs s_amounts_of) (defBody s_amounts_of) (defScope s_amounts_of) .none kV_amounts_of dc_amounts_of pm_amounts_of an_amounts_of cd_amounts_of ct_amounts_of), A_flow_of, (PySem.W.fnOf "flow_of" "flow_of" (defArgs s_flow_of) (defBody s_flow_of) (defScope s_flow_of) .none kV_flow_of dc_flow_of pm_flow_of an_flow_of cd_flow_of ct_flow_of), A_even_step, (PySem.W.fnOf "even_step" "even_step" (defArgs s_even_step) (defBody s_even_step) (defScope s_even_step) .none kV_even_step dc_even_step pm_even_step an_even_step cd_even_step ct_even_step), A_even_steps, (PySem.W.fnOf "even_steps" "even_steps" (defArgs s_even_steps) (defBody s_even_steps) (defScope s_even_steps) .none kV_even_steps dc_even_steps pm_even_steps an_even_steps cd_even_steps ct_even_steps), A__law_state, (PySem.W.fnOf "_law_state" "_law_state" (defArgs s__law_state) (defBody s__law_state) (defScope s__law_state) .none kV__law_state dc__law_state pm__law_state an__law_state cd__law_state ct__law_state), A__law_draw, (PySem.W.fnOf "_law_draw" "_law_draw" (defArgs s__law_draw) (defBody s__law_draw) (defScope s__law_draw) .none kV__law_draw dc__law_draw pm__law_draw an__law_draw cd__law_draw ct__law_draw), A__law_way, (PySem.W.fnOf "_law_way" "_law_way" (defArgs s__law_way) (defBody s__law_way) (defScope s__law_way) .none kV__law_way dc__law_way pm__law_way an__law_way cd__law_way ct__law_way), A__law_flow, (PySem.W.fnOf "_law_flow" "_law_flow" (defArgs s__law_flow) (defBody s__law_flow) (defScope s__law_flow) .none kV__law_flow dc__law_flow pm__law_flow an__law_flow cd__law_flow ct__law_flow), A__law_flows, (PySem.W.fnOf "_law_flows" "_law_flows" (defArgs s__law_flows) (defBody s__law_flows) (defScope s__law_flows) .none kV__law_flows dc__law_flows pm__law_flows an__law_flows cd__law_flows ct__law_flows), A__law_rooms, (PySem.W.fnOf "_law_rooms" "_law_rooms" (defArgs s__law_rooms) (defBody s__law_rooms) (defScope s__law_rooms) .none kV__law_rooms dc__law_rooms pm__law_rooms an__law_rooms cd__law_rooms ct__law_rooms), A__law_load, (PySem.W.fnOf "_law_load" "_law_load" (defArgs s__law_load) (defBody s__law_load) (defScope s__law_load) .none kV__law_load dc__law_load pm__law_load an__law_load cd__law_load ct__law_load), A__law_fits, (PySem.W.fnOf "_law_fits" "_law_fits" (defArgs s__law_fits) (defBody s__law_fits) (defScope s__law_fits) .none kV__law_fits dc__law_fits pm__law_fits an__law_fits cd__law_fits ct__law_fits), A__law_safe, (PySem.W.fnOf "_law_safe" "_law_safe" (defArgs s__law_safe) (defBody s__law_safe) (defScope s__law_safe) .none kV__law_safe dc__law_safe pm__law_safe an__law_safe cd__law_safe ct__law_safe), A__law_row, (PySem.W.fnOf "_law_row" "_law_row" (defArgs s__law_row) (defBody s__law_row) (defScope s__law_row) .none kV__law_row dc__law_row pm__law_row an__law_row cd__law_row ct__law_row), A__law_all, (PySem.W.fnOf "_law_all" "_law_all" (defArgs s__law_all) (defBody s__law_all) (defScope s__law_all) .none kV__law_all dc__law_all pm__law_all an__law_all cd__law_all ct__law_all), A__law_greatest, (PySem.W.fnOf "_law_greatest" "_law_greatest" (defArgs s__law_greatest) (defBody s__law_greatest) (defScope s__law_greatest) .none kV__law_greatest dc__law_greatest pm__law_greatest an__law_greatest cd__law_greatest ct__law_greatest), A__law_by_way, (PySem.W.fnOf "_law_by_way" "_law_by_way" (defArgs s__law_by_way) (defBody s__law_by_way) (defScope s__law_by_way) .none kV__law_by_way dc__law_by_way pm__law_by_way an__law_by_way cd__law_by_way ct__law_by_way), A__law_even, (PySem.W.fnOf "_law_even" "_law_even" (defArgs s__law_even) (defBody s__law_even) (defScope s__law_even) .none kV__law_even dc__law_even pm__law_even an__law_even cd__law_even ct__law_even), A__law_multiplied, (PySem.W.fnOf "_law_multiplied" "_law_multiplied" (defArgs s__law_multiplied) (defBody s__law_multiplied) (defScope s__law_multiplied) .none kV__law_multiplied dc__law_multiplied pm__law_multiplied an__law_multiplied cd__law_multiplied ct__law_multiplied), A_law, (PySem.W.fnOf "law" "law" (defArgs s_law) (defBody s_law) (defScope s_law) .none kV_law dc_law pm_law an_law cd_law ct_law)⟩ := {
    fn_load_of := fun_mk (st := s_load_of) h_lload_of h_cdload_of h_kload_of
    bi_load_of := (fun_mk (st := s_load_of) h_lload_of h_cdload_of h_kload_of).binds (ps := ["flow"]) fun _ _ _ _ _ _ us hl => match us, hl with | [_], _ => rfl
    mg_load_of := PySem.W.mg_of X G h_aload_of
    kp_load_of := h_kload_of
    fn_summed := fun_mk (st := s_summed) h_lsummed h_cdsummed h_ksummed
    bi_summed := (fun_mk (st := s_summed) h_lsummed h_cdsummed h_ksummed).binds (ps := ["rows"]) fun _ _ _ _ _ _ us hl => match us, hl with | [_], _ => rfl
    mg_summed := PySem.W.mg_of X G h_asummed
    kp_summed := h_ksummed
    fn_greater := fun_mk (st := s_greater) h_lgreater h_cdgreater h_kgreater
    bi_greater := (fun_mk (st := s_greater) h_lgreater h_cdgreater h_kgreater).binds (ps := ["load", "other"]) fun _ _ _ _ _ _ us hl => match us, hl with | [_, _], _ => rfl
    mg_greater := PySem.W.mg_of X G h_agreater
    kp_greater := h_kgreater
    fn_is_within := fun_mk (st := s_is_within) h_lis_within h_cdis_within h_kis_within
    bi_is_within := (fun_mk (st := s_is_within) h_lis_within h_cdis_within h_kis_within).binds (ps := ["rooms", "load"]) fun _ _ _ _ _ _ us hl => match us, hl with | [_, _], _ => rfl
    mg_is_within := PySem.W.mg_of X G h_ais_within
    kp_is_within := h_kis_within
    fn_loads := fun_mk (st := s_loads) h_lloads h_cdloads h_kloads
    bi_loads := (fun_mk (st := s_loads) h_lloads h_cdloads h_kloads).binds (ps := ["flows"]) fun _ _ _ _ _ _ us hl => match us, hl with | [_], _ => rfl
    mg_loads := PySem.W.mg_of X G h_aloads
    kp_loads := h_kloads
    fn_fits_rooms := fun_mk (st := s_fits_rooms) h_lfits_rooms h_cdfits_rooms h_kfits_rooms
    bi_fits_rooms := (fun_mk (st := s_fits_rooms) h_lfits_rooms h_cdfits_rooms h_kfits_rooms).binds (ps := ["rooms", "flows"]) fun _ _ _ _ _ _ us hl => match us, hl with | [_, _], _ => rfl
    mg_fits_rooms := PySem.W.mg_of X G h_afits_rooms
    kp_fits_rooms := h_kfits_rooms
    fn_greatest_loads := fun_mk (st := s_greatest_loads) h_lgreatest_loads h_cdgreatest_loads h_kgreatest_loads
    bi_greatest_loads := (fun_mk (st := s_greatest_loads) h_lgreatest_loads h_cdgreatest_loads h_kgreatest_loads).binds (ps := ["flows", "others"]) fun _ _ _ _ _ _ us hl => match us, hl with | [_, _], _ => rfl
    mg_greatest_loads := PySem.W.mg_of X G h_agreatest_loads
    kp_greatest_loads := h_kgreatest_loads
    fn_is_safe := fun_mk (st := s_is_safe) h_lis_safe h_cdis_safe h_kis_safe
    bi_is_safe := (fun_mk (st := s_is_safe) h_lis_safe h_cdis_safe h_kis_safe).binds (ps := ["rooms", "flows", "others"]) fun _ _ _ _ _ _ us hl => match us, hl with | [_, _, _], _ => rfl
    mg_is_safe := PySem.W.mg_of X G h_ais_safe
    kp_is_safe := h_kis_safe
    fn_scaled_flows := fun_mk (st := s_scaled_flows) h_lscaled_flows h_cdscaled_flows h_kscaled_flows
    bi_scaled_flows := (fun_mk (st := s_scaled_flows) h_lscaled_flows h_cdscaled_flows h_kscaled_flows).binds (ps := ["flows", "factor"]) fun _ _ _ _ _ _ us hl => match us, hl with | [_, _], _ => rfl
    mg_scaled_flows := PySem.W.mg_of X G h_ascaled_flows
    kp_scaled_flows := h_kscaled_flows
    fn_ways_of := fun_mk (st := s_ways_of) h_lways_of h_cdways_of h_kways_of
    bi_ways_of := (fun_mk (st := s_ways_of) h_lways_of h_cdways_of h_kways_of).binds (ps := ["flow", "other"]) fun _ _ _ _ _ _ us hl => match us, hl with | [_, _], _ => rfl
    mg_ways_of := PySem.W.mg_of X G h_aways_of
    kp_ways_of := h_kways_of
    fn_amounts_of := fun_mk (st := s_amounts_of) h_lamounts_of h_cdamounts_of h_kamounts_of
    bi_amounts_of := (fun_mk (st := s_amounts_of) h_lamounts_of h_cdamounts_of h_kamounts_of).binds (ps := ["flow", "ways"]) fun _ _ _ _ _ _ us hl => match us, hl with | [_, _], _ => rfl
    mg_amounts_of := PySem.W.mg_of X G h_aamounts_of
    kp_amounts_of := h_kamounts_of
    fn_flow_of := fun_mk (st := s_flow_of) h_lflow_of h_cdflow_of h_kflow_of
    bi_flow_of := (fun_mk (st := s_flow_of) h_lflow_of h_cdflow_of h_kflow_of).binds (ps := ["ways", "amounts"]) fun _ _ _ _ _ _ us hl => match us, hl with | [_, _], _ => rfl
    mg_flow_of := PySem.W.mg_of X G h_aflow_of
    kp_flow_of := h_kflow_of
    fn_even_step := fun_mk (st := s_even_step) h_leven_step h_cdeven_step h_keven_step
    bi_even_step := (fun_mk (st := s_even_step) h_leven_step h_cdeven_step h_keven_step).binds (ps := ["flow", "other", "many", "more"]) fun _ _ _ _ _ _ us hl => match us, hl with | [_, _, _, _], _ => rfl
    mg_even_step := PySem.W.mg_of X G h_aeven_step
    kp_even_step := h_keven_step
    fn_even_steps := fun_mk (st := s_even_steps) h_leven_steps h_cdeven_steps h_keven_steps
    bi_even_steps := (fun_mk (st := s_even_steps) h_leven_steps h_cdeven_steps h_keven_steps).binds (ps := ["flows", "others", "count"]) fun _ _ _ _ _ _ us hl => match us, hl with | [_, _, _], _ => rfl
    mg_even_steps := PySem.W.mg_of X G h_aeven_steps
    kp_even_steps := h_keven_steps
    fn__law_state := fun_mk (st := s__law_state) h_l_law_state h_cd_law_state h_k_law_state
    bi__law_state := (fun_mk (st := s__law_state) h_l_law_state h_cd_law_state h_k_law_state).binds (ps := ["script"]) fun _ _ _ _ _ _ us hl => match us, hl with | [_], _ => rfl
    mg__law_state := PySem.W.mg_of X G h_a_law_state
    kp__law_state := h_k_law_state
    fn__law_draw := fun_mk (st := s__law_draw) h_l_law_draw h_cd_law_draw h_k_law_draw
    bi__law_draw := (fun_mk (st := s__law_draw) h_l_law_draw h_cd_law_draw h_k_law_draw).binds (ps := ["state", "many"]) fun _ _ _ _ _ _ us hl => match us, hl with | [_, _], _ => rfl
    mg__law_draw := PySem.W.mg_of X G h_a_law_draw
    kp__law_draw := h_k_law_draw
    fn__law_way := fun_mk (st := s__law_way) h_l_law_way h_cd_law_way h_k_law_way
    bi__law_way := (fun_mk (st := s__law_way) h_l_law_way h_cd_law_way h_k_law_way).binds (ps := ["state"]) fun _ _ _ _ _ _ us hl => match us, hl with | [_], _ => rfl
    mg__law_way := PySem.W.mg_of X G h_a_law_way
    kp__law_way := h_k_law_way
    fn__law_flow := fun_mk (st := s__law_flow) h_l_law_flow h_cd_law_flow h_k_law_flow
    bi__law_flow := (fun_mk (st := s__law_flow) h_l_law_flow h_cd_law_flow h_k_law_flow).binds (ps := ["state", "amount", "ways"]) fun _ _ _ _ _ _ us hl => match us, hl with | [_, _, _], _ => rfl
    mg__law_flow := PySem.W.mg_of X G h_a_law_flow
    kp__law_flow := h_k_law_flow
    fn__law_flows := fun_mk (st := s__law_flows) h_l_law_flows h_cd_law_flows h_k_law_flows
    bi__law_flows := (fun_mk (st := s__law_flows) h_l_law_flows h_cd_law_flows h_k_law_flows).binds (ps := ["state"]) fun _ _ _ _ _ _ us hl => match us, hl with | [_], _ => rfl
    mg__law_flows := PySem.W.mg_of X G h_a_law_flows
    kp__law_flows := h_k_law_flows
    fn__law_rooms := fun_mk (st := s__law_rooms) h_l_law_rooms h_cd_law_rooms h_k_law_rooms
    bi__law_rooms := (fun_mk (st := s__law_rooms) h_l_law_rooms h_cd_law_rooms h_k_law_rooms).binds (ps := ["state"]) fun _ _ _ _ _ _ us hl => match us, hl with | [_], _ => rfl
    mg__law_rooms := PySem.W.mg_of X G h_a_law_rooms
    kp__law_rooms := h_k_law_rooms
    fn__law_load := fun_mk (st := s__law_load) h_l_law_load h_cd_law_load h_k_law_load
    bi__law_load := (fun_mk (st := s__law_load) h_l_law_load h_cd_law_load h_k_law_load).binds (ps := ["flows", "end"]) fun _ _ _ _ _ _ us hl => match us, hl with | [_, _], _ => rfl
    mg__law_load := PySem.W.mg_of X G h_a_law_load
    kp__law_load := h_k_law_load
    fn__law_fits := fun_mk (st := s__law_fits) h_l_law_fits h_cd_law_fits h_k_law_fits
    bi__law_fits := (fun_mk (st := s__law_fits) h_l_law_fits h_cd_law_fits h_k_law_fits).binds (ps := ["rooms", "flows"]) fun _ _ _ _ _ _ us hl => match us, hl with | [_, _], _ => rfl
    mg__law_fits := PySem.W.mg_of X G h_a_law_fits
    kp__law_fits := h_k_law_fits
    fn__law_safe := fun_mk (st := s__law_safe) h_l_law_safe h_cd_law_safe h_k_law_safe
    bi__law_safe := (fun_mk (st := s__law_safe) h_l_law_safe h_cd_law_safe h_k_law_safe).binds (ps := ["rooms", "flows", "others"]) fun _ _ _ _ _ _ us hl => match us, hl with | [_, _, _], _ => rfl
    mg__law_safe := PySem.W.mg_of X G h_a_law_safe
    kp__law_safe := h_k_law_safe
    fn__law_row := fun_mk (st := s__law_row) h_l_law_row h_cd_law_row h_k_law_row
    bi__law_row := (fun_mk (st := s__law_row) h_l_law_row h_cd_law_row h_k_law_row).binds (ps := ["pairs"]) fun _ _ _ _ _ _ us hl => match us, hl with | [_], _ => rfl
    mg__law_row := PySem.W.mg_of X G h_a_law_row
    kp__law_row := h_k_law_row
    fn__law_all := fun_mk (st := s__law_all) h_l_law_all h_cd_law_all h_k_law_all
    bi__law_all := (fun_mk (st := s__law_all) h_l_law_all h_cd_law_all h_k_law_all).binds (ps := ["flows"]) fun _ _ _ _ _ _ us hl => match us, hl with | [_], _ => rfl
    mg__law_all := PySem.W.mg_of X G h_a_law_all
    kp__law_all := h_k_law_all
    fn__law_greatest := fun_mk (st := s__law_greatest) h_l_law_greatest h_cd_law_greatest h_k_law_greatest
    bi__law_greatest := (fun_mk (st := s__law_greatest) h_l_law_greatest h_cd_law_greatest h_k_law_greatest).binds (ps := ["flows", "others"]) fun _ _ _ _ _ _ us hl => match us, hl with | [_, _], _ => rfl
    mg__law_greatest := PySem.W.mg_of X G h_a_law_greatest
    kp__law_greatest := h_k_law_greatest
    fn__law_by_way := fun_mk (st := s__law_by_way) h_l_law_by_way h_cd_law_by_way h_k_law_by_way
    bi__law_by_way := (fun_mk (st := s__law_by_way) h_l_law_by_way h_cd_law_by_way h_k_law_by_way).binds (ps := ["flow"]) fun _ _ _ _ _ _ us hl => match us, hl with | [_], _ => rfl
    mg__law_by_way := PySem.W.mg_of X G h_a_law_by_way
    kp__law_by_way := h_k_law_by_way
    fn__law_even := fun_mk (st := s__law_even) h_l_law_even h_cd_law_even h_k_law_even
    bi__law_even := (fun_mk (st := s__law_even) h_l_law_even h_cd_law_even h_k_law_even).binds (ps := ["flow", "other", "count", "k"]) fun _ _ _ _ _ _ us hl => match us, hl with | [_, _, _, _], _ => rfl
    mg__law_even := PySem.W.mg_of X G h_a_law_even
    kp__law_even := h_k_law_even
    fn__law_multiplied := fun_mk (st := s__law_multiplied) h_l_law_multiplied h_cd_law_multiplied h_k_law_multiplied
    bi__law_multiplied := (fun_mk (st := s__law_multiplied) h_l_law_multiplied h_cd_law_multiplied h_k_law_multiplied).binds (ps := ["rooms", "factor"]) fun _ _ _ _ _ _ us hl => match us, hl with | [_, _], _ => rfl
    mg__law_multiplied := PySem.W.mg_of X G h_a_law_multiplied
    kp__law_multiplied := h_k_law_multiplied
    fn_law := fun_mk (st := s_law) h_llaw h_cdlaw h_klaw
    bi_law := (fun_mk (st := s_law) h_llaw h_cdlaw h_klaw).binds (ps := ["script"]) fun _ _ _ _ _ _ us hl => match us, hl with | [_], _ => rfl
    mg_law := PySem.W.mg_of X G h_alaw
    kp_law := h_klaw
    mg_max := PySem.W.mg_none_of X G h_bmax
    mg_all := PySem.W.mg_none_of X G h_ball
    mg_zip := PySem.W.mg_none_of X G h_bzip
    mg_list := PySem.W.mg_none_of X G h_blist
    mg_sum := PySem.W.mg_none_of X G h_bsum
    mg_range := PySem.W.mg_none_of X G h_brange
    mg_abs := PySem.W.mg_none_of X G h_babs
    mg_int := PySem.W.mg_none_of X G h_bint
    mg_len := PySem.W.mg_none_of X G h_blen
    mg_min := PySem.W.mg_none_of X G h_bmin
    mg_tuple := PySem.W.mg_none_of X G h_btuple
    mg_repr := PySem.W.mg_none_of X G h_brepr }
  exact ⟨_, fun s v => .of_eq rfl, fun base _ _ => ok_law T⟩
theorem walk {l : PySem.W.OpenLaw} {q : Program} {loose : List Str} {XP : (Str → Option Value) → Heap → Prop} {YP : World → Heap → Prop} {d : DefRec} {K : Params → PySem.W.Frag} (hn : l.most = some 63) (hdf : d.params.defaults = [])
    (hY : ∀ (w : World) (h : Heap), YP w h → (K w.params).In h)
    (F : ∀ (w : World) (mg : Str → Option Value) (fa : Addr) (h : Heap), (K w.params).In h → h.Ns mainGlobals mg → mg d.name = some (.ref fa) →
      ∃ fd : FuncData, (∀ (s : Shared) (u : Value), BindsTo s fd ⟨[u], []⟩ [("script", u)]) ∧ ∀ base : Heap, (K w.params).In base → base.Ns mainGlobals mg → LawRun l.prog w (K w.params) mg base 20 fa fd ["script"] (sp_law (K w.params))) :
    PySem.W.WalkO q loose XP YP l.row.toRowW d [] (fun f vs => PySem.call f vs) :=
  walk_run (n := 63) (k := 20) (x := "script") (sp := fun w => sp_law (K w.params)) hn (by decide) hdf ⟨rfl, by decide, by decide⟩ hY F (fun _ _ a ns hl _ hS => ⟨a, ns, rfl, hS, hl, fun _ => rfl⟩)
end K51

open PySem PySem.W PyProof.Rows in
set_option maxRecDepth 100000 in
set_option maxHeartbeats 0 in
theorem PySem.Challenge.cw_hangbridge_k51_loads_and_safe_steps_holds : PySem.Challenge.rw_hangbridge_k51_loads_and_safe_steps.Holds := by
  w_on; o_law; k_head; (case hw => w_witness2)
  k_fill
  refine K51.walk (l := PySem.Challenge.rw_hangbridge_k51_loads_and_safe_steps) rfl rfl (fun w h Y => PySem.W.kIn_of Y) ?F
  case F =>
    intro w mg fa h KX G hmg
    refine' K51.all_mk (l := PySem.Challenge.rw_hangbridge_k51_loads_and_safe_steps) rfl KX G hmg ?h_aload_of ?h_lload_of ?h_cdload_of ?h_kload_of ?h_asummed ?h_lsummed ?h_cdsummed ?h_ksummed ?h_agreater ?h_lgreater ?h_cdgreater ?h_kgreater ?h_ais_within ?h_lis_within ?h_cdis_within ?h_kis_within ?h_aloads ?h_lloads ?h_cdloads ?h_kloads ?h_afits_rooms ?h_lfits_rooms ?h_cdfits_rooms ?h_kfits_rooms ?h_agreatest_loads ?h_lgreatest_loads ?h_cdgreatest_loads ?h_kgreatest_loads ?h_ais_safe ?h_lis_safe ?h_cdis_safe ?h_kis_safe ?h_ascaled_flows ?h_lscaled_flows ?h_cdscaled_flows ?h_kscaled_flows ?h_aways_of ?h_lways_of ?h_cdways_of ?h_kways_of ?h_aamounts_of ?h_lamounts_of ?h_cdamounts_of ?h_kamounts_of ?h_aflow_of ?h_lflow_of ?h_cdflow_of ?h_kflow_of ?h_aeven_step ?h_leven_step ?h_cdeven_step ?h_keven_step ?h_aeven_steps ?h_leven_steps ?h_cdeven_steps ?h_keven_steps ?h_a_law_state ?h_l_law_state ?h_cd_law_state ?h_k_law_state ?h_a_law_draw ?h_l_law_draw ?h_cd_law_draw ?h_k_law_draw ?h_a_law_way ?h_l_law_way ?h_cd_law_way ?h_k_law_way ?h_a_law_flow ?h_l_law_flow ?h_cd_law_flow ?h_k_law_flow ?h_a_law_flows ?h_l_law_flows ?h_cd_law_flows ?h_k_law_flows ?h_a_law_rooms ?h_l_law_rooms ?h_cd_law_rooms ?h_k_law_rooms ?h_a_law_load ?h_l_law_load ?h_cd_law_load ?h_k_law_load ?h_a_law_fits ?h_l_law_fits ?h_cd_law_fits ?h_k_law_fits ?h_a_law_safe ?h_l_law_safe ?h_cd_law_safe ?h_k_law_safe ?h_a_law_row ?h_l_law_row ?h_cd_law_row ?h_k_law_row ?h_a_law_all ?h_l_law_all ?h_cd_law_all ?h_k_law_all ?h_a_law_greatest ?h_l_law_greatest ?h_cd_law_greatest ?h_k_law_greatest ?h_a_law_by_way ?h_l_law_by_way ?h_cd_law_by_way ?h_k_law_by_way ?h_a_law_even ?h_l_law_even ?h_cd_law_even ?h_k_law_even ?h_a_law_multiplied ?h_l_law_multiplied ?h_cd_law_multiplied ?h_k_law_multiplied ?h_alaw ?h_llaw ?h_cdlaw ?h_klaw ?h_bmax ?h_ball ?h_bzip ?h_blist ?h_bsum ?h_brange ?h_babs ?h_bint ?h_blen ?h_bmin ?h_btuple ?h_brepr
    (case h_aload_of => k_is)
    (case h_lload_of => k_is)
    (case h_cdload_of => k_is)
    (case h_kload_of => k_is)
    (case h_asummed => k_is)
    (case h_lsummed => k_is)
    (case h_cdsummed => k_is)
    (case h_ksummed => k_is)
    (case h_agreater => k_is)
    (case h_lgreater => k_is)
    (case h_cdgreater => k_is)
    (case h_kgreater => k_is)
    (case h_ais_within => k_is)
    (case h_lis_within => k_is)
    (case h_cdis_within => k_is)
    (case h_kis_within => k_is)
    (case h_aloads => k_is)
    (case h_lloads => k_is)
    (case h_cdloads => k_is)
    (case h_kloads => k_is)
    (case h_afits_rooms => k_is)
    (case h_lfits_rooms => k_is)
    (case h_cdfits_rooms => k_is)
    (case h_kfits_rooms => k_is)
    (case h_agreatest_loads => k_is)
    (case h_lgreatest_loads => k_is)
    (case h_cdgreatest_loads => k_is)
    (case h_kgreatest_loads => k_is)
    (case h_ais_safe => k_is)
    (case h_lis_safe => k_is)
    (case h_cdis_safe => k_is)
    (case h_kis_safe => k_is)
    (case h_ascaled_flows => k_is)
    (case h_lscaled_flows => k_is)
    (case h_cdscaled_flows => k_is)
    (case h_kscaled_flows => k_is)
    (case h_aways_of => k_is)
    (case h_lways_of => k_is)
    (case h_cdways_of => k_is)
    (case h_kways_of => k_is)
    (case h_aamounts_of => k_is)
    (case h_lamounts_of => k_is)
    (case h_cdamounts_of => k_is)
    (case h_kamounts_of => k_is)
    (case h_aflow_of => k_is)
    (case h_lflow_of => k_is)
    (case h_cdflow_of => k_is)
    (case h_kflow_of => k_is)
    (case h_aeven_step => k_is)
    (case h_leven_step => k_is)
    (case h_cdeven_step => k_is)
    (case h_keven_step => k_is)
    (case h_aeven_steps => k_is)
    (case h_leven_steps => k_is)
    (case h_cdeven_steps => k_is)
    (case h_keven_steps => k_is)
    (case h_a_law_state => k_is)
    (case h_l_law_state => k_is)
    (case h_cd_law_state => k_is)
    (case h_k_law_state => k_is)
    (case h_a_law_draw => k_is)
    (case h_l_law_draw => k_is)
    (case h_cd_law_draw => k_is)
    (case h_k_law_draw => k_is)
    (case h_a_law_way => k_is)
    (case h_l_law_way => k_is)
    (case h_cd_law_way => k_is)
    (case h_k_law_way => k_is)
    (case h_a_law_flow => k_is)
    (case h_l_law_flow => k_is)
    (case h_cd_law_flow => k_is)
    (case h_k_law_flow => k_is)
    (case h_a_law_flows => k_is)
    (case h_l_law_flows => k_is)
    (case h_cd_law_flows => k_is)
    (case h_k_law_flows => k_is)
    (case h_a_law_rooms => k_is)
    (case h_l_law_rooms => k_is)
    (case h_cd_law_rooms => k_is)
    (case h_k_law_rooms => k_is)
    (case h_a_law_load => k_is)
    (case h_l_law_load => k_is)
    (case h_cd_law_load => k_is)
    (case h_k_law_load => k_is)
    (case h_a_law_fits => k_is)
    (case h_l_law_fits => k_is)
    (case h_cd_law_fits => k_is)
    (case h_k_law_fits => k_is)
    (case h_a_law_safe => k_is)
    (case h_l_law_safe => k_is)
    (case h_cd_law_safe => k_is)
    (case h_k_law_safe => k_is)
    (case h_a_law_row => k_is)
    (case h_l_law_row => k_is)
    (case h_cd_law_row => k_is)
    (case h_k_law_row => k_is)
    (case h_a_law_all => k_is)
    (case h_l_law_all => k_is)
    (case h_cd_law_all => k_is)
    (case h_k_law_all => k_is)
    (case h_a_law_greatest => k_is)
    (case h_l_law_greatest => k_is)
    (case h_cd_law_greatest => k_is)
    (case h_k_law_greatest => k_is)
    (case h_a_law_by_way => k_is)
    (case h_l_law_by_way => k_is)
    (case h_cd_law_by_way => k_is)
    (case h_k_law_by_way => k_is)
    (case h_a_law_even => k_is)
    (case h_l_law_even => k_is)
    (case h_cd_law_even => k_is)
    (case h_k_law_even => k_is)
    (case h_a_law_multiplied => k_is)
    (case h_l_law_multiplied => k_is)
    (case h_cd_law_multiplied => k_is)
    (case h_k_law_multiplied => k_is)
    (case h_alaw => k_is)
    (case h_llaw => k_is)
    (case h_cdlaw => k_is)
    (case h_klaw => k_is)
    (case h_bmax => k_is)
    (case h_ball => k_is)
    (case h_bzip => k_is)
    (case h_blist => k_is)
    (case h_bsum => k_is)
    (case h_brange => k_is)
    (case h_babs => k_is)
    (case h_bint => k_is)
    (case h_blen => k_is)
    (case h_bmin => k_is)
    (case h_btuple => k_is)
    (case h_brepr => k_is)
