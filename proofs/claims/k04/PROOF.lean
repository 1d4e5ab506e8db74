import PyProof.Rows.All
import Wide.All
import OpenK.AllK
import Wide.FinOn
import HandS.ForMost
import HandS.Flow
import HandS.More
import HandS.IsInst
import HandS.Wide
import HandS.Style
import HandS.FStr
import HandS.Exc
import HandS.ExcInit
import HandS.ExcOwn
import HandS.ExcField
import HandS.ExcIs
import HandS.ClsMeth
import HandS.Codes
import HandS.TryOnly
import HandS.WordsExc
import KE.KExcIs
import KE.KIsAll
import HandS.Small
import KE.KeyNested
import KE.KDictKeyed
import HandS.SortOrd
import HandS.SortRule
import HandS.Dict
import HandS.Iter
import HandS.Conv
import HandS.Deep
import KE.DataMinMax
import KE.SortData
import HandS.TupSets
import HandS.SetBool
import HandS.Zip
import HandS.Star
import HandS.SetKeys
import HandS.DictComp
import HandS.SortInts
import PyProof.ReprRoads
import PyProof.ReprLen
import PyProof.ReprBulk
import HandS.TupAny
import HandS.List
import KE.DataCmp
import PySem.Challenge.RW_hangbridge_k04_graphs_and_ways
set_option Elab.async false
set_option maxRecDepth 100000
set_option maxHeartbeats 4000000
/-! A heap as what stood and what is our own; steps of readings over it. -/
namespace Hb
open PySem L2

/-- B stood and is kept; L are our own objects, each once -/
structure Hs (B : Hp) (L : List (Addr × HO)) (H : Hp) : Prop where
  same : Same B H
  nd : (L.map (·.1)).Nodup
  out : ∀ e ∈ L, B e.1 = none
  at_ : ∀ e ∈ L, H e.1 = some e.2

section
variable {B H H' : Hp} {L R A : List (Addr × HO)} {p l : Addr} {o o' : HO} {i : Nat}
theorem Hs.start (H : Hp) : Hs H [] H := ⟨Same.refl H, List.nodup_nil, (fun _ h => nomatch h), (fun _ h => nomatch h)⟩
theorem Hs.of_same (h : Same B H) : Hs B [] H := ⟨h, List.nodup_nil, (fun _ h => nomatch h), (fun _ h => nomatch h)⟩
theorem Hs.get (hs : Hs B L H) (h : L[i]? = some (p, o)) : H p = some o := hs.at_ (p, o) (List.mem_of_getElem? h)
theorem Hs.mem (hs : Hs B L H) (h : (p, o) ∈ L) : H p = some o := hs.at_ (p, o) h
theorem Hs.g0 (hs : Hs B ((p, o) :: L) H) : H p = some o := hs.get (i := 0) rfl
theorem Hs.g1 {x} (hs : Hs B (x :: (p, o) :: L) H) : H p = some o := hs.get (i := 1) rfl
theorem Hs.g2 {x y} (hs : Hs B (x :: y :: (p, o) :: L) H) : H p = some o := hs.get (i := 2) rfl
theorem Hs.g3 {x y z} (hs : Hs B (x :: y :: z :: (p, o) :: L) H) : H p = some o := hs.get (i := 3) rfl
theorem Hs.g4 {x y z w} (hs : Hs B (x :: y :: z :: w :: (p, o) :: L) H) : H p = some o := hs.get (i := 4) rfl
theorem Hs.g5 {x y z w v} (hs : Hs B (x :: y :: z :: w :: v :: (p, o) :: L) H) : H p = some o := hs.get (i := 5) rfl
theorem Hs.g6 {x y z w v u} (hs : Hs B (x :: y :: z :: w :: v :: u :: (p, o) :: L) H) : H p = some o := hs.get (i := 6) rfl
theorem Hs.g7 {x y z w v u t} (hs : Hs B (x :: y :: z :: w :: v :: u :: t :: (p, o) :: L) H) : H p = some o := hs.get (i := 7) rfl
theorem Hs.g8 {x y z w v u t s} (hs : Hs B (x :: y :: z :: w :: v :: u :: t :: s :: (p, o) :: L) H) : H p = some o := hs.get (i := 8) rfl
theorem Hs.g9 {x y z w v u t s r} (hs : Hs B (x :: y :: z :: w :: v :: u :: t :: s :: r :: (p, o) :: L) H) : H p = some o := hs.get (i := 9) rfl
theorem Hs.g10 {x y z w v u t s r q} (hs : Hs B (x :: y :: z :: w :: v :: u :: t :: s :: r :: q :: (p, o) :: L) H) : H p = some o := hs.get (i := 10) rfl
theorem Hs.g11 {x y z w v u t s r q n} (hs : Hs B (x :: y :: z :: w :: v :: u :: t :: s :: r :: q :: n :: (p, o) :: L) H) : H p = some o := hs.get (i := 11) rfl
theorem Hs.g12 {x y z w v u t s r q n m} (hs : Hs B (x :: y :: z :: w :: v :: u :: t :: s :: r :: q :: n :: m :: (p, o) :: L) H) : H p = some o := hs.get (i := 12) rfl
theorem Hs.g13 {x y z w v u t s r q n m k} (hs : Hs B (x :: y :: z :: w :: v :: u :: t :: s :: r :: q :: n :: m :: k :: (p, o) :: L) H) : H p = some o := hs.get (i := 13) rfl
theorem Hs.g14 {x y z w v u t s r q n m k j} (hs : Hs B (x :: y :: z :: w :: v :: u :: t :: s :: r :: q :: n :: m :: k :: j :: (p, o) :: L) H) : H p = some o := hs.get (i := 14) rfl
theorem Hs.g15 {x y z w v u t s r q n m k j h} (hs : Hs B (x :: y :: z :: w :: v :: u :: t :: s :: r :: q :: n :: m :: k :: j :: h :: (p, o) :: L) H) : H p = some o := hs.get (i := 15) rfl
theorem Hs.sql {K : PySem.W.Frag} {xs : List V} (hs : Hs B L H) (h : SqL K B p xs) : SqL K H p xs := hs.same.seq h
theorem Hs.old (hs : Hs B L H) (h : B p = some o) : H p = some o := hs.same _ _ h
theorem Hs.fresh (hs : Hs B L H) (h : H p = none) : p ∉ L.map (·.1) := fun m => by
  obtain ⟨e, he, rfl⟩ := List.mem_map.mp m
  rw [hs.at_ e he] at h
  cases h
/-- a new object -/
theorem Hs.new (hs : Hs B L H) (h : H p = none) : Hs B ((p, o) :: L) (upd H p o) := by
  have hf := hs.fresh h
  refine ⟨fun b u e => ?_, ?_, fun e he => ?_, fun e he => ?_⟩
  · rw [upd_ne (ne_of_none (hs.same b u e) h)]
    exact hs.same b u e
  · rw [List.map_cons, List.nodup_cons]
    exact ⟨hf, hs.nd⟩
  · rcases List.mem_cons.mp he with rfl | he
    · exact hs.same.free h
    · exact hs.out e he
  · rcases List.mem_cons.mp he with rfl | he
    · exact upd_same
    · rw [upd_ne (ne_of_none (hs.at_ e he) h)]
      exact hs.at_ e he
theorem set_fst : ∀ {L : List (Addr × HO)} {i : Nat} {p : Addr} {o o' : HO}, L[i]? = some (p, o) → (L.set i (p, o')).map (·.1) = L.map (·.1)
  | [], _, _, _, _, h => by simp at h
  | x :: L, 0, p, o, o', h => by
    have e : x = (p, o) := by simpa using h
    subst e
    rfl
  | x :: L, i + 1, p, o, o', h => by
    have := set_fst (L := L) (i := i) (o' := o') (by simpa using h)
    show _ :: ((L.set i (p, o')).map (·.1)) = _ :: L.map (·.1)
    rw [this]
theorem nd_only : ∀ {L : List (Addr × HO)} {e : Addr × HO} {i : Nat} {p : Addr} {o o' : HO}, (L.map (·.1)).Nodup → L[i]? = some (p, o) → e ∈ L.set i (p, o') → e = (p, o') ∨ (e ∈ L ∧ e.1 ≠ p)
  | [], _, _, _, _, _, _, h, _ => by simp at h
  | x :: L, e, 0, p, o, o', nd, h, m => by
    have ex : x = (p, o) := by simpa using h
    subst ex
    rcases List.mem_cons.mp m with rfl | m
    · exact .inl rfl
    · refine .inr ⟨List.mem_cons_of_mem _ m, fun q => ?_⟩
      rw [List.map_cons, List.nodup_cons] at nd
      exact nd.1 (List.mem_map.mpr ⟨e, m, q⟩)
  | x :: L, e, i + 1, p, o, o', nd, h, m => by
    rw [List.map_cons, List.nodup_cons] at nd
    have h' : L[i]? = some (p, o) := by simpa using h
    rcases List.mem_cons.mp m with rfl | m
    · refine .inr ⟨List.mem_cons_self, fun q => ?_⟩
      exact nd.1 (List.mem_map.mpr ⟨(p, o), List.mem_of_getElem? h', q.symm⟩)
    · rcases nd_only nd.2 h' m with r | ⟨r, q⟩
      · exact .inl r
      · exact .inr ⟨List.mem_cons_of_mem _ r, q⟩
/-- a store to one's own object -/
theorem Hs.put (hs : Hs B L H) (h : L[i]? = some (p, o)) : Hs B (L.set i (p, o')) (upd H p o') := by
  have hp : B p = none := hs.out (p, o) (List.mem_of_getElem? h)
  refine ⟨fun b u e => ?_, ?_, fun e he => ?_, fun e he => ?_⟩
  · have n : b ≠ p := fun q => by
      rw [q, hp] at e
      cases e
    rw [upd_ne n]
    exact hs.same b u e
  · rw [set_fst h]
    exact hs.nd
  · rcases nd_only hs.nd h he with rfl | ⟨m, _⟩
    · exact hp
    · exact hs.out e m
  · rcases nd_only hs.nd h he with rfl | ⟨m, q⟩
    · exact upd_same
    · rw [upd_ne q]
      exact hs.at_ e m
theorem Hs.p0 (o' : HO) (hs : Hs B ((p, o) :: L) H) : Hs B ((p, o') :: L) (upd H p o') := hs.put (i := 0) rfl
theorem Hs.p1 (o' : HO) {x} (hs : Hs B (x :: (p, o) :: L) H) : Hs B (x :: (p, o') :: L) (upd H p o') := hs.put (i := 1) rfl
theorem Hs.p2 (o' : HO) {x y} (hs : Hs B (x :: y :: (p, o) :: L) H) : Hs B (x :: y :: (p, o') :: L) (upd H p o') := hs.put (i := 2) rfl
theorem Hs.p3 (o' : HO) {x y z} (hs : Hs B (x :: y :: z :: (p, o) :: L) H) : Hs B (x :: y :: z :: (p, o') :: L) (upd H p o') := hs.put (i := 3) rfl
theorem Hs.p4 (o' : HO) {x y z w} (hs : Hs B (x :: y :: z :: w :: (p, o) :: L) H) : Hs B (x :: y :: z :: w :: (p, o') :: L) (upd H p o') := hs.put (i := 4) rfl
theorem Hs.p5 (o' : HO) {x y z w v} (hs : Hs B (x :: y :: z :: w :: v :: (p, o) :: L) H) : Hs B (x :: y :: z :: w :: v :: (p, o') :: L) (upd H p o') := hs.put (i := 5) rfl
theorem Hs.p6 (o' : HO) {x y z w v u} (hs : Hs B (x :: y :: z :: w :: v :: u :: (p, o) :: L) H) : Hs B (x :: y :: z :: w :: v :: u :: (p, o') :: L) (upd H p o') := hs.put (i := 6) rfl
theorem Hs.p7 (o' : HO) {x y z w v u t} (hs : Hs B (x :: y :: z :: w :: v :: u :: t :: (p, o) :: L) H) : Hs B (x :: y :: z :: w :: v :: u :: t :: (p, o') :: L) (upd H p o') := hs.put (i := 7) rfl
/-- L with o' in the place of o at p -/
inductive Put : List (Addr × HO) → Addr → HO → HO → List (Addr × HO) → Prop
  | here {p : Addr} {o o' : HO} {L : List (Addr × HO)} : Put ((p, o) :: L) p o o' ((p, o') :: L)
  | there {p : Addr} {o o' : HO} {x : Addr × HO} {L L' : List (Addr × HO)} : Put L p o o' L' → Put (x :: L) p o o' (x :: L')
theorem Put.ix {L' : List (Addr × HO)} (h : Put L p o o' L') : ∃ i : Nat, L[i]? = some (p, o) ∧ L' = L.set i (p, o') := by
  induction h with
  | here => exact ⟨0, rfl, rfl⟩
  | there _ ih =>
    obtain ⟨i, h1, h2⟩ := ih
    exact ⟨i + 1, by simpa using h1, by rw [h2]; rfl⟩
theorem Hs.puts {L' : List (Addr × HO)} (hs : Hs B L H) (h : Put L p o o' L') : Hs B L' (upd H p o') := by
  obtain ⟨i, h1, rfl⟩ := h.ix
  exact hs.put h1
theorem Hs.gets {L' : List (Addr × HO)} (hs : Hs B L H) (h : Put L p o o' L') : H p = some o := by
  obtain ⟨i, h1, _⟩ := h.ix
  exact hs.get h1
/-- any part of our own, in any order -/
theorem Hs.sub (hs : Hs B L H) (h : R.Sublist L) : Hs B R H :=
  ⟨hs.same, hs.nd.sublist (h.map _), fun e he => hs.out e (h.subset he), fun e he => hs.at_ e (h.subset he)⟩
theorem Hs.perm (hs : Hs B L H) (h : R.Perm L) : Hs B R H :=
  ⟨hs.same, (h.map (·.1)).nodup_iff.mpr hs.nd, fun e he => hs.out e (h.subset he), fun e he => hs.at_ e (h.subset he)⟩
theorem Hs.tl {x} (hs : Hs B (x :: L) H) : Hs B L H := hs.sub (List.sublist_cons_self _ _)
/-- the i-th ahead -/
theorem up_perm : ∀ {L : List (Addr × HO)} {i : Nat} {x : Addr × HO}, L[i]? = some x → (x :: L.eraseIdx i).Perm L
  | [], _, _, h => by simp at h
  | y :: L, 0, x, h => by
    have e : y = x := by simpa using h
    subst e
    exact .refl _
  | y :: L, i + 1, x, h => (List.Perm.swap y x _).trans ((up_perm (L := L) (i := i) (by simpa using h)).cons y)
theorem Hs.up (i : Nat) (hs : Hs B L H) {x} (h : L[i]? = some x := by rfl) : Hs B (x :: L.eraseIdx i) H := by
  exact hs.perm (up_perm h)
theorem Hs.del (i : Nat) (hs : Hs B L H) : Hs B (L.eraseIdx i) H := hs.sub (List.eraseIdx_sublist _ _)
theorem Hs.m1 {a b} (hs : Hs B (a :: b :: L) H) : Hs B (b :: a :: L) H := hs.up 1
theorem Hs.m2 {a b c} (hs : Hs B (a :: b :: c :: L) H) : Hs B (c :: a :: b :: L) H := hs.up 2
theorem Hs.m3 {a b c d} (hs : Hs B (a :: b :: c :: d :: L) H) : Hs B (d :: a :: b :: c :: L) H := hs.up 3
theorem Hs.m4 {a b c d e} (hs : Hs B (a :: b :: c :: d :: e :: L) H) : Hs B (e :: a :: b :: c :: d :: L) H := hs.up 4
theorem Hs.m5 {a b c d e f} (hs : Hs B (a :: b :: c :: d :: e :: f :: L) H) : Hs B (f :: a :: b :: c :: d :: e :: L) H := hs.up 5
theorem Hs.m6 {a b c d e f g} (hs : Hs B (a :: b :: c :: d :: e :: f :: g :: L) H) : Hs B (g :: a :: b :: c :: d :: e :: f :: L) H := hs.up 6
theorem Hs.m7 {a b c d e f g h} (hs : Hs B (a :: b :: c :: d :: e :: f :: g :: h :: L) H) : Hs B (h :: a :: b :: c :: d :: e :: f :: g :: L) H := hs.up 7
theorem Hs.d1 {a b} (hs : Hs B (a :: b :: L) H) : Hs B (a :: L) H := hs.del 1
theorem Hs.d2 {a b c} (hs : Hs B (a :: b :: c :: L) H) : Hs B (a :: b :: L) H := hs.del 2
theorem Hs.d3 {a b c d} (hs : Hs B (a :: b :: c :: d :: L) H) : Hs B (a :: b :: c :: L) H := hs.del 3
theorem Hs.d4 {a b c d e} (hs : Hs B (a :: b :: c :: d :: e :: L) H) : Hs B (a :: b :: c :: d :: L) H := hs.del 4
theorem Hs.d5 {a b c d e f} (hs : Hs B (a :: b :: c :: d :: e :: f :: L) H) : Hs B (a :: b :: c :: d :: e :: L) H := hs.del 5
theorem Hs.d6 {a b c d e f g} (hs : Hs B (a :: b :: c :: d :: e :: f :: g :: L) H) : Hs B (a :: b :: c :: d :: e :: f :: L) H := hs.del 6
theorem sel_mem {idx : List Nat} {e : Addr × HO} (h : e ∈ idx.filterMap (fun i => L[i]?)) : ∃ i ∈ idx, L[i]? = some e := by
  obtain ⟨i, hi, e⟩ := List.mem_filterMap.mp h
  exact ⟨i, hi, e⟩
theorem sel_nd (nd : (L.map (·.1)).Nodup) : ∀ {idx : List Nat}, idx.Nodup → ((idx.filterMap (fun i => L[i]?)).map (·.1)).Nodup
  | [], _ => List.nodup_nil
  | i :: idx, h => by
    rw [List.nodup_cons] at h
    rw [List.filterMap_cons]
    cases e : L[i]? with
    | none => exact sel_nd nd h.2
    | some x =>
      rw [List.map_cons, List.nodup_cons]
      refine ⟨fun m => ?_, sel_nd nd h.2⟩
      obtain ⟨y, hy, q⟩ := List.mem_map.mp m
      obtain ⟨j, hj, ej⟩ := sel_mem hy
      have a : (L.map (·.1))[i]? = some x.1 := by rw [List.getElem?_map, e]; rfl
      have b : (L.map (·.1))[j]? = some x.1 := by rw [List.getElem?_map, ej]; exact congrArg some q
      rw [nd_ix nd a b] at h
      exact h.1 hj
/-- some of our own, by places -/
theorem Hs.sel (hs : Hs B L H) (idx : List Nat) (h : idx.Nodup := by decide) : Hs B (idx.filterMap (fun i => L[i]?)) H :=
  ⟨hs.same, sel_nd hs.nd h, fun e he => by
    obtain ⟨i, _, q⟩ := sel_mem he
    exact hs.out e (List.mem_of_getElem? q), fun e he => by
    obtain ⟨i, _, q⟩ := sel_mem he
    exact hs.at_ e (List.mem_of_getElem? q)⟩
/-- a callee that owns A; what else is ours stands for it -/
def around (A : List (Addr × HO)) (H : Hp) : Hp := fun a => if a ∈ A.map (·.1) then none else H a
theorem around_out {a : Addr} (h : a ∉ A.map (·.1)) : around A H a = H a := if_neg h
theorem Hs.frame (A : List (Addr × HO)) (hs : Hs B (A ++ R) H) : Same B (around A H) ∧ Hs (around A H) A H ∧ ∀ A' H', Hs (around A H) A' H' → Hs B (A' ++ R) H' := by
  have nd := hs.nd
  rw [List.map_append, List.nodup_append] at nd
  obtain ⟨n1, n2, n3⟩ := nd
  have sb : Same B (around A H) := fun b u e => by
    rw [around_out fun m => ?_]
    · exact hs.same b u e
    · obtain ⟨z, hz, rfl⟩ := List.mem_map.mp m
      rw [hs.out z (List.mem_append_left _ hz)] at e
      cases e
  refine ⟨sb, ⟨fun b u e => ?_, n1, fun e he => if_pos (List.mem_map.mpr ⟨e, he, rfl⟩), fun e he => hs.at_ e (List.mem_append_left _ he)⟩, fun A' H' h => ?_⟩
  · unfold around at e
    split at e
    · cases e
    · exact e
  · have fr : ∀ e ∈ R, around A H e.1 = some e.2 := fun e he => by
      rw [around_out fun m => n3 _ m _ (List.mem_map.mpr ⟨e, he, rfl⟩) rfl]
      exact hs.at_ e (List.mem_append_right _ he)
    refine ⟨fun b u e => h.same b u (sb b u e), ?_, fun e he => ?_, fun e he => ?_⟩
    · rw [List.map_append, List.nodup_append]
      refine ⟨h.nd, n2, fun a ha b hb q => ?_⟩
      subst q
      obtain ⟨x, hx, rfl⟩ := List.mem_map.mp ha
      obtain ⟨y, hy, q⟩ := List.mem_map.mp hb
      have h1 := h.out x hx
      have h2 := fr y hy
      rw [q, h1] at h2
      cases h2
    · rcases List.mem_append.mp he with he | he
      · exact sb.free (h.out e he)
      · exact hs.out e (List.mem_append_right _ he)
    · rcases List.mem_append.mp he with he | he
      · exact h.at_ e he
      · exact h.same _ _ (fr e he)
theorem Hs.frame1 {x} (hs : Hs B (x :: R) H) : ∃ B', Same B B' ∧ Hs B' [x] H ∧ ∀ A' H', Hs B' A' H' → Hs B (A' ++ R) H' := ⟨_, hs.frame [x]⟩
theorem Hs.frame2 {x y} (hs : Hs B (x :: y :: R) H) : ∃ B', Same B B' ∧ Hs B' [x, y] H ∧ ∀ A' H', Hs B' A' H' → Hs B (A' ++ R) H' := ⟨_, hs.frame [x, y]⟩
theorem Hs.frame3 {x y z} (hs : Hs B (x :: y :: z :: R) H) : ∃ B', Same B B' ∧ Hs B' [x, y, z] H ∧ ∀ A' H', Hs B' A' H' → Hs B (A' ++ R) H' := ⟨_, hs.frame [x, y, z]⟩
theorem Hs.frame4 {x y z w} (hs : Hs B (x :: y :: z :: w :: R) H) : ∃ B', Same B B' ∧ Hs B' [x, y, z, w] H ∧ ∀ A' H', Hs B' A' H' → Hs B (A' ++ R) H' := ⟨_, hs.frame [x, y, z, w]⟩
theorem Hs.frame5 {x y z w v} (hs : Hs B (x :: y :: z :: w :: v :: R) H) : ∃ B', Same B B' ∧ Hs B' [x, y, z, w, v] H ∧ ∀ A' H', Hs B' A' H' → Hs B (A' ++ R) H' := ⟨_, hs.frame [x, y, z, w, v]⟩
theorem Hs.frame6 {x y z w v u} (hs : Hs B (x :: y :: z :: w :: v :: u :: R) H) : ∃ B', Same B B' ∧ Hs B' [x, y, z, w, v, u] H ∧ ∀ A' H', Hs B' A' H' → Hs B (A' ++ R) H' := ⟨_, hs.frame [x, y, z, w, v, u]⟩
/-- a callee that only makes objects -/
theorem Hs.add {N : List (Addr × HO)} (hs : Hs B L H) (h : Hs H N H') : Hs B (N ++ L) H' := by
  refine ⟨fun b u e => h.same b u (hs.same b u e), ?_, fun e he => ?_, fun e he => ?_⟩
  · rw [List.map_append, List.nodup_append]
    refine ⟨h.nd, hs.nd, fun a ha b hb q => ?_⟩
    subst q
    obtain ⟨x, hx, rfl⟩ := List.mem_map.mp ha
    obtain ⟨y, hy, q⟩ := List.mem_map.mp hb
    have h1 := h.out x hx
    have h2 := hs.at_ y hy
    rw [q, h1] at h2
    cases h2
  · rcases List.mem_append.mp he with he | he
    · exact hs.same.free (h.out e he)
    · exact hs.out e he
  · rcases List.mem_append.mp he with he | he
    · exact h.at_ e he
    · exact h.same _ _ (hs.at_ e he)
/-- a new object that nobody changes any more: it stands -/
theorem Hs.freeze (hs : Hs B ((p, o) :: L) H) : Same B (upd B p o) ∧ Hs (upd B p o) L H := by
  have hp := hs.out (p, o) List.mem_cons_self
  have nd := hs.nd
  rw [List.map_cons, List.nodup_cons] at nd
  refine ⟨fun b u e => ?_, ⟨fun b u e => ?_, nd.2, fun e he => ?_, fun e he => hs.at_ e (List.mem_cons_of_mem _ he)⟩⟩
  · rw [upd_ne (ne_of_none e hp)]
    exact e
  · unfold upd at e
    split at e
    · next q =>
      subst q
      cases e
      exact hs.g0
    · exact hs.same b u e
  · have n : e.1 ≠ p := fun q => nd.1 (by rw [← q]; exact List.mem_map.mpr ⟨e, he, rfl⟩)
    rw [upd_ne n]
    exact hs.out e (List.mem_cons_of_mem _ he)
end

/-! ### steps: a reading's head, what is left -/
section
variable {K : PySem.W.Frag} {σ : St} {H : Hp} {Q : VK} {D : Ends} {ta tb tc te tv to ti : TE} {t u tr : TS} {c d : TT} {r r' : R2} {g : TG} {i : Nat} {v x y : V} {E : XK} {ts : TA} {f m : Str} {p : Addr}
theorem w_var (h : σ[i]? = some (some v)) (q : Q v H) : tVar i σ H Q := ⟨v, h, q⟩
theorem w_c (q : Q v H) : tC v σ H Q := q
theorem w_seq (q : t { D with nx := u D } σ H) : tSeq t u D σ H := q
theorem w_next (q : D.nx σ H) : tNext D σ H := q
theorem w_brk (q : D.bk σ H) : tBreak D σ H := q
theorem w_cont (q : D.ct σ H) : tCont D σ H := q
theorem w_drop (q : te σ H fun _ H1 => D.nx σ H1) : tDrop te D σ H := q
theorem w_ret (q : te σ H D.rt) : tRet te D σ H := q
theorem w_retN (q : D.rt .non H) : tRetN D σ H := q
theorem w_asg (q : te σ H fun x H1 => g x σ H1 D.nx) : tAsg te g D σ H := q
theorem w_name {Q : St → Hp → Prop} (q : Q (σ.set i (some v)) H) : gName i v σ H Q := q
theorem w_if (q : c σ H fun b H1 => if b = true then t D σ H1 else u D σ H1) : tIfS c t u D σ H := q
theorem w_test {Q : Bool → Hp → Prop} (q : te σ H fun x H1 => ∃ k, x = .bl k ∧ Q k H1) : tTest te σ H Q := q
theorem w_B {Q : Bool → Hp → Prop} (q : te σ H fun x H1 => ∃ k, x = .bl k ∧ Q k H1) : tB te σ H Q := q
theorem w_exb {b : Bool} {P : Bool → Prop} (q : P b) : ∃ k, V.bl b = .bl k ∧ P k := ⟨b, rfl, q⟩
theorem w_not {Q : Bool → Hp → Prop} (q : c σ H fun b H1 => Q (!b) H1) : tNot c σ H Q := q
theorem w_and {Q : Bool → Hp → Prop} (q : c σ H fun b H1 => if b = true then d σ H1 Q else Q false H1) : tAnd c d σ H Q := q
theorem w_or {Q : Bool → Hp → Prop} (q : c σ H fun b H1 => if b = true then Q true H1 else d σ H1 Q) : tOr c d σ H Q := q
theorem w_andV (q : ta σ H fun x H1 => ∃ k, x = .bl k ∧ if k = true then tb σ H1 Q else Q (.bl false) H1) : tAndV ta tb σ H Q := q
theorem w_orV (q : ta σ H fun x H1 => ∃ k, x = .bl k ∧ if k = true then Q (.bl true) H1 else tb σ H1 Q) : tOrV ta tb σ H Q := q
theorem w_notV (q : ta σ H fun x H1 => ∃ k, x = .bl k ∧ Q (.bl (!k)) H1) : tNotV ta σ H Q := q
theorem w_ifE (q : c σ H fun b H1 => if b = true then ta σ H1 Q else tb σ H1 Q) : tIf c ta tb σ H Q := q
theorem w_op (q : ta σ H fun x H1 => tb σ H1 fun y H2 => r x y H2 Q) : tOp r ta tb σ H Q := q
theorem w_un {r : V → Hp → VK → Prop} (q : ta σ H fun x H1 => r x H1 Q) : tUn r ta σ H Q := q
theorem w_chain (q : ta σ H fun x H1 => tb σ H1 fun y H2 => r x y H2 fun z H3 => ∃ k, z = .bl k ∧ if k = true then tc σ H3 fun w H4 => r' y w H4 Q else Q (.bl false) H3) : tChain r r' ta tb tc σ H Q := q
theorem w_I0 {g : Int → Int → V} {a b : Int} (q : Q (g a b) H) : rI0 g (.int a) (.int b) H Q := ⟨a, b, rfl, rfl, q⟩
theorem w_I {C : Int → Int → Prop} {g : Int → Int → V} {a b : Int} (h : C a b) (q : Q (g a b) H) : rI C g (.int a) (.int b) H Q := ⟨a, b, rfl, rfl, h, q⟩
theorem w_U {g : Int → V} {a : Int} (q : Q (g a) H) : rU g (.int a) H Q := ⟨a, rfl, q⟩
theorem w_eqI {a b : Int} (q : Q (.bl (decide (a = b))) H) : rEq (.int a) (.int b) H Q := ⟨rfl, by
  have e : decide (V.int a = V.int b) = decide (a = b) := by
    rw [dec_int]
    by_cases h : a = b
    · rw [decide_eq_true h]
      exact beq_iff_eq.mpr h
    · rw [decide_eq_false h]
      exact beq_eq_false_iff_ne.mpr h
  rw [e]
  exact q⟩
theorem w_neI {a b : Int} (q : Q (.bl (!decide (a = b))) H) : rNe (.int a) (.int b) H Q := ⟨rfl, by
  have e : decide (V.int a = V.int b) = decide (a = b) := by
    rw [dec_int]
    by_cases h : a = b
    · rw [decide_eq_true h]
      exact beq_iff_eq.mpr h
    · rw [decide_eq_false h]
      exact beq_eq_false_iff_ne.mpr h
  rw [e]
  exact q⟩
theorem w_eq (h : scal x y = true) (q : Q (.bl (decide (x = y))) H) : rEq x y H Q := ⟨h, q⟩
theorem w_ne (h : scal x y = true) (q : Q (.bl (!decide (x = y))) H) : rNe x y H Q := ⟨h, q⟩
theorem w_ixL {xs : List V} {j : Int} (h : SqL K H p xs) (a : atI xs j = some v) (q : Q v H) : rIxL K (.ref p) (.int j) H Q := ⟨p, xs, j, v, rfl, rfl, h, a, q⟩
theorem w_ixT {xs : List V} {j : Int} (h : SqT K H p xs) (a : atI xs j = some v) (q : Q v H) : rIxT K (.ref p) (.int j) H Q := ⟨p, xs, j, v, rfl, rfl, h, a, q⟩
theorem at0 {x : V} {xs : List V} : atI (x :: xs) 0 = some x := at_of (j := 0) rfl rfl
theorem at1 {x y : V} {xs : List V} : atI (x :: y :: xs) 1 = some y := at_of (j := 1) rfl rfl
theorem at2 {x y z : V} {xs : List V} : atI (x :: y :: z :: xs) 2 = some z := at_of (j := 2) rfl rfl
theorem at3 {x y z u : V} {xs : List V} : atI (x :: y :: z :: u :: xs) 3 = some u := at_of (j := 3) rfl rfl
/-- a field's value -/
def Fl (K : PySem.W.Frag) (f : Str) (x : V) (H : Hp) (Q : VK) : Prop := ∃ a C dx fs v, x = .ref a ∧ H a = some (.ins C dx fs) ∧ Cls K C ∧ NoAttr K C f ∧ fs.lookup f = some v ∧ Q v H
theorem w_fld (q : ta σ H fun x H1 => Fl K f x H1 Q) : tFld K ta f σ H Q := q
theorem w_fl {C dx : Addr} {fs : List (Str × V)} (h : H p = some (.ins C dx fs)) (hc : Cls K C) (hn : NoAttr K C f) (hl : fs.lookup f = some v) (q : Q v H) : Fl K f (.ref p) H Q := ⟨p, C, dx, fs, v, rfl, h, hc, hn, hl, q⟩
/-- a field's store -/
def Fs (K : PySem.W.Frag) (f : Str) (y x : V) (H : Hp) (R : Hp → Prop) : Prop := ∃ a C dx fs, x = .ref a ∧ H a = some (.ins C dx fs) ∧ Cls K C ∧ NoAttr K C f ∧ fs.length < 1000 ∧ R (upd H a (.ins C dx (putF f y fs)))
theorem w_sfld (q : tv σ H fun y H1 => ta σ H1 fun x H2 => Fs K f y x H2 (D.nx σ)) : sFld K ta tv f D σ H := q
theorem w_fs {R : Hp → Prop} {C dx : Addr} {fs : List (Str × V)} (h : H p = some (.ins C dx fs)) (hc : Cls K C) (hn : NoAttr K C f) (hl : fs.length < 1000) (q : R (upd H p (.ins C dx (putF f y fs)))) : Fs K f y (.ref p) H R := ⟨p, C, dx, fs, rfl, h, hc, hn, hl, q⟩
theorem lk0 {k : Str} {v : V} {r : List (Str × V)} : ((k, v) :: r).lookup k = some v := by simp [List.lookup]
theorem lk1 {k k' : Str} {v w : V} {r : List (Str × V)} (h : ¬ k = k') (q : r.lookup k = some w) : ((k', v) :: r).lookup k = some w := by
  have e : (k == k') = false := beq_eq_false_iff_ne.mpr h
  show (match k == k' with | true => some v | false => List.lookup k r) = some w
  rw [e]
  exact q
theorem lkn {k k' : Str} {v : V} {r : List (Str × V)} (h : ¬ k = k') (q : r.lookup k = none) : ((k', v) :: r).lookup k = none := by
  have e : (k == k') = false := beq_eq_false_iff_ne.mpr h
  show (match k == k' with | true => some v | false => List.lookup k r) = none
  rw [e]
  exact q
theorem lke {k : Str} : ([] : List (Str × V)).lookup k = none := rfl
theorem pu0 {k : Str} {v w : V} {r : List (Str × V)} : putF k w ((k, v) :: r) = (k, w) :: r := by
  show (if k = k then _ else _) = _
  rw [if_pos rfl]
theorem pu1 {k k' : Str} {v w : V} {r : List (Str × V)} (h : ¬ k' = k) : putF k w ((k', v) :: r) = (k', v) :: putF k w r := by
  show (if k' = k then _ else _) = _
  rw [if_neg h]
theorem pu2 {k k' : Str} {v w : V} {r r' : List (Str × V)} (h : ¬ k' = k) (q : putF k w r = r') : putF k w ((k', v) :: r) = (k', v) :: r' := by
  rw [pu1 h, q]
theorem pue {k : Str} {w : V} : putF k w [] = [(k, w)] := rfl
theorem w_yes {Q : Bool → Hp → Prop} (q : Q true H) : tYes σ H Q := q
theorem w_nil {Q : List V → Hp → Prop} (q : Q [] H) : tNil σ H Q := q
theorem w_cons {Q : List V → Hp → Prop} (q : ta σ H fun x H1 => ts σ H1 fun xs H2 => Q (x :: xs) H2) : tCons ta ts σ H Q := q
theorem w_cb {r : List V → Hp → VK → Prop} (q : ts σ H fun vs H1 => r vs H1 Q) : tCB r ts σ H Q := q
theorem w_call {sp : Sp} {dvs : List V} (q : ts σ H fun vs H1 => sp (vs ++ dvs) H1 Q E) : tCall sp dvs E ts σ H Q := q
/-- a new instance -/
def Mkr (C : Addr) (sp : Sp) (vs : List V) (E : XK) (Q : VK) (H : Hp) : Prop := ∀ x dx, H x = none → H dx = none → dx ≠ x → sp (.ref x :: vs) (upd (upd H dx (.own x)) x (.ins C dx [])) (fun v H2 => v = .non ∧ Q (.ref x) H2) E
theorem w_make {C : Addr} {sp : Sp} {dvs : List V} (q : ts σ H fun vs H1 => Mkr C sp (vs ++ dvs) E Q H1) : tMake C sp dvs E ts σ H Q := q
theorem w_mkr {C : Addr} {sp : Sp} {vs : List V} {B : Hp} {L : List (Addr × HO)} (hs : Hs B L H) (q : ∀ x dx H', Hs B ((x, .ins C dx []) :: L) H' → sp (.ref x :: vs) H' (fun v H2 => v = .non ∧ Q (.ref x) H2) E) : Mkr C sp vs E Q H := fun x dx hx hd ne =>
  q x dx _ ((hs.new hd).new (p := x) (by rw [upd_ne ne.symm]; exact hx)).d1
/-- an own method's receiver -/
def Rc (m : Str) (C : Addr) (x : V) (H : Hp) (R : Prop) : Prop := ∃ a dx fs, x = .ref a ∧ H a = some (.ins C dx fs) ∧ fs.lookup m = none ∧ R
theorem w_meth {C : Addr} {sp : Sp} {dvs : List V} (q : ta σ H fun x H1 => Rc m C x H1 (ts σ H1 fun vs H2 => sp (x :: (vs ++ dvs)) H2 Q E)) : tMeth C m sp dvs E ta ts σ H Q := by
  revert q
  unfold tMeth Rc
  exact id
theorem w_rc {C dx : Addr} {fs : List (Str × V)} {R : Prop} (h : H p = some (.ins C dx fs)) (hl : fs.lookup m = none) (q : R) : Rc m C (.ref p) H R := ⟨p, dx, fs, rfl, h, hl, q⟩
theorem w_bm {T : String} {r : V → List V → Hp → VK → Prop} (q : to σ H fun x H1 => tyV K T x H1 ∧ ts σ H1 fun xs H2 => r x xs H2 Q) : tBM K T r to ts σ H Q := q
theorem w_bm0 {T : String} {r : V → List V → Hp → VK → Prop} (q : to σ H fun x H1 => tyV K T x H1 ∧ r x [] H1 Q) : tBM0 K T r to σ H Q := q
theorem w_tyL {xs : List V} {R : Prop} (h : SqL K H p xs) (q : R) : tyV K "list" (.ref p) H ∧ R := ⟨.inl ⟨rfl, _, h⟩, q⟩
theorem w_tyS {s : Str} {R : Prop} (q : R) : tyV K "str" (.str s) H ∧ R := ⟨rfl, q⟩
/-- a new list, a new tuple -/
def NewL (Q : VK) (xs : List V) (H : Hp) : Prop := xs.length ≤ sizeLine ∧ ∀ p, H p = none → Q (.ref p) (upd H p (.lst xs))
def NewT (Q : VK) (xs : List V) (H : Hp) : Prop := xs.length ≤ sizeLine ∧ ∀ p, H p = none → Q (.ref p) (upd H p (.tup xs))
theorem w_tup (q : ts σ H fun xs H1 => NewT Q xs H1) : tTup ts σ H Q := q
theorem w_lst (q : ts σ H fun xs H1 => NewL Q xs H1) : tLst ts σ H Q := q
theorem w_new {B : Hp} {L : List (Addr × HO)} {o : HO} (hs : Hs B L H) (q : ∀ p H', Hs B ((p, o) :: L) H' → Q (.ref p) H') : ∀ p, H p = none → Q (.ref p) (upd H p o) := fun p hp => q p _ (hs.new hp)
theorem w_newL {B : Hp} {L : List (Addr × HO)} {xs : List V} (hs : Hs B L H) (hl : xs.length ≤ sizeLine) (q : ∀ p H', Hs B ((p, .lst xs) :: L) H' → Q (.ref p) H') : NewL Q xs H := ⟨hl, w_new hs q⟩
theorem w_newT {B : Hp} {L : List (Addr × HO)} {xs : List V} (hs : Hs B L H) (hl : xs.length ≤ sizeLine) (q : ∀ p H', Hs B ((p, .tup xs) :: L) H' → Q (.ref p) H') : NewT Q xs H := ⟨hl, w_new hs q⟩
theorem w_sl {r : V → Option Int → Option Int → Hp → VK → Prop} {tl th : TO} (q : te σ H fun x H1 => tl σ H1 fun l H2 => th σ H2 fun u H3 => r x l u H3 Q) : tSl r te tl th σ H Q := q
theorem w_noPart {Q : Option Int → Hp → Prop} (q : Q none H) : tNoPart σ H Q := q
theorem w_part {Q : Option Int → Hp → Prop} (q : te σ H fun x H1 => ∃ i, x = .int i ∧ Q (some i) H1) : tPart te σ H Q := q
theorem w_exi {b : Int} {P : Int → Prop} (q : P b) : ∃ k, V.int b = .int k ∧ P k := ⟨b, rfl, q⟩
theorem w_slL {B : Hp} {L : List (Addr × HO)} {xs : List V} {lo hi : Option Int} (hs : Hs B L H) (h : SqL K H p xs) (q : ∀ l H', Hs B ((l, .lst (cutV xs lo hi)) :: L) H' → Q (.ref l) H') : rSlL K (.ref p) lo hi H Q := ⟨p, xs, rfl, h, w_new hs q⟩
theorem w_cat {B : Hp} {L : List (Addr × HO)} {a b : Addr} {xs ys : List V} (hs : Hs B L H) (ha : H a = some (.lst xs)) (hb : H b = some (.lst ys)) (hl : xs.length + ys.length ≤ sizeLine) (q : ∀ l H', Hs B ((l, .lst (xs ++ ys)) :: L) H' → Q (.ref l) H') : rCat (.ref a) (.ref b) H Q :=
  ⟨a, b, xs, ys, rfl, rfl, ha, hb, hl, w_new hs q⟩
/-! #### calls of built-ins -/
def rLen (K : PySem.W.Frag) : List V → Hp → VK → Prop := fun xs H Q => ∃ p ys, xs = [.ref p] ∧ (SqL K H p ys ∨ SqT K H p ys) ∧ Q (.int ys.length) H
theorem call_lenQ {X : Cx} : CallR X (.builtin "len") (rLen X.K) := call_len_seq
theorem w_len {xs : List V} (h : SqL K H p xs) (q : Q (.int xs.length) H) : rLen K [.ref p] H Q := ⟨p, xs, rfl, .inl h, q⟩
theorem w_lenT {xs : List V} (h : SqT K H p xs) (q : Q (.int xs.length) H) : rLen K [.ref p] H Q := ⟨p, xs, rfl, .inr h, q⟩
def rAbs : List V → Hp → VK → Prop := fun xs H Q => ∃ i, xs = [.int i] ∧ Q (.int (if i < 0 then -i else i)) H
theorem call_absQ {X : Cx} : CallR X (.builtin "abs") rAbs := call_abs
theorem w_abs {a : Int} (q : Q (.int (if a < 0 then -a else a)) H) : rAbs [.int a] H Q := ⟨a, rfl, q⟩
def rInt : List V → Hp → VK → Prop := fun xs H Q => (∃ i, xs = [.int i] ∧ Q (.int i) H) ∨ ∃ k, xs = [.bl k] ∧ Q (.int (if k then 1 else 0)) H
theorem call_intQ {X : Cx} : CallR X (.type "int") rInt := call_int1
theorem w_int {a : Int} (q : Q (.int a) H) : rInt [.int a] H Q := .inl ⟨a, rfl, q⟩
theorem w_intB {b : Bool} (q : Q (.int (if b then 1 else 0)) H) : rInt [.bl b] H Q := .inr ⟨b, rfl, q⟩
def rStr : List V → Hp → VK → Prop := fun xs H Q => ∃ i, xs = [.int i] ∧ i.natAbs.log2 < 1920 ∧ Q (.str (toString i)) H
theorem call_strQ {X : Cx} : CallR X (.type "str") rStr := call_str_int
theorem w_str {a : Int} (h : a.natAbs < 2 ^ 64) (q : Q (.str (toString a)) H) : rStr [.int a] H Q := ⟨a, rfl, Nat.lt_of_lt_of_le (PySem.Flt.log2_lt_of (by decide) h) (by decide), q⟩
def rAddS : R2 := fun x y H Q => ∃ i j, x = .str i ∧ y = .str j ∧ i.length + j.length ≤ sizeLine ∧ Q (.str (i ++ j)) H
theorem op_addS {X : Cx} : OpR X (binaryOp .Add) rAddS := op_add_str
theorem w_addS {a b : Str} (h : a.length + b.length ≤ sizeLine) (q : Q (.str (a ++ b)) H) : rAddS (.str a) (.str b) H Q := ⟨a, b, rfl, rfl, h, q⟩
/-! #### methods of lists -/
section
variable {B : Hp} {L L' : List (Addr × HO)} {l : Addr} {xs : List V}
theorem w_app (hs : Hs B L H) (h : Put L l (.lst xs) (.lst (xs ++ [y])) L') (hl : xs.length < sizeLine) (q : ∀ H', Hs B L' H' → Q .non H') : rAppend (.ref l) [y] H Q := ⟨l, xs, y, rfl, rfl, hs.gets h, hl, q _ (hs.puts h)⟩
theorem w_clear (hs : Hs B L H) (h : Put L l (.lst xs) (.lst []) L') (q : ∀ H', Hs B L' H' → Q .non H') : rClear (.ref l) [] H Q := ⟨l, xs, rfl, rfl, hs.gets h, q _ (hs.puts h)⟩
theorem six_nat {n k : Nat} {j : Int} (e : j = (k : Int)) (h : k < n) : seqIndex? j n = some k := by
  subst e
  unfold seqIndex?
  have h1 : ¬ (k : Int) < 0 := by omega
  have h2 : (k : Int) < (n : Int) := by omega
  simp only [if_neg h1]
  simp [h2]
theorem w_popAt {k : Nat} {j : Int} (hs : Hs B L H) (h : Put L l (.lst xs) (.lst (xs.eraseIdx k)) L') (e : j = (k : Int)) (hk : xs[k]? = some y) (hz : xs.length ≤ sizeLine) (q : ∀ H', Hs B L' H' → Q y H') : rPopAt (.ref l) [.int j] H Q := by
  have hk' := (List.getElem?_eq_some_iff.mp hk).1
  have h63 := line63
  refine ⟨l, xs, j, k, y, rfl, rfl, hs.gets h, by omega, ?_, six_nat e hk', hk, q _ (hs.puts h)⟩
  have : xs.length < 2 ^ 63 := Nat.lt_of_le_of_lt hz h63
  omega
def rInsert : V → List V → Hp → VK → Prop := fun x vs H Q => ∃ (l : Addr) (xs : List V) (i : Int) (y : V), x = .ref l ∧ vs = [.int i, y] ∧ H l = some (.lst xs) ∧ xs.length < sizeLine ∧ 0 ≤ i ∧ i < 2 ^ 63 ∧ Q .non (upd H l (.lst (xs.take i.toNat ++ [y] ++ xs.drop i.toNat)))
theorem mt_insertQ {X : Cx} : MtR X "list.insert" rInsert := mt_insert
theorem w_insert0 (hs : Hs B L H) (h : Put L l (.lst xs) (.lst (y :: xs)) L') (hl : xs.length < sizeLine) (q : ∀ H', Hs B L' H' → Q .non H') : rInsert (.ref l) [.int 0, y] H Q :=
  ⟨l, xs, 0, y, rfl, rfl, hs.gets h, hl, by decide, by decide, q _ (hs.puts h)⟩
def rDelL (x y : V) (H : Hp) (R : Hp → Prop) : Prop := ∃ (l : Addr) (xs : List V) (i : Int) (k : Nat), x = .ref l ∧ y = .int i ∧ H l = some (.lst xs) ∧ -(2 ^ 63) ≤ i ∧ i < 2 ^ 63 ∧ seqIndex? i xs.length = some k ∧ R (upd H l (.lst (xs.eraseIdx k)))
theorem w_delL0 (q : to σ H fun x H1 => ti σ H1 fun y H2 => rDelL x y H2 (D.nx σ)) : tDelL to ti D σ H := q
theorem w_delL {k : Nat} {j : Int} {R : Hp → Prop} (hs : Hs B L H) (h : Put L l (.lst xs) (.lst (xs.eraseIdx k)) L') (e : j = (k : Int)) (hk : k < xs.length) (hz : xs.length ≤ sizeLine) (q : ∀ H', Hs B L' H' → R H') : rDelL (.ref l) (.int j) H R := by
  have h63 := line63
  refine ⟨l, xs, j, k, rfl, rfl, hs.gets h, by omega, ?_, six_nat e hk, q _ (hs.puts h)⟩
  have : xs.length < 2 ^ 63 := Nat.lt_of_le_of_lt hz h63
  omega
theorem w_setL {k : Nat} {j : Int} {R : Hp → Prop} (hs : Hs B L H) (h : Put L l (.lst xs) (.lst (xs.set k y)) L') (e : j = (k : Int)) (hk : k < xs.length) (q : ∀ H', Hs B L' H' → R H') : rSetL (.ref l) (.int j) y H R := by
  refine ⟨l, xs, j, k, rfl, rfl, hs.gets h, ?_, q _ (hs.puts h)⟩
  subst e
  unfold ixN
  rw [if_pos (by omega), if_pos (by omega)]
  simp
/-- a field's store -/
theorem w_fsP {R : Hp → Prop} {C dx : Addr} {fs gs : List (Str × V)} (hs : Hs B L H) (h : Put L p (.ins C dx fs) (.ins C dx gs) L') (hc : Cls K C) (hn : NoAttr K C f) (hl : fs.length < 1000) (hg : putF f y fs = gs) (q : ∀ H', Hs B L' H' → R H') : Fs K f y (.ref p) H R := by
  subst hg
  exact w_fs (hs.gets h) hc hn hl (q _ (hs.puts h))
/-! #### loops -/
theorem w_forL {tl : TE} {a : Addr} {tb : TS} (hx : SqL K H a xs) (Pv : Nat → St → Hp → Prop) (htl : ∀ Q : VK, Q (.ref a) H → tl σ H Q) (h0 : Pv 0 σ H) (hl : ∀ i σ H, i ≤ xs.length → Pv i σ H → SqL K H a xs)
    (hs : ∀ i x σ H, xs[i]? = some x → Pv i σ H → g x σ H fun σ2 H2 => tb { D with nx := Pv (i + 1), ct := Pv (i + 1), bk := D.nx } σ2 H2) (hd : ∀ σ H, Pv xs.length σ H → D.nx σ H) : tFor (iList K tl) g tb D σ H :=
  htl _ ⟨a, rfl, ⟨xs, hx⟩, for_list Pv h0 hl hs hd⟩
theorem w_forR {ta : TA} {tb : TS} {n : Int} (hn : n < 2 ^ 62) (Pv : Nat → St → Hp → Prop) (hta : ∀ Q : List V → Hp → Prop, Q [.int n] H → ta σ H Q) (hm : -(2 ^ 62) ≤ n) (h0 : Pv 0 σ H)
    (hs : ∀ (i : Nat) σ H, (i : Int) < n → Pv i σ H → g (.int (i : Int)) σ H fun σ2 H2 => tb { D with nx := Pv (i + 1), ct := Pv (i + 1), bk := D.nx } σ2 H2) (hd : ∀ σ H, Pv n.toNat σ H → D.nx σ H) : tFor (iRng1 ta) g tb D σ H :=
  hta _ ⟨n, rfl, hm, hn, for_range (lo := 0) (n := n.toNat) Pv h0 (fun i σ' H' hi p => by
    have e0 : (0 : Int) + (i : Int) = (i : Int) := Int.zero_add _
    rw [e0]
    exact hs i σ' H' (by omega) p) hd⟩
/-- [e for x in xs] over a list -/
theorem w_lc {tl : TE} {a : Addr} {vs : List Nat} {tt : TT} (hx : SqL K H a xs) (Pv : Addr → Nat → Hp → Prop) (htl : ∀ Q : VK, Q (.ref a) H → tl σ H Q) (h0 : ∀ D, H D = none → Pv D 0 (upd H D (.lst []))) (hl : ∀ D i H, i ≤ xs.length → Pv D i H → SqL K H a xs)
    (hs : ∀ D i x H, xs[i]? = some x → Pv D i H → g x (wipe σ vs) H fun σ2 H2 => wipe σ2 vs = wipe σ vs ∧ tt σ2 H2 fun b H3 =>
      if b = true then te σ2 H3 fun y H4 => ∃ acc, H4 D = some (.lst acc) ∧ acc.length < sizeLine ∧ Pv D (i + 1) (upd H4 D (.lst (acc ++ [y]))) else Pv D (i + 1) H3) (hd : ∀ D H, Pv D xs.length H → Q (.ref D) H) : tLc (iList K tl) g tt te vs σ H Q :=
  htl _ ⟨a, rfl, ⟨xs, hx⟩, fun D hD => lc_list (Pv D) (h0 D hD) (hl D) (hs D) (hd D)⟩
end
theorem w_sub {R : St → Hp → Prop} {tset : TSet} (q : to σ H fun o H1 => ti σ H1 fun i H2 => tset o i v H2 fun H3 => R σ H3) : gSub to ti tset v σ H R := q
/-- a while's body, at the measure m -/
def LpB (W : Nat → St → Hp → Prop) (m : Nat) (D : Ends) (tb : TS) (σ : St) (H1 : Hp) : Prop := ∃ N : St → Hp → Prop, (∀ σ' H', N σ' H' → ∃ m', m' < m ∧ W m' σ' H') ∧ tb { D with nx := N, ct := N, bk := D.nx } σ H1
theorem w_while {c : TT} {tb : TS} {D : Ends} {σ : St} {H : Hp} (W : Nat → St → Hp → Prop) (m : Nat) (h0 : W m σ H)
    (hs : ∀ m σ H, W m σ H → c σ H fun b H1 => if b = true then LpB W m D tb σ H1 else D.nx σ H1) : tWhile c tb D σ H := ⟨W, ⟨m, h0⟩, hs⟩
theorem w_lpb {W : Nat → St → Hp → Prop} {m : Nat} {D : Ends} {tb : TS} {σ : St} {H : Hp} (q : tb { D with nx := fun σ' H' => ∃ m', m' < m ∧ W m' σ' H', ct := fun σ' H' => ∃ m', m' < m ∧ W m' σ' H', bk := D.nx } σ H) : LpB W m D tb σ H := ⟨_, fun _ _ h => h, q⟩
end
theorem ifd {p A B : Prop} [Decidable p] (h1 : p → A) (h2 : ¬ p → B) : if decide p = true then A else B := by
  by_cases h : p
  · rw [decide_eq_true h]
    exact iteT (h1 h)
  · rw [decide_eq_false h]
    exact iteF (h2 h)
theorem ifn {p A B : Prop} [Decidable p] (h1 : ¬ p → A) (h2 : p → B) : if (!decide p) = true then A else B := by
  by_cases h : p
  · rw [decide_eq_true h]
    exact iteF (h2 h)
  · rw [decide_eq_false h]
    exact iteT (h1 h)
theorem ifb {b : Bool} {A B : Prop} (h1 : b = true → A) (h2 : b = false → B) : if b = true then A else B := by
  cases b with
  | true => exact iteT (h1 rfl)
  | false => exact iteF (h2 rfl)
theorem eraseIdx_map {α β : Type} (f : α → β) : ∀ (l : List α) (k : Nat), (l.map f).eraseIdx k = (l.eraseIdx k).map f
  | [], _ => rfl
  | _ :: _, 0 => rfl
  | x :: l, k + 1 => congrArg (f x :: ·) (eraseIdx_map f l k)
theorem sz {n : Nat} (h : n ≤ 1000000) : n ≤ sizeLine := Nat.le_trans h (by decide)
theorem szl {n : Nat} (h : n ≤ 1000000) : n < sizeLine := Nat.lt_of_le_of_lt h (by decide)
theorem take_min {α : Type} (xs : List α) (n : Nat) : xs.take (min n xs.length) = xs.take n := by
  by_cases h : n ≤ xs.length
  · rw [Nat.min_eq_left h]
  · rw [Nat.min_eq_right (by omega), List.take_length, List.take_of_length_le (by omega)]
theorem drop_min {α : Type} (xs : List α) (n : Nat) : xs.drop (min n xs.length) = xs.drop n := by
  by_cases h : n ≤ xs.length
  · rw [Nat.min_eq_left h]
  · rw [Nat.min_eq_right (by omega), List.drop_length, List.drop_of_length_le (by omega)]
theorem cut_to {xs : List V} {j : Int} (n : Nat) (e : j = (n : Int)) : cutV xs none (some j) = xs.take n := by
  subst e
  unfold cutV
  rw [HT.sIx_none, HT.sIx_nat, List.drop_zero, Nat.sub_zero, take_min]
theorem cut_from {xs : List V} {j : Int} (n : Nat) (e : j = (n : Int)) : cutV xs (some j) none = xs.drop n := by
  subst e
  unfold cutV
  rw [HT.sIx_none, HT.sIx_nat, drop_min, List.take_of_length_le]
  rw [List.length_drop]
  omega
theorem cut_len {xs : List V} {lo hi : Option Int} : (cutV xs lo hi).length ≤ xs.length := by
  unfold cutV
  rw [List.length_take, List.length_drop]
  omega
theorem cut_all {xs : List V} : cutV xs none none = xs := by
  unfold cutV HT.sIx
  simp
/-! ### lists of texts, of ints, as data -/
theorem dpa_str {K : PySem.W.Frag} {H : Hp} : ∀ xs : List Str, DpAll K H (xs.map V.str) (xs.map PyData.str)
  | [] => .nil
  | x :: xs => .cons (.str x) (dpa_str xs)
theorem dpa_int {K : PySem.W.Frag} {H : Hp} : ∀ xs : List Int, DpAll K H (xs.map V.int) (xs.map PyData.int)
  | [] => .nil
  | x :: xs => .cons (.int x) (dpa_int xs)
theorem depth_str : ∀ xs : List Str, PyData.depthAll (xs.map PyData.str) ≤ 1
  | [] => by simp [PyData.depthAll]
  | x :: xs => by
    have := depth_str xs
    simp [PyData.depthAll, PyData.depth] at this ⊢
    omega
theorem lay_str : ∀ xs : List Str, (∀ x ∈ xs, PyData.strOk x = true) → PyData.canLayAll0 (xs.map PyData.str) = true
  | [], _ => by simp [PyData.canLayAll0]
  | x :: xs, h => by
    have h1 := h x List.mem_cons_self
    have h2 := lay_str xs fun y hy => h y (List.mem_cons_of_mem _ hy)
    simp only [List.map_cons, PyData.canLayAll0, PyData.canLay0, h1, h2, Bool.and_self]
theorem shp_str {xs : List Str} (h : ∀ x ∈ xs, PyData.strOk x = true) : SeqAt.shaped (.list (xs.map PyData.str)) = true := by
  have e := depth_str xs
  have l := lay_str xs h
  unfold SeqAt.shaped PyData.canLay0 PyData.depth
  rw [l]
  simp only [Bool.true_and, decide_eq_true_eq]
  omega
theorem w_neS {K : PySem.W.Frag} {H : Hp} {Q : VK} {p q : Addr} {xs : List Str} (h1 : SqL K H p (xs.map V.str)) (h2 : SqL K H q (xs.map V.str)) (hk : ∀ x ∈ xs, PyData.strOk x = true) (k : Q (.bl false) H) : rNeD K (.ref p) (.ref q) H Q :=
  ⟨_, _, .lst h1 (dpa_str xs), .lst h2 (dpa_str xs), shp_str hk, shp_str hk, by
    rw [SeqAt.eqv_refl _ (by have := shp_str hk; unfold SeqAt.shaped at this; exact (Bool.and_eq_true_iff.mp this).1)]
    exact k⟩
theorem w_isi {K : PySem.W.Frag} {H : Hp} {Q : VK} {b : Bool} (k : Q (.bl true) H) : rIsi K [.bl b, .ty "bool"] H Q :=
  ⟨_, _, _, _, true, rfl, .ty "bool", .base (.bl b), kit_ty (by decide +kernel), k⟩
theorem w_neB {a b : Bool} {H : Hp} {Q : VK} (q : Q (.bl (!decide (a = b))) H) : rNe (.bl a) (.bl b) H Q := ⟨rfl, by
  have e : decide (V.bl a = V.bl b) = decide (a = b) := by cases a <;> cases b <;> decide
  rw [e]
  exact q⟩
end Hb

set_option Elab.async false
set_option maxRecDepth 100000
set_option maxHeartbeats 4000000
/-! More steps: dicts, fields changed by an operator, ranges, and an own exception with a field. -/
namespace Hb
open PySem L2 ClX

section
variable {K : PySem.W.Frag} {σ : St} {H : Hp} {Q : VK} {D : Ends} {ta tb td tc te tv ty to ti : TE} {t u tr : TS} {g : TG} {i : Nat} {v x y : V} {E : XK} {ts : TA} {f m : Str} {p : Addr} {B : Hp} {L L' : List (Addr × HO)}
/-! ### dicts with keys that are ints -/
def RDin (x y : V) (H : Hp) (Q : VK) : Prop := ∃ a o, x = .ref a ∧ DGet H a y o ∧ Q (.bl o.isSome) H
def RDni (x y : V) (H : Hp) (Q : VK) : Prop := ∃ a o, x = .ref a ∧ DGet H a y o ∧ Q (.bl (!o.isSome)) H
theorem w_din (q : ty σ H fun y H1 => td σ H1 fun x H2 => RDin x y H2 Q) : tDIn ty td σ H Q := q
theorem w_dni (q : ty σ H fun y H1 => td σ H1 fun x H2 => RDni x y H2 Q) : tDNotIn ty td σ H Q := q
theorem w_dinI {kvs : List (Key × V)} {n : Int} (h : H p = some (.dK kvs)) (q : Q (.bl (valV kvs (Sum.inl n)).isSome) H) : RDin (.ref p) (.int n) H Q := ⟨p, _, rfl, DGet.k (k := Sum.inl n) h, q⟩
theorem w_dniI {kvs : List (Key × V)} {n : Int} (h : H p = some (.dK kvs)) (q : Q (.bl (!(valV kvs (Sum.inl n)).isSome)) H) : RDni (.ref p) (.int n) H Q := ⟨p, _, rfl, DGet.k (k := Sum.inl n) h, q⟩
def RDput (x y v : V) (H : Hp) (R : Hp → Prop) : Prop := ∃ a H4, x = .ref a ∧ DPut H a y v H4 ∧ R H4
theorem w_dput (q : tv σ H fun v H1 => td σ H1 fun x H2 => ty σ H2 fun y H3 => RDput x y v H3 (D.nx σ)) : sDPut td ty tv D σ H := q
theorem w_dputI {kvs : List (Key × V)} {n : Int} {R : Hp → Prop} (hs : Hs B L H) (h : Put L p (.dK kvs) (.dK (putK kvs (Sum.inl n) v)) L') (hl : kvs.length < sizeLine) (q : ∀ H', Hs B L' H' → R H') : RDput (.ref p) (.int n) v H R :=
  ⟨p, _, rfl, DPut.k (k := Sum.inl n) (hs.gets h) hl, q _ (hs.puts h)⟩
def RPopA (x : V) (H : Hp) (R : Addr → Prop) : Prop := ∃ a, x = .ref a ∧ IsD H a ∧ R a
def RPopB (a : Addr) (y : V) (H : Hp) (Q : VK) : Prop := ∃ kvs k v, H a = some (.dK kvs) ∧ y = kV k ∧ valV kvs k = some v ∧ Q v (upd H a (.dK (dropK kvs k)))
theorem w_dpop (q : td σ H fun x H1 => RPopA x H1 fun a => ty σ H1 fun y H2 => RPopB a y H2 Q) : tDPop1 td ty σ H Q := q
theorem w_dpopA {kvs : List (Key × V)} {R : Addr → Prop} (h : H p = some (.dK kvs)) (q : R p) : RPopA (.ref p) H R := ⟨p, rfl, .inl ⟨kvs, .inl h⟩, q⟩
theorem w_dpopB {kvs : List (Key × V)} {n : Int} (hs : Hs B L H) (h : Put L p (.dK kvs) (.dK (dropK kvs (Sum.inl n))) L') (hv : valV kvs (Sum.inl n) = some v) (q : ∀ H', Hs B L' H' → Q v H') : RPopB p (.int n) H Q :=
  ⟨kvs, Sum.inl n, v, hs.gets h, rfl, hv, q _ (hs.puts h)⟩
def NewD (Q : VK) (H : Hp) : Prop := ∀ p, H p = none → Q (.ref p) (upd H p (.dK []))
theorem w_dnew (q : NewD Q H) : tDNewK σ H Q := q
theorem w_newD (hs : Hs B L H) (q : ∀ p H', Hs B ((p, .dK []) :: L) H' → Q (.ref p) H') : NewD Q H := w_new hs q
/-! ### o.f op= e -/
def FA1 (K : PySem.W.Frag) (f : Str) (x : V) (H : Hp) (R : Addr → Addr → V → Prop) : Prop := ∃ a C dx fs v, x = .ref a ∧ H a = some (.ins C dx fs) ∧ Cls K C ∧ NoAttr K C f ∧ fs.lookup f = some v ∧ R a C v
def FA2 (f : Str) (a C : Addr) (z : V) (H : Hp) (R : Hp → Prop) : Prop := ∃ dx' fs', H a = some (.ins C dx' fs') ∧ fs'.length < 1000 ∧ R (upd H a (.ins C dx' (putF f z fs')))
theorem w_faug {rd : V → V → Hp → VK → Prop} (q : ta σ H fun x H1 => FA1 K f x H1 fun a C v => tv σ H1 fun y H2 => rd v y H2 fun z H3 => FA2 f a C z H3 (D.nx σ)) : sFldAug K ta tv rd f D σ H := by
  revert q
  unfold sFldAug FA1 FA2
  exact id
theorem w_fa1 {C dx : Addr} {fs : List (Str × V)} {R : Addr → Addr → V → Prop} (h : H p = some (.ins C dx fs)) (hc : Cls K C) (hn : NoAttr K C f) (hl : fs.lookup f = some v) (q : R p C v) : FA1 K f (.ref p) H R := ⟨p, C, dx, fs, v, rfl, h, hc, hn, hl, q⟩
theorem w_fa2 {R : Hp → Prop} {C dx : Addr} {fs gs : List (Str × V)} (hs : Hs B L H) (h : Put L p (.ins C dx fs) (.ins C dx gs) L') (hl : fs.length < 1000) (hg : putF f v fs = gs) (q : ∀ H', Hs B L' H' → R H') : FA2 f p C v H R := by
  subst hg
  exact ⟨dx, fs, hs.gets h, hl, q _ (hs.puts h)⟩
theorem w_rAdd {a b : Int} (q : Q (.int (a + b)) H) : rAdd (.int a) (.int b) H Q := ⟨a, b, rfl, rfl, q⟩
theorem w_rSub {a b : Int} (q : Q (.int (a - b)) H) : rSub (.int a) (.int b) H Q := ⟨a, b, rfl, rfl, q⟩
/-! ### built-ins -/
def rMax2 : List V → Hp → VK → Prop := fun xs H Q => ∃ i j, xs = [.int i, .int j] ∧ Q (.int (if j > i then j else i)) H
def rMin2 : List V → Hp → VK → Prop := fun xs H Q => ∃ i j, xs = [.int i, .int j] ∧ Q (.int (if j < i then j else i)) H
theorem call_maxQ {X : Cx} (hc : X.calm = true) : CallR X (.builtin "max") rMax2 := call_max2 hc
theorem call_minQ {X : Cx} (hc : X.calm = true) : CallR X (.builtin "min") rMin2 := call_min2 hc
theorem w_max {a b : Int} (q : Q (.int (if b > a then b else a)) H) : rMax2 [.int a, .int b] H Q := ⟨a, b, rfl, q⟩
theorem w_min {a b : Int} (q : Q (.int (if b < a then b else a)) H) : rMin2 [.int a, .int b] H Q := ⟨a, b, rfl, q⟩
def rIsN : R2 := fun x y H Q => y = .non ∧ Q (.bl (decide (x = .non))) H
def rNotN : R2 := fun x y H Q => y = .non ∧ Q (.bl (!decide (x = .non))) H
theorem op_isNQ {X : Cx} : OpR X (compareOp .Is) rIsN := op_isN
theorem op_notNQ {X : Cx} : OpR X (compareOp .IsNot) rNotN := op_notN
theorem w_isN (q : Q (.bl (decide (x = .non))) H) : rIsN x .non H Q := ⟨rfl, q⟩
theorem w_notN (q : Q (.bl (!decide (x = .non))) H) : rNotN x .non H Q := ⟨rfl, q⟩
theorem w_eqD {a b : Addr} {d e : PyData} (h1 : Dp K H (.ref a) d) (h2 : Dp K H (.ref b) e) (s1 : SeqAt.shaped d = true) (s2 : SeqAt.shaped e = true) (q : Q (.bl (PyData.eqv d e)) H) : rEqD K (.ref a) (.ref b) H Q := ⟨d, e, h1, h2, s1, s2, q⟩
/-! ### targets -/
theorem w_gtup {n : Nat} {t : TGs} {xs : List V} {R : St → Hp → Prop} (h : SqT K H p xs) (hl : xs.length = n) (q : t xs σ H R) : gTup K n t (.ref p) σ H R := ⟨p, xs, rfl, h, hl, q⟩
theorem w_gnil {R : St → Hp → Prop} (q : R σ H) : gNil [] σ H R := ⟨rfl, q⟩
theorem w_gcons {t : TG} {u : TGs} {r : List V} {R : St → Hp → Prop} (q : t v σ H fun σ' H' => u r σ' H' R) : gCons t u (v :: r) σ H R := ⟨v, r, rfl, q⟩
theorem w_par3 {j l : Nat} (q : ts σ H fun vs H1 => ∃ u v w, vs = [u, v, w] ∧ D.nx (((σ.set i (some u)).set j (some v)).set l (some w)) H1) : tPar3 i j l ts D σ H := q
theorem w_ex3 {a b c : V} {P : V → V → V → Prop} (q : P a b c) : ∃ u v w, [a, b, c] = [u, v, w] ∧ P u v w := ⟨a, b, c, rfl, q⟩
theorem w_par2 {j : Nat} (q : ts σ H fun vs H1 => ∃ u v, vs = [u, v] ∧ D.nx ((σ.set i (some u)).set j (some v)) H1) : tPar i j ts D σ H := q
theorem w_ex2 {a b : V} {P : V → V → Prop} (q : P a b) : ∃ u v, [a, b] = [u, v] ∧ P u v := ⟨a, b, rfl, q⟩
/-! ### [e for i in range(a, b)] -/
theorem w_lcR {vs : List Nat} {tt : TT} {lo hi : Int} (b1 : -(2 ^ 62) ≤ lo ∧ lo < 2 ^ 62 ∧ -(2 ^ 62) ≤ hi ∧ hi < 2 ^ 62) (Pv : Addr → Nat → Hp → Prop) (hta : ∀ Q : List V → Hp → Prop, Q [.int lo, .int hi] H → ts σ H Q) (h0 : ∀ D, H D = none → Pv D 0 (upd H D (.lst [])))
    (hs : ∀ D (i : Nat) H, lo + (i : Int) < hi → Pv D i H → g (.int (lo + (i : Int))) (wipe σ vs) H fun σ2 H2 => wipe σ2 vs = wipe σ vs ∧ tt σ2 H2 fun b H3 =>
      if b = true then te σ2 H3 fun y H4 => ∃ acc, H4 D = some (.lst acc) ∧ acc.length < sizeLine ∧ Pv D (i + 1) (upd H4 D (.lst (acc ++ [y]))) else Pv D (i + 1) H3) (hd : ∀ D H, Pv D (hi - lo).toNat H → Q (.ref D) H) : tLc (iRng2 ts) g tt te vs σ H Q :=
  hta _ ⟨lo, hi, rfl, b1, fun D hD => lc_range (Pv D) (h0 D hD) (fun i H' hi' p => hs D i H' (by omega) p) (hd D)⟩
theorem w_lcR1 {vs : List Nat} {tt : TT} {hi : Int} (b1 : -(2 ^ 62) ≤ hi ∧ hi < 2 ^ 62) (Pv : Addr → Nat → Hp → Prop) (hta : ∀ Q : List V → Hp → Prop, Q [.int hi] H → ts σ H Q) (h0 : ∀ D, H D = none → Pv D 0 (upd H D (.lst [])))
    (hs : ∀ D (i : Nat) H, (i : Int) < hi → Pv D i H → g (.int (i : Int)) (wipe σ vs) H fun σ2 H2 => wipe σ2 vs = wipe σ vs ∧ tt σ2 H2 fun b H3 =>
      if b = true then te σ2 H3 fun y H4 => ∃ acc, H4 D = some (.lst acc) ∧ acc.length < sizeLine ∧ Pv D (i + 1) (upd H4 D (.lst (acc ++ [y]))) else Pv D (i + 1) H3) (hd : ∀ D H, Pv D hi.toNat H → Q (.ref D) H) : tLc (iRng1 ts) g tt te vs σ H Q :=
  hta _ ⟨hi, rfl, b1.1, b1.2, fun D hD => lc_range (Pv D) (h0 D hD) (fun i H' hi' p => by
    have e0 : (0 : Int) + (i : Int) = (i : Int) := Int.zero_add _
    rw [e0]
    exact hs D i H' (by omega) p) (hd D)⟩
end

/-- a statement, then the rest: what stands between is said once -/
theorem w_cut {σ : St} {H : Hp} {D : Ends} {t u : TS} (Mid : St → Hp → Prop) (h1 : t { D with nx := Mid } σ H) (h2 : ∀ σ' H', Mid σ' H' → u D σ' H') : C8.tCut t u D σ H := ⟨Mid, h1, h2⟩
/-! ### rules whose reading names the written part itself -/
section
variable {X : Cx} {K : PySem.W.Frag}
theorem pe_fldK {e : Expr} {f : Str} {ta : TE} {pos : Pos} (he : PE X e ta) (hb : attributeBase e f X.env (eval e X.env) = eval e X.env := by rfl) (hK : X.K = K := by rfl) : PE X (.Attribute e f pos) (tFld K ta f) := by
  subst hK
  exact pe_fld he hb
theorem ps_fldK {o value : Expr} {f : Str} {ta tv : TE} {pos pos' : Pos} (ha : PE X o ta) (hv : PE X value tv) (hs : swapsWith value (some (.Attribute o f pos')) pos.line X.env = pure false := by rfl) (hK : X.K = K := by rfl) : PS X (.Assign [.Attribute o f pos'] value pos) (sFld K ta tv f) := by
  subst hK
  exact ps_fld ha hv hs
theorem ps_fldaugK {o value : Expr} {f : Str} {ta tv : TE} {pos tpos : Pos} {op : Operator} {rd : V → V → Hp → VK → Prop} (ha : PE X o ta) (hv : PE X value tv) (hop : InOp X op rd) (hK : X.K = K := by rfl) : PS X (.AugAssign (.Attribute o f tpos) op value pos) (sFldAug K ta tv rd f) := by
  subst hK
  exact ps_fldaug ha hv hop
theorem ix_listK (hK : X.K = K := by rfl) : IxR X (rIxL K) := by
  subst hK
  exact ix_list
theorem ix_tupK (hK : X.K = K := by rfl) : IxR X (rIxT K) := by
  subst hK
  exact ix_tup
theorem sl_listK (hK : X.K = K := by rfl) : SlR X (rSlL K) := by
  subst hK
  exact sl_list
theorem sl_tupK (hK : X.K = K := by rfl) : SlR X (rSlT K) := by
  subst hK
  exact sl_tup
theorem call_lenK (hK : X.K = K := by rfl) : CallR X (.builtin "len") (rLen K) := by
  subst hK
  exact call_lenQ
theorem op_eqDK (hu : X.A.units + 64 < cLine) (hK : X.K = K := by rfl) : OpR X (compareOp .Eq) (rEqD K) := by
  subst hK
  exact op_eqD hu
theorem op_neDK (hu : X.A.units + 64 < cLine) (hK : X.K = K := by rfl) : OpR X (compareOp .NotEq) (rNeD K) := by
  subst hK
  exact op_neD hu
theorem op_inK (hK : X.K = K := by rfl) : OpR X (compareOp .In) (rIn K false) := by
  subst hK
  exact op_in_seq
theorem op_niK (hK : X.K = K := by rfl) : OpR X (compareOp .NotIn) (rIn K true) := by
  subst hK
  exact op_notIn_seq
theorem pi_listK {tg l : Expr} {tl : TE} (hl : PE X l tl) (hK : X.K = K := by rfl) : PI X tg l (iList K tl) := by
  subst hK
  exact pi_list hl
theorem pi_tupK {tg l : Expr} {tl : TE} (hl : PE X l tl) (hK : X.K = K := by rfl) : PI X tg l (iTup K tl) := by
  subst hK
  exact pi_tup hl
theorem pg_tupK {es : List Expr} {k : Nat} {t : TGs} {n : Nat} {pos : Pos} (hc : X.calm = true) (h : PGs X es t) (hn : (assignEach es X.env).length = n := by rfl) (hst : (assignEach es X.env).findIdx? (·.1) = none := by rfl) (hK : X.K = K := by rfl) : PG X (.Tuple es k pos) (gTup K n t) := by
  subst hK
  exact pg_tup hc h hn hst
theorem pt_truthK {a : Expr} {ta : TE} (ha : PE X a ta) (he : ∀ whole, isTrue a X.env whole = (do let v ← whole; standAt a.pos; holding [v] (truthy v)) := by intro _; rfl) (hK : X.K = K := by rfl) : PT X a (fun σ H Q => ta σ H fun x H' => ∃ k, TruV K x H' k ∧ Q k H') := by
  subst hK
  exact pt_truth ha he
theorem call_isiK (hK : X.K = K := by rfl) : CallR X (.builtin "isinstance") (rIsi K) := by
  subst hK
  exact call_isi
variable {o e : Expr} {es : List Expr} {to : TE} {t : TA} {name : Str} {apos cpos : Pos} {T id : String} {r : V → List V → Hp → VK → Prop}
theorem pe_bm0K (pa : PlainAttrs T) (slot : Slot T name id) (hty : typeOf (.builtin id) = pure (.type "method_descriptor")) (hm : MtR X id r) (ho : PE X o to)
    (hbase : attributeBase o name X.env (eval o X.env) = eval o X.env := by rfl) (hline : (apos.endLine == cpos.line) = true := by rfl) (hK : X.K = K := by rfl) : PE X (.Call (.Attribute o name apos) [] [] cpos) (tBM0 K T r to) := by
  subst hK
  exact pe_bm0 pa slot hty hm ho hbase hline
theorem pe_bmK (pa : PlainAttrs T) (slot : Slot T name id) (hty : typeOf (.builtin id) = pure (.type "method_descriptor")) (hm : MtR X id r) (ho : PE X o to) (ha : PA X (e :: es) t)
    (hb : attributeBase o name X.env (eval o X.env) = eval o X.env := by rfl)
    (hf : ((backTo cpos (starEach (e :: es) X.env)).all (fun x => !x.1) && (backToKw cpos (keywordEach [] X.env)).all (fun x => x.1.isSome) && decide ((e :: es).length + ([] : List Keyword).length + (if ([] : List Keyword).isEmpty then 0 else 1) < 30)) = true := by rfl)
    (hl : (apos.endLine == cpos.line) = true := by rfl) (h1 : starEach (e :: es) X.env = (false, eval e X.env) :: starEach es X.env := by rfl) (h2 : (backTo cpos (starEach es X.env)).any (·.1) = false := by rfl) (hK : X.K = K := by rfl) :
    PE X (.Call (.Attribute o name apos) (e :: es) [] cpos) (tBM K T r to t) := by
  subst hK
  exact pe_bm pa slot hty hm ho ha hb hf hl h1 h2
end
section
variable {H B : Hp} {L L' : List (Addr × HO)} {l : Addr} {y a b c d e : V} {r : List V} {R : Hp → Prop}
theorem w_set0 (hs : Hs B L H) (h : Put L l (.lst (a :: r)) (.lst (y :: r)) L') (q : ∀ H', Hs B L' H' → R H') : rSetL (.ref l) (.int 0) y H R := w_setL (k := 0) hs h rfl (by simp) q
theorem w_set1 (hs : Hs B L H) (h : Put L l (.lst (a :: b :: r)) (.lst (a :: y :: r)) L') (q : ∀ H', Hs B L' H' → R H') : rSetL (.ref l) (.int 1) y H R := w_setL (k := 1) hs h rfl (by simp) q
theorem w_set2 (hs : Hs B L H) (h : Put L l (.lst (a :: b :: c :: r)) (.lst (a :: b :: y :: r)) L') (q : ∀ H', Hs B L' H' → R H') : rSetL (.ref l) (.int 2) y H R := w_setL (k := 2) hs h rfl (by simp) q
theorem w_set3 (hs : Hs B L H) (h : Put L l (.lst (a :: b :: c :: d :: r)) (.lst (a :: b :: c :: y :: r)) L') (q : ∀ H', Hs B L' H' → R H') : rSetL (.ref l) (.int 3) y H R := w_setL (k := 3) hs h rfl (by simp) q
theorem w_set4 (hs : Hs B L H) (h : Put L l (.lst (a :: b :: c :: d :: e :: r)) (.lst (a :: b :: c :: d :: y :: r)) L') (q : ∀ H', Hs B L' H' → R H') : rSetL (.ref l) (.int 4) y H R := w_setL (k := 4) hs h rfl (by simp) q
end
theorem w_eqB {a b : Bool} {H : Hp} {Q : VK} (q : Q (.bl (decide (a = b))) H) : rEq (.bl a) (.bl b) H Q := ⟨rfl, by
  have e : decide (V.bl a = V.bl b) = decide (a = b) := by cases a <;> cases b <;> decide
  rw [e]
  exact q⟩
/-- arguments that are known -/
def kTA (vs : List V) : TA := fun _ H Q => Q vs H
theorem w_for1 {σ : St} {H : Hp} {D : Ends} {ta : TA} {tb : TS} {g : TG} (q : ta σ H fun vs H1 => tFor (iRng1 (kTA vs)) g tb D σ H1) : tFor (iRng1 ta) g tb D σ H := q
theorem w_for2 {σ : St} {H : Hp} {D : Ends} {ta : TA} {tb : TS} {g : TG} (q : ta σ H fun vs H1 => tFor (iRng2 (kTA vs)) g tb D σ H1) : tFor (iRng2 ta) g tb D σ H := q
/-! ### an own exception -/
section
variable {X : Cx} {C a : Addr}
/-- X.__init__(self, ..) of an own class that has its __init__ from ValueError -/
theorem pe_ownInit {x : Str} {e : Expr} {es : List Expr} {ta : TA} {p1 p2 pos : Pos} {pl : Sem Bool} (hg : Gl X x) (hm : X.mg x = some (.ref C)) (r : CRead X.K C (.type "type")) (cv : PySem.W.findCls X.K (.ref C) (.type "type") "__init__" = some (.val (.builtin "ValueError.__init__"))) (ha : PA X (e :: es) ta)
    (hdb : (x == ("__debug__" : Str)) = false := by decide)
    (hc : eval (.Call (.Attribute (.Name x p1) "__init__" p2) (e :: es) [] pos) X.env = (do
      let ov ← eval (.Name x p1) X.env
      standAt p2.atName
      let (f, first) ← holding [ov] (getMethod ov "__init__" pl)
      callWith pos f first (backTo pos (starEach (e :: es) X.env)) (backToKw pos (keywordEach [] X.env))) := by rfl)
    (he : starEach (e :: es) X.env = (false, eval e X.env) :: starEach es X.env := by rfl) (hpl : (backTo pos (starEach es X.env)).any (·.1) = false := by rfl) :
    PE X (.Call (.Attribute (.Name x p1) "__init__" p2) (e :: es) [] pos) (tVeI X.K ta) := by
  constructor
  intro pins s σ H Q I h
  refine PySem.W.methodCall_KW ?_ hc
  refine ld_glob I hg hm ?_ hdb
  refine PySem.W.method_cls I.kIn r.ga (PySem.W.cls_value I.kIn r.rd cv rfl ?_)
  have fin : ∀ (us : List Value) (s1 : Shared), AP X pins σ (fun vs H1 => ∃ (a C : Addr) (ws : List V), vs = .ref a :: ws ∧ ws.length ≤ 1000 ∧ OexC X.K C ∧ H1 a = some (exo a C none) ∧ Q .non H1) us s1 → wpAny (model X.prog X.w) X.A (call (.builtin "ValueError.__init__") us) (EP X pins σ Q) X.xe s1 := by
    rintro us s1 ⟨vs, H1, I1, r1, a', C', ws, rfl, hw, hT, hE, q1⟩
    match us, r1 with
    | u0 :: ur, .cons r0 rr =>
      cases (show u0 = Value.ref a' from r0)
      have hn : ur.length ≤ sizeLine := by
        rw [← Paired.length rr, sizeLine_eq]
        omega
      exact oinit_ok hT I1 hE hn fun _ J => ⟨.non, _, J, rfl, q1⟩
  exact PyProof.Rows.callWith_method1 (thn (ha.run pos pins _ σ H _ (I.tok _) h) fin) he hpl
/-- o.m(e), what it lets out by the slots -/
def tMethQ (C : Addr) (m : Str) (sp : Sp) (E : St → XK) (ta : TE) (t : TA) : TE := fun σ H Q => ta σ H fun x H1 => ∃ a dx fs, x = .ref a ∧ H1 a = some (.ins C dx fs) ∧ fs.lookup m = none ∧ t σ H1 fun vs H2 => sp (x :: vs) H2 Q (E σ)
theorem pe_methQ {CX : CXT} {k : Nat} {f : Addr} {fd : FuncData} {ps : List Str} {sp : Sp} {E : St → XK} {m : Str} {pos apos : Pos} {e o : Expr} {es : List Expr} {ta : TE} {t : TA} {pl : Sem Bool} (ho : PE X o ta) (c : Cls X.K C) (hm : Meth X.K C m f) (F : FnOk X.prog X.w X.K X.mg X.base CX k f fd ps sp)
    (hr : Room k X.A) (hb : Binds X.K fd ps []) (hx : ∀ σ, PassesAt CX X σ (E σ)) (ha : PA X (e :: es) t) (h1 : starEach (e :: es) X.env = (false, eval e X.env) :: starEach es X.env := by rfl) (h2 : (backTo pos (starEach es X.env)).any (·.1) = false := by rfl)
    (h3 : eval (.Call (.Attribute o m apos) (e :: es) [] pos) X.env = (do
      let ov ← eval o X.env
      standAt apos.atName
      let (f, first) ← holding [ov] (getMethod ov m pl)
      callWith pos f first (backTo pos (starEach (e :: es) X.env)) (backToKw pos (keywordEach [] X.env))) := by rfl) :
    PE X (.Call (.Attribute o m apos) (e :: es) [] pos) (tMethQ C m sp E ta t) := by
  constructor
  intro pins s σ H Q I h
  refine PySem.W.methodCall_KW (pl := pl) (thn (ho.run pins s σ H _ I h) ?_) h3
  rintro u s1 ⟨x, H1, I1, rx, a, dx, fs, rfl, ea, l, q⟩
  cases (show u = Value.ref a from rx)
  refine getmeth_ok I1 ea c hm l (PySem.W.callWith_K (first := [.ref a]) (h₀ := X.base) I.ok.mod.kin hm.kp (thn (ha.run pos pins s1 σ H1 _ I1 q) ?_) h1 h2)
  rintro us s2 ⟨vs, H2, I2, r, q2⟩
  exact ⟨I2.kIn, run_fnS (us := .ref a :: us) (vs := .ref a :: vs) F hr hb (hx σ) I2 (.cons rfl r) q2⟩
/-- what an own exception's class D must have for isinstance -/
structure XcC (K : PySem.W.Frag) (D : Addr) : Prop where
  cl : (PySem.W.clsIn K D).isSome = true
  ga : PySem.W.findIn K (.ref D) "__getattribute__" = some (some (.builtin "BaseException.__getattribute__"))
  gt : PySem.W.findIn K (.ref D) "__getattr__" = some none
  ex : PySem.W.subIn K (.ref D) (.type "BaseException") = some true
  cs : PySem.W.findIn K (.ref D) "__class__" = some (some (.builtin "object.__class__"))
  gd : PySem.W.specialIn K (.builtin "object.__class__") "__get__" = some (some (.builtin "getset_descriptor.__get__"))
  tk : PySem.W.takesIn K (.builtin "object.__class__") = some true
  mo : PySem.W.mroIn K D (.type "object") = some true
theorem kit_own {K : PySem.W.Frag} {D C : Addr} {b : Bool} (n : D ≠ C) (hc : PySem.W.isClsIn K C = true) (ht : PySem.W.typeIn K (.ref C) = some (.type "type")) (h : PySem.W.subIn K (.ref D) (.ref C) = some b) : PySem.W.kitOne K (.ref D) (.ref C) = some b := by
  have e : (Value.ref D == Value.ref C) = false := beq_eq_false_iff_ne.mpr fun q => n (Value.ref.inj q)
  have hc' : (PySem.W.clsIn K C).isSome = true := hc
  unfold PySem.W.kitOne PySem.W.kitCls
  simp [e, hc', ht, h]
theorem kit_ownT {K : PySem.W.Frag} {D C : Addr} (hc : PySem.W.isClsIn K C = true) (ht : PySem.W.typeIn K (.ref C) = some (.type "type")) (h : PySem.W.subIn K (.ref D) (.ref C) = some true) : PySem.W.kitOne K (.ref D) (.ref C) = some true := by
  by_cases e : D = C
  · subst e
    unfold PySem.W.kitOne
    rw [if_pos (beq_self_eq_true _)]
  · exact kit_own e hc ht h
/-- isinstance(e, c) of an exception that the suite holds, with its dict -/
def rIsX (K : PySem.W.Frag) (a : Addr) (cls : Value) (d : Option Addr) : List V → Hp → VK → Prop := fun xs H Q => ∃ (D C dd : Addr) (fs : List (Str × V)) (b : Bool), cls = .ref D ∧ d = some dd ∧ H dd = some (.xd fs) ∧ xs = [.ref a, .ref C] ∧ XcC K D ∧ PySem.W.kitOne K (.ref D) (.ref C) = some b ∧ Q (.bl b) H
theorem call_isX {oe : Obj} {cls : Value} {d : Option Addr} {pn : List (Addr × Obj)} (hz : Zc cls d oe) (hf : ∃ vs, oe.data = .fields vs) : CallR (X.suite a ((a, oe) :: pn)) (.builtin "isinstance") (rIsX X.K a cls d) := by
  rintro pins s σ H xs us Q I r ⟨D, C, dd, fs, b, rfl, rfl, hd, rfl, hD, hk, q⟩
  obtain ⟨u1, u2, rfl, r1, r2⟩ := vals2 r
  cases (show u1 = Value.ref a from r1)
  cases (show u2 = Value.ref C from r2)
  obtain ⟨ha, _⟩ := I.pin (a, oe) (List.mem_append_left _ List.mem_cons_self)
  obtain ⟨vs, hv⟩ := hf
  obtain ⟨mA, hns, _⟩ := (show ObjOk X.prog X.w H s.heap dd (.xd fs) from I.hok dd _ hd)
  obtain ⟨od, ho, _⟩ := lookIn_ns hns
  have J : PySem.W.InstAt s.heap a oe D (some od) := ⟨ha, hz.1, by unfold PySem.W.notCls; rw [hv] <;> rfl, by rw [hz.2]; exact ho⟩
  exact PySem.W.kia_one (PySem.W.kitx_exc hD.cl hD.ga hD.gt hD.ex hD.cs hD.gd hD.tk hD.mo) I.kIn J hk (fun z => nomatch z) fun tk => ⟨.bl b, H, I.kept (t' := tk) fun _ _ z => z, rfl, q⟩
end
section
variable {K : PySem.W.Frag} {σ : St} {H : Hp} {Q : VK} {D : Ends} {te tv to : TE} {ts : TA} {f : Str} {v x y : V} {C a : Addr} {B : Hp} {L L' : List (Addr × HO)}
def RVe (K : PySem.W.Frag) (vs : List V) (H : Hp) (Q : VK) : Prop := ∃ (a C : Addr) (ws : List V), vs = .ref a :: ws ∧ ws.length ≤ 1000 ∧ OexC K C ∧ H a = some (exo a C none) ∧ Q .non H
theorem w_vei (q : ts σ H fun vs H1 => RVe K vs H1 Q) : tVeI K ts σ H Q := q
theorem w_ve {ws : List V} (hl : ws.length ≤ 1000) (hT : OexC K C) (h : H a = some (exo a C none)) (q : Q .non H) : RVe K (.ref a :: ws) H Q := ⟨a, C, ws, rfl, hl, hT, h, q⟩
def ROst (K : PySem.W.Frag) (f : Str) (y x : V) (H : Hp) (R : Hp → Prop) : Prop := ∃ a C : Addr, x = .ref a ∧ OexC K C ∧ PySem.W.findIn K (.ref C) f = some none ∧
  ((H a = some (exo a C none) ∧ ∀ dx, H dx = none → dx ≠ a → R (upd (upd H dx (exd dx [(f, y)])) a (exo a C (some dx)))) ∨
    ∃ (dx : Addr) (fs : List (Str × V)), H a = some (exo a C (some dx)) ∧ H dx = some (exd dx fs) ∧ fs.length ≤ 900 ∧ R (upd H dx (exd dx ((f, y) :: fs))))
theorem w_ost0 (q : te σ H fun y H1 => to σ H1 fun x H2 => ROst K f y x H2 (D.nx σ)) : tOst K f to te D σ H := q
theorem w_ost {R : Hp → Prop} (hs : Hs B ((a, exo a C none) :: L) H) (hT : OexC K C) (hn : PySem.W.findIn K (.ref C) f = some none) (q : ∀ dx H', Hs B ((dx, exd dx [(f, y)]) :: (a, exo a C (some dx)) :: L) H' → R H') : ROst K f y (.ref a) H R :=
  ⟨a, C, rfl, hT, hn, .inl ⟨hs.g0, fun dx hd _ => q dx _ ((hs.new hd).p1 _)⟩⟩
/-- the making of an own exception -/
def MkO (C : Addr) (sp : Sp) (vs dvs : List V) (H1 : Hp) (Q : XK) : Prop := vs.length ≤ 1000 ∧ ∀ a, H1 a = none → sp (.ref a :: (vs ++ dvs)) (upd H1 a (exo a C none))
  (fun v H2 => v = .non ∧ ∃ (d : Addr) (fs : List (Str × V)), H2 a = some (exo a C (some d)) ∧ H2 d = some (exd d fs) ∧ H1 d = none ∧ Q (.ref C) (some d) (upd (del H2 a) d (.xd fs))) (fun _ _ _ => False)
theorem w_mko {sp : Sp} {dvs : List V} {Q : XK} (q : ts σ H fun vs H1 => MkO C sp vs dvs H1 Q) : tMkO C sp dvs ts σ H Q := by
  revert q
  unfold tMkO MkO
  exact id
/-- what an own __init__ with one field promises -/
def spXinit (C : Addr) (f : Str) (ok : V → Prop) : Sp := fun vs H Q _ => ∃ (B : Hp) (e : Addr) (v : V), vs = [.ref e, v] ∧ Hs B [(e, exo e C none)] H ∧ ok v ∧ ∀ dx H', Hs B [(dx, exd dx [(f, v)]), (e, exo e C (some dx))] H' → Q .non H'
theorem w_mkX {ok : V → Prop} {Q : XK} (hs : Hs B L H) (hv : ok v) (q : ∀ d H', Hs B ((d, .xd [(f, v)]) :: L) H' → Q (.ref C) (some d) H') : MkO C (spXinit C f ok) [v] [] H Q := by
  refine ⟨by simp, fun a ha => ?_⟩
  have h1 := hs.new (o := exo a C none) ha
  obtain ⟨_, h2, back⟩ := h1.frame [(a, exo a C none)]
  refine ⟨_, a, v, rfl, h2, hv, fun dx H2 h3 => ⟨rfl, dx, [(f, v)], h3.g1, h3.g0, ?_, ?_⟩⟩
  · have n : dx ≠ a := fun e => by
      have := h3.nd
      rw [e] at this
      simp at this
    have z := h3.out _ List.mem_cons_self
    have nm : dx ∉ [(a, exo a C none)].map (·.1) := by
      simp only [List.map_cons, List.map_nil, List.mem_singleton]
      exact n
    have z2 : upd H a (exo a C none) dx = none := (around_out nm).symm.trans z
    rwa [upd_ne n] at z2
  · have h4 := back _ _ h3
    have nd := h4.nd
    have hda : dx ≠ a := fun e => by
      rw [e] at nd
      simp at nd
    have nL : ∀ e ∈ L, e.1 ≠ dx ∧ e.1 ≠ a := fun e he => by
      simp only [List.cons_append, List.nil_append, List.map_cons, List.nodup_cons, List.mem_cons, not_or] at nd
      refine ⟨fun z => nd.1.2 ?_, fun z => nd.2.1 ?_⟩
      · rw [← z]
        exact List.mem_map.mpr ⟨e, he, rfl⟩
      · rw [← z]
        exact List.mem_map.mpr ⟨e, he, rfl⟩
    have ba : B a = none := hs.same.free ha
    have bd : B dx = none := h4.out _ List.mem_cons_self
    refine q dx _ ⟨fun b o e => ?_, ?_, fun e he => ?_, fun e he => ?_⟩
    · have n1 : b ≠ dx := fun z => by
        rw [z, bd] at e
        cases e
      have n2 : b ≠ a := fun z => by
        rw [z, ba] at e
        cases e
      rw [upd_ne n1, del_ne n2]
      exact h4.same b o e
    · simp only [List.cons_append, List.nil_append, List.map_cons, List.nodup_cons, List.mem_cons, not_or] at nd ⊢
      exact ⟨nd.1.2, nd.2.2⟩
    · rcases List.mem_cons.mp he with rfl | he
      · exact bd
      · exact hs.out e he
    · rcases List.mem_cons.mp he with rfl | he
      · exact upd_same
      · obtain ⟨n1, n2⟩ := nL e he
        rw [upd_ne n1, del_ne n2]
        exact h4.at_ e (List.mem_cons_of_mem _ (List.mem_cons_of_mem _ he))
theorem w_methQ {sp : Sp} {E : St → XK} {m : Str} {ta : TE} (q : ta σ H fun x H1 => Rc m C x H1 (ts σ H1 fun vs H2 => sp (x :: vs) H2 Q (E σ))) : tMethQ C m sp E ta ts σ H Q := by
  revert q
  unfold tMethQ Rc
  exact id
theorem w_isX {d : Addr} {fs : List (Str × V)} {C' : Addr} {b : Bool} (h : H d = some (.xd fs)) (hx : XcC K C) (hk : PySem.W.kitOne K (.ref C) (.ref C') = some b) (q : Q (.bl b) H) : rIsX K a (.ref C) (some d) [.ref a, .ref C'] H Q := ⟨C, C', d, fs, b, rfl, rfl, h, rfl, hx, hk, q⟩
def RXf (a : Addr) (cls : Value) (d : Option Addr) (C : Addr) (f : Str) (x : V) (H : Hp) (Q : VK) : Prop := x = .ref a ∧ cls = .ref C ∧ ∃ (dd : Addr) (fs : List (Str × V)) (v : V), d = some dd ∧ H dd = some (.xd fs) ∧ fs.lookup f = some v ∧ Q v H
theorem w_xf0 {cls : Value} {d : Option Addr} (q : te σ H fun x H1 => RXf a cls d C f x H1 Q) : tXf a cls d C f te σ H Q := q
theorem w_xf {d : Addr} {fs : List (Str × V)} (h : H d = some (.xd fs)) (hl : fs.lookup f = some v) (q : Q v H) : RXf a (.ref C) (some d) C f (.ref a) H Q := ⟨rfl, rfl, d, fs, v, rfl, h, hl, q⟩
theorem w_was {i : Nat} {ts : Addr → Value → Option Addr → TS} {Wout : WX} {d : Addr} (he : PySem.W.exmOne K (.ref C) (.ref C) = some true)
    (q : ∀ e, H e = none → ts e (.ref C) (some d) { nx := fun σ' H' => D.nx (σ'.set i none) H', rt := D.rt, bk := fun σ' H' => D.bk (σ'.set i none) H', ct := fun σ' H' => D.ct (σ'.set i none) H' } (σ.set i (some (.ref e))) H) :
    wAs K (.ref C) i ts Wout D (.ref C) (some d) σ H := ⟨true, he, fun _ e h => q e h, fun z => Bool.noConfusion z⟩
theorem w_eqSt {a b : Str} (q : Q (.bl (decide (a = b))) H) : rEq (.str a) (.str b) H Q := ⟨rfl, by
  have e : decide (V.str a = V.str b) = decide (a = b) := by
    by_cases h : a = b
    · rw [decide_eq_true h, decide_eq_true (congrArg V.str h)]
    · rw [decide_eq_false h, decide_eq_false fun q => h (V.str.inj q)]
  rw [e]
  exact q⟩
/-- texts of an f-string -/
theorem w_js {t : TE} {us : List TE} {acc : Str} {Q : Str → Hp → Prop} (q : t σ H fun x H1 => ∃ y : Str, x = .str y ∧ (acc ++ y).length ≤ sizeLine ∧ tJs us (acc ++ y) σ H1 Q) : tJs (t :: us) acc σ H Q := q
theorem w_js0 {acc : Str} {Q : Str → Hp → Prop} (q : Q acc H) : tJs [] acc σ H Q := q
theorem w_js1 {s acc : Str} {R : Str → Prop} (h : (acc ++ s).length ≤ sizeLine) (q : R s) : ∃ y : Str, V.str s = .str y ∧ (acc ++ y).length ≤ sizeLine ∧ R y := ⟨s, rfl, h, q⟩
def RFmt (x : V) (H : Hp) (Q : VK) : Prop := (∃ y : Str, x = .str y ∧ y.length ≤ sizeLine ∧ Q (.str y) H) ∨ ∃ i : Int, x = .int i ∧ i.natAbs.log2 < 1920 ∧ Q (.str (toString i)) H
theorem w_fmt (q : te σ H fun x H1 => RFmt x H1 Q) : tFmt te σ H Q := q
theorem w_fmtS {s : Str} (h : s.length ≤ sizeLine) (q : Q (.str s) H) : RFmt (.str s) H Q := .inl ⟨s, rfl, h, q⟩
theorem w_fmtI {n : Int} (h : n.natAbs < 2 ^ 64) (q : Q (.str (toString n)) H) : RFmt (.int n) H Q := .inr ⟨n, rfl, Nat.lt_of_lt_of_le (PySem.Flt.log2_lt_of (by decide) h) (by decide), q⟩
def tRaiseX (W : WX) (t : St → Hp → XK → Prop) : TS := fun _ σ H => t σ H fun cls d H' => W cls d σ H'
theorem ps_raiseQ {X : Cx} {W : WX} {e : Expr} {t : St → Hp → XK → Prop} {pos : Pos} (hc : X.calm = true) (tk : Takes X W) (he : PMk X e t) : PS X (.Raise (some e) none pos) (tRaiseX W t) := ps_raise hc tk he
theorem w_raise {W : WX} {t : St → Hp → XK → Prop} (q : t σ H fun cls d H' => W cls d σ H') : tRaiseX W t D σ H := q
end

/-! ### data that nobody changes: scalars and tuples -/
mutual
inductive Im (K : PySem.W.Frag) (H : Hp) : V → PyData → Prop
  | non : Im K H .non .none
  | bl (b : Bool) : Im K H (.bl b) (.bool b)
  | int (i : Int) : Im K H (.int i) (.int i)
  | str (x : Str) : Im K H (.str x) (.str x)
  | tup {a : Addr} {xs : List V} {ds : List PyData} : H a = some (.tup xs) → ImAll K H xs ds → Im K H (.ref a) (.tuple ds)
inductive ImAll (K : PySem.W.Frag) (H : Hp) : List V → List PyData → Prop
  | nil : ImAll K H [] []
  | cons {v : V} {vs : List V} {d : PyData} {ds : List PyData} : Im K H v d → ImAll K H vs ds → ImAll K H (v :: vs) (d :: ds)
end
section
variable {K : PySem.W.Frag} {H H' : Hp}
mutual
theorem Im.dp : ∀ {d : PyData} {v : V}, Im K H v d → Dp K H v d
  | .none, _, h => by cases h; exact .non
  | .bool _, _, h => by cases h; exact .bl _
  | .int _, _, h => by cases h; exact .int _
  | .str _, _, h => by cases h; exact .str _
  | .tuple _, _, h => by
    cases h with
    | tup h1 h2 => exact .tup (SqT.of h1) h2.dp
  | .list _, _, h => nomatch h
  | .dict _, _, h => nomatch h
theorem ImAll.dp : ∀ {ds : List PyData} {vs : List V}, ImAll K H vs ds → DpAll K H vs ds
  | [], _, h => by cases h; exact .nil
  | _ :: _, _, h => by
    cases h with
    | cons h1 h2 => exact .cons h1.dp h2.dp
end
mutual
theorem Im.mono (e : ∀ a xs, H a = some (.tup xs) → H' a = some (.tup xs)) : ∀ {d : PyData} {v : V}, Im K H v d → Im K H' v d
  | .none, _, h => by cases h; exact .non
  | .bool _, _, h => by cases h; exact .bl _
  | .int _, _, h => by cases h; exact .int _
  | .str _, _, h => by cases h; exact .str _
  | .tuple _, _, h => by
    cases h with
    | tup h1 h2 => exact .tup (e _ _ h1) (h2.mono e)
  | .list _, _, h => nomatch h
  | .dict _, _, h => nomatch h
theorem ImAll.mono (e : ∀ a xs, H a = some (.tup xs) → H' a = some (.tup xs)) : ∀ {ds : List PyData} {vs : List V}, ImAll K H vs ds → ImAll K H' vs ds
  | [], _, h => by cases h; exact .nil
  | _ :: _, _, h => by
    cases h with
    | cons h1 h2 => exact .cons (h1.mono e) (h2.mono e)
end
theorem Im.same (e : Same H H') {d : PyData} {v : V} (h : Im K H v d) : Im K H' v d := h.mono fun _ _ => e _ _
theorem ImAll.same (e : Same H H') {ds : List PyData} {vs : List V} (h : ImAll K H vs ds) : ImAll K H' vs ds := h.mono fun _ _ => e _ _
theorem ImAll.snoc {ds : List PyData} {vs : List V} {d : PyData} {v : V} (h : ImAll K H vs ds) (h1 : Im K H v d) : ImAll K H (vs ++ [v]) (ds ++ [d]) := by
  induction vs generalizing ds with
  | nil =>
    cases h
    exact .cons h1 .nil
  | cons w ws ih =>
    cases h with
    | cons a b => exact .cons a (ih b)
theorem ImAll.len : ∀ {ds : List PyData} {vs : List V}, ImAll K H vs ds → vs.length = ds.length
  | [], _, h => by cases h; rfl
  | _ :: _, _, h => by
    cases h with
    | cons _ b => exact congrArg (· + 1) b.len
/-- what is data stays data where a list changes -/
theorem tup_but {p : Addr} {o o' : HO} (h : H p = some o) (n : ∀ xs, o ≠ .tup xs) (a : Addr) (xs : List V) (e : H a = some (.tup xs)) : upd H p o' a = some (.tup xs) := by
  have d : a ≠ p := fun z => by
    rw [z, h] at e
    exact n xs (Option.some.inj e)
  rw [upd_ne d]
  exact e
theorem Hs.base {B B2 : Hp} {L : List (Addr × HO)} (e : Same B B2) (h : Hs B2 L H) : Hs B L H := ⟨e.trans h.same, h.nd, fun x hx => e.free (h.out x hx), h.at_⟩
end
section
variable {K : PySem.W.Frag} {σ : St} {H : Hp} {Q : VK} {te : TE} {ts : TA}
/-- [e for i in range(lo, hi)], each e data that is made anew -/
theorem w_lcI {vs : List Nat} {j : Nat} {lo hi : Int} (b1 : -(2 ^ 62) ≤ lo ∧ lo < 2 ^ 62 ∧ -(2 ^ 62) ≤ hi ∧ hi < 2 ^ 62) (hz : hi - lo ≤ 1000000) (ds : Nat → PyData) (hta : ∀ Q : List V → Hp → Prop, Q [.int lo, .int hi] H → ts σ H Q)
    (hw : ∀ v, wipe ((wipe σ vs).set j (some v)) vs = wipe σ vs)
    (he : ∀ (i : Nat) (H' : Hp) (Q' : VK), lo + (i : Int) < hi → Same H H' → (∀ y H3, Same H' H3 → Im K H3 y (ds i) → Q' y H3) → te ((wipe σ vs).set j (some (.int (lo + (i : Int))))) H' Q')
    (hq : ∀ D acc H', Hs H [(D, .lst acc)] H' → ImAll K H' acc ((List.range (hi - lo).toNat).map ds) → Q (.ref D) H') : tLc (iRng2 ts) (gName j) tYes te vs σ H Q := by
  refine w_lcR b1 (fun D i H' => ∃ acc, Hs H [(D, .lst acc)] H' ∧ ImAll K H' acc ((List.range i).map ds)) hta (fun D hD => ⟨[], (Hs.start H).new hD, .nil⟩) ?_ ?_
  · rintro D i H' hi' ⟨acc, h1, h2⟩
    refine ⟨hw _, ?_⟩
    refine w_yes (iteT ?_)
    refine he i H' _ hi' h1.same fun y H3 s3 hy => ?_
    have hD : H3 D = some (.lst acc) := s3 _ _ h1.g0
    have hl := h2.len
    rw [List.length_map, List.length_range] at hl
    refine ⟨acc, hD, szl (by omega), acc ++ [y], ?_, ?_⟩
    · have h3 : Hs H [(D, .lst acc)] H3 := ⟨h1.same.trans s3, h1.nd, h1.out, fun e he => s3 _ _ (h1.at_ e he)⟩
      exact h3.p0 _
    · rw [List.range_succ, List.map_append]
      exact ((h2.same s3).snoc hy).mono fun a xs => tup_but hD (fun _ z => by cases z) a xs
  · rintro D H' ⟨acc, h1, h2⟩
    exact hq D acc H' h1 h2
theorem w_lcI1 {vs : List Nat} {j : Nat} {hi : Int} (b1 : -(2 ^ 62) ≤ hi ∧ hi < 2 ^ 62) (hz : hi ≤ 1000000) (ds : Nat → PyData) (hta : ∀ Q : List V → Hp → Prop, Q [.int hi] H → ts σ H Q)
    (hw : ∀ v, wipe ((wipe σ vs).set j (some v)) vs = wipe σ vs)
    (he : ∀ (i : Nat) (H' : Hp) (Q' : VK), (i : Int) < hi → Same H H' → (∀ y H3, Same H' H3 → Im K H3 y (ds i) → Q' y H3) → te ((wipe σ vs).set j (some (.int (i : Int)))) H' Q')
    (hq : ∀ D acc H', Hs H [(D, .lst acc)] H' → ImAll K H' acc ((List.range hi.toNat).map ds) → Q (.ref D) H') : tLc (iRng1 ts) (gName j) tYes te vs σ H Q := by
  refine w_lcR1 b1 (fun D i H' => ∃ acc, Hs H [(D, .lst acc)] H' ∧ ImAll K H' acc ((List.range i).map ds)) hta (fun D hD => ⟨[], (Hs.start H).new hD, .nil⟩) ?_ ?_
  · rintro D i H' hi' ⟨acc, h1, h2⟩
    refine ⟨hw _, ?_⟩
    refine w_yes (iteT ?_)
    refine he i H' _ hi' h1.same fun y H3 s3 hy => ?_
    have hD : H3 D = some (.lst acc) := s3 _ _ h1.g0
    have hl := h2.len
    rw [List.length_map, List.length_range] at hl
    refine ⟨acc, hD, szl (by omega), acc ++ [y], ?_, ?_⟩
    · have h3 : Hs H [(D, .lst acc)] H3 := ⟨h1.same.trans s3, h1.nd, h1.out, fun e he => s3 _ _ (h1.at_ e he)⟩
      exact h3.p0 _
    · rw [List.range_succ, List.map_append]
      exact ((h2.same s3).snoc hy).mono fun a xs => tup_but hD (fun _ z => by cases z) a xs
  · rintro D H' ⟨acc, h1, h2⟩
    exact hq D acc H' h1 h2
theorem depth_all {n : Nat} : ∀ ds : List PyData, (∀ d ∈ ds, d.depth ≤ n) → PyData.depthAll ds ≤ n
  | [], _ => by simp [PyData.depthAll]
  | d :: ds, h => by
    have h1 := h d List.mem_cons_self
    have h2 := depth_all ds fun x hx => h x (List.mem_cons_of_mem _ hx)
    simp only [PyData.depthAll]
    omega
theorem lay_all : ∀ ds : List PyData, (∀ d ∈ ds, d.canLay0 = true) → PyData.canLayAll0 ds = true
  | [], _ => by simp [PyData.canLayAll0]
  | d :: ds, h => by
    have h1 := h d List.mem_cons_self
    have h2 := lay_all ds fun x hx => h x (List.mem_cons_of_mem _ hx)
    simp only [PyData.canLayAll0, h1, h2, Bool.and_self]
theorem shp_list {ds : List PyData} (h : ∀ d ∈ ds, d.canLay0 = true ∧ d.depth ≤ 60) : SeqAt.shaped (.list ds) = true := by
  have e := depth_all ds fun d hd => (h d hd).2
  have l := lay_all ds fun d hd => (h d hd).1
  unfold SeqAt.shaped PyData.canLay0 PyData.depth
  rw [l]
  simp only [Bool.true_and, decide_eq_true_eq]
  omega
/-- two lists of like data are equal -/
theorem w_eqL {p q : Addr} {xs ys : List V} {ds : List PyData} (hp : H p = some (.lst xs)) (hq : H q = some (.lst ys)) (h1 : ImAll K H xs ds) (h2 : ImAll K H ys ds) (h : ∀ d ∈ ds, d.canLay0 = true ∧ d.depth ≤ 60) (k : Q (.bl true) H) : rEqD K (.ref p) (.ref q) H Q :=
  ⟨_, _, .lst (SqL.of hp) h1.dp, .lst (SqL.of hq) h2.dp, shp_list h, shp_list h, by
    rw [SeqAt.eqv_refl _ (by have := shp_list h; unfold SeqAt.shaped at this; exact (Bool.and_eq_true_iff.mp this).1)]
    exact k⟩
theorem w_neL {p q : Addr} {xs ys : List V} {ds : List PyData} (hp : H p = some (.lst xs)) (hq : H q = some (.lst ys)) (h1 : ImAll K H xs ds) (h2 : ImAll K H ys ds) (h : ∀ d ∈ ds, d.canLay0 = true ∧ d.depth ≤ 60) (k : Q (.bl false) H) : rNeD K (.ref p) (.ref q) H Q :=
  ⟨_, _, .lst (SqL.of hp) h1.dp, .lst (SqL.of hq) h2.dp, shp_list h, shp_list h, by
    rw [SeqAt.eqv_refl _ (by have := shp_list h; unfold SeqAt.shaped at this; exact (Bool.and_eq_true_iff.mp this).1)]
    exact k⟩
theorem ima_str : ∀ xs : List Str, ImAll K H (xs.map V.str) (xs.map PyData.str)
  | [] => .nil
  | x :: xs => .cons (.str x) (ima_str xs)
end
end Hb

set_option Elab.async false
set_option maxRecDepth 100000
set_option maxHeartbeats 4000000
/-! Still more steps: truth of lists, texts in a tuple, slices of tuples, comprehensions over lists of tuples. -/
namespace Hb
open PySem L2
/-- the truth of a list -/
theorem w_truL {K : PySem.W.Frag} {H : Hp} {p : Addr} {xs : List V} {R : Bool → Prop} (h : SqL K H p xs) (q : R (!xs.isEmpty)) : ∃ k, TruV K (.ref p) H k ∧ R k := ⟨_, .inl ⟨xs, h, rfl⟩, q⟩
/-- a text in a new tuple of texts -/
theorem w_inT {K : PySem.W.Frag} {H : Hp} {Q : VK} {x : V} {p : Addr} {neg : Bool} {xs : List V} (h : SqT K H p xs) (hx : flatV x = true) (hf : xs.all flatV = true) (q : Q (.bl (if neg then !inV x xs else inV x xs)) H) : rIn K neg x (.ref p) H Q := ⟨p, xs, rfl, .inr h, hx, hf, q⟩
/-- a tuple's slice, not the whole -/
theorem w_slT0 {K : PySem.W.Frag} {B H : Hp} {L : List (Addr × HO)} {Q : VK} {p : Addr} {xs : List V} {lo hi : Option Int} (hs : Hs B L H) (h : SqT K H p xs) (hw : ¬ (HT.sIx xs.length 0 lo = 0 ∧ HT.sIx xs.length xs.length hi = xs.length)) (q : ∀ l H', Hs B ((l, .tup (cutV xs lo hi)) :: L) H' → Q (.ref l) H') : rSlT K (.ref p) lo hi H Q := by
  exact ⟨p, xs, rfl, h, hw, w_new hs q⟩
/-- what stands aside of our own objects becomes the ground -/
theorem Hs.rebase {B H : Hp} {L : List (Addr × HO)} (hs : Hs B L H) : Same B (around L H) ∧ Hs (around L H) L H := by
  have h := Hs.frame (R := []) L (by rw [List.append_nil]; exact hs)
  exact ⟨h.1, h.2.1⟩
theorem im_around {K : PySem.W.Frag} {H : Hp} {L : List (Addr × HO)} (nt : ∀ e ∈ L, ∀ xs, H e.1 ≠ some (.tup xs)) {vs : List V} {ds : List PyData} (h : ImAll K H vs ds) : ImAll K (around L H) vs ds :=
  h.mono fun a xs e => by
    rw [around_out fun m => ?_]
    · exact e
    · obtain ⟨z, hz, rfl⟩ := List.mem_map.mp m
      exact nt z hz xs e

theorem w_slT {K : PySem.W.Frag} {B H : Hp} {L : List (Addr × HO)} {Q : VK} {p : Addr} {xs : List V} {j : Int} (n : Nat) (e : j = (n : Int)) (hs : Hs B L H) (h : SqT K H p xs) (h0 : 0 < n) (h1 : n ≤ xs.length) (q : ∀ l H', Hs B ((l, .tup (xs.drop n)) :: L) H' → Q (.ref l) H') : rSlT K (.ref p) (some j) none H Q := by
  refine w_slT0 hs h ?_ fun l H' hs' => ?_
  · subst e
    rw [HT.sIx_nat]
    omega
  · rw [cut_from n e] at hs'
    exact q l H' hs'
section
variable {K : PySem.W.Frag} {σ : St} {H : Hp} {Q : VK} {te : TE} {g : TG}
/-- [e for .. in xs], xs a list of data, each e data that is made anew -/
theorem w_lcD {tl : TE} {a : Addr} {xs : List V} {vs : List Nat} (hx : SqL K H a xs) (hz : xs.length ≤ 1000000) (ds : List PyData) (hl : ds.length = xs.length) (htl : ∀ Q : VK, Q (.ref a) H → tl σ H Q)
    (he : ∀ (i : Nat) (x : V) (d : PyData) (H' : Hp) (Q' : VK), xs[i]? = some x → ds[i]? = some d → Same H H' → (∀ y H3, Same H' H3 → Im K H3 y d → Q' y H3) → g x (wipe σ vs) H' fun σ2 H2 => wipe σ2 vs = wipe σ vs ∧ te σ2 H2 Q')
    (hq : ∀ D acc H', Hs H [(D, .lst acc)] H' → ImAll K H' acc ds → Q (.ref D) H') (gm : ∀ x σ H R R', (∀ σ' H', R σ' H' → R' σ' H') → g x σ H R → g x σ H R') : tLc (iList K tl) g tYes te vs σ H Q := by
  refine w_lc hx (fun D i H' => ∃ acc, Hs H [(D, .lst acc)] H' ∧ ImAll K H' acc (ds.take i)) htl (fun D hD => ⟨[], (Hs.start H).new hD, by rw [List.take_zero]; exact .nil⟩) (fun D i H' _ ⟨_, h, _⟩ => h.same.seq hx) ?_ ?_
  · rintro D i x H' hi ⟨acc, h1, h2⟩
    have hin := (List.getElem?_eq_some_iff.mp hi).1
    have hd : ds[i]? = some ds[i] := List.getElem?_eq_getElem (by omega)
    refine gm _ _ _ _ _ (fun σ' H2 ⟨e1, e2⟩ => ⟨e1, w_yes (iteT e2)⟩) (he i x ds[i] H' _ hi hd h1.same fun y H3 s3 hy => ?_)
    have hD : H3 D = some (.lst acc) := s3 _ _ h1.g0
    have hl2 := h2.len
    rw [List.length_take] at hl2
    refine ⟨acc, hD, szl (by omega), acc ++ [y], ?_, ?_⟩
    · have h3 : Hs H [(D, .lst acc)] H3 := ⟨h1.same.trans s3, h1.nd, h1.out, fun e he => s3 _ _ (h1.at_ e he)⟩
      exact h3.p0 _
    · have e : ds.take (i + 1) = ds.take i ++ [ds[i]] := by
        rw [List.take_succ, hd]
        rfl
      rw [e]
      exact ((h2.same s3).snoc hy).mono fun a xs => tup_but hD (fun _ z => by cases z) a xs
  · rintro D H' ⟨acc, h1, h2⟩
    rw [← hl, List.take_length] at h2
    exact hq D acc H' h1 h2
theorem ImAll.get {H : Hp} : ∀ {xs : List V} {ds : List PyData} {i : Nat} {x : V} {d : PyData}, ImAll K H xs ds → xs[i]? = some x → ds[i]? = some d → Im K H x d
  | _ :: _, _ :: _, 0, x, d, .cons h _, e1, e2 => by
    cases e1
    cases e2
    exact h
  | _ :: _, _ :: _, i + 1, x, d, .cons _ h, e1, e2 => ImAll.get (i := i) h (by simpa using e1) (by simpa using e2)
theorem ImAll.app {H : Hp} : ∀ {xs ys : List V} {ds es : List PyData}, ImAll K H xs ds → ImAll K H ys es → ImAll K H (xs ++ ys) (ds ++ es)
  | [], _, _, _, .nil, h => h
  | _ :: _, _, _, _, .cons a b, h => .cons a (b.app h)
end
end Hb

set_option Elab.async false
set_option maxRecDepth 100000
set_option maxHeartbeats 4000000
/-! Dicts with a fixed row of text keys, as a law's plain models have them; tuples put together. -/
namespace Hb
open PySem L2
/-- a dict whose keys are a fixed row of texts -/
def zipK (ks : List Str) (vs : List V) : List (Key × V) := (ks.map Sum.inr).zip vs
theorem val_zip : ∀ {ks : List Str} {vs : List V} {i : Nat} {k : Str} {v : V}, ks.Nodup → ks[i]? = some k → vs[i]? = some v → valV (zipK ks vs) (Sum.inr k) = some v
  | k0 :: ks, v0 :: vs, 0, k, v, _, hk, hv => by
    cases hk
    cases hv
    show Option.map _ (List.find? _ ((Sum.inr k0, v0) :: zipK ks vs)) = _
    rw [List.find?_cons, decide_eq_true (rfl : (Sum.inr k0 : Key) = Sum.inr k0)]
    rfl
  | k0 :: ks, v0 :: vs, i + 1, k, v, nd, hk, hv => by
    have h1 := List.nodup_cons.mp nd
    have hk' : ks[i]? = some k := by simpa using hk
    have hv' : vs[i]? = some v := by simpa using hv
    have hne : ¬ (Sum.inr k0 : Key) = Sum.inr k := fun e => h1.1 (by cases e; exact List.mem_of_getElem? hk')
    show Option.map _ (List.find? _ ((Sum.inr k0, v0) :: zipK ks vs)) = _
    rw [List.find?_cons, decide_eq_false hne]
    exact val_zip h1.2 hk' hv'
theorem map_zip_out : ∀ {ks : List Str} {vs : List V} {k : Str} {v : V}, k ∉ ks → (zipK ks vs).map (fun kv => if kv.1 = (Sum.inr k : Key) then (kv.1, v) else kv) = zipK ks vs
  | [], _, _, _, _ => rfl
  | _ :: _, [], _, _, _ => rfl
  | k0 :: ks, v0 :: vs, k, v, h => by
    have hne : ¬ (Sum.inr k0 : Key) = Sum.inr k := fun e => h (by cases e; exact List.mem_cons_self)
    show (if (Sum.inr k0 : Key) = Sum.inr k then ((Sum.inr k0 : Key), v) else (Sum.inr k0, v0)) :: (zipK ks vs).map _ = _
    rw [if_neg hne, map_zip_out (fun m => h (List.mem_cons_of_mem _ m))]
    rfl
theorem map_zip : ∀ {ks : List Str} {vs : List V} {i : Nat} {k : Str} {v : V}, ks.Nodup → ks[i]? = some k → i < vs.length → (zipK ks vs).map (fun kv => if kv.1 = (Sum.inr k : Key) then (kv.1, v) else kv) = zipK ks (vs.set i v)
  | k0 :: ks, v0 :: vs, 0, k, v, nd, hk, _ => by
    cases hk
    have h1 := List.nodup_cons.mp nd
    show (if (Sum.inr k0 : Key) = Sum.inr k0 then ((Sum.inr k0 : Key), v) else (Sum.inr k0, v0)) :: (zipK ks vs).map _ = _
    rw [if_pos rfl, map_zip_out h1.1]
    rfl
  | k0 :: ks, v0 :: vs, i + 1, k, v, nd, hk, hl => by
    have h1 := List.nodup_cons.mp nd
    have hk' : ks[i]? = some k := by simpa using hk
    have hne : ¬ (Sum.inr k0 : Key) = Sum.inr k := fun e => h1.1 (by cases e; exact List.mem_of_getElem? hk')
    show (if (Sum.inr k0 : Key) = Sum.inr k then ((Sum.inr k0 : Key), v) else (Sum.inr k0, v0)) :: (zipK ks vs).map _ = _
    rw [if_neg hne, map_zip h1.2 hk' (Nat.lt_of_succ_lt_succ hl)]
    rfl
theorem any_of_val {kvs : List (Key × V)} {k : Key} {v : V} (h : valV kvs k = some v) : (kvs.any fun kv => decide (kv.1 = k)) = true := by
  unfold valV at h
  cases e : kvs.find? (fun kv => decide (kv.1 = k)) with
  | none =>
    rw [e] at h
    cases h
  | some z =>
    have h1 := List.find?_some e
    exact List.any_eq_true.mpr ⟨z, List.mem_of_find?_eq_some e, h1⟩
theorem put_zip {ks : List Str} {vs : List V} {i : Nat} {k : Str} {v u : V} (nd : ks.Nodup) (hk : ks[i]? = some k) (hv : vs[i]? = some u) : putK (zipK ks vs) (Sum.inr k) v = zipK ks (vs.set i v) := by
  unfold putK
  rw [if_pos (any_of_val (val_zip nd hk hv))]
  exact map_zip nd hk (List.getElem?_eq_some_iff.mp hv).1
/-! ### their steps -/
section
variable {σ : St} {H : Hp} {Q : VK} {D : Ends} {td ty tv : TE} {p : Addr} {B : Hp} {L L' : List (Addr × HO)} {ks : List Str} {vs us : List V} {i : Nat} {k : Str} {v u : V}
def RDget (x y : V) (H : Hp) (Q : VK) : Prop := ∃ a v, x = .ref a ∧ DGet H a y (some v) ∧ Q v H
theorem w_dget (q : td σ H fun x H1 => ty σ H1 fun y H2 => RDget x y H2 Q) : tDGet td ty σ H Q := q
theorem w_dgetZ (h : H p = some (.dK (zipK ks vs))) (nd : ks.Nodup) (hk : ks[i]? = some k) (hv : vs[i]? = some v) (q : Q v H) : RDget (.ref p) (.str k) H Q :=
  ⟨p, v, rfl, val_zip nd hk hv ▸ DGet.k (k := Sum.inr k) h, q⟩
theorem w_dgetI {kvs : List (Key × V)} {n : Int} (h : H p = some (.dK kvs)) (hv : valV kvs (Sum.inl n) = some v) (q : Q v H) : RDget (.ref p) (.int n) H Q :=
  ⟨p, v, rfl, hv ▸ DGet.k (k := Sum.inl n) h, q⟩
theorem w_dputZ {R : Hp → Prop} (hs : Hs B L H) (h : Put L p (.dK (zipK ks vs)) (.dK (zipK ks us)) L') (nd : ks.Nodup) (hk : ks[i]? = some k) (hv : vs[i]? = some u) (hu : vs.set i v = us) (hl : ks.length < 1000) (q : ∀ H', Hs B L' H' → R H') : RDput (.ref p) (.str k) v H R := by
  subst hu
  refine ⟨p, _, rfl, DPut.k (k := Sum.inr k) (hs.gets h) ?_, ?_⟩
  · refine szl ?_
    show ((ks.map Sum.inr).zip vs).length ≤ 1000000
    rw [List.length_zip, List.length_map]
    omega
  · rw [put_zip nd hk hv]
    exact q _ (hs.puts h)
/-- the same as a target among others -/
theorem w_gsub {tset : TSet} {R : St → Hp → Prop} (q : td σ H fun o H1 => ty σ H1 fun i H2 => tset o i v H2 fun H3 => R σ H3) : gSub td ty tset v σ H R := q
theorem w_setD {x y : V} {R : Hp → Prop} (q : RDput x y v H R) : rSetD x y v H R := q
end
section
variable {K : PySem.W.Frag}
theorem op_catTK {X : Cx} (hK : X.K = K := by rfl) : OpR X (binaryOp .Add) (rCatT K) := by
  subst hK
  exact op_catT
theorem w_catT {B H : Hp} {L : List (Addr × HO)} {Q : VK} {p r : Addr} {xs ys : List V} (hs : Hs B L H) (h1 : SqT K H p xs) (h2 : SqT K H r ys) (n1 : xs ≠ []) (n2 : ys ≠ []) (hl : xs.length + ys.length ≤ 1000) (q : ∀ l H', Hs B ((l, .tup (xs ++ ys)) :: L) H' → Q (.ref l) H') : rCatT K (.ref p) (.ref r) H Q :=
  ⟨p, r, xs, ys, rfl, rfl, h1, h2, n1, Nat.le_of_lt (szl (by omega)), fun e => absurd e n2, fun _ => w_new hs q⟩
end
section
variable {α : Type} {a b c d e f g h i v : α} {l : List α}
theorem v0 : (a :: l)[0]? = some a := rfl
theorem v1 : (a :: b :: l)[1]? = some b := rfl
theorem v2 : (a :: b :: c :: l)[2]? = some c := rfl
theorem v3 : (a :: b :: c :: d :: l)[3]? = some d := rfl
theorem v4 : (a :: b :: c :: d :: e :: l)[4]? = some e := rfl
theorem v5 : (a :: b :: c :: d :: e :: f :: l)[5]? = some f := rfl
theorem v6 : (a :: b :: c :: d :: e :: f :: g :: l)[6]? = some g := rfl
theorem v7 : (a :: b :: c :: d :: e :: f :: g :: h :: l)[7]? = some h := rfl
theorem v8 : (a :: b :: c :: d :: e :: f :: g :: h :: i :: l)[8]? = some i := rfl
theorem st0 : (a :: l).set 0 v = v :: l := rfl
theorem st1 : (a :: b :: l).set 1 v = a :: v :: l := rfl
theorem st2 : (a :: b :: c :: l).set 2 v = a :: b :: v :: l := rfl
theorem st3 : (a :: b :: c :: d :: l).set 3 v = a :: b :: c :: v :: l := rfl
theorem st4 : (a :: b :: c :: d :: e :: l).set 4 v = a :: b :: c :: d :: v :: l := rfl
theorem st5 : (a :: b :: c :: d :: e :: f :: l).set 5 v = a :: b :: c :: d :: e :: v :: l := rfl
theorem st6 : (a :: b :: c :: d :: e :: f :: g :: l).set 6 v = a :: b :: c :: d :: e :: f :: v :: l := rfl
theorem st7 : (a :: b :: c :: d :: e :: f :: g :: h :: l).set 7 v = a :: b :: c :: d :: e :: f :: g :: v :: l := rfl
theorem st8 : (a :: b :: c :: d :: e :: f :: g :: h :: i :: l).set 8 v = a :: b :: c :: d :: e :: f :: g :: h :: v :: l := rfl
end
/-! ### a dict that is written down -/
theorem merge_zip : ∀ {ks : List Str} {vs : List V} {acc : List (Key × V)}, ks.Nodup → (∀ k ∈ ks, ∀ kv ∈ acc, kv.1 ≠ (Sum.inr k : Key)) → mergeK acc (zipK ks vs) = acc ++ zipK ks vs
  | [], _, acc, _, _ => by
    show acc = acc ++ []
    rw [List.append_nil]
  | _ :: _, [], acc, _, _ => by
    show acc = acc ++ []
    rw [List.append_nil]
  | k :: ks, v :: vs, acc, nd, h => by
    have h1 := List.nodup_cons.mp nd
    have e : putK acc (Sum.inr k) v = acc ++ [(Sum.inr k, v)] := by
      unfold putK
      rw [if_neg]
      intro h2
      obtain ⟨z, hz, h3⟩ := List.any_eq_true.mp h2
      exact h k List.mem_cons_self z hz (of_decide_eq_true h3)
    show mergeK (putK acc (Sum.inr k) v) (zipK ks vs) = acc ++ ((Sum.inr k, v) :: zipK ks vs)
    rw [e, merge_zip h1.2 ?_, List.append_assoc]
    · rfl
    · intro k2 hk2 kv hkv
      rcases List.mem_append.mp hkv with m | m
      · exact h k2 (List.mem_cons_of_mem _ hk2) kv m
      · rw [List.mem_singleton.mp m]
        intro c
        cases c
        exact h1.1 hk2
section
variable {σ : St} {H : Hp} {Q : VK} {B : Hp} {L L' : List (Addr × HO)}
def NewP (trs : List (TE × TE)) (σ : St) (Q : VK) (H : Hp) : Prop := ∀ p, H p = none → tPairs trs σ (upd H p (.dK [])) fun ps H2 => H2 p = some (.dK []) ∧ ∃ kvs : List (Key × V), ps = kvs.map (fun kv => (kV kv.1, kv.2)) ∧ kvs.length ≤ 15 ∧ Q (.ref p) (upd H2 p (.dK (mergeK [] kvs)))
def DispP (p : Addr) (Q : VK) (ps : List (V × V)) (H2 : Hp) : Prop := H2 p = some (.dK []) ∧ ∃ kvs : List (Key × V), ps = kvs.map (fun kv => (kV kv.1, kv.2)) ∧ kvs.length ≤ 15 ∧ Q (.ref p) (upd H2 p (.dK (mergeK [] kvs)))
theorem w_disp {trs : List (TE × TE)} (q : NewP trs σ Q H) : tDisp trs σ H Q := q
theorem w_newP {trs : List (TE × TE)} (hs : Hs B L H) (q : ∀ p H', Hs B ((p, .dK []) :: L) H' → tPairs trs σ H' (DispP p Q)) : NewP trs σ Q H := fun p hp => q p _ (hs.new hp)
theorem w_pcons {tk tv : TE} {trs : List (TE × TE)} {R : List (V × V) → Hp → Prop} (q : tk σ H fun k H1 => tv σ H1 fun v H2 => tPairs trs σ H2 fun ps H3 => R ((k, v) :: ps) H3) : tPairs ((tk, tv) :: trs) σ H R := q
theorem w_pnil {R : List (V × V) → Hp → Prop} (q : R [] H) : tPairs [] σ H R := q
theorem w_dispZ {p : Addr} {ps : List (V × V)} (ks : List Str) (vs : List V) (hs : Hs B L H) (h : Put L p (.dK []) (.dK (zipK ks vs)) L') (nd : ks.Nodup) (hl : ks.length ≤ 15) (hp : ps = (zipK ks vs).map (fun kv => (kV kv.1, kv.2))) (q : ∀ H', Hs B L' H' → Q (.ref p) H') : DispP p Q ps H := by
  refine ⟨hs.gets h, zipK ks vs, hp, ?_, ?_⟩
  · unfold zipK
    rw [List.length_zip, List.length_map]
    omega
  · rw [merge_zip nd (fun _ _ _ z => absurd z List.not_mem_nil)]
    exact q _ (hs.puts h)
end
end Hb

set_option Elab.async false
set_option maxRecDepth 100000
set_option maxHeartbeats 4000000
/-! Dicts whose keys are tuples of any depth; sorted of such keys. -/
namespace Hb
open PySem L2
mutual
/-- the value v in the abstract heap is the key k -/
inductive NK (H : Hp) : NestedKey → V → Prop
  | non : NK H .none .non
  | int (i : Int) : NK H (.num i) (.int i)
  | str (x : Str) : NK H (.text x) (.str x)
  | tup {p : Addr} {vs : List V} {ks : List NestedKey} : H p = some (.tup vs) → NKs H ks vs → NK H (.tup ks) (.ref p)
inductive NKs (H : Hp) : List NestedKey → List V → Prop
  | nil : NKs H [] []
  | cons {k : NestedKey} {v : V} {ks : List NestedKey} {vs : List V} : NK H k v → NKs H ks vs → NKs H (k :: ks) (v :: vs)
end
mutual
theorem NK.mono {H H' : Hp} (e : ∀ p xs, H p = some (.tup xs) → H' p = some (.tup xs)) : ∀ {k : NestedKey} {v : V}, NK H k v → NK H' k v
  | _, _, .non => .non
  | _, _, .int i => .int i
  | _, _, .str x => .str x
  | _, _, .tup h hs => .tup (e _ _ h) (NKs.mono e hs)
theorem NKs.mono {H H' : Hp} (e : ∀ p xs, H p = some (.tup xs) → H' p = some (.tup xs)) : ∀ {ks : List NestedKey} {vs : List V}, NKs H ks vs → NKs H' ks vs
  | _, _, .nil => .nil
  | _, _, .cons h hs => .cons (NK.mono e h) (NKs.mono e hs)
end
theorem NK.same {H H' : Hp} (e : Same H H') {k : NestedKey} {v : V} (h : NK H k v) : NK H' k v := h.mono fun _ _ => e _ _
mutual
theorem NK.inj {H : Hp} : ∀ {k k' : NestedKey} {v : V}, NK H k v → NK H k' v → k = k'
  | _, _, _, .non, h => by cases h; rfl
  | _, _, _, .int i, h => by cases h; rfl
  | _, _, _, .str x, h => by cases h; rfl
  | _, _, _, .tup h1 h2, h => by
    cases h with
    | tup k1 k2 =>
      rw [h1] at k1
      cases k1
      rw [NKs.inj h2 k2]
theorem NKs.inj {H : Hp} : ∀ {ks ks' : List NestedKey} {vs : List V}, NKs H ks vs → NKs H ks' vs → ks = ks'
  | _, _, _, .nil, h => by cases h; rfl
  | _, _, _, .cons h1 h2, h => by
    cases h with
    | cons k1 k2 => rw [NK.inj h1 k1, NKs.inj h2 k2]
end
mutual
theorem NK.im {K : PySem.W.Frag} {H : Hp} : ∀ {k : NestedKey} {v : V}, NK H k v → Im K H v k.data
  | _, _, .non => .non
  | _, _, .int i => .int i
  | _, _, .str x => .str x
  | _, _, .tup h hs => .tup h (NKs.im hs)
theorem NKs.im {K : PySem.W.Frag} {H : Hp} : ∀ {ks : List NestedKey} {vs : List V}, NKs H ks vs → ImAll K H vs (NestedKey.datas ks)
  | _, _, .nil => .nil
  | _, _, .cons h hs => .cons (NK.im h) (NKs.im hs)
end
section
variable {P : Program} {w : World} {H : Hp} {h : Heap}
mutual
theorem NK.is (ok : HOk P w H h) : ∀ {k : NestedKey} {v : V} {u : Value}, NK H k v → RelV v u → NestedIs h k u
  | _, _, _, .non, r => by
    cases (show _ = Value.none from r)
    exact .none
  | _, _, _, .int i, r => by
    obtain ⟨t, rfl⟩ := r
    exact .int i t
  | _, _, _, .str x, r => by
    obtain ⟨t, rfl⟩ := r
    exact .text x t
  | _, _, _, .tup e hs, r => by
    cases (show _ = Value.ref _ from r)
    obtain ⟨_, its, r2, o, ho, hc, n, hd⟩ := ok _ _ e
    exact .tup ho hc hd (NKs.is ok hs r2)
theorem NKs.is (ok : HOk P w H h) : ∀ {ks : List NestedKey} {vs : List V} {us : List Value}, NKs H ks vs → Vals vs us → NestedAll h ks us
  | _, _, _, .nil, r => by cases r; exact .nil
  | _, _, _, .cons h1 h2, r => by
    cases r with
    | cons r1 r2 => exact .cons (NK.is ok h1 r1) (NKs.is ok h2 r2)
end
end
/-- a key, where its tuple stands, what it holds -/
abbrev Ent := NestedKey × Addr × V
def atN (es : List Ent) (k : NestedKey) : Option V := (es.find? fun e => decide (e.1 = k)).map (·.2.2)
def putN (es : List Ent) (k : NestedKey) (b : Addr) (v : V) : List Ent := if (atN es k).isSome then es.map (fun e => if e.1 = k then (e.1, e.2.1, v) else e) else es ++ [(k, b, v)]
def dropN (es : List Ent) (k : NestedKey) : List Ent := es.filter fun e => decide (e.1 ≠ k)
abbrev RelE (p : Ent) (q : NestedKey × Addr × Value) : Prop := p.1 = q.1 ∧ p.2.1 = q.2.1 ∧ RelV p.2.2 q.2.2
abbrev RelEs : List Ent → List (NestedKey × Addr × Value) → Prop := Paired RelE
def entN (w : World) (x : NestedKey × Addr × Value) : DictEntry := ⟨x.1.hash w, .ref x.2.1, x.2.2⟩
def DNx (w : World) (a : Addr) (es : List Ent) (h : Heap) : Prop := es.length ≤ sizeLine ∧ (a == sysModules) = false ∧ ∃ xs, RelEs es xs ∧ ∃ o ds ep, h.get? a = some o ∧ o.ExactDict ∧ o.data = .dict ds ep ∧ ds.toList = xs.map (entN w) ∧ (xs.map (·.1)).Nodup
/-- a dict with such keys -/
abbrev DN (w : World) (a : Addr) (es : List Ent) : HO := .ext (DNx w a es)
/-- its keys stand as they are told -/
def EntsOk (H : Hp) (es : List Ent) : Prop := ∀ e ∈ es, NK H e.1 (.ref e.2.1) ∧ e.1.depth ≤ 8
theorem EntsOk.mono {H H' : Hp} (e : ∀ p xs, H p = some (.tup xs) → H' p = some (.tup xs)) {es : List Ent} (h : EntsOk H es) : EntsOk H' es := fun x hx => ⟨(h x hx).1.mono e, (h x hx).2⟩
theorem EntsOk.same {H H' : Hp} (e : Same H H') {es : List Ent} (h : EntsOk H es) : EntsOk H' es := h.mono fun _ _ => e _ _
theorem EntsOk.nil {H : Hp} : EntsOk H [] := fun _ h => nomatch h
theorem EntsOk.drop {H : Hp} {es : List Ent} {k : NestedKey} (h : EntsOk H es) : EntsOk H (dropN es k) := fun e he => h e (List.mem_filter.mp he).1
theorem EntsOk.put {H : Hp} {es : List Ent} {k : NestedKey} {b : Addr} {v : V} (h : EntsOk H es) (hk : NK H k (.ref b)) (hd : k.depth ≤ 8) : EntsOk H (putN es k b v) := fun e he => by
  unfold putN at he
  split at he
  · obtain ⟨y, hy, rfl⟩ := List.mem_map.mp he
    by_cases hc : y.1 = k
    · rw [if_pos hc]
      exact h y hy
    · rw [if_neg hc]
      exact h y hy
  · rcases List.mem_append.mp he with m | m
    · exact h e m
    · rw [List.mem_singleton.mp m]
      exact ⟨hk, hd⟩
theorem RelEs.at {es : List Ent} {xs : List (NestedKey × Addr × Value)} (r : RelEs es xs) (k : NestedKey) : RelO (atN es k) ((atKey xs k).map (·.2)) := by
  induction r with
  | nil => exact trivial
  | @cons p q ps qs h _ ih =>
    obtain ⟨h1, h2, h3⟩ := h
    unfold atN atKey at ih ⊢
    rw [List.find?_cons, List.find?_cons, ← h1]
    by_cases hc : p.1 = k
    · rw [decide_eq_true hc]
      exact h3
    · rw [decide_eq_false hc]
      exact ih
theorem RelEs.keys {es : List Ent} {xs : List (NestedKey × Addr × Value)} (r : RelEs es xs) : xs.map (·.1) = es.map (·.1) := by
  induction r with
  | nil => rfl
  | cons h _ ih => rw [List.map_cons, List.map_cons, ih, h.1]
theorem RelEs.some {es : List Ent} {xs : List (NestedKey × Addr × Value)} (r : RelEs es xs) (k : NestedKey) : (atN es k).isSome = (atKey xs k).isSome := by
  have q := (r.at k).isSome_eq
  rw [Option.isSome_map] at q
  exact q
theorem relEs_map {k : NestedKey} {v : V} {u : Value} (hv : RelV v u) : ∀ {es : List Ent} {xs : List (NestedKey × Addr × Value)}, RelEs es xs → RelEs (es.map (fun e => if e.1 = k then (e.1, e.2.1, v) else e)) (xs.map (putAt k u))
  | _, _, .nil => .nil
  | p :: ps, q :: qs, .cons h t => by
    refine .cons ?_ (relEs_map hv t)
    show RelE (if p.1 = k then (p.1, p.2.1, v) else p) (if q.1 = k then (q.1, q.2.1, u) else q)
    rw [← h.1]
    by_cases hc : p.1 = k
    · rw [if_pos hc, if_pos hc]
      exact ⟨rfl, h.2.1, hv⟩
    · rw [if_neg hc, if_neg hc]
      exact h
theorem relEs_snoc {p : Ent} {q : NestedKey × Addr × Value} (h : RelE p q) : ∀ {es : List Ent} {xs : List (NestedKey × Addr × Value)}, RelEs es xs → RelEs (es ++ [p]) (xs ++ [q])
  | _, _, .nil => .cons h .nil
  | _, _, .cons r t => .cons r (relEs_snoc h t)
theorem RelEs.put {es : List Ent} {xs : List (NestedKey × Addr × Value)} (r : RelEs es xs) (k : NestedKey) (b : Addr) {v : V} {u : Value} (hv : RelV v u) : RelEs (putN es k b v) (storedH xs k b u) := by
  unfold putN storedH
  rw [r.some k]
  cases (atKey xs k).isSome with
  | true =>
    rw [if_pos rfl, if_pos rfl]
    exact relEs_map hv r
  | false =>
    rw [if_neg Bool.false_ne_true, if_neg Bool.false_ne_true]
    exact relEs_snoc ⟨rfl, rfl, hv⟩ r
theorem RelEs.drop {es : List Ent} {xs : List (NestedKey × Addr × Value)} (r : RelEs es xs) (k : NestedKey) : RelEs (dropN es k) (withoutH xs k) := by
  unfold dropN withoutH
  induction r with
  | nil => exact .nil
  | @cons p q ps qs h _ ih =>
    rw [List.filter_cons, List.filter_cons, ← h.1]
    by_cases hc : p.1 = k
    · have e : decide (p.1 ≠ k) = false := decide_eq_false (fun z => z hc)
      rw [e]
      exact ih
    · have e : decide (p.1 ≠ k) = true := decide_eq_true hc
      rw [e]
      exact .cons h ih
theorem RelEs.len {es : List Ent} {xs : List (NestedKey × Addr × Value)} (r : RelEs es xs) : es.length = xs.length := Paired.length r
theorem putN_len {es : List Ent} {k : NestedKey} {b : Addr} {v : V} : (putN es k b v).length ≤ es.length + 1 := by
  unfold putN
  split
  · rw [List.length_map]
    omega
  · rw [List.length_append, List.length_singleton]
    exact Nat.le_refl _
theorem dropN_len {es : List Ent} {k : NestedKey} : (dropN es k).length ≤ es.length := List.length_filter_le _ _
section
variable {P : Program} {w : World} {H : Hp} {h : Heap} {a : Addr} {es : List Ent}
theorem dn_of (ok : HOk P w H h) (e : H a = some (DN w a es)) (hk : EntsOk H es) : es.length ≤ sizeLine ∧ (a == sysModules) = false ∧ ∃ xs, RelEs es xs ∧ h.DictOfH (nestedKind P w) a xs := by
  obtain ⟨⟨z, y, xs, r, o, ds, ep, h1, h2, h3, h4, h5⟩, _, _⟩ := (show ObjOk P w H h a (DN w a es) from ok _ _ e)
  refine ⟨z, y, xs, r, o, ds, ep, h1, h2, h3, h4, ?_, h5⟩
  have all : ∀ {l : List Ent} {m : List (NestedKey × Addr × Value)}, EntsOk H l → RelEs l m → ∀ x ∈ m, (nestedKind P w).is h x.1 x.2.1 := by
    intro l m hl r
    induction r with
    | nil => exact fun _ hx => nomatch hx
    | @cons p q ps qs hpq _ ih =>
      intro x hx
      rcases List.mem_cons.mp hx with rfl | hx
      · obtain ⟨k1, k2⟩ := hl p List.mem_cons_self
        rw [← hpq.1, ← hpq.2.1]
        exact ⟨k1.is ok rfl, k2⟩
      · exact ih (fun e he => hl e (List.mem_cons_of_mem _ he)) x hx
  exact all hk r
theorem dn_obj {H' : Hp} {h' : Heap} {xs : List (NestedKey × Addr × Value)} (z : es.length ≤ sizeLine) (y : (a == sysModules) = false) (r : RelEs es xs) (dd : h'.DictOfH (nestedKind P w) a xs) : ObjOk P w H' h' a (DN w a es) := by
  obtain ⟨o, ds, ep, h1, h2, h3, h4, _, h5⟩ := dd
  refine ⟨⟨z, y, xs, r, o, ds, ep, h1, h2, h3, h4, h5⟩, ⟨o, h1⟩, fun g1 g2 ⟨z, y, xs, r, o, ds, ep, h1, h2⟩ hg => ⟨z, y, xs, r, o, ds, ep, hg _ h1, h2⟩⟩
theorem dn_empty (h : Heap) (hb : sysModules < h.objs.size) : ObjOk P w H (h.push { cls := .type "dict", data := .dict #[] }) h.objs.size (DN w h.objs.size []) :=
  dn_obj (Nat.zero_le _) (beq_eq_false_iff_ne.mpr (Ne.symm (Nat.ne_of_lt hb))) .nil (Heap.DictOfH.new h)
end
/-- the parts of what is asked of such a dict -/
structure AtN (w : World) (H : Hp) (x y : V) (a b : Addr) (es : List Ent) (k : NestedKey) : Prop where
  ex : x = .ref a
  ey : y = .ref b
  ha : H a = some (DN w a es)
  he : EntsOk H es
  hk : NK H k (.ref b)
  hd : k.depth ≤ 8
def rNGet (w : World) (x y : V) (H : Hp) (Q : VK) : Prop := ∃ a b es k v, AtN w H x y a b es k ∧ atN es k = some v ∧ Q v H
def rNIn (w : World) (x y : V) (H : Hp) (Q : Bool → Prop) : Prop := ∃ a b es k, AtN w H x y a b es k ∧ Q (atN es k).isSome
def rNPut (w : World) (x y v : V) (H : Hp) (Q : Hp → Prop) : Prop := ∃ a b es k, AtN w H x y a b es k ∧ es.length < sizeLine ∧ Q (upd H a (DN w a (putN es k b v)))
def rNDel (w : World) (x y : V) (H : Hp) (Q : V → Hp → Prop) : Prop := ∃ a b es k v, AtN w H x y a b es k ∧ atN es k = some v ∧ Q v (upd H a (DN w a (dropN es k)))
def tNGet (w : World) (td ty : TE) : TE := fun σ H Q => td σ H fun x H1 => ty σ H1 fun y H2 => rNGet w x y H2 Q
def tNIn (w : World) (ty td : TE) : TE := fun σ H Q => ty σ H fun y H1 => td σ H1 fun x H2 => rNIn w x y H2 fun b => Q (.bl b) H2
def tNNot (w : World) (ty td : TE) : TE := fun σ H Q => ty σ H fun y H1 => td σ H1 fun x H2 => rNIn w x y H2 fun b => Q (.bl (!b)) H2
def sNPut (w : World) (td ty tv : TE) : TS := fun D σ H => tv σ H fun v H1 => td σ H1 fun x H2 => ty σ H2 fun y H3 => rNPut w x y v H3 fun H4 => D.nx σ H4
def sNDel (w : World) (td ty : TE) : TS := fun D σ H => td σ H fun x H1 => ty σ H1 fun y H2 => rNDel w x y H2 fun _ H3 => D.nx σ H3
def tNNew (w : World) : TE := fun _ H Q => ∀ p, H p = none → Q (.ref p) (upd H p (DN w p []))
def tNPop (w : World) (td ty : TE) : TE := fun σ H Q => td σ H fun x H1 => (∃ a es, x = .ref a ∧ H1 a = some (DN w a es)) ∧ ty σ H1 fun y H2 => rNDel w x y H2 Q
section
variable {X : Cx} {w : World} {o i value : Expr} {pos pos' tpos : Pos} {td ty tv : TE}
theorem AtN.dn {H : Hp} {x y : V} {a b : Addr} {es : List Ent} {k : NestedKey} {pins : List (Addr × Obj)} {σ : St} {s : Shared} (I : Inv X pins σ H s) (hw : X.w = w) (g : AtN w H x y a b es k) : es.length ≤ sizeLine ∧ (a == sysModules) = false ∧ ∃ xs, RelEs es xs ∧ s.heap.DictOfH (nestedKind X.prog X.w) a xs ∧ (nestedKind X.prog X.w).is s.heap k b := by
  subst hw
  obtain ⟨z, hd, xs, r, dd⟩ := dn_of I.hok g.ha g.he
  exact ⟨z, hd, xs, r, dd, g.hk.is I.hok rfl, g.hd⟩
theorem n_room {A : Around} (hu : A.units + 64 < cLine) {P : Program} {w : World} : (nestedKind P w).room A.in1 := by
  show A.in1.units + 8 < cLine
  have e : A.in1.units = A.units + 1 := rfl
  omega
theorem pe_ndget (hu : X.A.units + 64 < cLine) (ho : PE X o td) (hi : PE X i ty) (hs : NoSl i) (hw : X.w = w := by rfl) : PE X (.Subscript o i pos) (tNGet w td ty) := by
  refine ⟨fun pins s σ H Q I h => ?_⟩
  refine subD_of PySem.F.slot_dict_getitem.lookup hs (thn (ho.run pins s σ H _ I h) fun u s1 ⟨x, H1, I1, rx, q1⟩ => thn (hi.run pins s1 σ H1 _ I1 q1) fun iv s2 ⟨y, H2, I2, ry, a, b, es, k, v, g, hv, q2⟩ => ?_)
  obtain ⟨z, hd, xs, r, dd, hk⟩ := g.dn I2 hw
  cases g.ex
  cases g.ey
  obtain rfl : u = Value.ref a := rx
  obtain rfl : iv = Value.ref b := ry
  obtain ⟨w', hw', rw'⟩ := RelO.some_of (v := v) (o := (atKey xs k).map (·.2)) (by rw [← hv]; exact r.at k)
  obtain ⟨p, hp, hp2⟩ := Option.map_eq_some_iff.mp hw'
  refine ⟨dd.typeIs, wpAny_getItem_heap (n_room hu) hk dd hp ?_⟩
  rw [hp2]
  exact ⟨v, H2, I2.tok _, rw', q2⟩
theorem pc_nin (hu : X.A.units + 64 < cLine) (hi : PE X i ty) (ho : PE X o td) (hw : X.w = w := by rfl) : PC X .In i o (tNIn w ty td) := by
  refine ⟨fun pins s σ H Q I h => ?_⟩
  refine thn (hi.run pins s σ H _ I h) fun iv s1 ⟨y, H1, I1, ry, q1⟩ => thn (ho.run pins s1 σ H1 _ I1 q1) fun u s2 ⟨x, H2, I2, rx, a, b, es, k, g, q2⟩ => ?_
  obtain ⟨z, hd, xs, r, dd, hk⟩ := g.dn I2 hw
  cases g.ex
  cases g.ey
  obtain rfl : u = Value.ref a := rx
  obtain rfl : iv = Value.ref b := ry
  refine wpAny_in_heap (n_room hu) hk hd dd ?_
  rw [← r.some k]
  exact ⟨.bl _, H2, I2.tok _, rfl, q2⟩
theorem pc_nnot (hu : X.A.units + 64 < cLine) (hi : PE X i ty) (ho : PE X o td) (hw : X.w = w := by rfl) : PC X .NotIn i o (tNNot w ty td) := by
  refine ⟨fun pins s σ H Q I h => ?_⟩
  refine thn (hi.run pins s σ H _ I h) fun iv s1 ⟨y, H1, I1, ry, q1⟩ => thn (ho.run pins s1 σ H1 _ I1 q1) fun u s2 ⟨x, H2, I2, rx, a, b, es, k, g, q2⟩ => ?_
  obtain ⟨z, hd, xs, r, dd, hk⟩ := g.dn I2 hw
  cases g.ex
  cases g.ey
  obtain rfl : u = Value.ref a := rx
  obtain rfl : iv = Value.ref b := ry
  refine PyProof.Rows.wpAny_notIn_heap (n_room hu) hk hd dd ?_
  rw [← r.some k]
  exact ⟨.bl _, H2, I2.tok _, rfl, q2⟩
theorem ps_nput (hu : X.A.units + 64 < cLine) (ho : PE X o td) (hi : PE X i ty) (hv : PE X value tv) (hs : swapsWith value (some (.Subscript o i pos')) pos.line X.env = pure false) (hw : X.w = w := by rfl) :
    PS X (.Assign [.Subscript o i pos'] value pos) (sNPut w td ty tv) := by
  refine ⟨fun pins s σ H D I h => ?_⟩
  refine wpAny_Assign_Subscript (thn (hv.run pins s σ H _ I h) fun r s1 ⟨v, H1, I1, rv, q1⟩ => thn (ho.run pins s1 σ H1 _ I1 q1) fun u s2 ⟨x, H2, I2, rx, q2⟩ => thn (hi.run pins s2 σ H2 _ I2 q2) fun iv s3 ⟨y, H3, I3, ry, a, b, es, k, g, hl, q3⟩ => ?_) hs
  obtain ⟨z, hd, xs, rr, dd, hk⟩ := g.dn I3 hw
  subst hw
  cases g.ex
  cases g.ey
  obtain rfl : u = Value.ref a := rx
  obtain rfl : iv = Value.ref b := ry
  have hz : xs.length ≤ sizeLine := by rw [← rr.len]; exact z
  have hl2 : (putN es k b v).length ≤ sizeLine := Nat.le_trans putN_len hl
  refine wpAny_setItem_heap (hsz := hz) (n_room hu) hk dd fun h' dd' hs => ⟨σ, _, ?_, q3⟩
  have he : ∃ q, h'.get? a = some q := let ⟨q, _, _, hq, _⟩ := dd'; ⟨q, hq⟩
  exact d_write I3 (by rw [g.ha]; exact True.intro) hs he (dn_obj hl2 hd (rr.put k b rv) dd')
theorem ps_ndel (hu : X.A.units + 64 < cLine) (ho : PE X o td) (hi : PE X i ty) (hw : X.w = w := by rfl) : PS X (.Delete [.Subscript o i tpos] pos) (sNDel w td ty) := by
  refine ⟨fun pins s σ H D I h => ?_⟩
  refine wpAny_Delete (wpAny_deleteEach_cons (wpAny_delete_Subscript (thn (ho.run pins s σ H _ I h) fun u s1 ⟨x, H1, I1, rx, q1⟩ => thn (hi.run pins s1 σ H1 _ I1 q1) fun iv s2 ⟨y, H2, I2, ry, a, b, es, k, v, g, hv, q2⟩ => ?_)))
  obtain ⟨z, hd, xs, rr, dd, hk⟩ := g.dn I2 hw
  subst hw
  cases g.ex
  cases g.ey
  obtain rfl : u = Value.ref a := rx
  obtain rfl : iv = Value.ref b := ry
  have hz : xs.length ≤ sizeLine := by rw [← rr.len]; exact z
  obtain ⟨w', hw', rw'⟩ := RelO.some_of (v := v) (o := (atKey xs k).map (·.2)) (by rw [← hv]; exact rr.at k)
  obtain ⟨p, hp, hp2⟩ := Option.map_eq_some_iff.mp hw'
  refine wpAny_delItem_heap (hsz := hz) (n_room hu) hk hd dd hp fun h' dd' hs => wpAny_deleteEach_nil ⟨σ, _, ?_, q2⟩
  have he : ∃ q, h'.get? a = some q := let ⟨q, _, _, hq, _⟩ := dd'; ⟨q, hq⟩
  exact d_write I2 (by rw [g.ha]; exact True.intro) hs he (dn_obj (Nat.le_trans dropN_len z) hd (rr.drop k) dd')
theorem dn_type {H : Hp} {a : Addr} {es : List Ent} {pins : List (Addr × Obj)} {σ : St} {s : Shared} (I : Inv X pins σ H s) (e : H a = some (DN w a es)) : s.TypeIs (.ref a) "dict" ∧ ∀ b, Value.ref a = .ref b → ∃ ob, s.heap.get? b = some ob ∧ ob.dict = none := by
  obtain ⟨⟨z, y, xs, r, o, ds, ep, h1, h2, h3, h4, h5⟩, _, _⟩ := (show ObjOk X.prog X.w H s.heap a (DN w a es) from I.hok _ _ e)
  exact ⟨⟨o, h1, h2.1⟩, fun b q => by
    cases q
    exact ⟨o, h1, h2.2.1⟩⟩
theorem pe_npop {e : Expr} {apos cpos : Pos} (hu : X.A.units + 64 < cLine) (ho : PE X o td) (he : PE X e ty) (m : M1 X o "pop" apos e cpos) (hw : X.w = w := by rfl) : PE X (.Call (.Attribute o "pop" apos) [e] [] cpos) (tNPop w td ty) := by
  refine ⟨fun pins s σ H Q I h => ?_⟩
  refine wpAny_Call_method m.base m.few m.line PySem.F.plainAttrs_dict PySem.F.slot_dict_pop PySem.F.type_dict_pop (thn (ho.run pins s σ H _ I h) fun u s1 ⟨x, H1, I1, rx, ⟨a0, es0, ex, ea⟩, q1⟩ => ?_)
  cases ex
  obtain rfl : u = Value.ref a0 := rx
  obtain ⟨t1, t2⟩ := dn_type I1 ea
  refine ⟨t1, t2, ?_⟩
  rw [m.trees]
  refine Calls.callWith_builtin rfl (Calls.evalArgs_plain (Calls.spliced_cons (thn (he.run pins s1 σ H1 _ I1 q1) fun iv s2 ⟨y, H2, I2, ry, a, b, es, k, v, g, hv, q2⟩ => Calls.spliced_nil ?_)))
  obtain ⟨z, hd, xs, rr, dd, hk⟩ := g.dn I2 hw
  subst hw
  cases g.ex
  cases g.ey
  obtain rfl : iv = Value.ref b := ry
  have hz : xs.length ≤ sizeLine := by rw [← rr.len]; exact z
  obtain ⟨w', hw', rw'⟩ := RelO.some_of (v := v) (o := (atKey xs k).map (·.2)) (by rw [← hv]; exact rr.at k)
  obtain ⟨p, hp, hp2⟩ := Option.map_eq_some_iff.mp hw'
  refine call_pop_heap (hsz := hz) (.inl rfl) (PySem.F.args_dict_pop_2 _ _) (n_room hu) hk hd dd hp fun h' dd' hs => ?_
  have he : ∃ q, h'.get? a0 = some q := let ⟨q, _, _, hq, _⟩ := dd'; ⟨q, hq⟩
  rw [hp2]
  exact ⟨v, _, d_write I2 (by rw [g.ha]; exact True.intro) hs he (dn_obj (Nat.le_trans dropN_len z) hd (rr.drop k) dd'), rw', q2⟩
theorem pe_nnew (hw : X.w = w := by rfl) : PE X (.Dict [] [] pos) (tNNew w) := ⟨fun pins s σ H Q I h => by
  subst hw
  exact wpAny_Dict_empty ⟨.ref s.heap.objs.size, _, I.laid (a := s.heap.objs.size) (o := DN X.w s.heap.objs.size []) (t' := s.toks) (fun _ _ q => Heap.get?_push_of_some _ q) (Nat.le_refl _) (dn_empty s.heap I.big), rfl, h _ (I.hok.fresh (Nat.le_refl _))⟩⟩
end
end Hb

set_option Elab.async false
set_option maxRecDepth 100000
set_option maxHeartbeats 4000000
/-! sorted(..) of tuples of ints and of tuples of ints. -/
namespace Hb
open PySem L2 PyProof.Rows
/-! ### the order of rows of ints -/
abbrev lexI (x y : List Int) : Bool := HT.lexLt x y
theorem lexI_cons {x y : Int} {xs ys : List Int} : lexI (x :: xs) (y :: ys) = if x = y then lexI xs ys else decide (x < y) := rfl
theorem lexI_self : ∀ x : List Int, lexI x x = false
  | [] => rfl
  | x :: xs => by rw [lexI_cons, if_pos rfl]; exact lexI_self xs
theorem lexI_asym : ∀ x y : List Int, lexI x y = true → lexI y x = false
  | [], [], h => nomatch h
  | [], _ :: _, _ => rfl
  | _ :: _, [], h => nomatch h
  | x :: xs, y :: ys, h => by
    rw [lexI_cons] at h ⊢
    by_cases e : x = y
    · rw [if_pos e] at h
      rw [if_pos e.symm]
      exact lexI_asym xs ys h
    · rw [if_neg e] at h
      rw [if_neg (fun q => e q.symm)]
      have := of_decide_eq_true h
      exact decide_eq_false (by omega)
theorem lexI_tr : ∀ x y z : List Int, lexI y x = false → lexI z y = false → lexI z x = false
  | [], [], _, _, h => h
  | [], _ :: _, _, h1, _ => by
    rename_i z _
    cases z with
    | nil => rfl
    | cons z zs => rfl
  | _ :: _, [], _, h1, _ => nomatch h1
  | x :: xs, y :: ys, [], h1, h2 => nomatch h2
  | x :: xs, y :: ys, z :: zs, h1, h2 => by
    rw [lexI_cons] at h1 h2 ⊢
    by_cases e1 : y = x
    · subst e1
      rw [if_pos rfl] at h1
      by_cases e2 : z = y
      · subst e2
        rw [if_pos rfl] at h2
        rw [if_pos rfl]
        exact lexI_tr xs ys zs h1 h2
      · rw [if_neg e2] at h2 ⊢
        exact h2
    · rw [if_neg e1] at h1
      have g1 := of_decide_eq_false h1
      by_cases e2 : z = y
      · subst e2
        rw [if_neg e1]
        exact h1
      · rw [if_neg e2] at h2
        have g2 := of_decide_eq_false h2
        rw [if_neg (by omega)]
        exact decide_eq_false (by omega)
theorem lexI_total : ∀ x y : List Int, lexI x y = false → lexI y x = false → x = y
  | [], [], _, _ => rfl
  | [], _ :: _, h, _ => nomatch h
  | _ :: _, [], _, h => nomatch h
  | x :: xs, y :: ys, h1, h2 => by
    rw [lexI_cons] at h1 h2
    by_cases e : x = y
    · subst e
      rw [if_pos rfl] at h1 h2
      rw [lexI_total xs ys h1 h2]
    · rw [if_neg e] at h1
      rw [if_neg (fun q => e q.symm)] at h2
      have g1 := of_decide_eq_false h1
      have g2 := of_decide_eq_false h2
      omega
theorem lexI_app : ∀ {x y r t : List Int}, x.length = y.length → lexI (x ++ r) (y ++ t) = if x = y then lexI r t else lexI x y
  | [], [], r, t, _ => by rw [if_pos rfl]; rfl
  | x :: xs, y :: ys, r, t, h => by
    have h' : xs.length = ys.length := by simpa using h
    show lexI (x :: (xs ++ r)) (y :: (ys ++ t)) = _
    rw [lexI_cons, lexI_cons]
    by_cases e : x = y
    · subst e
      rw [if_pos rfl, if_pos rfl, lexI_app h']
      by_cases e2 : xs = ys
      · rw [if_pos e2, if_pos (by rw [e2])]
      · rw [if_neg e2, if_neg (fun q => e2 (List.cons.inj q).2)]
    · rw [if_neg e, if_neg e, if_neg (fun q => e (List.cons.inj q).1)]
theorem swo_lexI {α : Type} (f : α → List Int) : SrtO.Swo fun x y => lexI (f x) (f y) := ⟨fun _ _ => lexI_asym _ _, fun _ _ _ => lexI_tr _ _ _⟩
/-! ### tuples of ints and of tuples of ints -/
abbrev Itm := Int ⊕ List Int
def flI : Itm → List Int
  | .inl i => [i]
  | .inr ns => ns
def flK (ks : List Itm) : List Int := ks.flatMap flI
def shp : Itm → Option Nat
  | .inl _ => none
  | .inr ns => some ns.length
def nkI : Itm → NestedKey
  | .inl i => .num i
  | .inr ns => .tup (ns.map .num)
def nkK (ks : List Itm) : NestedKey := .tup (ks.map nkI)
theorem shp_len {x y : Itm} (h : shp x = shp y) : (flI x).length = (flI y).length := by
  cases x with
  | inl i =>
    cases y with
    | inl j => rfl
    | inr ms => cases h
  | inr ns =>
    cases y with
    | inl j => cases h
    | inr ms => exact Option.some.inj h
theorem flI_inj {x y : Itm} (h : shp x = shp y) (e : flI x = flI y) : x = y := by
  cases x with
  | inl i =>
    cases y with
    | inl j => cases e; rfl
    | inr ms => cases h
  | inr ns =>
    cases y with
    | inl j => cases h
    | inr ms => cases e; rfl
theorem flK_inj : ∀ {xs ys : List Itm}, xs.map shp = ys.map shp → flK xs = flK ys → xs = ys
  | [], [], _, _ => rfl
  | [], _ :: _, h, _ => nomatch h
  | _ :: _, [], h, _ => nomatch h
  | x :: xs, y :: ys, h, e => by
    have h1 : shp x = shp y := (List.cons.inj h).1
    have e' : flI x ++ flK xs = flI y ++ flK ys := e
    have h2 := List.append_inj e' (shp_len h1)
    rw [flI_inj h1 h2.1, flK_inj (List.cons.inj h).2 h2.2]
theorem nums_inj : ∀ {a b : List Int}, a.map NestedKey.num = b.map NestedKey.num → a = b
  | [], [], _ => rfl
  | [], _ :: _, h => nomatch h
  | _ :: _, [], h => nomatch h
  | x :: xs, y :: ys, h => by
    have h1 := List.cons.inj h
    rw [NestedKey.num.inj h1.1, nums_inj h1.2]
theorem nkI_inj {x y : Itm} (h : nkI x = nkI y) : x = y := by
  cases x with
  | inl i =>
    cases y with
    | inl j => cases h; rfl
    | inr ms => cases h
  | inr ns =>
    cases y with
    | inl j => cases h
    | inr ms => rw [nums_inj (NestedKey.tup.inj h)]
section
variable {prog : Program} {w : World} {A : Around} {E : Value → Shared → Prop} {s : Shared}
theorem lt_any {f : Bool} {a b : Int} {t u : Tok} {Q : Bool → Shared → Prop} (h : Q (decide (a < b)) s) : wpAny (model prog w) A (oneLt' f (.int a t) (.int b u)) Q (fun _ _ => False) s := by
  cases f with
  | true => exact oneLt_int h
  | false => exact PySem.W.kat_one _ _ (lt_int h)
/-- an item of such a tuple -/
def ItIs (h : Heap) : Itm → Value → Prop
  | .inl i, v => ∃ t, v = .int i t
  | .inr ns, v => ∃ p items, v = .ref p ∧ IsTup h p items ∧ IntsAre items.toList ns
def K2Is (h : Heap) (ks : List Itm) (v : Value) : Prop := ∃ p o n vs, v = .ref p ∧ h.get? p = some o ∧ o.cls = .type "tuple" ∧ o.data = .seq vs n ∧ Paired (ItIs h) ks vs.toList
theorem ItIs.keeps {h h' : Heap} (k : ∀ b o, h.get? b = some o → o.cls = .type "tuple" → h'.get? b = some o) {x : Itm} {v : Value} (r : ItIs h x v) : ItIs h' x v := by
  cases x with
  | inl i => exact r
  | inr ns =>
    obtain ⟨p, items, e, ⟨o, ho, hc, n, hd⟩, hi⟩ := r
    exact ⟨p, items, e, ⟨o, k _ _ ho hc, hc, n, hd⟩, hi⟩
theorem K2Is.keeps {h h' : Heap} (k : ∀ b o, h.get? b = some o → o.cls = .type "tuple" → h'.get? b = some o) {ks : List Itm} {v : Value} (r : K2Is h ks v) : K2Is h' ks v := by
  obtain ⟨p, o, n, vs, e, ho, hc, hd, r⟩ := r
  exact ⟨p, o, n, vs, e, k _ _ ho hc, hc, hd, Paired.mapP r fun a b => ItIs.keeps k⟩
theorem ints_nested {h : Heap} : ∀ {vs : List Value} {ns : List Int}, IntsAre vs ns → NestedAll h (ns.map .num) vs
  | _, _, .nil => .nil
  | _, _, .cons i t r => .cons (.int i t) (ints_nested r)
theorem ItIs.nested {h : Heap} {x : Itm} {v : Value} (r : ItIs h x v) : NestedIs h (nkI x) v := by
  cases x with
  | inl i =>
    obtain ⟨t, rfl⟩ := r
    exact .int i t
  | inr ns =>
    obtain ⟨p, items, rfl, ⟨o, ho, hc, n, hd⟩, hi⟩ := r
    exact .tup ho hc hd (ints_nested hi)
theorem depth_nums : ∀ ns : List Int, NestedKey.depthAll (ns.map .num) ≤ 1
  | [] => by simp [NestedKey.depthAll]
  | n :: ns => by
    have := depth_nums ns
    simp only [List.map_cons, NestedKey.depthAll, NestedKey.depth]
    omega
theorem depth_nkI (x : Itm) : (nkI x).depth ≤ 2 := by
  cases x with
  | inl i => simp [nkI, NestedKey.depth]
  | inr ns =>
    have := depth_nums ns
    simp only [nkI, NestedKey.depth]
    omega
theorem k2_lex {b fin : Bool} {Q : Bool → Shared → Prop} (hu : A.units + 2 < cLine) : ∀ {xs ys : List Itm} {vs ws : List Value} {i : Nat}, Paired (ItIs s.heap) xs vs → Paired (ItIs s.heap) ys ws → xs.map shp = ys.map shp → (b = true → i = 0 → ∀ x ∈ xs.head?, shp x = none) → fin = false → Q (lexI (flK xs) (flK ys)) s →
    PySem.W.KatLex prog w A b fin Q (vs.zip ws) i s
  | _, _, _, _, i, .nil, .nil, _, _, hf, h => by
    subst hf
    exact PySem.W.kat_nil h
  | _, _, _, _, _, .nil, .cons _ _, hs, _, _, _ => nomatch hs
  | _, _, _, _, _, .cons _ _, .nil, hs, _, _, _ => nomatch hs
  | x :: xs, y :: ys, v :: vs, u :: us, i, .cons r rs, .cons q qs, hs, hb, hf, h => by
    have h1 : shp x = shp y := (List.cons.inj hs).1
    have h2 := (List.cons.inj hs).2
    have e : lexI (flK (x :: xs)) (flK (y :: ys)) = if flI x = flI y then lexI (flK xs) (flK ys) else lexI (flI x) (flI y) := lexI_app (shp_len h1)
    rw [e] at h
    refine PySem.W.kat_cons (eqAt_key (nkI x) (nkI y) A s v u r.nested q.nested (by have := depth_nkI x; omega) prog w _ _ ?_)
    rw [← NestedKey.decide_eq]
    refine PySem.W.kat_go (fun e1 => ?_) (fun e1 => ?_)
    · have e2 : x = y := nkI_inj (of_decide_eq_true e1)
      rw [if_pos (by rw [e2])] at h
      exact PySem.W.kat_yes (k2_lex hu rs qs h2 (fun _ z => nomatch z) hf h)
    · have e2 : ¬ flI x = flI y := fun z => of_decide_eq_false e1 (by rw [flI_inj h1 z])
      rw [if_neg e2] at h
      refine PySem.W.kat_no ?_
      cases x with
      | inl n =>
        cases y with
        | inr ms => cases h1
        | inl m =>
          obtain ⟨t, rfl⟩ := r
          obtain ⟨t', rfl⟩ := q
          have e3 : lexI (flI (.inl n)) (flI (.inl m)) = decide (n < m) := by
            show lexI [n] [m] = _
            rw [lexI_cons, if_neg (fun z => e2 (by rw [z]))]
          rw [e3] at h
          exact lt_any h
      | inr ns =>
        cases y with
        | inl m => cases h1
        | inr ms =>
          have hc : (b && i == 0) = false := by
            cases hb1 : b with
            | false => rfl
            | true =>
              cases hi : i == 0 with
              | false => rfl
              | true =>
                have := hb hb1 (by simpa using hi) (.inr ns) rfl
                cases this
          rw [hc]
          obtain ⟨p, its, rfl, ht, hi⟩ := r
          obtain ⟨p', its', rfl, ht', hi'⟩ := q
          exact PySem.W.kat_one _ _ (HT.lt_tupInts ht ht' hi hi' (by omega) h)
theorem paired_len {α β : Type} {R : α → β → Prop} {xs : List α} {ys : List β} (h : Paired R xs ys) : xs.length = ys.length := Paired.length h
/-- the first items -/
theorem firsts2 {h : Heap} {k : Value → List Itm} {c : Option Nat} {sh : List (Option Nat)} : ∀ {vs : List Value}, (∀ v ∈ vs, K2Is h (k v) v ∧ (k v).map shp = c :: sh) → ∃ fs : List Value, PySem.W.KatTups h vs fs ∧ fs.length = vs.length ∧ ∀ f ∈ fs, ∃ x, ItIs h x f ∧ shp x = c
  | [], _ => ⟨[], PySem.W.KatTups.nil, rfl, fun _ hm => by simp at hm⟩
  | v :: vs, hp => by
    obtain ⟨fs, h1, h2, h3⟩ := firsts2 (vs := vs) fun v' hm => hp v' (List.mem_cons_of_mem _ hm)
    obtain ⟨⟨p, o, n, ws, e, ho, hc, hd, r⟩, hsh⟩ := hp v (List.mem_cons_self ..)
    generalize k v = ks at r hsh
    match ks, hsh, hw : ws.toList, r with
    | x :: ks, hsh, u :: us, .cons r _ =>
      subst e
      refine ⟨u :: fs, PySem.W.KatTups.cons ho hc hd (by rw [← Array.getElem?_toList, hw]; rfl) h1, by rw [List.length_cons, List.length_cons, h2], fun f hm => ?_⟩
      rcases List.mem_cons.mp hm with rfl | hm
      · exact ⟨x, r, (List.cons.inj hsh).1⟩
      · exact h3 f hm
theorem k2_cmp {vs : List Value} {k : Value → List Itm} {b : Bool} {c : Option Nat} {sh : List (Option Nat)} (hu : A.units + 2 < cLine) (hb : b = true → c = none) (hp : ∀ v ∈ vs, K2Is s.heap (k v) v ∧ (k v).map shp = c :: sh) : SrtO.Cmp prog w A s (tuples' b) (fun p => p.1 ∈ vs) (SrtO.lt2 fun v u => lexI (flK (k v)) (flK (k u))) := by
  intro p q hm hm'
  obtain ⟨⟨a, o, n, ws, e, ho, hc, hd, r⟩, hs⟩ := hp _ hm
  obtain ⟨⟨a', o', n', ws', e', ho', hc', hd', r'⟩, hs'⟩ := hp _ hm'
  show wpAny (model prog w) A (keyLt' (tuples' b) p.1 q.1) (fun r s' => s' = s ∧ r = lexI (flK (k p.1)) (flK (k q.1))) (fun _ _ => False) s
  generalize k p.1 = ks at r hs ⊢
  generalize k q.1 = ks' at r' hs' ⊢
  rw [e, e']
  refine PySem.W.kat_lt ho hd ho' hd' ?_
  have l1 : ks.length = ws.size := by
    have := paired_len r
    simpa using this
  have l2 : ks'.length = ws'.size := by
    have := paired_len r'
    simpa using this
  have l3 : ks.length = ks'.length := by
    have := congrArg List.length (hs.trans hs'.symm)
    simpa using this
  refine k2_lex hu r r' (hs.trans hs'.symm) (fun h1 _ x hx => ?_) ?_ ⟨rfl, rfl⟩
  · match ks, hs, hx with
    | y :: ks, hs, hx =>
      cases hx
      rw [← hb h1]
      exact (List.cons.inj hs).1
  · exact decide_eq_false (by omega)
theorem k2_sortable {a : Addr} {vs : List Value} {k : Value → List Itm} {c : Option Nat} {sh : List (Option Nat)} (hu : A.units + 2 < cLine) (h0 : 0 < vs.length) (hp : ∀ v ∈ vs, K2Is s.heap (k v) v ∧ (k v).map shp = c :: sh) (ha : ∀ o, s.heap.get? a = some o → o.cls ≠ .type "tuple") : SrtO.SortableO prog w A s a vs fun v u => lexI (flK (k v)) (flK (k u)) := by
  intro h' keep
  have hp' : ∀ v ∈ vs, K2Is h' (k v) v ∧ (k v).map shp = c :: sh := fun v hm => ⟨(hp v hm).1.keeps fun b o e cc => keep b o (fun z => by subst z; exact ha o e cc) e, (hp v hm).2⟩
  obtain ⟨fs, h1, h2, h3⟩ := firsts2 hp'
  cases c with
  | none =>
    refine ⟨tuples' true, fun Q E hq => ?_, k2_cmp hu (fun _ => rfl) hp'⟩
    refine PySem.W.kat_kind (T := .type "int") h1 (by omega) (fun f hm => ?_) (by rfl) ?_
    · obtain ⟨x, r, e⟩ := h3 f hm
      cases x with
      | inr ns => cases e
      | inl i =>
        obtain ⟨t, rfl⟩ := r
        exact PySem.W.Looks.now
    · have e : (Value.type "int" != Value.type "tuple") = true := by first | decide +kernel | rfl | decide
      rw [e]
      exact hq
  | some n =>
    refine ⟨tuples' false, fun Q E hq => ?_, k2_cmp hu (fun z => nomatch z) hp'⟩
    refine PySem.W.kat_kind (T := .type "tuple") h1 (by omega) (fun f hm => ?_) (by rfl) ?_
    · obtain ⟨x, r, e⟩ := h3 f hm
      cases x with
      | inl i => cases e
      | inr ns =>
        obtain ⟨p, its, rfl, ⟨o, ho, hc, n, hd⟩, hi⟩ := r
        exact (PySem.W.Looks.ld ho).andThen (by rw [hc]; exact .now)
    · have e : (Value.type "tuple" != Value.type "tuple") = false := by first | decide +kernel | rfl | decide
      rw [e]
      exact hq
end
/-! ### as rules -/
theorem nums_ints {H : Hp} : ∀ {ns : List Int} {vs : List V} {us : List Value}, NKs H (ns.map .num) vs → Vals vs us → IntsAre us ns
  | [], _, _, .nil, r => by cases r; exact .nil
  | n :: ns, _, _, .cons h hs, r => by
    cases h
    cases r with
    | cons r1 r2 =>
      obtain ⟨t, rfl⟩ := r1
      exact .cons n t (nums_ints hs r2)
theorem NK.it {P : Program} {w : World} {H : Hp} {h : Heap} (ok : HOk P w H h) {x : Itm} {v : V} {u : Value} (hk : NK H (nkI x) v) (r : RelV v u) : ItIs h x u := by
  cases x with
  | inl i =>
    cases hk
    exact r
  | inr ns =>
    cases hk with
    | tup e hs =>
      cases (show u = Value.ref _ from r)
      obtain ⟨_, its, r2, ht⟩ := ok _ _ e
      exact ⟨_, _, rfl, ht, nums_ints hs r2⟩
theorem NKs.its {P : Program} {w : World} {H : Hp} {h : Heap} (ok : HOk P w H h) : ∀ {ks : List Itm} {vs : List V} {us : List Value}, NKs H (ks.map nkI) vs → Vals vs us → Paired (ItIs h) ks us
  | [], _, _, .nil, r => by cases r; exact .nil
  | k :: ks, _, _, .cons hk hs, r => by
    cases r with
    | cons r1 r2 => exact .cons (hk.it ok r1) (NKs.its ok hs r2)
theorem NK.k2 {P : Program} {w : World} {H : Hp} {h : Heap} (ok : HOk P w H h) {ks : List Itm} {b : Addr} (hk : NK H (nkK ks) (.ref b)) : K2Is h ks (.ref b) := by
  cases hk with
  | tup e hs =>
    obtain ⟨_, its, r2, o, ho, hc, n, hd⟩ := ok _ _ e
    exact ⟨b, o, n, _, rfl, ho, hc, hd, NKs.its ok hs r2⟩
theorem _root_.Hb.RelEs.addrs : ∀ {es : List Ent} {xs : List (NestedKey × Addr × Value)}, RelEs es xs → es.map (fun e => Value.ref e.2.1) = xs.map fun x => Value.ref x.2.1
  | _, _, .nil => rfl
  | _, _, .cons h t => by rw [List.map_cons, List.map_cons, RelEs.addrs t, h.2.1]
/-- by the ints of the keys -/
abbrev ltK (k : V → List Itm) (x y : V) : Bool := lexI (flK (k x)) (flK (k y))
theorem ltK_swo (k : V → List Itm) : SrtO.Swo (ltK k) := swo_lexI fun x => flK (k x)
/-- sorted(xs): xs a list of such tuples, all of one shape -/
def rSortN (K : PySem.W.Frag) (c : Option Nat) (sh : List (Option Nat)) : List V → Hp → VK → Prop := fun vs H Q => ∃ (a : Addr) (xs : List V) (k : V → List Itm), vs = [V.ref a] ∧ SqL K H a xs ∧ (∀ x ∈ xs, (∃ b, x = V.ref b) ∧ NK H (nkK (k x)) x ∧ (k x).map shp = c :: sh) ∧
  ∀ ys p, SrtO.Srtd (ltK k) ys → SrtO.Stb (ltK k) ys xs → H p = none → Q (.ref p) (upd H p (.lst ys))
/-- sorted(d) of a dict with such keys -/
def rSortDN (w : World) (c : Option Nat) (sh : List (Option Nat)) : List V → Hp → VK → Prop := fun vs H Q => ∃ (a : Addr) (es : List Ent) (k : V → List Itm), vs = [V.ref a] ∧ H a = some (DN w a es) ∧ (∀ e ∈ es, NK H (nkK (k (.ref e.2.1))) (.ref e.2.1) ∧ (k (.ref e.2.1)).map shp = c :: sh) ∧
  ∀ ys p, SrtO.Srtd (ltK k) ys → SrtO.Stb (ltK k) ys (es.map fun e => V.ref e.2.1) → H p = none → Q (.ref p) (upd H p (.lst ys))
section
variable {X : Cx} {c : Option Nat} {sh : List (Option Nat)} {K : PySem.W.Frag} {w : World}
theorem cr_sortN (hu : X.A.units + 64 < cLine) (hK : X.K = K := by rfl) : CallR X (.builtin "sorted") (rSortN K c sh) := by
  subst hK
  intro pins s σ H vs us Q I r h
  obtain ⟨a, xs, k, rfl, hs, hx, q⟩ := h
  obtain ⟨its, rv, hl, hz⟩ := I.list hs
  obtain ⟨u, rfl, ru⟩ := vals1 r
  obtain rfl : u = Value.ref a := ru
  obtain ⟨e1, e2⟩ := refs_back rv fun x m => (hx x m).1
  have hp : ∀ v ∈ its, K2Is s.heap (k (backV v)) v ∧ (k (backV v)).map shp = c :: sh := fun v hv => by
    obtain ⟨t, rfl⟩ := e2 v hv
    have hm : V.ref t ∈ xs := by
      rw [e1]
      exact List.mem_map.mpr ⟨_, hv, rfl⟩
    obtain ⟨_, h1, h2⟩ := hx _ hm
    exact ⟨NK.k2 I.hok h1, h2⟩
  have hu2 : X.A.in1.in1.units + 2 < cLine := by
    have e : X.A.in1.in1.units = X.A.units + 1 + 1 := rfl
    omega
  refine SrtO.sorted_ord (ltv := fun v u => lexI (flK (k (backV v))) (flK (k (backV u)))) (swo_lexI fun v => flK (k (backV v))) hl.isList (by rw [← rv.length]; exact hz) (fun h2 h₁ a ha kk => ?_) fun out h1 h2 => ?_
  · refine k2_sortable (s := { s with heap := h₁ }) hu2 (by omega) (fun v hm => ⟨(hp v hm).1.keeps fun b o e _ => (kk b o e).2, (hp v hm).2⟩) fun o e => ?_
    have e' : some o = some (seqObj "list" its.toArray 0) := e.symm.trans ha
    cases e'
    intro cc
    exact absurd (Value.type.inj cc) (by decide)
  · have h3 : ∀ u ∈ out, ∃ a, u = Value.ref a := fun u hu => e2 u (h2.perm.mem_iff.mp hu)
    obtain ⟨n, hn⟩ := sortedAll_at s.heap its out.toArray
    have hb : SrtO.Stb (ltK k) (out.map backV) xs := by
      rw [e1]
      exact SrtO.Stb.map (ltK_swo k) backV h2
    refine ⟨.ref (s.heap.objs.size + 1), upd H (s.heap.objs.size + 1) (.lst (out.map backV)), I.laid (t' := s.toks) (fun b o e => sortedAll_old e) (Nat.le_succ _) ⟨?_, out, n, vals_back h3, hn⟩, rfl, q _ _ (SrtO.srtd_map h1) hb (I.hok.fresh (Nat.le_succ _))⟩
    rw [hb.len]
    exact hz
theorem cr_sortDN (hc : X.calm = true) (hu : X.A.units + 64 < cLine) (hw : X.w = w := by rfl) : CallR X (.builtin "sorted") (rSortDN w c sh) := by
  subst hw
  intro pins s σ H vs us Q I r h
  obtain ⟨a, es, k, rfl, ha, hx, q⟩ := h
  obtain ⟨u, rfl, ru⟩ := vals1 r
  obtain rfl : u = Value.ref a := ru
  obtain ⟨⟨z, lo, xs, rel, o, ds, ep, h1, h2, h3, h4, h5⟩, _, _⟩ := (show ObjOk X.prog X.w H s.heap a (DN X.w a es) from I.hok _ _ ha)
  have hu2 : X.A.in1.in1.units + 2 < cLine := by
    have e : X.A.in1.in1.units = X.A.units + 1 + 1 := rfl
    omega
  have hsz : ds.size = es.length := by
    rw [← Array.length_toList, h4, List.length_map, rel.len]
  refine Calls.call_function_entry kind_sorted plain_sorted entry_sorted (args_sorted1 _) ?_
  unfold Builtin.«sorted»
  refine wpAny_bind (m := checkCount "sorted" 1 1 _) (wpAny_pure ?_)
  refine wpAny_bind (PySem.W.kdu_collect (A := X.A.in1) (kdl_raw lo h2 h3) (I.ok.hd hc) h1 (by rw [hsz]; exact z) fun h' tk acc hk hacc => ?_)
  have hal : acc.toList.length = es.length := by rw [Array.length_toList, hacc.1, hsz]
  have hac : acc.toList = es.map fun e => Value.ref e.2.1 := by
    refine List.ext_getElem? fun j => ?_
    rw [List.getElem?_map]
    cases e1 : acc.toList[j]? with
    | none =>
      have g1 := List.getElem?_eq_none_iff.mp e1
      rw [List.getElem?_eq_none (by omega)]
      rfl
    | some v =>
      obtain ⟨en, g1, g2⟩ := hacc.2 j v (by rw [← Array.getElem?_toList]; exact e1)
      rw [← Array.getElem?_toList, h4, List.getElem?_map] at g1
      obtain ⟨x, g3, g4⟩ := Option.map_eq_some_iff.mp g1
      have g5 : (es.map fun e => Value.ref e.2.1)[j]? = some (Value.ref x.2.1) := by
        have g6 : es.map (fun e => Value.ref e.2.1) = xs.map fun x => Value.ref x.2.1 := by
          exact rel.addrs
        rw [g6, List.getElem?_map, g3]
        rfl
      rw [List.getElem?_map] at g5
      rw [g5, g2, ← g4]
      rfl
  have I1 : Inv X pins σ H { s with heap := h', toks := tk } := I.kept hk
  have hp : ∀ v ∈ acc.toList, K2Is h' (k (backV v)) v ∧ (k (backV v)).map shp = c :: sh := fun v hv => by
    rw [hac] at hv
    obtain ⟨e, he, rfl⟩ := List.mem_map.mp hv
    obtain ⟨g1, g2⟩ := hx e he
    exact ⟨NK.k2 I1.hok g1, g2⟩
  refine wpAny_bind (wpAny_newList ?_ (by rw [hal]; exact z))
  have hoL : (h'.push (seqObj "list" acc.toList.toArray 0)).get? h'.objs.size = some (seqObj "list" acc.toList.toArray 0) := Heap.get?_push_size _ rfl
  show wpAny _ _ _ _ _ { s with heap := h'.push (seqObj "list" acc.toList.toArray 0), toks := tk }
  refine wpAny_bind (wpAny_holding (wpAny_call_entry slot_list_sort ⟨_, hoL, rfl⟩ entry_list_sort
    (SrtO.list_sort_ord (s := { s with heap := h'.push (seqObj "list" acc.toList.toArray 0), toks := tk }) (ltv := fun v u => lexI (flK (k (backV v))) (flK (k (backV u)))) (swo_lexI fun v => flK (k (backV v))) hoL (by rw [hal]; exact z) (fun g0 => ?_) fun out g1 g2 => ⟨_, rfl, ?_⟩) (args_list_sort _)))
  · refine k2_sortable (s := { s with heap := h'.push (seqObj "list" acc.toList.toArray 0), toks := tk }) hu2 (by omega) (fun v hm => ⟨(hp v hm).1.keeps fun b o e _ => Heap.get?_push_of_some _ e, (hp v hm).2⟩) fun o e => ?_
    have e' : some o = some (seqObj "list" acc.toList.toArray 0) := e.symm.trans hoL
    cases e'
    intro cc
    exact absurd (Value.type.inj cc) (by decide)
  · obtain ⟨e', he'⟩ := sortedHeap_at (vs := acc.toList) (out := out.toArray) hoL
    have g3 : ∀ u ∈ out, ∃ a, u = Value.ref a := fun u hu => by
      have hm := g2.perm.mem_iff.mp hu
      rw [hac] at hm
      obtain ⟨e, _, rfl⟩ := List.mem_map.mp hm
      exact ⟨_, rfl⟩
    have hb : SrtO.Stb (ltK k) (out.map backV) (es.map fun e => V.ref e.2.1) := by
      have hm := SrtO.Stb.map (ltK_swo k) backV g2
      rw [hac, List.map_map] at hm
      exact hm
    refine wpAny_pure ⟨_, rfl, .ref h'.objs.size, upd H h'.objs.size (.lst (out.map backV)), I1.laid (t' := tk) (fun b u e => ?_) (Nat.le_refl _)
      (show ObjOk X.prog X.w _ _ _ (.lst (out.map backV)) from ⟨?_, out, e', vals_back g3, he'⟩), rfl, q _ _ (SrtO.srtd_map g1) hb (I1.hok.fresh (Nat.le_refl _))⟩
    · have hlt : b < h'.objs.size := Heap.lt_size e
      rw [sortedHeap_old (Nat.ne_of_lt hlt) (by rw [size_push']; exact Nat.lt_succ_of_lt hlt)]
      exact Heap.get?_push_of_some _ e
    · rw [hb.len, List.length_map]
      exact z
end
/-! ### min and max of two tuples of ints -/
section
open PySem.SeqAt
open PySem.W (keyToksAll dataLt alike alikeAll dataLt_cons dataLt_int AlikeAll reads_keeps iter_tupleW cmpIn_lt cmpIn_gt moved_old)
theorem toks_ints : ∀ ns ms : List Int, PyProof.Rows.lexLt itemOrd (keyToksAll (ns.map .int)) (keyToksAll (ms.map .int)) = lexI ns ms
  | [], [] => lex_irrefl _
  | [], m :: ms => by
    show PyProof.Rows.lexLt itemOrd [.inl 0] (.inl 1 :: _) = true
    exact lex_diff (by decide)
  | n :: ns, [] => by
    show PyProof.Rows.lexLt itemOrd (.inl 1 :: _) [.inl 0] = false
    exact lex_diff (by decide)
  | n :: ns, m :: ms => by
    show PyProof.Rows.lexLt itemOrd (keyToksAll (.int n :: ns.map .int)) (keyToksAll (.int m :: ms.map .int)) = _
    rw [dataLt_cons (by rfl), lexI_cons, dataLt_int, toks_ints ns ms]
    have e : PyData.eqv (.int n) (.int m) = (n == m) := by simp only [PyData.eqv]
    rw [e]
    by_cases h : n = m
    · rw [if_pos h, if_pos (by rw [h]; exact beq_self_eq_true m)]
    · rw [if_neg h, if_neg (fun z => h (by simpa using z))]
theorem dataLt_ints (ns ms : List Int) : dataLt (.tuple (ns.map .int)) (.tuple (ms.map .int)) = lexI ns ms := toks_ints ns ms
theorem alike_ints : ∀ {ns ms : List Int}, ns.length = ms.length → alikeAll (ns.map .int) (ms.map .int) = true
  | [], [], _ => by simp [alikeAll]
  | n :: ns, m :: ms, h => by
    simp only [List.map_cons, alikeAll, alike, Bool.true_and]
    exact alike_ints (by simpa using h)
theorem depth_ints : ∀ ns : List Int, PyData.depthAll (ns.map .int) ≤ 1
  | [] => by simp [PyData.depthAll]
  | n :: ns => by
    have := depth_ints ns
    simp only [List.map_cons, PyData.depthAll, PyData.depth]
    omega
section
variable {prog : Program} {w : World} {A : Around} {E : Value → Shared → Prop} {s : Shared}
theorem alike2 {ns ms : List Int} (hl : ns.length = ms.length) : AlikeAll [PyData.tuple (ns.map .int), .tuple (ms.map .int)] := by
  have a : ∀ x y : List Int, x.length = y.length → alike (.tuple (x.map .int)) (.tuple (y.map .int)) = true := fun x y h => by
    simp only [alike]
    exact alike_ints h
  refine ⟨fun x hx y hy => ?_, fun x hx => ?_⟩
  · simp only [List.mem_cons, List.not_mem_nil, or_false] at hx hy
    rcases hx with rfl | rfl <;> rcases hy with rfl | rfl
    · exact a _ _ rfl
    · exact a _ _ hl
    · exact a _ _ hl.symm
    · exact a _ _ rfl
  · simp only [List.mem_cons, List.not_mem_nil, or_false] at hx
    rcases hx with rfl | rfl <;> exact fun z => nomatch z
theorem depth2 {ns ms : List Int} : PyData.depthAll [PyData.tuple (ns.map .int), .tuple (ms.map .int)] ≤ 2 := by
  have h1 := depth_ints ns
  have h2 := depth_ints ms
  simp only [PyData.depthAll, PyData.depth]
  omega
theorem min_two_tups {a b : Addr} {ns ms : List Int} {as bs : List Addr} {Q : Value → Shared → Prop} (hh : A.handled = none) (hu : A.units + 3 < cLine) (r1 : Reads s.heap (.ref a) (.tuple (ns.map .int)) as) (r2 : Reads s.heap (.ref b) (.tuple (ms.map .int)) bs) (hl : ns.length = ms.length)
    (h : ∀ h' tk, (∀ c o, s.heap.get? c = some o → h'.get? c = some o) → Q (.ref (if lexI ms ns = true then b else a)) { s with heap := h', toks := tk }) :
    wpAny (model prog w) A (call (.builtin "min") [.ref a, .ref b]) Q E s := by
  have hname : (toString "min" ++ toString ".loop" : String) = "min.loop" := by decide
  refine call_function_tree PySem.F.kind_min PySem.F.plain_min PySem.F.entry_min (PySem.F.args_min2 _ _) ?_
  show wpAny _ A.in1 (Builtin.Builtins.bindParams "min" ["key", "default"] 0 ⟨[], []⟩ >>= _) _ _ s
  refine wpAny_bind (wpAny_of_eq (show Builtin.Builtins.bindParams "min" ["key", "default"] 0 ⟨[], []⟩ = pure [none, none] from rfl) ?_)
  show wpAny _ A.in1 (newTuple [.ref a, .ref b] >>= _) _ _ s
  refine wpAny_bind (wpAny_newObj_type ?_)
  have k0 : ∀ c o, s.heap.get? c = some o → (s.heap.push { cls := .type "tuple", data := .seq #[Value.ref a, .ref b] }).get? c = some o := fun c o e => Heap.get?_push_of_some _ e
  have hT : (s.heap.push { cls := .type "tuple", data := .seq #[Value.ref a, .ref b] }).IsTuple s.heap.objs.size #[.ref a, .ref b] := ⟨_, Heap.get?_push_size _ rfl, rfl, 0, rfl⟩
  have hr : ReadsAll (s.heap.push { cls := .type "tuple", data := .seq #[Value.ref a, .ref b] }) (#[Value.ref a, .ref b] : Array Value).toList [PyData.tuple (ns.map .int), .tuple (ms.map .int)] (as ++ (bs ++ [])) := .cons (reads_keeps k0 r1) (.cons (reads_keeps k0 r2) .nil)
  refine wpAny_bind (iter_tupleW (A := A.in1) (s := { s with heap := s.heap.push { cls := .type "tuple", data := .seq #[Value.ref a, .ref b] } }) hh hT fun s₂ e W st hfp hw hk => ?_)
  refine wpAny_bind (wpAny_newObj_type ?_)
  have hSf : s₂.heap.objs.size ∉ [(s.heap.push { cls := .type "tuple", data := .seq #[Value.ref a, .ref b] }).objs.size, s.heap.objs.size] := fun hm => Nat.lt_irrefl _ (hfp _ hm)
  rw [hname]
  have hcm := cmpIn_lt (prog := prog) (w := w) (A := A.in1) (s := { s with heap := s.heap.push { cls := .type "tuple", data := .seq #[Value.ref a, .ref b] } }) hr (alike2 hl) (by
    have := depth2 (ns := ns) (ms := ms)
    show A.units + 1 + _ < cLine
    omega)
  refine wpAny_pure ⟨plainId_quiet PySem.F.plain_min_loop _, codeAny_min_loop_firstH W _ hw _ hcm s₂.heap.objs.size hSf (fresh_in hk) _ (Nat.succ_pos 1) (fun b o e => Heap.get?_push_of_some _ (hk b o e)) (W.frame 0 s₂ _ s₂.toks st (Nat.le_refl _) fun b _ o e => Heap.get?_push_of_some _ e) (Heap.get?_push_size _ rfl) fun v s' hP hm => ?_⟩
  have hm2 := Moved.drop_new (tk := s₂.toks) hm (Nat.le_refl _)
  obtain ⟨h', tk, rfl, hk'⟩ := moved_old e rfl hm2
  have e2 : v = .ref (if lexI ms ns = true then b else a) := by
    have e3 : argBest (fun i j => dataLt ([PyData.tuple (ns.map .int), .tuple (ms.map .int)].getD i .none) ([PyData.tuple (ns.map .int), .tuple (ms.map .int)].getD j .none)) 1 = if lexI ms ns = true then 1 else 0 := by
      show (if dataLt (.tuple (ms.map .int)) (.tuple (ns.map .int)) = true then 1 else 0) = _
      rw [dataLt_ints]
    have hP' : (#[Value.ref a, .ref b] : Array Value)[argBest (fun i j => dataLt ([PyData.tuple (ns.map .int), .tuple (ms.map .int)].getD i .none) ([PyData.tuple (ns.map .int), .tuple (ms.map .int)].getD j .none)) 1]? = some v := hP
    rw [e3] at hP'
    by_cases hc : lexI ms ns = true
    · rw [if_pos hc] at hP' ⊢
      exact (Option.some.inj hP').symm
    · rw [if_neg hc] at hP' ⊢
      exact (Option.some.inj hP').symm
  rw [e2]
  exact h h' tk fun c o ec => hk' c o (k0 c o ec)
theorem max_two_tups {a b : Addr} {ns ms : List Int} {as bs : List Addr} {Q : Value → Shared → Prop} (hh : A.handled = none) (hu : A.units + 3 < cLine) (r1 : Reads s.heap (.ref a) (.tuple (ns.map .int)) as) (r2 : Reads s.heap (.ref b) (.tuple (ms.map .int)) bs) (hl : ns.length = ms.length)
    (h : ∀ h' tk, (∀ c o, s.heap.get? c = some o → h'.get? c = some o) → Q (.ref (if lexI ns ms = true then b else a)) { s with heap := h', toks := tk }) :
    wpAny (model prog w) A (call (.builtin "max") [.ref a, .ref b]) Q E s := by
  have hname : (toString "max" ++ toString ".loop" : String) = "max.loop" := by decide
  refine call_function_tree PySem.F.kind_max PySem.F.plain_max PySem.F.entry_max (PySem.F.args_max2 _ _) ?_
  show wpAny _ A.in1 (Builtin.Builtins.bindParams "max" ["key", "default"] 0 ⟨[], []⟩ >>= _) _ _ s
  refine wpAny_bind (wpAny_of_eq (show Builtin.Builtins.bindParams "max" ["key", "default"] 0 ⟨[], []⟩ = pure [none, none] from rfl) ?_)
  show wpAny _ A.in1 (newTuple [.ref a, .ref b] >>= _) _ _ s
  refine wpAny_bind (wpAny_newObj_type ?_)
  have k0 : ∀ c o, s.heap.get? c = some o → (s.heap.push { cls := .type "tuple", data := .seq #[Value.ref a, .ref b] }).get? c = some o := fun c o e => Heap.get?_push_of_some _ e
  have hT : (s.heap.push { cls := .type "tuple", data := .seq #[Value.ref a, .ref b] }).IsTuple s.heap.objs.size #[.ref a, .ref b] := ⟨_, Heap.get?_push_size _ rfl, rfl, 0, rfl⟩
  have hr : ReadsAll (s.heap.push { cls := .type "tuple", data := .seq #[Value.ref a, .ref b] }) (#[Value.ref a, .ref b] : Array Value).toList [PyData.tuple (ns.map .int), .tuple (ms.map .int)] (as ++ (bs ++ [])) := .cons (reads_keeps k0 r1) (.cons (reads_keeps k0 r2) .nil)
  refine wpAny_bind (iter_tupleW (A := A.in1) (s := { s with heap := s.heap.push { cls := .type "tuple", data := .seq #[Value.ref a, .ref b] } }) hh hT fun s₂ e W st hfp hw hk => ?_)
  refine wpAny_bind (wpAny_newObj_type ?_)
  have hSf : s₂.heap.objs.size ∉ [(s.heap.push { cls := .type "tuple", data := .seq #[Value.ref a, .ref b] }).objs.size, s.heap.objs.size] := fun hm => Nat.lt_irrefl _ (hfp _ hm)
  rw [hname]
  have hcm := cmpIn_gt (prog := prog) (w := w) (A := A.in1) (s := { s with heap := s.heap.push { cls := .type "tuple", data := .seq #[Value.ref a, .ref b] } }) hr (alike2 hl) (by
    have := depth2 (ns := ns) (ms := ms)
    show A.units + 1 + _ < cLine
    omega)
  refine wpAny_pure ⟨plainId_quiet PySem.F.plain_max_loop _, codeAny_max_loop_firstH W _ hw _ hcm s₂.heap.objs.size hSf (fresh_in hk) _ (Nat.succ_pos 1) (fun b o e => Heap.get?_push_of_some _ (hk b o e)) (W.frame 0 s₂ _ s₂.toks st (Nat.le_refl _) fun b _ o e => Heap.get?_push_of_some _ e) (Heap.get?_push_size _ rfl) fun v s' hP hm => ?_⟩
  have hm2 := Moved.drop_new (tk := s₂.toks) hm (Nat.le_refl _)
  obtain ⟨h', tk, rfl, hk'⟩ := moved_old e rfl hm2
  have e2 : v = .ref (if lexI ns ms = true then b else a) := by
    have e3 : argBest (fun i j => dataLt ([PyData.tuple (ns.map .int), .tuple (ms.map .int)].getD j .none) ([PyData.tuple (ns.map .int), .tuple (ms.map .int)].getD i .none)) 1 = if lexI ns ms = true then 1 else 0 := by
      show (if dataLt (.tuple (ns.map .int)) (.tuple (ms.map .int)) = true then 1 else 0) = _
      rw [dataLt_ints]
    have hP' : (#[Value.ref a, .ref b] : Array Value)[argBest (fun i j => dataLt ([PyData.tuple (ns.map .int), .tuple (ms.map .int)].getD j .none) ([PyData.tuple (ns.map .int), .tuple (ms.map .int)].getD i .none)) 1]? = some v := hP
    rw [e3] at hP'
    by_cases hc : lexI ns ms = true
    · rw [if_pos hc] at hP' ⊢
      exact (Option.some.inj hP').symm
    · rw [if_neg hc] at hP' ⊢
      exact (Option.some.inj hP').symm
  rw [e2]
  exact h h' tk fun c o ec => hk' c o (k0 c o ec)
end
/-- min(t, u), max(t, u) of tuples of as many ints -/
def rMinT (mx : Bool) : List V → Hp → VK → Prop := fun vs H Q => ∃ (a b : Addr) (ns ms : List Int), vs = [.ref a, .ref b] ∧ H a = some (.tup (ns.map V.int)) ∧ H b = some (.tup (ms.map V.int)) ∧ ns.length = ms.length ∧ Q (.ref (if (if mx then lexI ns ms else lexI ms ns) = true then b else a)) H
/-- x in a tuple, data of any depth -/
def rInDT (K : PySem.W.Frag) (neg : Bool) : R2 := fun x y H Q => ∃ d ds, Dp K H x d ∧ Dp K H y (.tuple ds) ∧ SeqAt.shaped d = true ∧ SeqAt.shaped (.tuple ds) = true ∧ Q (.bl (if neg then !(ds.any fun z => PyData.eqv z d) else ds.any fun z => PyData.eqv z d)) H
def rInDL (K : PySem.W.Frag) (neg : Bool) : R2 := fun x y H Q => ∃ d ds, Dp K H x d ∧ Dp K H y (.list ds) ∧ SeqAt.shaped d = true ∧ SeqAt.shaped (.list ds) = true ∧ Q (.bl (if neg then !(ds.any fun z => PyData.eqv z d) else ds.any fun z => PyData.eqv z d)) H
section
variable {X : Cx} {K : PySem.W.Frag}
theorem im_ints {H : Hp} : ∀ ns : List Int, ImAll K H (ns.map V.int) (ns.map PyData.int)
  | [] => .nil
  | n :: ns => .cons (.int n) (im_ints ns)
theorem call_minT (hc : X.calm = true) (hu : X.A.units + 64 < cLine) : CallR X (.builtin "min") (rMinT false) := by
  intro pins s σ H vs us Q I r h
  obtain ⟨a, b, ns, ms, rfl, ha, hb, hl, q⟩ := h
  obtain ⟨u1, u2, rfl, r1, r2⟩ := vals2 r
  cases r1
  cases r2
  obtain ⟨as, g1⟩ := Dp.reads I (.tuple (ns.map .int)) _ _ (.tup (SqT.of ha) (im_ints ns).dp) rfl
  obtain ⟨bs, g2⟩ := Dp.reads I (.tuple (ms.map .int)) _ _ (.tup (SqT.of hb) (im_ints ms).dp) rfl
  exact min_two_tups (I.ok.hd hc) (by omega) g1 g2 hl fun h' tk k => ⟨.ref (if lexI ms ns = true then b else a), H, I.kept k, rfl, q⟩
theorem call_maxT (hc : X.calm = true) (hu : X.A.units + 64 < cLine) : CallR X (.builtin "max") (rMinT true) := by
  intro pins s σ H vs us Q I r h
  obtain ⟨a, b, ns, ms, rfl, ha, hb, hl, q⟩ := h
  obtain ⟨u1, u2, rfl, r1, r2⟩ := vals2 r
  cases r1
  cases r2
  obtain ⟨as, g1⟩ := Dp.reads I (.tuple (ns.map .int)) _ _ (.tup (SqT.of ha) (im_ints ns).dp) rfl
  obtain ⟨bs, g2⟩ := Dp.reads I (.tuple (ms.map .int)) _ _ (.tup (SqT.of hb) (im_ints ms).dp) rfl
  exact max_two_tups (I.ok.hd hc) (by omega) g1 g2 hl fun h' tk k => ⟨.ref (if lexI ns ms = true then b else a), H, I.kept k, rfl, q⟩
theorem op_inDT (hu : X.A.units + 65 < cLine) (hK : X.K = K := by rfl) : OpR X (compareOp .In) (rInDT K false) := by
  subst hK
  intro pins s σ H x y v u Q I rx ry h
  obtain ⟨d, ds, hd, he, sd, se, q⟩ := h
  obtain ⟨as, r1⟩ := Dp.reads I d x v hd rx
  obtain ⟨bs, r2⟩ := Dp.reads I (.tuple ds) y u he ry
  exact SeqAt.in_tuple_reads r2 r1 (SeqAt.canLay_of_shaped se) (SeqAt.canLay_of_shaped sd) (room_in_shaped sd hu) ⟨.bl _, H, I, rfl, q⟩
theorem op_inDL (hu : X.A.units + 65 < cLine) (hK : X.K = K := by rfl) : OpR X (compareOp .In) (rInDL K false) := by
  subst hK
  exact op_inD hu
theorem op_niDL (hu : X.A.units + 65 < cLine) (hK : X.K = K := by rfl) : OpR X (compareOp .NotIn) (rInDL K true) := by
  subst hK
  exact op_notInD hu
end
end
end Hb

set_option Elab.async false
set_option maxRecDepth 100000
set_option maxHeartbeats 4000000
/-! Links as keys: pairs of pairs of ints, their dicts, their sorted lists. -/
namespace Hb
open PySem L2
abbrev E2 := Int × Int
abbrev Lk := E2 × E2
def flL (l : Lk) : List Int := [l.1.1, l.1.2, l.2.1, l.2.2]
def itL (l : Lk) : List Itm := [.inr [l.1.1, l.1.2], .inr [l.2.1, l.2.2]]
def lkK (l : Lk) : NestedKey := nkK (itL l)
theorem flK_it (l : Lk) : flK (itL l) = flL l := rfl
theorem flL_inj {x y : Lk} (h : flL x = flL y) : x = y := by
  obtain ⟨⟨a, b⟩, c, d⟩ := x
  obtain ⟨⟨a', b'⟩, c', d'⟩ := y
  have h1 := List.cons.inj h
  have h2 := List.cons.inj h1.2
  have h3 := List.cons.inj h2.2
  have h4 := List.cons.inj h3.2
  simp only at h1 h2 h3 h4
  rw [h1.1, h2.1, h3.1, h4.1]
theorem lkK_inj {x y : Lk} (h : lkK x = lkK y) : x = y := by
  have h1 : (itL x).map nkI = (itL y).map nkI := NestedKey.tup.inj h
  have h2 := List.cons.inj h1
  have h3 := List.cons.inj h2.2
  have e1 := nkI_inj h2.1
  have e2 := nkI_inj h3.1
  refine flL_inj ?_
  have e3 : ([x.1.1, x.1.2] : List Int) = [y.1.1, y.1.2] := Sum.inr.inj e1
  have e4 : ([x.2.1, x.2.2] : List Int) = [y.2.1, y.2.2] := Sum.inr.inj e2
  show [x.1.1, x.1.2] ++ [x.2.1, x.2.2] = [y.1.1, y.1.2] ++ [y.2.1, y.2.2]
  rw [e3, e4]
theorem lkK_depth (l : Lk) : (lkK l).depth ≤ 8 := by
  simp [lkK, nkK, itL, nkI, NestedKey.depth, NestedKey.depthAll]
/-! ### sorted -/
def ltL (x y : Lk) : Bool := lexI (flL x) (flL y)
abbrev SortedL (l : List Lk) : Prop := l.Pairwise fun x y => ltL y x = false
def insL (x : Lk) : List Lk → List Lk
  | [] => [x]
  | y :: ys => if ltL y x then y :: insL x ys else x :: y :: ys
def srt : List Lk → List Lk
  | [] => []
  | x :: xs => insL x (srt xs)
theorem insL_perm (x : Lk) : ∀ ys : List Lk, (insL x ys).Perm (x :: ys)
  | [] => List.Perm.refl _
  | y :: ys => by
    unfold insL
    split
    · exact ((insL_perm x ys).cons y).trans (List.Perm.swap x y ys)
    · exact List.Perm.refl _
theorem srt_perm : ∀ ls : List Lk, (srt ls).Perm ls
  | [] => List.Perm.refl _
  | x :: xs => (insL_perm x (srt xs)).trans ((srt_perm xs).cons x)
theorem insL_sorted (x : Lk) : ∀ ys : List Lk, SortedL ys → SortedL (insL x ys)
  | [], _ => List.pairwise_singleton _ _
  | y :: ys, h => by
    have h1 := List.pairwise_cons.mp h
    unfold insL
    by_cases hc : ltL y x = true
    · rw [if_pos hc]
      refine List.pairwise_cons.mpr ⟨fun z hz => ?_, insL_sorted x ys h1.2⟩
      rcases List.mem_cons.mp ((insL_perm x ys).mem_iff.mp hz) with rfl | hz
      · exact lexI_asym _ _ hc
      · exact h1.1 z hz
    · rw [if_neg hc]
      have hc' : ltL y x = false := by
        cases q : ltL y x with
        | true => exact absurd q hc
        | false => rfl
      refine List.pairwise_cons.mpr ⟨fun z hz => ?_, h⟩
      rcases List.mem_cons.mp hz with rfl | hz
      · exact hc'
      · exact lexI_tr _ _ _ hc' (h1.1 z hz)
theorem srt_sorted : ∀ ls : List Lk, SortedL (srt ls)
  | [] => List.Pairwise.nil
  | x :: xs => insL_sorted x _ (srt_sorted xs)
theorem sorted_uniq : ∀ {l m : List Lk}, l.Perm m → SortedL l → SortedL m → l = m
  | [], m, p, _, _ => (List.Perm.eq_nil p.symm).symm
  | x :: l, [], p, _, _ => absurd p.length_eq (by simp)
  | x :: l, y :: m, p, hl, hm => by
    have h1 := List.pairwise_cons.mp hl
    have h2 := List.pairwise_cons.mp hm
    have e : x = y := by
      rcases List.mem_cons.mp (p.mem_iff.mp List.mem_cons_self) with e | hx
      · exact e
      · rcases List.mem_cons.mp (p.mem_iff.mpr List.mem_cons_self) with e | hy
        · exact e.symm
        · exact flL_inj (lexI_total _ _ (h2.1 x hx) (h1.1 y hy))
    subst e
    rw [sorted_uniq p.cons_inv h1.2 h2.2]
theorem srt_uniq {l ls : List Lk} (p : l.Perm ls) (h : SortedL l) : l = srt ls := sorted_uniq (p.trans (srt_perm ls).symm) h (srt_sorted ls)
theorem srt_filter (p : Lk → Bool) (ls : List Lk) : (srt ls).filter p = srt (ls.filter p) := srt_uniq ((srt_perm ls).filter p) ((srt_sorted ls).filter p)
theorem mem_srt {ls : List Lk} {l : Lk} : l ∈ srt ls ↔ l ∈ ls := (srt_perm ls).mem_iff
/-! ### where they stand -/
theorem nk_link {H : Hp} {l : Lk} {a : Addr} (h : NK H (lkK l) (.ref a)) : ∃ p q, H a = some (.tup [.ref p, .ref q]) ∧ H p = some (.tup [.int l.1.1, .int l.1.2]) ∧ H q = some (.tup [.int l.2.1, .int l.2.2]) := by
  have end_ : ∀ {x y : Int} {v : V}, NK H (nkI (.inr [x, y])) v → ∃ p, v = .ref p ∧ H p = some (.tup [.int x, .int y]) := by
    intro x y v h
    cases h with
    | tup e hs =>
      cases hs with
      | cons h1 h2 =>
        cases h2 with
        | cons h2 h3 =>
          cases h3
          cases h1
          cases h2
          exact ⟨_, rfl, e⟩
  cases h with
  | tup e hs =>
    cases hs with
    | cons h1 h2 =>
      cases h2 with
      | cons h2 h3 =>
        cases h3
        obtain ⟨p, rfl, hp⟩ := end_ h1
        obtain ⟨q, rfl, hq⟩ := end_ h2
        exact ⟨p, q, e, hp, hq⟩
theorem nk_end {H : Hp} {p : Addr} {x y : Int} (h : H p = some (.tup [.int x, .int y])) : NK H (nkI (.inr [x, y])) (.ref p) := .tup h (.cons (.int x) (.cons (.int y) .nil))
theorem nk_mk {H : Hp} {l : Lk} {a p q : Addr} (h : H a = some (.tup [.ref p, .ref q])) (hp : H p = some (.tup [.int l.1.1, .int l.1.2])) (hq : H q = some (.tup [.int l.2.1, .int l.2.2])) : NK H (lkK l) (.ref a) := .tup h (.cons (nk_end hp) (.cons (nk_end hq) .nil))
/-- a list of links -/
abbrev LkL (H : Hp) (vs : List V) (ls : List Lk) : Prop := Paired (fun v l => ∃ a, v = V.ref a ∧ NK H (lkK l) (.ref a)) vs ls
theorem LkL.mono {H H' : Hp} (e : ∀ p xs, H p = some (.tup xs) → H' p = some (.tup xs)) {vs : List V} {ls : List Lk} (h : LkL H vs ls) : LkL H' vs ls := Paired.mapP h fun _ _ ⟨a, e1, e2⟩ => ⟨a, e1, e2.mono e⟩
theorem LkL.same {H H' : Hp} (e : Same H H') {vs : List V} {ls : List Lk} (h : LkL H vs ls) : LkL H' vs ls := h.mono fun _ _ => e _ _
theorem LkL.len {H : Hp} {vs : List V} {ls : List Lk} (h : LkL H vs ls) : vs.length = ls.length := Paired.length h
theorem LkL.get {H : Hp} : ∀ {vs : List V} {ls : List Lk} {i : Nat} {v : V}, LkL H vs ls → vs[i]? = some v → ∃ a l, v = .ref a ∧ ls[i]? = some l ∧ NK H (lkK l) (.ref a)
  | _ :: _, l :: _, 0, _, .cons ⟨a, e1, e2⟩ _, e => by
    cases e
    exact ⟨a, l, e1, rfl, e2⟩
  | _ :: _, _ :: _, i + 1, _, .cons _ t, e => LkL.get (i := i) t (by simpa using e)
theorem LkL.app {H : Hp} : ∀ {vs us : List V} {ls ms : List Lk}, LkL H vs ls → LkL H us ms → LkL H (vs ++ us) (ls ++ ms)
  | _, _, _, _, .nil, h => h
  | _, _, _, _, .cons h t, h2 => .cons h (LkL.app t h2)
theorem LkL.snoc {H : Hp} {vs : List V} {ls : List Lk} {a : Addr} {l : Lk} (h : LkL H vs ls) (hk : NK H (lkK l) (.ref a)) : LkL H (vs ++ [.ref a]) (ls ++ [l]) := h.app (.cons ⟨a, rfl, hk⟩ .nil)
theorem LkL.ima {K : PySem.W.Frag} {H : Hp} : ∀ {vs : List V} {ls : List Lk}, LkL H vs ls → ImAll K H vs (ls.map fun l => (lkK l).data)
  | _, _, .nil => .nil
  | _, _, .cons ⟨a, e1, e2⟩ t => by
    subst e1
    exact .cons e2.im (LkL.ima t)
theorem paired_perm {α β : Type} {R : α → β → Prop} : ∀ {xs ys : List α}, ys.Perm xs → ∀ {ls : List β}, Paired R xs ls → ∃ ms, ms.Perm ls ∧ Paired R ys ms := by
  intro xs ys p
  induction p with
  | nil => exact fun h => ⟨_, List.Perm.refl _, h⟩
  | cons x _ ih =>
    intro ls h
    cases h with
    | cons h1 h2 =>
      obtain ⟨ms, p1, p2⟩ := ih h2
      exact ⟨_, p1.cons _, .cons h1 p2⟩
  | swap x y l =>
    intro ls h
    cases h with
    | cons h1 h2 =>
      cases h2 with
      | cons h2 h3 => exact ⟨_, List.Perm.swap _ _ _, .cons h2 (.cons h1 h3)⟩
  | trans _ _ ih1 ih2 =>
    intro ls h
    obtain ⟨ms, p1, p2⟩ := ih2 h
    obtain ⟨ns, p3, p4⟩ := ih1 p2
    exact ⟨ns, p3.trans p1, p4⟩
/-- the items of what stands there -/
noncomputable def itK (H : Hp) (v : V) : List Itm := Classical.epsilon fun ks => NK H (nkK ks) v
theorem nkK_inj {x y : List Itm} (h : nkK x = nkK y) : x = y := by
  have h1 : x.map nkI = y.map nkI := NestedKey.tup.inj h
  clear h
  induction x generalizing y with
  | nil =>
    cases y with
    | nil => rfl
    | cons _ _ => cases h1
  | cons a x ih =>
    cases y with
    | nil => cases h1
    | cons b y =>
      have h2 := List.cons.inj h1
      rw [nkI_inj h2.1, ih h2.2]
theorem itK_eq {H : Hp} {ks : List Itm} {v : V} (h : NK H (nkK ks) v) : itK H v = ks := by
  have h2 : NK H (nkK (itK H v)) v := Classical.epsilon_spec (p := fun ks => NK H (nkK ks) v) ⟨ks, h⟩
  exact nkK_inj (h2.inj h)
theorem srtd_links {H : Hp} : ∀ {ys : List V} {ls : List Lk}, LkL H ys ls → SrtO.Srtd (ltK (itK H)) ys → SortedL ls
  | _, _, .nil, _ => List.Pairwise.nil
  | _, _, .cons (a := v) (b := l) ⟨a, e1, e2⟩ t, h => by
    have h1 := List.pairwise_cons.mp h
    refine List.pairwise_cons.mpr ⟨fun m hm => ?_, srtd_links t h1.2⟩
    have key : ∀ {vs : List V} {ms : List Lk}, LkL H vs ms → (∀ u ∈ vs, ltK (itK H) u v = false) → ∀ m ∈ ms, ltL m l = false := by
      intro vs ms hL
      induction hL with
      | nil => exact fun _ m hm => nomatch hm
      | cons hx _ ih =>
        obtain ⟨b, g1, g2⟩ := hx
        intro hu m hm
        rcases List.mem_cons.mp hm with rfl | hm
        · have := hu _ List.mem_cons_self
          unfold ltK at this
          rw [g1, e1, itK_eq (ks := itL m) g2, itK_eq (ks := itL l) e2, flK_it, flK_it] at this
          exact this
        · exact ih (fun u hu' => hu u (List.mem_cons_of_mem _ hu')) m hm
    exact key t h1.1 m hm
/-- data of links can be compared -/
theorem lk_data (l : Lk) : (lkK l).data = .tuple [.tuple [.int l.1.1, .int l.1.2], .tuple [.int l.2.1, .int l.2.2]] := by simp [lkK, nkK, itL, nkI, NestedKey.data, NestedKey.datas]
theorem lk_ok {ls : List Lk} : ∀ d ∈ ls.map (fun l => (lkK l).data), d.canLay0 = true ∧ d.depth ≤ 60 := fun d hd => by
  obtain ⟨l, _, rfl⟩ := List.mem_map.mp hd
  rw [lk_data]
  constructor
  · simp [PyData.canLay0, PyData.canLayAll0]
  · simp [PyData.depth, PyData.depthAll]
theorem eqv_end {x y : E2} : PyData.eqv (.tuple [.int x.1, .int x.2]) (.tuple [.int y.1, .int y.2]) = decide (x = y) := by
  have e : PyData.eqv (.tuple [.int x.1, .int x.2]) (.tuple [.int y.1, .int y.2]) = ((x.1 == y.1) && ((x.2 == y.2) && true)) := by simp only [PyData.eqv, PyData.eqvAll]
  rw [e, Bool.and_true]
  by_cases h : x = y
  · rw [decide_eq_true h, h]
    simp
  · rw [decide_eq_false h]
    cases q : (x.1 == y.1) && (x.2 == y.2) with
    | false => rfl
    | true =>
      rw [Bool.and_eq_true] at q
      exact absurd (Prod.ext (by simpa using q.1) (by simpa using q.2)) h
theorem eqv_link {x y : Lk} : PyData.eqv (lkK x).data (lkK y).data = decide (x = y) := by
  rw [lk_data, lk_data]
  have e : PyData.eqv (.tuple [.tuple [.int x.1.1, .int x.1.2], .tuple [.int x.2.1, .int x.2.2]]) (.tuple [.tuple [.int y.1.1, .int y.1.2], .tuple [.int y.2.1, .int y.2.2]]) = (PyData.eqv (.tuple [.int x.1.1, .int x.1.2]) (.tuple [.int y.1.1, .int y.1.2]) && (PyData.eqv (.tuple [.int x.2.1, .int x.2.2]) (.tuple [.int y.2.1, .int y.2.2]) && true)) := by simp only [PyData.eqv, PyData.eqvAll]
  rw [e, eqv_end, eqv_end, Bool.and_true]
  by_cases h : x = y
  · rw [decide_eq_true h, h]
    simp
  · rw [decide_eq_false h]
    cases q : decide (x.1 = y.1) && decide (x.2 = y.2) with
    | false => rfl
    | true =>
      rw [Bool.and_eq_true, decide_eq_true_eq, decide_eq_true_eq] at q
      exact absurd (Prod.ext q.1 q.2) h
/-! ### dicts by links -/
abbrev Mp := List (Lk × Int)
/-- the entries at B's tuples are M's -/
abbrev EntM (B : Hp) (es : List Ent) (M : Mp) : Prop := Paired (fun e x => e.1 = lkK x.1 ∧ e.2.2 = V.int x.2 ∧ NK B (lkK x.1) (.ref e.2.1)) es M
def keysM (M : Mp) : List Lk := M.map (·.1)
def valM (M : Mp) (l : Lk) : Option Int := (M.find? fun x => decide (x.1 = l)).map (·.2)
def dropM (M : Mp) (ls : List Lk) : Mp := M.filter fun x => decide (x.1 ∉ ls)
def putM (M : Mp) (l : Lk) (n : Int) : Mp := if (valM M l).isSome then M.map (fun x => if x.1 = l then (x.1, n) else x) else M ++ [(l, n)]
def has (e : E2) (l : Lk) : Bool := decide (l.1 = e) || decide (l.2 = e)
def atM (M : Mp) (e : E2) : List Lk := (srt (keysM M)).filter (has e)
theorem EntM.mono {B B' : Hp} (e : ∀ p xs, B p = some (.tup xs) → B' p = some (.tup xs)) {es : List Ent} {M : Mp} (h : EntM B es M) : EntM B' es M := Paired.mapP h fun _ _ ⟨h1, h2, h3⟩ => ⟨h1, h2, h3.mono e⟩
theorem EntM.same {B B' : Hp} (e : Same B B') {es : List Ent} {M : Mp} (h : EntM B es M) : EntM B' es M := h.mono fun _ _ => e _ _
theorem EntM.ok {B : Hp} {es : List Ent} {M : Mp} (h : EntM B es M) : EntsOk B es := by
  induction h with
  | nil => exact EntsOk.nil
  | cons h _ ih =>
    intro e he
    rcases List.mem_cons.mp he with rfl | he
    · rw [h.1]
      exact ⟨h.2.2, lkK_depth _⟩
    · exact ih e he
theorem EntM.len {B : Hp} {es : List Ent} {M : Mp} (h : EntM B es M) : es.length = M.length := Paired.length h
theorem EntM.at {B : Hp} {es : List Ent} {M : Mp} (h : EntM B es M) (l : Lk) : atN es (lkK l) = (valM M l).map V.int := by
  induction h with
  | nil => rfl
  | @cons e x es xs h _ ih =>
    unfold atN valM at ih ⊢
    rw [List.find?_cons, List.find?_cons, h.1]
    by_cases hc : x.1 = l
    · rw [decide_eq_true hc, decide_eq_true (by rw [hc])]
      show some e.2.2 = some (V.int x.2)
      rw [h.2.1]
    · rw [decide_eq_false hc, decide_eq_false (fun z => hc (lkK_inj z))]
      exact ih
theorem entM_map {B : Hp} {l : Lk} {n : Int} : ∀ {es : List Ent} {M : Mp}, EntM B es M → EntM B (es.map fun e => if e.1 = lkK l then (e.1, e.2.1, V.int n) else e) (M.map fun x => if x.1 = l then (x.1, n) else x)
  | _, _, .nil => .nil
  | e :: es, x :: xs, .cons h t => by
    refine .cons ?_ (entM_map t)
    by_cases hc : x.1 = l
    · have hc2 : e.1 = lkK l := by rw [h.1, hc]
      simp only [if_pos hc2, if_pos hc]
      exact ⟨h.1, trivial, h.2.2⟩
    · have hc2 : ¬ e.1 = lkK l := fun z => hc (lkK_inj (h.1.symm.trans z))
      simp only [if_neg hc2, if_neg hc]
      exact h
theorem paired_app {α β : Type} {R : α → β → Prop} : ∀ {xs us : List α} {ys ws : List β}, Paired R xs ys → Paired R us ws → Paired R (xs ++ us) (ys ++ ws)
  | _, _, _, _, .nil, h => h
  | _, _, _, _, .cons h t, h2 => .cons h (paired_app t h2)
theorem EntM.put {B : Hp} {es : List Ent} {M : Mp} (h : EntM B es M) {l : Lk} {b : Addr} (n : Int) (hk : NK B (lkK l) (.ref b)) : EntM B (putN es (lkK l) b (.int n)) (putM M l n) := by
  unfold putN putM
  rw [h.at l, Option.isSome_map]
  by_cases hc : (valM M l).isSome = true
  · rw [if_pos hc, if_pos hc]
    exact entM_map h
  · rw [if_neg hc, if_neg hc]
    exact paired_app h (.cons ⟨rfl, rfl, hk⟩ .nil)
theorem EntM.drop {B : Hp} {l : Lk} : ∀ {es : List Ent} {M : Mp}, EntM B es M → EntM B (dropN es (lkK l)) (dropM M [l])
  | _, _, .nil => .nil
  | e :: es, x :: xs, .cons h t => by
    unfold dropN dropM
    rw [List.filter_cons, List.filter_cons]
    by_cases hc : x.1 = l
    · have e1 : decide (e.1 ≠ lkK l) = false := decide_eq_false (fun z => z (by rw [h.1, hc]))
      have e2 : decide (x.1 ∉ [l]) = false := decide_eq_false (fun z => z (by rw [hc]; exact List.mem_cons_self))
      rw [e1, e2]
      exact EntM.drop t
    · have e1 : decide (e.1 ≠ lkK l) = true := decide_eq_true (fun z => hc (lkK_inj (h.1.symm.trans z)))
      have e2 : decide (x.1 ∉ [l]) = true := decide_eq_true (fun z => hc (List.mem_singleton.mp z))
      rw [e1, e2]
      exact .cons h (EntM.drop t)
theorem EntM.lkl {B : Hp} : ∀ {es : List Ent} {M : Mp}, EntM B es M → LkL B (es.map fun e => V.ref e.2.1) (keysM M)
  | _, _, .nil => .nil
  | _, _, .cons h t => .cons ⟨_, rfl, h.2.2⟩ (EntM.lkl t)
/-! ### their steps -/
section
variable {w : World} {σ : St} {H B : Hp} {Q : VK} {D : Ends} {td ty tv : TE} {L L' : List (Addr × HO)} {es : List Ent} {M : Mp} {l : Lk} {d b : Addr} {n : Int}
theorem w_nget (q : td σ H fun x H1 => ty σ H1 fun y H2 => rNGet w x y H2 Q) : tNGet w td ty σ H Q := q
theorem w_nin (q : ty σ H fun y H1 => td σ H1 fun x H2 => rNIn w x y H2 fun b => Q (.bl b) H2) : tNIn w ty td σ H Q := q
theorem w_nnot (q : ty σ H fun y H1 => td σ H1 fun x H2 => rNIn w x y H2 fun b => Q (.bl (!b)) H2) : tNNot w ty td σ H Q := q
theorem w_nput (q : tv σ H fun v H1 => td σ H1 fun x H2 => ty σ H2 fun y H3 => rNPut w x y v H3 fun H4 => D.nx σ H4) : sNPut w td ty tv D σ H := q
theorem w_ndel (q : td σ H fun x H1 => ty σ H1 fun y H2 => rNDel w x y H2 fun _ H3 => D.nx σ H3) : sNDel w td ty D σ H := q
theorem w_npop (q : td σ H fun x H1 => (∃ a es, x = .ref a ∧ H1 a = some (DN w a es)) ∧ ty σ H1 fun y H2 => rNDel w x y H2 Q) : tNPop w td ty σ H Q := q
theorem w_nnew (hs : Hs B L H) (q : ∀ p H', Hs B ((p, DN w p []) :: L) H' → Q (.ref p) H') : tNNew w σ H Q := fun p hp => q p _ (hs.new hp)
theorem atN_of (h : H d = some (DN w d es)) (e : EntM H es M) (hk : NK H (lkK l) (.ref b)) : AtN w H (.ref d) (.ref b) d b es (lkK l) := ⟨rfl, rfl, h, e.ok, hk, lkK_depth l⟩
theorem wn_get (hs : Hs B L H) (h : H d = some (DN w d es)) (e : EntM B es M) (hk : NK B (lkK l) (.ref b)) (hv : valM M l = some n) (q : Q (.int n) H) : rNGet w (.ref d) (.ref b) H Q :=
  ⟨d, b, es, lkK l, .int n, atN_of h (e.same hs.same) (hk.same hs.same), by rw [e.at l, hv]; rfl, q⟩
theorem wn_in {R : Bool → Prop} (hs : Hs B L H) (h : H d = some (DN w d es)) (e : EntM B es M) (hk : NK B (lkK l) (.ref b)) (q : R (valM M l).isSome) : rNIn w (.ref d) (.ref b) H R :=
  ⟨d, b, es, lkK l, atN_of h (e.same hs.same) (hk.same hs.same), by rw [e.at l, Option.isSome_map]; exact q⟩
theorem wn_put {R : Hp → Prop} (hs : Hs B L H) (h : Put L d (DN w d es) (DN w d (putN es (lkK l) b (.int n))) L') (e : EntM B es M) (hk : NK B (lkK l) (.ref b)) (hl : M.length ≤ 1000) (q : ∀ H', Hs B L' H' → EntM B (putN es (lkK l) b (.int n)) (putM M l n) → R H') : rNPut w (.ref d) (.ref b) (.int n) H R :=
  ⟨d, b, es, lkK l, atN_of (hs.gets h) (e.same hs.same) (hk.same hs.same), by rw [e.len, sizeLine_eq]; omega, q _ (hs.puts h) (e.put n hk)⟩
theorem wn_del {R : V → Hp → Prop} (hs : Hs B L H) (h : Put L d (DN w d es) (DN w d (dropN es (lkK l))) L') (e : EntM B es M) (hk : NK B (lkK l) (.ref b)) (hv : valM M l = some n) (q : ∀ H', Hs B L' H' → EntM B (dropN es (lkK l)) (dropM M [l]) → R (.int n) H') : rNDel w (.ref d) (.ref b) H R :=
  ⟨d, b, es, lkK l, .int n, atN_of (hs.gets h) (e.same hs.same) (hk.same hs.same), by rw [e.at l, hv]; rfl, q _ (hs.puts h) e.drop⟩
theorem w_sortD (hs : Hs B L H) (h : H d = some (DN w d es)) (e : EntM B es M) (q : ∀ p ys H', LkL B ys (srt (keysM M)) → Hs B ((p, .lst ys) :: L) H' → Q (.ref p) H') : rSortDN w (some 2) [some 2] [.ref d] H Q := by
  have eH := e.same hs.same
  refine ⟨d, es, itK H, rfl, h, fun z hz => ?_, fun ys p h1 h2 hp => ?_⟩
  · have key : ∀ {es : List Ent} {M : Mp}, EntM H es M → ∀ z ∈ es, ∃ l, NK H (lkK l) (.ref z.2.1) := by
      intro es M e
      induction e with
      | nil => exact fun _ hz => nomatch hz
      | cons h _ ih =>
        intro z hz
        rcases List.mem_cons.mp hz with rfl | hz
        · exact ⟨_, h.2.2⟩
        · exact ih z hz
    obtain ⟨l, hl⟩ := key eH z hz
    rw [itK_eq (ks := itL l) hl]
    exact ⟨hl, rfl⟩
  · obtain ⟨ms, p1, p2⟩ := paired_perm h2.perm e.lkl
    have e1 := srt_uniq p1 (srtd_links (LkL.same hs.same p2) h1)
    subst e1
    exact q p ys _ p2 (hs.new hp)
theorem w_ltT {K : PySem.W.Frag} {p q : Addr} {ns ms : List Int} (h1 : H p = some (.tup (ns.map V.int))) (h2 : H q = some (.tup (ms.map V.int))) (k : Q (.bl (lexI ns ms)) H) : rLtT K (.ref p) (.ref q) H Q := ⟨p, q, ns, ms, rfl, rfl, SqT.of h1, SqT.of h2, k⟩
end
def ntQ : HO → Bool
  | .tup _ => false
  | _ => true
/-- what stands aside of our own objects, none a tuple, is the ground: all tuples stand there -/
theorem Hs.ground {B H : Hp} {L : List (Addr × HO)} (hs : Hs B L H) (nt : L.all (fun e => ntQ e.2) = true) : ∃ B1, Same B B1 ∧ Hs B1 L H ∧ ∀ p xs, H p = some (.tup xs) → B1 p = some (.tup xs) := by
  obtain ⟨h1, h2⟩ := hs.rebase
  refine ⟨_, h1, h2, fun p xs e => ?_⟩
  rw [around_out fun m => ?_]
  · exact e
  · obtain ⟨z, hz, rfl⟩ := List.mem_map.mp m
    have h3 := List.all_eq_true.mp nt z hz
    rw [hs.at_ z hz] at e
    rw [Option.some.inj e] at h3
    cases h3
theorem r64 {k : Nat} {A : Around} (r : Room k A) : A.units + 64 < cLine := by
  have := r.un
  omega
theorem r65 {k : Nat} {A : Around} (r : Room k A) : A.units + 65 < cLine := by
  have := r.un
  omega
theorem r0 {k : Nat} {A : Around} (r : Room k A) : A.units < cLine := by
  have := r.un
  omega
abbrev endO (x : E2) : HO := .tup [.int x.1, .int x.2]
theorem shp_end (x : E2) : SeqAt.shaped (.tuple [.int x.1, .int x.2]) = true := by simp [SeqAt.shaped, PyData.canLay0, PyData.canLayAll0, PyData.depth, PyData.depthAll]
theorem dp_end {K : PySem.W.Frag} {H : Hp} {p : Addr} {x : E2} (h : H p = some (endO x)) : Dp K H (.ref p) (.tuple [.int x.1, .int x.2]) := .tup (SqT.of h) (ImAll.cons (.int _) (.cons (.int _) .nil)).dp
theorem w_eqE {K : PySem.W.Frag} {H : Hp} {Q : VK} {p q : Addr} {x y : E2} (h1 : H p = some (endO x)) (h2 : H q = some (endO y)) (k : Q (.bl (decide (x = y))) H) : rEqD K (.ref p) (.ref q) H Q :=
  w_eqD (dp_end h1) (dp_end h2) (shp_end x) (shp_end y) (by rw [eqv_end]; exact k)
/-! ### what holds of the links -/
structure IM (M : Mp) : Prop where
  nd : (keysM M).Nodup
  ok : ∀ l ∈ keysM M, l.1.1 ≠ l.2.1 ∧ lexI [l.1.1, l.1.2] [l.2.1, l.2.2] = true
  dj : ∀ x ∈ keysM M, ∀ y ∈ keysM M, ∀ e : E2, has e x = true → has e y = true → x = y
theorem keys_drop {M : Mp} {ls : List Lk} : keysM (dropM M ls) = (keysM M).filter fun l => decide (l ∉ ls) := by
  unfold keysM dropM
  rw [List.filter_map]
  rfl
theorem mem_keys_drop {M : Mp} {ls : List Lk} {l : Lk} : l ∈ keysM (dropM M ls) ↔ l ∈ keysM M ∧ l ∉ ls := by
  rw [keys_drop, List.mem_filter, decide_eq_true_eq]
theorem IM.nil : IM [] := ⟨List.nodup_nil, (fun _ h => nomatch h), (fun _ h => nomatch h)⟩
theorem IM.drop {M : Mp} (h : IM M) (ls : List Lk) : IM (dropM M ls) := by
  refine ⟨?_, fun l hl => h.ok l (mem_keys_drop.mp hl).1, fun x hx y hy => h.dj x (mem_keys_drop.mp hx).1 y (mem_keys_drop.mp hy).1⟩
  rw [keys_drop]
  exact h.nd.filter _
theorem val_some {M : Mp} {l : Lk} : (valM M l).isSome = true ↔ l ∈ keysM M := by
  unfold valM
  rw [Option.isSome_map, List.find?_isSome]
  constructor
  · rintro ⟨x, hx, e⟩
    exact List.mem_map.mpr ⟨x, hx, of_decide_eq_true e⟩
  · intro h
    obtain ⟨x, hx, e⟩ := List.mem_map.mp h
    exact ⟨x, hx, decide_eq_true e⟩
theorem val_of {M : Mp} {l : Lk} (h : l ∈ keysM M) : ∃ n, valM M l = some n := Option.isSome_iff_exists.mp (val_some.mpr h)
theorem mem_at {M : Mp} {e : E2} {l : Lk} : l ∈ atM M e ↔ l ∈ keysM M ∧ has e l = true := by
  unfold atM
  rw [List.mem_filter, mem_srt]
theorem at_nodup {M : Mp} (h : IM M) (e : E2) : (atM M e).Nodup := ((srt_perm _).nodup_iff.mpr h.nd).filter _
theorem at_one {M : Mp} (h : IM M) (e : E2) : atM M e = [] ∨ ∃ l, atM M e = [l] := by
  have nd := at_nodup h e
  match hm : atM M e with
  | [] => exact .inl rfl
  | [l] => exact .inr ⟨l, rfl⟩
  | x :: y :: r =>
    have hx : x ∈ atM M e := by rw [hm]; exact List.mem_cons_self
    have hy : y ∈ atM M e := by rw [hm]; exact List.mem_cons_of_mem _ List.mem_cons_self
    obtain ⟨x1, x2⟩ := mem_at.mp hx
    obtain ⟨y1, y2⟩ := mem_at.mp hy
    have := h.dj x x1 y y1 e x2 y2
    subst this
    rw [hm] at nd
    exact absurd List.mem_cons_self (List.nodup_cons.mp nd).1
theorem find_at {M : Mp} (e : E2) : (srt (keysM M)).find? (has e) = (atM M e).head? := by
  unfold atM
  rw [List.head?_filter]
theorem at_drop {M : Mp} {ls : List Lk} {e : E2} : atM (dropM M ls) e = (atM M e).filter fun l => decide (l ∉ ls) := by
  unfold atM
  rw [keys_drop, ← srt_filter, List.filter_filter, List.filter_filter]
  congr 1
  funext l
  exact Bool.and_comm _ _
theorem drop_drop {M : Mp} {a b : List Lk} : dropM (dropM M a) b = dropM M (a ++ b) := by
  unfold dropM
  rw [List.filter_filter]
  congr 1
  funext x
  by_cases h1 : x.1 ∈ a <;> by_cases h2 : x.1 ∈ b <;> simp [h1, h2]
theorem drop_nil {M : Mp} : dropM M [] = M := by
  unfold dropM
  rw [List.filter_eq_self]
  exact fun _ _ => decide_eq_true (fun z => nomatch z)
theorem drop_len {M : Mp} {ls : List Lk} : (dropM M ls).length ≤ M.length := List.length_filter_le _ _
/-- the law's list is the program's -/
theorem at_two {M : Mp} {one other : E2} : (atM M one ++ (atM M other).filter fun l => decide (l ∉ atM M one)) = atM M one ++ atM (dropM M (atM M one)) other := by rw [at_drop]
/-- the link of two ends -/
def mkL (x y : E2) : Lk := if lexI [x.1, x.2] [y.1, y.2] = true then (x, y) else (y, x)
theorem lexI_ne {x y : E2} (h : x.1 ≠ y.1) : lexI [x.1, x.2] [y.1, y.2] = decide (x.1 < y.1) := by rw [lexI_cons, if_neg h]
theorem mkL_ok {x y : E2} (h : x.1 ≠ y.1) : (mkL x y).1.1 ≠ (mkL x y).2.1 ∧ lexI [(mkL x y).1.1, (mkL x y).1.2] [(mkL x y).2.1, (mkL x y).2.2] = true := by
  unfold mkL
  by_cases hc : lexI [x.1, x.2] [y.1, y.2] = true
  · rw [if_pos hc]
    exact ⟨h, hc⟩
  · rw [if_neg hc]
    refine ⟨fun z => h z.symm, ?_⟩
    rw [lexI_ne h] at hc
    show lexI [y.1, y.2] [x.1, x.2] = true
    rw [lexI_ne (fun z => h z.symm)]
    have : ¬ x.1 < y.1 := fun z => hc (decide_eq_true z)
    exact decide_eq_true (by omega)
theorem mkL_comm {x y : E2} (h : x.1 ≠ y.1) : mkL x y = mkL y x := by
  unfold mkL
  rw [lexI_ne h, lexI_ne (fun z => h z.symm)]
  by_cases hc : x.1 < y.1
  · rw [if_pos (decide_eq_true hc), if_neg (by rw [decide_eq_true_eq]; omega)]
  · rw [if_neg (by rw [decide_eq_true_eq]; exact hc), if_pos (decide_eq_true (by omega))]
theorem mkL_of {l : Lk} (h : l.1.1 ≠ l.2.1 ∧ lexI [l.1.1, l.1.2] [l.2.1, l.2.2] = true) : mkL l.1 l.2 = l := by
  unfold mkL
  rw [if_pos h.2]
theorem has_mkL {x y e : E2} : has e (mkL x y) = true ↔ e = x ∨ e = y := by
  unfold has mkL
  split
  · rw [Bool.or_eq_true, decide_eq_true_eq, decide_eq_true_eq]
    exact ⟨fun z => z.elim (fun q => .inl q.symm) (fun q => .inr q.symm), fun z => z.elim (fun q => .inl q.symm) (fun q => .inr q.symm)⟩
  · rw [Bool.or_eq_true, decide_eq_true_eq, decide_eq_true_eq]
    exact ⟨fun z => z.elim (fun q => .inr q.symm) (fun q => .inl q.symm), fun z => z.elim (fun q => .inr q.symm) (fun q => .inl q.symm)⟩
theorem keys_put {M : Mp} {l : Lk} {n : Int} : keysM (putM M l n) = if l ∈ keysM M then keysM M else keysM M ++ [l] := by
  unfold putM
  by_cases hc : l ∈ keysM M
  · rw [if_pos (val_some.mpr hc), if_pos hc]
    unfold keysM
    rw [List.map_map]
    refine List.map_congr_left fun x _ => ?_
    show (if x.1 = l then (x.1, n) else x).1 = x.1
    split <;> rfl
  · rw [if_neg (fun z => hc (val_some.mp z)), if_neg hc]
    unfold keysM
    rw [List.map_append]
    rfl
theorem IM.put_old {M : Mp} (h : IM M) {l : Lk} (n : Int) (hl : l ∈ keysM M) : IM (putM M l n) := by
  have e : keysM (putM M l n) = keysM M := by rw [keys_put, if_pos hl]
  exact ⟨by rw [e]; exact h.nd, by rw [e]; exact h.ok, by rw [e]; exact h.dj⟩
/-- a link that is seen, whose ends' links are lost -/
theorem IM.put_new {M : Mp} (h : IM M) {x y : E2} (n : Int) (hxy : x.1 ≠ y.1) (hx : ∀ l ∈ keysM M, has x l = false) (hy : ∀ l ∈ keysM M, has y l = false) : IM (putM M (mkL x y) n) ∧ mkL x y ∉ keysM M := by
  have hn : mkL x y ∉ keysM M := fun z => by
    have h1 : has x (mkL x y) = true := has_mkL.mpr (.inl rfl)
    rw [hx _ z] at h1
    cases h1
  have e : keysM (putM M (mkL x y) n) = keysM M ++ [mkL x y] := by rw [keys_put, if_neg hn]
  have no : ∀ e : E2, has e (mkL x y) = true → ∀ l ∈ keysM M, has e l = false := fun e he l hl => by
    rcases has_mkL.mp he with rfl | rfl
    · exact hx l hl
    · exact hy l hl
  refine ⟨⟨?_, fun l hl => ?_, fun u hu v hv e2 h1 h2 => ?_⟩, hn⟩
  · rw [e, List.nodup_append]
    refine ⟨h.nd, List.pairwise_singleton _ _, fun a ha b hb z => ?_⟩
    rw [List.mem_singleton.mp hb] at z
    subst z
    exact hn ha
  · rw [e] at hl
    rcases List.mem_append.mp hl with m | m
    · exact h.ok l m
    · rw [List.mem_singleton.mp m]
      exact mkL_ok hxy
  · rw [e] at hu hv
    rcases List.mem_append.mp hu with m | m <;> rcases List.mem_append.mp hv with m' | m'
    · exact h.dj u m v m' e2 h1 h2
    · rw [List.mem_singleton.mp m'] at h2 ⊢
      rw [no e2 h2 u m] at h1
      cases h1
    · rw [List.mem_singleton.mp m] at h1 ⊢
      rw [no e2 h1 v m'] at h2
      cases h2
    · rw [List.mem_singleton.mp m, List.mem_singleton.mp m']
theorem at_none {M : Mp} {ls : List Lk} {e : E2} (h : ∀ l ∈ atM M e, l ∈ ls) : ∀ l ∈ keysM (dropM M ls), has e l = false := fun l hl => by
  obtain ⟨h1, h2⟩ := mem_keys_drop.mp hl
  cases q : has e l with
  | false => rfl
  | true => exact absurd (h l (mem_at.mpr ⟨h1, q⟩)) h2
theorem put_len {M : Mp} {l : Lk} {n : Int} : (putM M l n).length ≤ M.length + 1 := by
  unfold putM
  split
  · rw [List.length_map]
    omega
  · rw [List.length_append]
    exact Nat.le_refl _
theorem srt_len {ls : List Lk} : (srt ls).length = ls.length := (srt_perm ls).length_eq
theorem keys_len {M : Mp} : (keysM M).length = M.length := List.length_map _
theorem at_len {M : Mp} {e : E2} : (atM M e).length ≤ M.length := by
  unfold atM
  refine Nat.le_trans (List.length_filter_le _ _) ?_
  rw [srt_len, keys_len]
  exact Nat.le_refl _
/-! ### lists of links, by a test -/
theorem take_filter {α : Type} {ls : List α} {i : Nat} {l : α} {p : α → Bool} (e : ls[i]? = some l) : (ls.take (i + 1)).filter p = (ls.take i).filter p ++ (if p l = true then [l] else []) := by
  rw [List.take_add_one, e, List.filter_append]
  congr 1
  show [l].filter p = _
  rw [List.filter_cons]
  split <;> rfl
theorem w_lcF {K : PySem.W.Frag} {σ : St} {H B : Hp} {Q : VK} {tl : TE} {a : Addr} {tt : TT} {us : List V} {ls : List Lk} {i : Nat} (p : Lk → Bool) (hx : SqL K H a us) (hL : LkL B us ls) (hz : us.length ≤ 1000) (htl : ∀ Q : VK, Q (.ref a) H → tl σ H Q)
    (hw : ∀ x, wipe ((wipe σ [i]).set i (some x)) [i] = wipe σ [i]) (hv : ∀ x, ((wipe σ [i]).set i (some x))[i]? = some (some x))
    (ht : ∀ t l H1, l ∈ ls → NK B (lkK l) (.ref t) → Same H H1 → ∀ R : Bool → Hp → Prop, (∀ H2, Same H1 H2 → R (p l) H2) → tt ((wipe σ [i]).set i (some (.ref t))) H1 R)
    (hq : ∀ D acc H', Hs H [(D, .lst acc)] H' → LkL B acc (ls.filter p) → Q (.ref D) H') : tLc (iList K tl) (gName i) tt (tVar i) [i] σ H Q := by
  refine w_lc hx (fun D j H' => ∃ acc, Hs H [(D, .lst acc)] H' ∧ LkL B acc ((ls.take j).filter p)) htl (fun D hD => ⟨[], (Hs.start H).new hD, .nil⟩) (fun D j H' _ ⟨_, h, _⟩ => h.same.seq hx) ?_ ?_
  · rintro D j x H' hj ⟨acc, h1, h2⟩
    obtain ⟨t, l, rfl, hl, hk⟩ := LkL.get hL hj
    refine ⟨hw _, ht t l H' (List.mem_of_getElem? hl) hk h1.same _ fun H2 sb => ?_⟩
    have hlen := LkL.len h2
    have hj2 := (List.getElem?_eq_some_iff.mp hl).1
    have hll := LkL.len hL
    have h3 : Hs H [(D, .lst acc)] H2 := ⟨h1.same.trans sb, h1.nd, h1.out, fun e he => sb _ _ (h1.at_ e he)⟩
    have e1 := take_filter (p := p) hl
    by_cases hp : p l = true
    · rw [if_pos hp]
      rw [if_pos hp] at e1
      refine ⟨_, hv _, acc, h3.g0, ?_, acc ++ [.ref t], h3.p0 _, ?_⟩
      · refine szl ?_
        have := List.length_filter_le p (ls.take j)
        rw [List.length_take] at this
        omega
      · rw [e1]
        exact h2.snoc hk
    · rw [if_neg hp]
      rw [if_neg hp, List.append_nil] at e1
      refine ⟨acc, h3, ?_⟩
      rw [e1]
      exact h2
  · rintro D H' ⟨acc, h1, h2⟩
    rw [LkL.len hL, List.take_length] at h2
    exact hq D acc H' h1 h2
/-- what is walked first, then the walk -/
theorem w_lcS {K : PySem.W.Frag} {σ : St} {H : Hp} {Q : VK} {tl : TE} {g : TG} {tt : TT} {te : TE} {vs : List Nat} (q : tl σ H fun v H1 => tLc (iList K (tC v)) g tt te vs σ H1 Q) : tLc (iList K tl) g tt te vs σ H Q := q
theorem w_forS {K : PySem.W.Frag} {σ : St} {H : Hp} {D : Ends} {tl : TE} {g : TG} {tb : TS} (q : tl σ H fun v H1 => tFor (iList K (tC v)) g tb D σ H1) : tFor (iList K tl) g tb D σ H := q
theorem w_isL {K : PySem.W.Frag} {H : Hp} {Q : VK} {p : Addr} {xs : List V} (h : H p = some (.lst xs)) (k : Q (.bl true) H) : rIsi K [.ref p, .ty "list"] H Q :=
  ⟨_, _, _, _, true, rfl, .ty "list", .base (.lst h), kit_ty (by decide +kernel), k⟩
end Hb

set_option Elab.async false
set_option linter.all false
set_option maxRecDepth 100000
set_option maxHeartbeats 4000000
/-! Sets whose elements are tuples of a kind of keys (nested tuples: KE's nestedKind), kept in the model's own table. -/
namespace Hb
open PySem L2 PyProof.Rows

section
variable {P : Program} {w : World} {κ : Type} [DecidableEq κ]
/-- what the model asks of an element besides its hash and its == -/
structure Els (knd : HeapKind P w κ) : Prop where
  ofA : ∀ {A : Around} {E : Value → Shared → Prop} {s : Shared} {k : κ} {b : Addr} {Q : Bool → Shared → Prop}, knd.is s.heap k b → Q false s → wpAny (model P w) A (ofAClassStatement 8 (.ref b)) Q E s
  byV : ∀ {A : Around} {E : Value → Shared → Prop} {s : Shared} {k : κ} {b : Addr} {Q : Bool → Shared → Prop}, knd.is s.heap k b → Q true s → wpAny (model P w) A (hashByValue 8 (.ref b)) Q E s
  stay : ∀ {h h' : Heap} {k : κ} {b d : Addr} {o : Obj} {es : Array (Int × Value)} {ep : Nat} {t : SetTable}, knd.is h k b → h.get? d = some o → o.data = .set es ep t → Heap.SameBut d h h' → knd.is h' k b
  grow : ∀ {h h' : Heap} {k : κ} {b : Addr}, knd.is h k b → (∀ c o, h.get? c = some o → h'.get? c = some o) → knd.is h' k b
end

/-! ### nested tuples are such elements -/
section
variable {P : Program} {w : World}
def NoCls (P : Program) (w : World) (n : Nat) (s : Shared) (v : Value) : Prop := ∀ (A : Around) (E : Value → Shared → Prop) (Q : Bool → Shared → Prop), Q false s → wpAny (model P w) A (ofAClassStatement n v) Q E s
def ByVal (P : Program) (w : World) (n : Nat) (s : Shared) (v : Value) : Prop := ∀ (A : Around) (E : Value → Shared → Prop) (Q : Bool → Shared → Prop), Q true s → wpAny (model P w) A (hashByValue n v) Q E s
theorem NoCls.pure {n : Nat} {s : Shared} {v : Value} (h : ofAClassStatement n v = Pure.pure false) : NoCls P w n s v := fun A E Q q => by
  rw [h]
  exact wpAny_pure q
theorem ByVal.pure {n : Nat} {s : Shared} {v : Value} (h : hashByValue n v = Pure.pure true) : ByVal P w n s v := fun A E Q q => by
  rw [h]
  exact wpAny_pure q
theorem NoCls.tup {n m : Nat} {s : Shared} {a : Addr} {o : Obj} {vs : Array Value} (ho : s.heap.get? a = some o) (hc : o.cls = .type "tuple") (hd : o.data = .seq vs m) (hv : ∀ v ∈ vs.toList, NoCls P w n s v) : NoCls P w (n + 1) s (.ref a) := fun A E Q q => by
  have hT : s.TypeIs (.ref a) "tuple" := ⟨o, ho, hc⟩
  unfold ofAClassStatement
  refine wpAny_bind (wpAny_typeOf hT ?_)
  dsimp only
  have e : (("tuple" : String) == "tuple") = true := by decide
  simp only [e, if_true, Bool.not_true, Bool.false_eq_true, if_false]
  try refine wpAny_bind (wpAny_pure ?_)
  try simp only [Bool.not_true, Bool.false_eq_true, if_false]
  show wpAny _ _ (seqItems? (.ref a) >>= _) _ _ s
  refine wpAny_bind (wpAny_seqItems ho hd ?_)
  dsimp only
  refine wpAny_bind ?_
  show wpAny _ _ (forIn vs _ _) _ _ s
  rw [← Array.forIn_toList]
  refine wpAny_forIn_list _ (fun rest r s' => r.1 = none ∧ s' = s ∧ ∀ v ∈ rest, NoCls P w n s v) _ ?_ ?_ _ _ ⟨rfl, rfl, hv⟩
  · rintro v rest r s' ⟨_, rfl, all⟩
    refine wpAny_bind (all v List.mem_cons_self _ _ _ ?_)
    simp only [Bool.false_eq_true, if_false]
    exact wpAny_pure ⟨rfl, rfl, fun u hu => all u (List.mem_cons_of_mem _ hu)⟩
  · rintro ⟨r1, r2⟩ s' ⟨hr, rfl, _⟩
    simp only at hr
    subst hr
    exact wpAny_pure q
theorem ByVal.tup {n m : Nat} {s : Shared} {a : Addr} {o : Obj} {vs : Array Value} (ho : s.heap.get? a = some o) (hc : o.cls = .type "tuple") (hd : o.data = .seq vs m) (hv : ∀ v ∈ vs.toList, ByVal P w n s v) : ByVal P w (n + 1) s (.ref a) := fun A E Q q => by
  have hT : s.TypeIs (.ref a) "tuple" := ⟨o, ho, hc⟩
  unfold hashByValue
  refine wpAny_bind (wpAny_specialOf hT F.slot_tuple_hash.lookup ?_)
  show wpAny _ _ (seqItems? (.ref a) >>= _) _ _ s
  refine wpAny_bind (wpAny_seqItems ho hd ?_)
  refine wpAny_bind ?_
  show wpAny _ _ (forIn vs _ _) _ _ s
  rw [← Array.forIn_toList]
  refine wpAny_forIn_list _ (fun rest r s' => r.1 = none ∧ s' = s ∧ ∀ v ∈ rest, ByVal P w n s v) _ ?_ ?_ _ _ ⟨rfl, rfl, hv⟩
  · rintro v rest r s' ⟨_, rfl, all⟩
    refine wpAny_bind (all v List.mem_cons_self _ _ _ ?_)
    simp only [Bool.not_true, Bool.false_eq_true, if_false]
    exact wpAny_pure ⟨rfl, rfl, fun u hu => all u (List.mem_cons_of_mem _ hu)⟩
  · rintro ⟨r1, r2⟩ s' ⟨hr, rfl, _⟩
    simp only at hr
    subst hr
    exact wpAny_pure q
theorem scal_ofA {v : Value} (h : v.onHeap = false) (n : Nat) (hv : v = .none ∨ (∃ b, v = .bool b) ∨ (∃ i t, v = .int i t) ∨ ∃ x t, v = .str x t) : ofAClassStatement n v = Pure.pure false := by
  rcases hv with rfl | ⟨b, rfl⟩ | ⟨i, t, rfl⟩ | ⟨x, t, rfl⟩ <;> cases n <;> rfl
theorem scal_byV {v : Value} (n : Nat) (hv : v = .none ∨ (∃ b, v = .bool b) ∨ (∃ i t, v = .int i t)) : hashByValue n v = Pure.pure true := by
  rcases hv with rfl | ⟨b, rfl⟩ | ⟨i, t, rfl⟩ <;> cases n <;> rfl
mutual
/-- no text is in it: its hash hangs on its value alone -/
def noTx : NestedKey → Bool
  | .none => true
  | .num _ => true
  | .text _ => false
  | .tup ks => noTxs ks
def noTxs : List NestedKey → Bool
  | [] => true
  | k :: ks => noTx k && noTxs ks
end
mutual
theorem nested_els : ∀ (k : NestedKey) (v : Value) (n : Nat) (s : Shared), NestedIs s.heap k v → k.depth ≤ n → noTx k = true → NoCls P w n s v ∧ ByVal P w n s v
  | .none, _, n, s, x, _, _ => by
    cases x
    exact ⟨.pure (scal_ofA rfl n (.inl rfl)), .pure (scal_byV n (.inl rfl))⟩
  | .num i, _, n, s, x, _, _ => by
    cases x with
    | bool e => exact ⟨.pure (scal_ofA rfl n (.inr (.inl ⟨_, rfl⟩))), .pure (scal_byV n (.inr (.inl ⟨_, rfl⟩)))⟩
    | int _ t => exact ⟨.pure (scal_ofA rfl n (.inr (.inr (.inl ⟨_, _, rfl⟩)))), .pure (scal_byV n (.inr (.inr ⟨_, _, rfl⟩)))⟩
  | .text y, _, n, s, x, _, h => by
    simp only [noTx, Bool.false_eq_true] at h
  | .tup ks, _, n, s, x, hn, h => by
    cases x with
    | tup hg hc hd hk =>
      simp only [NestedKey.depth] at hn
      simp only [noTx] at h
      cases n with
      | zero => omega
      | succ n =>
        have all := nested_elss ks _ n s hk (by omega) h
        exact ⟨.tup hg hc hd fun v hv => (all v hv).1, .tup hg hc hd fun v hv => (all v hv).2⟩
theorem nested_elss : ∀ (ks : List NestedKey) (vs : List Value) (n : Nat) (s : Shared), NestedAll s.heap ks vs → NestedKey.depthAll ks ≤ n → noTxs ks = true → ∀ v ∈ vs, NoCls P w n s v ∧ ByVal P w n s v
  | [], _, n, s, x, _, _, v, hv => by cases x; cases hv
  | k :: ks, _, n, s, x, hn, h, v, hv => by
    cases x with
    | cons x1 x2 =>
      simp only [NestedKey.depthAll] at hn
      simp only [noTxs, Bool.and_eq_true] at h
      rcases List.mem_cons.mp hv with e | hv
      · rw [e]
        exact nested_els k _ n s x1 (by omega) h.1
      · exact nested_elss ks _ n s x2 (by omega) h.2 v hv
end
/-- the kind of nested tuples without texts -/
def numKind (P : Program) (w : World) : HeapKind P w NestedKey where
  is := fun h k a => (nestedKind P w).is h k a ∧ noTx k = true
  hash := (nestedKind P w).hash
  draws := (nestedKind P w).draws
  room := (nestedKind P w).room
  inj := fun x y => (nestedKind P w).inj x.1 y.1
  keeps := fun x ho hd hs => ⟨(nestedKind P w).keeps x.1 ho hd hs, x.2⟩
  pyHash := fun hr x h => (nestedKind P w).pyHash hr x.1 h
  eqBool := fun hr x y h => (nestedKind P w).eqBool hr x.1 y.1 h
  quiet := fun x h => (nestedKind P w).quiet x.1 h
theorem els_num : Els (numKind P w) where
  ofA := fun {A E s k b Q} h q => (nested_els k _ 8 s h.1.1 h.1.2 h.2).1 A E Q q
  byV := fun {A E s k b Q} h q => (nested_els k _ 8 s h.1.1 h.1.2 h.2).2 A E Q q
  stay := fun {h h' k b d o es ep t} x ho hd hs => ⟨⟨NestedIs.at (fun c oc vs n hc hdc => by
    refine (hs.2 c fun e => ?_).trans hc
    subst e
    rw [ho] at hc
    cases hc
    rw [hd] at hdc
    cases hdc) k _ x.1.1, x.1.2⟩, x.2⟩
  grow := fun x k => ⟨⟨NestedIs.at (fun c o _ _ hc _ => k c o hc) _ _ x.1.1, x.1.2⟩, x.2⟩
end

/-! ### the table -/
section
variable {P : Program} {w : World} {κ : Type} [DecidableEq κ] {knd : HeapKind P w κ} {A : Around} {E : Value → Shared → Prop} {s : Shared}
/-- the elements as the table's rows -/
def rowsK (knd : HeapKind P w κ) (L : List (κ × Addr)) : List (Int × Value) := L.map fun p => (knd.hash p.1, Value.ref p.2)
/-- the set at a, of the elements L (in the table's order) -/
structure SetK (knd : HeapKind P w κ) (h : Heap) (a : Addr) (L : List (κ × Addr)) (es : Array (Int × Value)) (ep : Nat) (t : SetTable) : Prop where
  ob : ∃ o, h.get? a = some o ∧ o.ExactSet ∧ o.data = .set es ep t
  rows : es.toList = rowsK knd L
  tab : TabOk t (L.map fun p => knd.hash p.1)
  nd : (L.map (·.1)).Nodup
  els : ∀ p ∈ L, knd.is h p.1 p.2
  pl : t.plain = true
  led : w.params.followText "set-order" = true ∨ t.led = true
  room : L.length * 5 < t.mask * 3
  few : L.length < 64
variable {a : Addr} {L : List (κ × Addr)} {es : Array (Int × Value)} {ep : Nat} {t : SetTable}
theorem rowsK_size (e : es.toList = rowsK knd L) : es.size = L.length := by
  rw [← Array.length_toList, e]
  exact List.length_map _
theorem rowsK_at (e : es.toList = rowsK knd L) (i : Nat) : es[i]? = (L[i]?).map fun p => (knd.hash p.1, Value.ref p.2) := by
  rw [← Array.getElem?_toList, e]
  exact List.getElem?_map ..
theorem fitsK (T : TabOk t (L.map fun p => knd.hash p.1)) (e : es.toList = rowsK knd L) (hm : L.length ≤ t.mask) : t.fits es.size = true := by
  have h1 : t.place.size = L.length := by
    rw [T.sz]
    exact List.length_map _
  unfold SetTable.fits SetTable.fill
  rw [T.dm, rowsK_size e, Bool.and_eq_true, beq_iff_eq, decide_eq_true_eq]
  exact ⟨h1, by show t.place.size + 0 ≤ t.mask; omega⟩
theorem SetK.fits (R : SetK knd s.heap a L es ep t) : t.fits es.size = true := fitsK R.tab R.rows (by have := R.room; omega)
/-- a search shows nothing of the elements -/
theorem unseenK (el : Els knd) {k : κ} {b : Addr} {Q : Bool → Shared → Prop} (hk : knd.is s.heap k b) {ys : List Value} (hy : ∀ y ∈ ys, ∃ j c, y = Value.ref c ∧ knd.is s.heap j c) (h : Q false s) : wpAny (model P w) A (searchCouldBeSeen (.ref b) ys) Q E s := by
  unfold searchCouldBeSeen
  refine wpAny_bind ?_
  refine wpAny_forIn_list _ (fun rest r s' => r.1 = none ∧ s' = s ∧ ∀ y ∈ rest, y ∈ ys) _ ?_ ?_ _ _ ⟨rfl, rfl, fun _ z => z⟩
  · rintro v rest r s' ⟨_, rfl, sub⟩
    obtain ⟨j, c, rfl, hc⟩ := hy v (sub v List.mem_cons_self)
    have more : ∀ y ∈ rest, y ∈ ys := fun u hu => sub u (List.mem_cons_of_mem _ hu)
    dsimp only
    by_cases hv : (b == c || (carriedByValue (.ref b) && carriedByValue (.ref c))) = true
    · exact wp_if_pos hv (wpAny_pure ⟨rfl, rfl, more⟩)
    · refine wp_if_neg hv (wpAny_bind (knd.quiet hk ?_))
      simp only [Bool.not_true, Bool.false_eq_true, if_false]
      refine wpAny_bind (knd.quiet hc ?_)
      simp only [Bool.not_true, Bool.false_eq_true, if_false]
      refine wpAny_bind (el.ofA hk ?_)
      simp only [Bool.false_eq_true, if_false]
      refine wpAny_bind (el.ofA hc ?_)
      simp only [Bool.false_eq_true, if_false]
      exact wpAny_pure ⟨rfl, rfl, more⟩
  · rintro ⟨r1, r2⟩ s' ⟨hr, rfl, _⟩
    simp only at hr
    subst hr
    exact wpAny_pure h

/-- where a search for the hash h stands behind c steps -/
abbrev stepK (t : SetTable) (h : Int) (c : Nat) : SetTable.Probe := nth t.mask (runAt t.mask (SetTable.bits h % (t.mask + 1)) (SetTable.bits h)) c
theorem stepK_add (t : SetTable) (h : Int) (c q : Nat) : nth t.mask (stepK t h c) q = stepK t h (c + q) := (nth_add t.mask c _ q).symm
theorem stepK_j (t : SetTable) (h : Int) (c q : Nat) : (nth t.mask (stepK t h c) q).j = way t.mask h (c + q) := congrArg SetTable.Probe.j (stepK_add t h c q)
theorem dummy_nth (m : Nat) : ∀ (n : Nat) (p : SetTable.Probe), p.dummy = none → (nth m p n).dummy = none
  | 0, _, h => h
  | n + 1, p, h => dummy_nth m n (adv m p) (by
    unfold adv
    split <;> exact h)
/-- THE SEARCH: with n steps to go to the first free slot -/
theorem seekK (el : Els knd) (R : SetK knd s.heap a L es ep t) {x : Addr} {k : κ} (hx : knd.is s.heap k x) (hr : knd.room A) {N : Nat} (hN : N < 10 * SetTable.turns t.mask) (hfree : way t.mask (knd.hash k) N ∉ t.place.toList)
    (htak : ∀ c, c < N → way t.mask (knd.hash k) c ∈ t.place.toList) {Q : SetFound → Shared → Prop} (qin : k ∈ L.map (·.1) → Q (.there none) s) (qout : k ∉ L.map (·.1) → Q (.free (way t.mask (knd.hash k) N) false) s) (n : Nat) :
    ∀ (c f : Nat) (stand : Option SetTable.Probe), c + n = N → n < f → stand.getD (t.probeStart (knd.hash k)) = stepK t (knd.hash k) c →
      (∀ (i : Nat) (p : κ × Addr), L[i]? = some p → p.1 = k → ∃ q, q < n ∧ t.place.toList[i]? = some (way t.mask (knd.hash k) (c + q))) →
      wpAny (model P w) A (setSearchFrom a (.ref x) (knd.hash k) true f stand) Q E s := by
  induction n using Nat.strongRecOn with
  | ind n ih =>
    intro c f stand hc hf hst hre
    obtain ⟨f, rfl⟩ : ∃ g, f = g + 1 := ⟨f - 1, by omega⟩
    obtain ⟨o, ho, hex, hd⟩ := R.ob
    rw [setSearchFrom_succ]
    refine wpAny_bind (wpAny_setState_of ho hd R.fits ?_)
    dsimp only
    refine wp_if_neg (by unfold SetTable.gaveWay; rw [mask_odd R.tab.mok]; decide) ?_
    try refine wpAny_bind (wpAny_pure ?_)
    have hAt : ∀ (i : Nat) (p : κ × Addr), L[i]? = some p → (fun i => (es[i]?.map (·.1)).getD 0) i = knd.hash p.1 := fun i p hp => by
      show (es[i]?.map (·.1)).getD 0 = _
      rw [rowsK_at R.rows, hp]
      rfl
    have spec := go_spec t R.tab.ris R.tab.dm (fun i => (es[i]?.map (·.1)).getD 0) (knd.hash k) (10 * SetTable.turns t.mask) n (stepK t (knd.hash k) c) (dummy_nth _ _ _ rfl) (by omega)
      (fun q hq => by rw [stepK_j]; exact htak _ (by omega)) (by rw [stepK_j, hc]; exact hfree)
    have pr : t.probe (fun i => (es[i]?.map (·.1)).getD 0) (knd.hash k) (stand.getD (t.probeStart (knd.hash k))) = SetTable.probe.go t (fun i => (es[i]?.map (·.1)).getD 0) (knd.hash k) (10 * SetTable.turns t.mask) (stepK t (knd.hash k) c) := by
      rw [hst]
      rfl
    rw [pr]
    rcases spec with ⟨q, i, hq, hi, _, hno, e⟩ | ⟨hno, e⟩
    · rw [e, stepK_j, stepK_add]
      rw [stepK_j] at hi
      dsimp only
      have hil : i < L.length := by
        have h1 := (List.getElem?_eq_some_iff.mp hi).1
        rw [Array.length_toList, R.tab.sz, List.length_map] at h1
        exact h1
      obtain ⟨p, hp⟩ : ∃ p, L[i]? = some p := ⟨_, List.getElem?_eq_getElem hil⟩
      have hm : p ∈ L := List.mem_of_getElem? hp
      have hei : es[i]? = some (knd.hash p.1, Value.ref p.2) := by
        rw [rowsK_at R.rows, hp]
        rfl
      have hsl : t.slot (way t.mask (knd.hash k) (c + q)) = .live i := slot_live R.tab.ris hi
      have after : wpAny (model P w) A (searchRest a (.ref x) (knd.hash k) true f es t (way t.mask (knd.hash k) (c + q)) i (stepK t (knd.hash k) (c + (q + 1)))) Q E s := by
        unfold searchRest
        rw [hei]
        dsimp only
        refine wpAny_bind (wpAny_holding (knd.eqBool hr (R.els p hm) hx ?_))
        refine wpAny_bind (wpAny_setState_of ho hd R.fits ?_)
        dsimp only
        by_cases hk : p.1 = k
        · exact wp_if_pos (by simp [hk]) (wpAny_pure (qin (List.mem_map.mpr ⟨p, hm, hk⟩)))
        · refine wp_if_neg (by simp [hk]) ?_
          try refine wpAny_bind (wpAny_pure ?_)
          rw [sameMem]
          dsimp only
          simp only [if_true, hsl, hei]
          refine wpAny_bind (wpAny_isSame_ref_self (wpAny_bind (wpAny_pure ?_)))
          simp only [if_true]
          refine wp_if_neg (by simp [hk]) ?_
          refine ih (n - (q + 1)) (by omega) (c + (q + 1)) f _ (by omega) (by omega) rfl fun i0 p0 h0 hk0 => ?_
          obtain ⟨r, hrn, hpl⟩ := hre i0 p0 h0 hk0
          rcases Nat.lt_trichotomy r q with z | z | z
          · exact absurd ((hAt i0 p0 h0).trans (congrArg knd.hash hk0)) (hno r i0 z (by rw [stepK_j]; exact hpl))
          · subst z
            have s0 := slot_live R.tab.ris hpl
            rw [hsl] at s0
            injection s0 with s0
            rw [← s0, hp] at h0
            exact absurd ((congrArg Prod.fst (Option.some.inj h0)).trans hk0) hk
          · exact ⟨r - (q + 1), by omega, by rw [show c + (q + 1) + (r - (q + 1)) = c + r by omega]; exact hpl⟩
      by_cases hl : t.led = true
      · refine wp_if_neg (by simp [hl]) ?_
        try refine wpAny_bind (wpAny_pure ?_)
        exact after
      · refine wp_if_pos (by simp [hl]) ?_
        refine wpAny_bind (unseenK el hx (fun y hy => ?_) (wp_if_neg (by decide) ?_))
        · obtain ⟨z, hz, rfl⟩ := List.mem_map.mp hy
          have hz1 : z ∈ es ∧ z.1 = knd.hash k := by simpa using hz
          have hz2 : z ∈ es.toList := by simpa using hz1.1
          rw [R.rows] at hz2
          obtain ⟨p2, hp2, rfl⟩ := List.mem_map.mp hz2
          exact ⟨p2.1, p2.2, rfl, R.els p2 hp2⟩
        · try refine wpAny_bind (wpAny_pure ?_)
          exact after
    · rw [e, stepK_j, hc]
      dsimp only
      refine wpAny_pure (qout fun hm => ?_)
      obtain ⟨p0, h0, hk0⟩ := List.mem_map.mp hm
      obtain ⟨i0, hi0, e0⟩ := List.getElem_of_mem h0
      have h00 : L[i0]? = some p0 := by rw [List.getElem?_eq_getElem hi0, e0]
      obtain ⟨r, hrn, hpl⟩ := hre i0 p0 h00 hk0
      exact hno r i0 hrn (by rw [stepK_j]; exact hpl) ((hAt i0 p0 h00).trans (congrArg knd.hash hk0))
/-- the search as adding asks for it -/
theorem lookK (el : Els knd) (R : SetK knd s.heap a L es ep t) {x : Addr} {k : κ} (hx : knd.is s.heap k x) (hr : knd.room A) {Q : SetFound → Shared → Prop} (qin : k ∈ L.map (·.1) → Q (.there none) s)
    (qout : ∀ N, k ∉ L.map (·.1) → way t.mask (knd.hash k) N ∉ t.place.toList → (∀ c, c < N → way t.mask (knd.hash k) c ∈ t.place.toList) → Q (.free (way t.mask (knd.hash k) N) false) s) :
    wpAny (model P w) A (setSearch a (.ref x) (knd.hash k) true) Q E s := by
  have room := R.room
  obtain ⟨N, h1, h2, h3⟩ := R.tab.first (by rw [List.length_map]; omega) (knd.hash k)
  have few : N < 100000 := by
    have : 10 * SetTable.turns t.mask ≤ 1420 := by
      unfold SetTable.turns
      rcases R.tab.mok with e | e | e <;> omega
    omega
  unfold setSearch
  refine seekK el R hx hr h1 h2 h3 qin (fun z => qout N z h2 h3) N 0 100000 none (Nat.zero_add N) few rfl fun i p hp hk => ?_
  have hi : (L.map fun p => knd.hash p.1)[i]? = some (knd.hash k) := by
    rw [List.getElem?_map, hp, ← hk]
    rfl
  have hil : i < t.place.toList.length := by
    rw [Array.length_toList, R.tab.sz, List.length_map]
    exact (List.getElem?_eq_some_iff.mp hp).1
  have hj := List.getElem?_eq_getElem hil
  obtain ⟨q, hq, e⟩ := R.tab.before h2 hi hj
  exact ⟨q, hq, by rw [hj, Nat.zero_add, e]⟩

theorem range_pick {α : Type} : ∀ l : List α, (List.range l.length).filterMap (fun i => l[i]?) = l
  | [] => rfl
  | x :: l => by
    rw [List.length_cons, List.range_succ_eq_map, List.filterMap_cons]
    show x :: (List.map Nat.succ (List.range l.length)).filterMap (fun i => (x :: l)[i]?) = x :: l
    rw [List.filterMap_map]
    exact congrArg (x :: ·) (range_pick l)
theorem fm_congr {α β : Type} {f g : α → Option β} : ∀ {l : List α}, (∀ x ∈ l, f x = g x) → l.filterMap f = l.filterMap g
  | [], _ => rfl
  | x :: l, h => by rw [List.filterMap_cons, List.filterMap_cons, h x List.mem_cons_self, fm_congr fun y hy => h y (List.mem_cons_of_mem _ hy)]
/-- the rows in another order -/
theorem orderK (e : es.toList = rowsK knd L) {order : Array Nat} (hp : order.toList.Perm (List.range L.length)) :
    ∃ L2, (order.filterMap (es[·]?)).toList = rowsK knd L2 ∧ L2.Perm L ∧ (L2.map fun p => knd.hash p.1) = order.toList.map fun i => (es.map (·.1)).getD i 0 := by
  refine ⟨order.toList.filterMap fun i => L[i]?, ?_, ?_, ?_⟩
  · rw [Array.toList_filterMap]
    unfold rowsK
    rw [List.map_filterMap]
    exact fm_congr fun i _ => rowsK_at e i
  · exact (hp.filterMap _).trans (List.Perm.of_eq (range_pick L))
  · rw [List.map_filterMap, ← List.filterMap_eq_map]
    refine fm_congr fun i hi => ?_
    have hlt : i < L.length := List.mem_range.mp (hp.mem_iff.mp hi)
    have h1 : (es.map (·.1))[i]? = some (knd.hash (L[i]).1) := by
      rw [Array.getElem?_map, rowsK_at e, List.getElem?_eq_getElem hlt]
      rfl
    rw [List.getElem?_eq_getElem hlt]
    show some (knd.hash (L[i]).1) = some ((es.map (·.1)).getD i 0)
    rw [Array.getD_eq_getD_getElem?, h1]
    rfl
/-- all laid anew in a larger table -/
theorem relayK (el : Els knd) {o : Obj} (ho : s.heap.get? a = some o) (hex : o.ExactSet) (hd : o.data = .set es ep t) (hrows : es.toList = rowsK knd L) (T : TabOk t (L.map fun p => knd.hash p.1)) (hm : L.length ≤ t.mask)
    (nd : (L.map (·.1)).Nodup) (els : ∀ p ∈ L, knd.is s.heap p.1 p.2) (pl : t.plain = true) (led : w.params.followText "set-order" = true ∨ t.led = true) (few : L.length < 64) {wanted M : Nat}
    (hw : SetTable.sizeAbove wanted - 1 = M) (hM : MaskOk M) (hw2 : SetTable.sizeAbove wanted ≤ 128) (hn : L.length * 5 < M * 3) {Q : Unit → Shared → Prop}
    (hQ : ∀ h' L' es' ep' t', Heap.SameBut a s.heap h' → SetK knd h' a L' es' ep' t' → L'.Perm L → Q () { s with heap := h' }) : wpAny (model P w) A (setRelay a wanted) Q E s := by
  have hsz := rowsK_size hrows
  obtain ⟨t', order, e, hp, T', em, el', ep', _⟩ := relaid_ok t (hs := es.map (·.1)) (wanted := wanted) hw hM (by rw [Array.size_map, hsz]; omega)
  rw [Array.size_map, hsz] at hp
  obtain ⟨L2, r1, r2, r3⟩ := orderK hrows hp
  rw [← r3] at T'
  have hs2 : (order.filterMap (es[·]?)).size = es.size := by rw [rowsK_size r1, r2.length_eq, hsz]
  rw [setRelay_eq]
  refine wpAny_bind (wpAny_setState_of ho hd (fitsK T hrows hm) ?_)
  dsimp only
  refine wp_if_neg (by rw [sizeLine_eq]; omega) ?_
  try refine wpAny_bind (wpAny_pure ?_)
  rw [e]
  dsimp only
  refine wpAny_bind ?_
  refine wp_if_neg (by rw [hs2]; simp) ?_
  try refine wpAny_bind (wpAny_pure ?_)
  refine wpAny_pure ?_
  dsimp only
  refine wpAny_storeSet_of ho hd ?_ (by rw [hs2, hsz, sizeLine_eq]; omega)
  have sb : Heap.SameBut a s.heap (s.heap.update a (Obj.putSet (order.filterMap (es[·]?)) t')) := Heap.SameBut.update ..
  exact hQ _ L2 _ (ep + 1) t' sb ⟨⟨_, store_at ho hd, ⟨hex.1, hex.2.1, hex.2.2⟩, rfl⟩, r1, T', (r2.map (·.1)).nodup_iff.mpr nd, fun p hpm => el.stay (els p (r2.mem_iff.mp hpm)) ho hd sb, by rw [ep']; exact pl, by rw [el']; exact led, by rw [r2.length_eq, em]; exact hn, by rw [r2.length_eq]; exact few⟩ r2
/-- ADDING an element whose hash is known -/
theorem addK (el : Els knd) (R : SetK knd s.heap a L es ep t) {x : Addr} {k : κ} (hx : knd.is s.heap k x) (hr : knd.room A) (few : L.length + 1 < 64) {Q : Bool → Shared → Prop}
    (hQ : ∀ b h' L' es' ep' t', Heap.SameBut a s.heap h' → SetK knd h' a L' es' ep' t' → (k ∈ L.map (·.1) → L' = L) → (k ∉ L.map (·.1) → L'.Perm ((k, x) :: L)) → Q b { s with heap := h' }) :
    wpAny (model P w) A (setAddHashed a (.ref x) (knd.hash k)) Q E s := by
  obtain ⟨o, ho, hex, hd⟩ := R.ob
  have room := R.room
  unfold setAddHashed
  refine wpAny_holding ?_
  rw [show (100000 : Nat) = 99999 + 1 from rfl, setAddHashedIn_succ]
  refine wpAny_bind (wpAny_setState_of ho hd R.fits ?_)
  dsimp only
  refine wp_if_neg (by simp [byScan, Value.scannable]) ?_
  try refine wpAny_bind (wpAny_pure ?_)
  refine wpAny_bind (lookK el R hx hr (fun hm => ?_) fun N hm hN hb => ?_)
  · dsimp only
    exact wpAny_pure (hQ false s.heap L es ep t (Heap.SameBut.refl a s.heap) R (fun _ => rfl) fun z => absurd hm z)
  dsimp only
  refine wpAny_bind (wpAny_setState_of ho hd R.fits ?_)
  dsimp only
  obtain ⟨q1, q2, q3, q4, q5, q6, _, _, q9⟩ := R.tab.put hN hb
  rw [← List.map_take, ← List.map_drop, ← List.map_cons (f := fun p : κ × Addr => knd.hash p.1) (a := (k, x)), ← List.map_append] at q3
  rw [List.length_map] at q9
  generalize hpt : t.put (way t.mask (knd.hash k) N) = pt at q1 q3 q4 q5 q6 q9 ⊢
  obtain ⟨t1, p⟩ := pt
  dsimp only at q1 q3 q4 q5 q6 q9 ⊢
  have pl1 : t1.plain = true := q6.trans R.pl
  have ins : (SetTable.insertAt es p (knd.hash k, Value.ref x)).toList = rowsK knd (L.take p ++ (k, x) :: L.drop p) := by
    rw [SetTable.toList_insertAt, R.rows]
    unfold rowsK
    rw [List.map_append, List.map_cons, List.map_take, List.map_drop]
  rw [← q1] at q3
  have pm : (L.take p ++ (k, x) :: L.drop p).Perm ((k, x) :: L) := by
    have h : (L.take p ++ (k, x) :: L.drop p).Perm ((k, x) :: (L.take p ++ L.drop p)) := List.perm_middle
    rwa [List.take_append_drop] at h
  first
    | (refine wpAny_bind ?_; refine wp_if_pos pl1 ?_; refine el.byV hx ?_)
    | refine wp_if_pos pl1 (wpAny_bind (el.byV hx ?_))
  simp only [if_true]
  generalize SetTable.insertAt es p (knd.hash k, Value.ref x) = es1 at ins ⊢
  generalize L.take p ++ (k, x) :: L.drop p = L1 at pm q3 ins
  have len : L1.length = L.length + 1 := pm.length_eq
  have nd1 : (L1.map (·.1)).Nodup := (pm.map (·.1)).nodup_iff.mpr (by rw [List.map_cons]; exact List.nodup_cons.mpr ⟨hm, R.nd⟩)
  have hes : es1.size = L.length + 1 := (rowsK_size ins).trans len
  refine wpAny_bind (wpAny_storeSet_of ho hd ?_ (by rw [hes, sizeLine_eq]; omega))
  have sb : Heap.SameBut a s.heap (s.heap.update a (Obj.putSet es1 t1)) := Heap.SameBut.update ..
  have ho1 := store_at (es' := es1) (t' := t1) ho hd
  generalize s.heap.update a (Obj.putSet es1 t1) = h1 at sb ho1 ⊢
  have els1 : ∀ p ∈ L1, knd.is h1 p.1 p.2 := fun p hp => by
    rcases List.mem_cons.mp (pm.mem_iff.mp hp) with e | hp
    · rw [e]
      exact el.stay hx ho hd sb
    · exact el.stay (R.els p hp) ho hd sb
  have led1 : w.params.followText "set-order" = true ∨ t1.led = true := by rw [q5]; exact R.led
  by_cases hf : t1.tooFull = true
  · have full : (L.length + 1) * 5 ≥ t1.mask * 3 := by
      have h := hf
      unfold SetTable.tooFull at h
      rw [decide_eq_true_eq, q9] at h
      exact h
    have two : (t.mask = 7 ∧ L.length = 4) ∨ (t.mask = 31 ∧ L.length = 18) := by
      rw [q4] at full
      rcases R.tab.mok with e | e | e <;> rw [e] at full room
      · exact .inl ⟨e, by omega⟩
      · exact .inr ⟨e, by omega⟩
      · omega
    have go : ∀ M, SetTable.sizeAbove (SetTable.grown (L.length + 1)) - 1 = M → MaskOk M → SetTable.sizeAbove (SetTable.grown (L.length + 1)) ≤ 128 → (L.length + 1) * 5 < M * 3 →
        wpAny (model P w) A (setRelay a (SetTable.grown (L.length + 1))) (fun _ s' => wpAny (model P w) A (pure true) Q E s') E { s with heap := h1 } := fun M z1 z2 z3 z4 => by
      refine relayK (s := { s with heap := h1 }) el ho1 ⟨hex.1, hex.2.1, hex.2.2⟩ rfl ins q3 (by rw [len, q4]; rcases two with ⟨e, e2⟩ | ⟨e, e2⟩ <;> omega) nd1 els1 pl1 led1 (by rw [len]; exact few) z1 z2 z3 (by rw [len]; exact z4) ?_
      intro h2 L2 es2 ep2 t2 sb2 R2 pm2
      exact wpAny_pure (hQ true h2 L2 es2 ep2 t2 (sb.trans sb2) R2 (fun z => absurd z hm) fun _ => pm2.trans pm)
    rw [rowsK_size R.rows]
    first
      | (refine wpAny_bind ?_; refine wp_if_pos (by simp [hf]) ?_)
      | (refine wp_if_pos (by simp [hf]) ?_; refine wpAny_bind ?_)
    rcases two with ⟨_, e2⟩ | ⟨_, e2⟩
    · exact go 31 (by rw [e2, size_20]) (.inr (.inl rfl)) (by rw [e2, size_20]; decide) (by omega)
    · exact go 127 (by rw [e2, size_76]) (.inr (.inr rfl)) (by rw [e2, size_76]; decide) (by omega)
  · have notFull : ¬ (L.length + 1) * 5 ≥ t1.mask * 3 := fun z => hf (by
      unfold SetTable.tooFull
      rw [decide_eq_true_eq, q9]
      exact z)
    first
      | refine wp_if_neg (by simp [hf]) ?_
      | (refine wpAny_bind ?_; refine wp_if_neg (by simp [hf]) ?_; refine wpAny_pure ?_)
    exact wpAny_pure (hQ true h1 L1 es1 (ep + 1) t1 sb ⟨⟨_, ho1, ⟨hex.1, hex.2.1, hex.2.2⟩, rfl⟩, ins, q3, nd1, els1, pl1, led1, by rw [len]; omega, by rw [len]; exact few⟩ (fun z => absurd z hm) fun _ => pm)
/-- a new set -/
theorem freshK {h : Heap} {a : Addr} (ho : h.get? a = some { cls := .type "set", dict := none, data := .set #[] 0 (.fresh 0 0 (!w.params.followText "set-order")) }) : SetK knd h a [] #[] 0 (.fresh 0 0 (!w.params.followText "set-order")) where
  ob := ⟨_, ho, ⟨rfl, rfl, rfl⟩, rfl⟩
  rows := rfl
  tab := ⟨List.Pairwise.nil, rfl, rfl, .inl rfl, fun x hx => (by cases hx), fun i h j hi => (by simp at hi)⟩
  nd := List.nodup_nil
  els := fun p hp => (by cases hp)
  pl := rfl
  led := by
    show _ ∨ (!w.params.followText "set-order") = true
    cases w.params.followText "set-order"
    · exact .inr rfl
    · exact .inl rfl
  room := by
    show 0 * 5 < 7 * 3
    decide
  few := by
    show 0 < 64
    decide
end
end Hb

set_option Elab.async false
set_option linter.all false
set_option maxRecDepth 100000
set_option maxHeartbeats 4000000
/-! Sets of nested tuples over the abstract heap: add, the comprehension, sorted. -/
namespace Hb
open PySem L2 PyProof.Rows

/-- the set at a: its elements' keys and addresses, in the table's order -/
structure SetK0 (P : Program) (w : World) (h : Heap) (a : Addr) (L : List (NestedKey × Addr)) : Prop where
  ex : ∃ (es : Array (Int × Value)) (ep : Nat) (t : SetTable), (∃ o, h.get? a = some o ∧ o.ExactSet ∧ o.data = .set es ep t) ∧ es.toList = rowsK (numKind P w) L ∧ TabOk t (L.map fun p => (numKind P w).hash p.1) ∧ (L.map (·.1)).Nodup ∧ t.plain = true ∧
    (w.params.followText "set-order" = true ∨ t.led = true) ∧ L.length * 5 < t.mask * 3 ∧ L.length < 64
/-- .. as an object of the abstract heap -/
def SN (P : Program) (w : World) (a : Addr) (L : List (NestedKey × Addr)) : HO := .ext fun h => SetK0 P w h a L
theorem SetK.k0 {P : Program} {w : World} {h : Heap} {a : Addr} {L : List (NestedKey × Addr)} {es : Array (Int × Value)} {ep : Nat} {t : SetTable} (R : SetK (numKind P w) h a L es ep t) : SetK0 P w h a L := ⟨es, ep, t, R.ob, R.rows, R.tab, R.nd, R.pl, R.led, R.room, R.few⟩
theorem SetK0.full {P : Program} {w : World} {h : Heap} {a : Addr} {L : List (NestedKey × Addr)} (R : SetK0 P w h a L) (he : ∀ p ∈ L, (numKind P w).is h p.1 p.2) : ∃ es ep t, SetK (numKind P w) h a L es ep t := by
  obtain ⟨es, ep, t, h1, h2, h3, h4, h5, h6, h7, h8⟩ := R.ex
  exact ⟨es, ep, t, h1, h2, h3, h4, he, h5, h6, h7, h8⟩
theorem sn_new {P : Program} {w : World} {H : Hp} {h : Heap} {a : Addr} {L : List (NestedKey × Addr)} (R : SetK0 P w h a L) : ObjOk P w H h a (SN P w a L) := by
  have ⟨es, ep, t, ⟨o, ho, r⟩, q⟩ := R.ex
  refine ⟨R, ⟨o, ho⟩, fun h1 h2 p k => ?_⟩
  have ⟨es', ep', t', ⟨o', ho', r'⟩, q'⟩ := SetK0.ex p
  exact ⟨es', ep', t', ⟨o', k o' ho', r'⟩, q'⟩
/-- an element as the abstract heap tells it -/
def ElN (H : Hp) (p : NestedKey × Addr) : Prop := NK H p.1 (.ref p.2) ∧ p.1.depth ≤ 8 ∧ noTx p.1 = true
theorem ElN.is {P : Program} {w : World} {H : Hp} {h : Heap} (ok : HOk P w H h) {p : NestedKey × Addr} (e : ElN H p) : (numKind P w).is h p.1 p.2 := ⟨⟨NK.is ok e.1 rfl, e.2.1⟩, e.2.2⟩

section
variable {X : Cx} {pins : List (Addr × Obj)} {σ : L2.St} {H : Hp} {s : Shared} {E : Value → Shared → Prop} {D : Addr} {L : List (NestedKey × Addr)}
theorem sn_get (I : Inv X pins σ H s) (hD : H D = some (SN X.prog X.w D L)) : SetK0 X.prog X.w s.heap D L := (I.hok D _ hD).1
/-- what the set is behind the adding of p -/
def AddN (L : List (NestedKey × Addr)) (p : NestedKey × Addr) (L' : List (NestedKey × Addr)) : Prop := (p.1 ∈ L.map (·.1) → L' = L) ∧ (p.1 ∉ L.map (·.1) → L'.Perm (p :: L))
/-- set.add -/
theorem addN_ok {A : Around} {p : NestedKey × Addr} {Q : Value → Shared → Prop} (hu : A.units + 64 < cLine) (I : Inv X pins σ H s) (hD : H D = some (SN X.prog X.w D L)) (hL : ∀ e ∈ L, ElN H e) (hp : ElN H p) (few : L.length + 1 < 64)
    (h : ∀ L' s', AddN L p L' → Inv X pins σ (upd H D (SN X.prog X.w D L')) s' → Q .none s') : wpAny (model X.prog X.w) A (call (.builtin "set.add") [.ref D, .ref p.2]) Q E s := by
  obtain ⟨es, ep, t, R⟩ := (sn_get I hD).full fun e he => (hL e he).is I.hok
  obtain ⟨o, ho, hex, hd⟩ := R.ob
  have hk := hp.is (P := X.prog) (w := X.w) I.hok
  refine wpAny_call_entry F.slot_set_add ⟨o, ho, hex.1⟩ F.entry_set_add ?_ (F.args_set_add_2 _ _)
  unfold Builtin.«set.add» Builtin.Frozenset.oneOther
  simp only [List.isEmpty_nil, bind_assoc]
  unfold Builtin.Frozenset.addrOf setAdd
  refine wpAny_bind (wpAny_pure ?_)
  try dsimp only
  refine wpAny_bind (wpAny_pure ?_)
  try dsimp only
  refine wpAny_bind ?_
  refine wpAny_holding ?_
  refine wpAny_bind ((numKind X.prog X.w).pyHash (by show A.in1.units + 8 < cLine; rw [Around.in1_units]; omega) hk ?_)
  refine addK (s := { s with toks := s.toks + (numKind X.prog X.w).draws p.1 }) (knd := numKind X.prog X.w) els_num R hk (by show A.in1.units + 8 < cLine; rw [Around.in1_units]; omega) few fun b h' L' es' ep' t' sb R' e1 e2 => ?_
  show wpAny _ _ (ret Value.none) _ _ _
  refine wpAny_pure ⟨_, rfl, h L' _ ⟨e1, e2⟩ ?_⟩
  have ⟨o', ho', _⟩ := R'.ob
  exact I.write (e := D) (by rw [hD]; trivial) (.inl rfl) (fun b u hb hu => (sb.2 b hb).trans hu) ⟨o', ho'⟩ (sn_new R'.k0)
end

/-! ### the comprehension -/
/-- {elt for target in iter if ..}, each elt a nested tuple -/
def tSn (P : Program) (w : World) (wi : TI) (g : TG) (tt : TT) (te : TE) (vs : List Nat) : TE := fun σ H Q => wi σ H fun J H1 => ∀ D, H1 D = none → ∃ W : Nat → Nat → Hp → Prop, (∃ m, W 0 m (upd H1 D (SN P w D []))) ∧ ∀ i m H, W i m H →
  (J.stop i H ∧ Q (.ref D) H) ∨ (J.go i H ∧ ∃ Nx : Hp → Prop, (∀ H', Nx H' → ∃ m', m' < m ∧ W (i + 1) m' H') ∧ ∀ x H', J.yld i H x H' → g x (wipe σ vs) H' fun σ2 H2 => wipe σ2 vs = wipe σ vs ∧ tt σ2 H2 fun b H3 =>
    if b = true then te σ2 H3 fun y H4 => ∃ (L : List (NestedKey × Addr)) (p : NestedKey × Addr), y = .ref p.2 ∧ H4 D = some (SN P w D L) ∧ (∀ e ∈ L, ElN H4 e) ∧ ElN H4 p ∧ L.length + 1 < 64 ∧ ∀ L', AddN L p L' → Nx (upd H4 D (SN P w D L')) else Nx H3)
section
open PpSet
variable {X : Cx}
theorem pe_sn {elt tg iter : Expr} {ifs : List Expr} {scope : Scope} {own : List (Str × Nat)} {pos : Pos} {wi : TI} {g : TG} {tt : TT} {te : TE} (hc : X.calm = true) (hu : X.A.units + 64 < cLine) (hN : X.N.Nodup) (hi : PI X tg iter wi) (ok : BlkOk X.N X.env.scope scope own)
    (hg : ∀ (s : Shared) (H : Hp) (C : Addr) (cl : List (Str × Addr)) (fp : List Addr), PG (X.blk s H scope (compEnvC scope cl C X.env) fp) tg g) (ht : ∀ (s : Shared) (H : Hp) (C : Addr) (cl : List (Str × Addr)) (fp : List Addr), PTs (X.blk s H scope (compEnvC scope cl C X.env) fp) ifs tt)
    (he : ∀ (s : Shared) (H : Hp) (C : Addr) (cl : List (Str × Addr)) (fp : List Addr), PE (X.blk s H scope (compEnvC scope cl C X.env) fp) elt te) (hs : ∀ x, foldedSetIterable iter X.env x = pure x := by intro _; rfl) :
    PE X (.SetComp elt [⟨tg, iter, ifs, 0⟩] scope pos) (tSn X.prog X.w wi g tt te (own.map (·.2))) := by
  refine ⟨fun pins s σ H Q I h => ?_⟩
  rw [eval_SetComp]
  have hfree : ∀ y ∈ scope.names, y.2 = .free → ∃ c, X.env.cells.lookup y.1 = some c := fun y hy e => by
    rcases ok.free y hy e with k | k
    · exact I.ok.has _ (.inl k)
    · exact I.ok.has _ (.inr k)
  refine wpAny_comprehension_free (use := none) rfl hs (closure_ok hfree) ok.kind (fun y hy e => by rw [ok.uniq y hy, e]) (thn (hi.run pins s σ H _ I h) fun xv s1 hx => thn hx fun itv s2 h2 => ?_)
  obtain ⟨it, fp, tn, J, H2, rfl, I2, T, st2, f2, q⟩ := h2
  refine newSet_ok (newEnv_comp ?_)
  obtain ⟨D, hD⟩ : ∃ D, D = s2.heap.objs.size := ⟨_, rfl⟩
  rw [← hD]
  obtain ⟨W, ⟨m0, w0⟩, turn⟩ := q D (I2.hok.fresh (Nat.le_of_eq hD.symm))
  have grown : ∀ b o, s2.heap.get? b = some o → (s2.heap.push { cls := .type "set", dict := none, data := .set #[] 0 (.fresh 0 0 (!X.w.params.followText "set-order")) }).get? b = some o := fun b o e => Heap.get?_push_of_some _ e
  have I3 : Inv X pins σ (upd H2 D (SN X.prog X.w D [])) { s2 with heap := s2.heap.push { cls := .type "set", dict := none, data := .set #[] 0 (.fresh 0 0 (!X.w.params.followText "set-order")) } } :=
    I2.laid (t' := s2.toks) grown (Nat.le_of_eq hD.symm) (sn_new (freshK (knd := numKind X.prog X.w) (by rw [hD]; exact Heap.get?_push_size _ rfl)).k0)
  have f3 : ∀ b ∈ fp, FpOk X pins (upd H2 D (SN X.prog X.w D [])) b ∧ b < (s2.heap.push { cls := .type "set", dict := none, data := .set #[] 0 (.fresh 0 0 (!X.w.params.followText "set-order")) }).objs.size := fun b hb => by
    obtain ⟨o, e, _⟩ := T.obj _ _ st2 b hb
    have hlt := Heap.lt_size e
    refine ⟨⟨?_, (f2 b hb).2⟩, by rw [Heap.size_push]; exact Nat.lt_succ_of_lt hlt⟩
    rw [upd_ne (by rw [hD]; exact Nat.ne_of_lt hlt)]
    exact (f2 b hb).1
  have st3 := T.keep _ _ _ st2 fun b _ o e => grown b o e
  obtain ⟨s3, hs3⟩ : ∃ s3 : Shared, s3 = { s2 with heap := s2.heap.push { cls := .type "set", dict := none, data := .set #[] 0 (.fresh 0 0 (!X.w.params.followText "set-order")) } } := ⟨_, rfl⟩
  obtain ⟨H3, hH3⟩ : ∃ H3 : Hp, H3 = upd H2 D (SN X.prog X.w D []) := ⟨_, rfl⟩
  rw [← hH3] at I3 w0
  rw [← hs3] at I3
  have st3' : tn 0 s3.heap := by rw [hs3]; exact st3
  have f3' : ∀ b ∈ fp, FpOk X pins H3 b ∧ b < s3.heap.objs.size := fun b hb => by rw [hH3, hs3]; exact f3 b hb
  have I4 := block_start I3 ok hN f3'
  show codeAny _ _ (.compStart (.SetComp elt [⟨tg, iter, ifs, 0⟩] scope pos) 0 (.ref it) (.ref D) (compEnvC scope (cellsFrom ((s2.heap.push { cls := .type "set", dict := none, data := .set #[] 0 (.fresh 0 0 (!X.w.params.followText "set-order")) }).objs.size + 1) scope.names (cloFrom X.env.cells scope.names [])) (s2.heap.push { cls := .type "set", dict := none, data := .set #[] 0 (.fresh 0 0 (!X.w.params.followText "set-order")) }).objs.size X.env))
    (compPost (model X.prog X.w) X.A X.xe none (EP X pins σ Q) (.ref D) (s2.heap.push { cls := .type "set", dict := none, data := .set #[] 0 (.fresh 0 0 (!X.w.params.followText "set-order")) }).objs.size)
    { s2 with heap := pushCells ((s2.heap.push { cls := .type "set", dict := none, data := .set #[] 0 (.fresh 0 0 (!X.w.params.followText "set-order")) }).push { cls := .type "dict", data := .dict #[] }) scope.names }
  have hh3 : s2.heap.push { cls := .type "set", dict := none, data := .set #[] 0 (.fresh 0 0 (!X.w.params.followText "set-order")) } = s3.heap := by rw [hs3]
  have hst : ({ s2 with heap := pushCells ((s2.heap.push { cls := .type "set", dict := none, data := .set #[] 0 (.fresh 0 0 (!X.w.params.followText "set-order")) }).push { cls := .type "dict", data := .dict #[] }) scope.names } : Shared) = { s3 with heap := pushCells (s3.heap.push { cls := .type "dict", data := .dict #[] }) scope.names } := by rw [hs3]
  rw [hst, hh3]
  have pg := hg s3 H3 s3.heap.objs.size (cellsFrom (s3.heap.objs.size + 1) scope.names (cloFrom X.env.cells scope.names [])) fp
  have pt := ht s3 H3 s3.heap.objs.size (cellsFrom (s3.heap.objs.size + 1) scope.names (cloFrom X.env.cells scope.names [])) fp
  have pe := he s3 H3 s3.heap.objs.size (cellsFrom (s3.heap.objs.size + 1) scope.names (cloFrom X.env.cells scope.names [])) fp
  generalize hce : compEnvC scope (cellsFrom (s3.heap.objs.size + 1) scope.names (cloFrom X.env.cells scope.names [])) s3.heap.objs.size X.env = ce at I4 pg pt pe ⊢
  have cL : ce.locals = s3.heap.objs.size := by subst hce; rfl
  generalize hs4 : ({ s3 with heap := pushCells (s3.heap.push { cls := .type "dict", data := .dict #[] }) scope.names } : Shared) = s4 at I4 ⊢
  have st4 : tn 0 s4.heap := T.keep _ _ _ st3' fun b _ o e => by rw [← hs4]; exact pushCells_keeps _ _ _ _ (Heap.get?_push_of_some _ e)
  have nfp : ∀ b ∈ fp, H3 b = none := fun b hb => (f3' b hb).1.1
  have stat : ∀ {σ' : L2.St} {H' : Hp} {s' : Shared}, Inv (X.blk s3 H3 scope ce fp) [] σ' H' s' → (∀ b ∈ fp, H' b = none) → ∀ b ∈ fp, FpOk (X.blk s3 H3 scope ce fp) [] H' b := fun {σ' H' s'} I' hn b hb =>
    ⟨hn b hb, (I'.ok.exf b hb).1, I'.ok.exfs b hb, .inl hb, fun x c e => (I'.ok.exf b hb).2 x c e, fun p hp => absurd (show p ∈ ([] : List (Addr × Obj)) ++ [] from hp) (by simp)⟩
  have loop : codeAny (model X.prog X.w) X.A (.compLoop (.SetComp elt [⟨tg, iter, ifs, 0⟩] scope pos) 0 (.ref it) (.ref D) ce) (compPost (model X.prog X.w) X.A X.xe none (EP X pins σ Q) (.ref D) s3.heap.objs.size) s4 := by
    refine compLoopS_any (fun n s' => ∃ i H', Inv (X.blk s3 H3 scope ce fp) [] (wipe σ (own.map (·.2))) H' s' ∧ tn i s'.heap ∧ (∀ b ∈ fp, H' b = none) ∧ W i n H') ?_ m0 ⟨0, H3, I4, st4, nfp, w0⟩
    rintro n s5 ⟨i, H5, I5, st5, n5, w5⟩
    rcases turn i n H5 w5 with ⟨stop, qq⟩ | ⟨go, Nx, hNx, step⟩
    · refine thnF (T.done (X.blk s3 H3 scope ce fp) rfl rfl rfl hc i [] s5 _ H5 (fun _ _ => False) I5 (stat I5 n5) st5 stop) fun r s6 ⟨hr, I6⟩ => ?_
      subst hr
      have I7 : Inv X pins σ H5 s6 := I3.call' (ch := fp) I6.os I6.base I6.hok I6.bare fun b hb => ⟨(f3' b hb).1.2.2.2.1, (f3' b hb).1.2.1, (f3' b hb).1.2.2.2.2.1, (f3' b hb).1.2.2.2.2.2⟩
      have nC : H5 s3.heap.objs.size = none := by
        have z : H5 ce.locals = none := I6.free
        rwa [cL] at z
      obtain ⟨m, hn, _⟩ := I6.loc
      have hn' : s6.heap.Ns ce.locals m := hn
      rw [cL] at hn'
      obtain ⟨z0, z1, _, z3, z4, z5⟩ := I3.fpOk (Nat.le_refl _) nC
      exact ⟨m, hn', fun h'' sb => ⟨.ref D, H5, I7.turned (t' := s6.toks) (fun b o hb e => (sb.2 b hb).trans e) z0 z1 z3 z4 z5, rfl, qq⟩⟩
    · refine thnF (T.item (X.blk s3 H3 scope ce fp) rfl rfl rfl hc i [] s5 _ H5 (fun _ _ => False) I5 (stat I5 n5) st5 go) fun r s6 ⟨u, hr, h6⟩ => ?_
      subst hr
      refine thnF h6 fun _ s7 ⟨x, H7, I7, r7, y7, st7, n7⟩ => ?_
      refine thnF (pg.run _ s7 _ H7 x u _ (I7.pinned (stat I7 n7) (T.obj _ _ st7)) r7 (step x H7 y7)) fun _ s8 ⟨σ8, H8, I8, hw8, q8⟩ => ?_
      refine thnF (pt.run _ s8 σ8 H8 _ I8 q8) fun b s9 ⟨H9, I9, q9⟩ => ?_
      have fin : ∀ {s' : Shared} {H' : Hp}, Inv (X.blk s3 H3 scope ce fp) ([] ++ pinsAt fp s7.heap) σ8 H' s' → Nx H' → ∃ m, m < n ∧ ∃ i H', Inv (X.blk s3 H3 scope ce fp) [] (wipe σ (own.map (·.2))) H' s' ∧ tn i s'.heap ∧ (∀ b ∈ fp, H' b = none) ∧ W i m H' := fun {s' H'} I' nx => by
        obtain ⟨m', hm, w'⟩ := hNx H' nx
        have pin' : ∀ b ∈ fp, ∀ o, s7.heap.get? b = some o → s'.heap.get? b = some o ∧ H' b = none := fun b hb o e =>
          let z := I'.pin (b, o) (List.mem_append_right _ (List.mem_append_right _ (mem_pinsAt hb e)))
          ⟨z.1, z.2.1⟩
        have hl : (wipe σ (own.map (·.2))).length = σ8.length := by rw [← hw8, wipe_length]
        refine ⟨m', hm, i + 1, H', (I'.unpinned (pins := [])).weak hl (fun j v e => ?_), T.keep _ _ _ st7 fun b hb o e => (pin' b hb o e).1, fun b hb => ?_, w'⟩
        · rw [← hw8] at e
          exact (wipe_some e).1
        · obtain ⟨o, e, _⟩ := T.obj _ _ st7 b hb
          exact (pin' b hb o e).2
      cases b with
      | false =>
        simp only [Bool.false_eq_true, if_false] at q9 ⊢
        exact fin I9 q9
      | true =>
        simp only [if_true] at q9 ⊢
        refine thnF (pe.run _ s9 σ8 H9 _ I9 q9) fun z s10 ⟨yv, H10, I10, r10, L, p, ey, hDL, hL, hp, few, nx⟩ => ?_
        subst ey
        obtain rfl : z = Value.ref p.2 := r10
        exact addN_ok (X := X.blk s3 H3 scope ce fp) hu I10 hDL hL hp few fun L' s11 hA I11 => fin I11 (nx L' hA)
  exact codeAny_compStart_set loop (T.self X.A 0 _ _ _ st4 loop)
end

/-! ### sorted of such a set -/
/-- sorted(s): the elements by the order of their ints, all of one shape -/
def rSortSN (P : Program) (w : World) (c : Option Nat) (sh : List (Option Nat)) : List V → Hp → VK → Prop := fun vs H Q => ∃ (a : Addr) (L : List (NestedKey × Addr)) (k : V → List Itm), vs = [V.ref a] ∧ H a = some (SN P w a L) ∧ (∀ e ∈ L, NK H e.1 (.ref e.2) ∧ e.1 = nkK (k (.ref e.2)) ∧ (k (.ref e.2)).map shp = c :: sh) ∧
  ∀ ys p, SrtO.Srtd (ltK k) ys → ys.Perm (L.map fun e => V.ref e.2) → (L.map (·.1)).Nodup → H p = none → Q (.ref p) (upd H p (.lst ys))
section
variable {X : Cx} {c : Option Nat} {sh : List (Option Nat)} {P : Program} {w : World}
theorem cr_sortSN (hc : X.calm = true) (hu : X.A.units + 64 < cLine) (hP : X.prog = P := by rfl) (hw : X.w = w := by rfl) : CallR X (.builtin "sorted") (rSortSN P w c sh) := by
  subst hP hw
  intro pins s σ H vs us Q I r h
  obtain ⟨a, L, k, rfl, ha, hx, q⟩ := h
  obtain ⟨u, rfl, ru⟩ := vals1 r
  obtain rfl : u = Value.ref a := ru
  obtain ⟨es, ep, t, ⟨o, ho, hex, hd⟩, rows, T, nd, _, led, room, few⟩ := (sn_get I ha).ex
  have hu2 : X.A.in1.in1.units + 2 < cLine := by
    have e : X.A.in1.in1.units = X.A.units + 1 + 1 := rfl
    omega
  have hsz := rowsK_size rows
  refine Calls.call_function_entry kind_sorted plain_sorted entry_sorted (args_sorted1 _) ?_
  unfold Builtin.«sorted»
  refine wpAny_bind (m := checkCount "sorted" 1 1 _) (wpAny_pure ?_)
  refine wpAny_bind (collect_set (A := X.A.in1) (I.ok.hd hc) ⟨o, ho, hex.1, hd⟩ (fitsK T rows (by omega)) (by unfold scanBound; omega) T.ris led fun s1 acc hk hz g1 o1 pm => ?_)
  have hes : es.toList.map (·.2) = L.map fun e => Value.ref e.2 := by
    rw [rows]
    unfold rowsK
    rw [List.map_map]
    rfl
  rw [hes] at pm
  have hal : acc.length = L.length := by rw [pm.length_eq, List.length_map]
  have I1 : Inv X pins σ H s1 := I.call' (ch := []) o1 (Un.kept hk) (I.hok.kept hk) (by rw [g1]; exact I.bare) (fun _ z => nomatch z)
  have mem : ∀ v ∈ acc, ∃ e ∈ L, Value.ref e.2 = v := fun v hv => List.mem_map.mp (pm.mem_iff.mp hv)
  have hp : ∀ v ∈ acc, K2Is s1.heap (k (backV v)) v ∧ (k (backV v)).map shp = c :: sh := fun v hv => by
    obtain ⟨e, he, rfl⟩ := mem v hv
    obtain ⟨g1, g2, g3⟩ := hx e he
    rw [g2] at g1
    exact ⟨NK.k2 I1.hok g1, g3⟩
  refine wpAny_bind (wpAny_newList ?_ (by rw [hal, sizeLine_eq]; omega))
  have hoL : (s1.heap.push (seqObj "list" acc.toArray 0)).get? s1.heap.objs.size = some (seqObj "list" acc.toArray 0) := Heap.get?_push_size _ rfl
  refine wpAny_bind (wpAny_holding (wpAny_call_entry slot_list_sort ⟨_, hoL, rfl⟩ entry_list_sort
    (SrtO.list_sort_ord (s := { s1 with heap := s1.heap.push (seqObj "list" acc.toArray 0) }) (ltv := fun v u => lexI (flK (k (backV v))) (flK (k (backV u)))) (swo_lexI fun v => flK (k (backV v))) hoL (by rw [hal, sizeLine_eq]; omega) (fun g0 => ?_) fun out g1' g2 => ⟨_, rfl, ?_⟩) (args_list_sort _)))
  · refine k2_sortable (s := { s1 with heap := s1.heap.push (seqObj "list" acc.toArray 0) }) hu2 (by omega) (fun v hm => ⟨(hp v hm).1.keeps fun b o e _ => Heap.get?_push_of_some _ e, (hp v hm).2⟩) fun o e => ?_
    have e' : some o = some (seqObj "list" acc.toArray 0) := e.symm.trans hoL
    cases e'
    intro cc
    exact absurd (Value.type.inj cc) (by decide)
  · obtain ⟨e', he'⟩ := sortedHeap_at (vs := acc) (out := out.toArray) hoL
    have g3 : ∀ u ∈ out, ∃ a, u = Value.ref a := fun u hu => by
      obtain ⟨e, _, rfl⟩ := mem u (g2.perm.mem_iff.mp hu)
      exact ⟨_, rfl⟩
    have hb : (out.map backV).Perm (L.map fun e => V.ref e.2) := by
      have hm := (g2.perm.trans pm).map backV
      rw [List.map_map] at hm
      exact hm
    refine wpAny_pure ⟨_, rfl, .ref s1.heap.objs.size, upd H s1.heap.objs.size (.lst (out.map backV)), I1.laid (t' := s1.toks) (fun b u e => ?_) (Nat.le_refl _)
      (show ObjOk X.prog X.w _ _ _ (.lst (out.map backV)) from ⟨?_, out, e', vals_back g3, he'⟩), rfl, q _ _ (SrtO.srtd_map g1') hb nd (I1.hok.fresh (Nat.le_refl _))⟩
    · have hlt : b < s1.heap.objs.size := Heap.lt_size e
      rw [sortedHeap_old (Nat.ne_of_lt hlt) (by rw [size_push']; exact Nat.lt_succ_of_lt hlt)]
      exact Heap.get?_push_of_some _ e
    · rw [hb.length_eq, List.length_map, sizeLine_eq]
      omega
end
end Hb

set_option Elab.async false
set_option linter.all false
set_option maxRecDepth 100000
set_option maxHeartbeats 4000000
/-! More steps: zip over tuples, a star in a display, set comprehensions; a comprehension's turns for any body. -/
namespace Hb
open PySem L2 PyProof.Rows
theorem Hs.keep {B H H' : Hp} {L : List (Addr × HO)} (hs : Hs B L H) (e : Same H H') : Hs B L H' := ⟨hs.same.trans e, hs.nd, hs.out, fun x hx => e _ _ (hs.at_ x hx)⟩

/-! ### rules that name K -/
section
variable {X : Cx} {K : PySem.W.Frag}
theorem pi_zipK {e e2 : Expr} {ta : TA} {p pos tpos : Pos} {elts : List Expr} {kk : Nat} (hg : Gl X "zip") (hm : X.mg "zip" = none) (ha : PA X [e, e2] ta) (hK : X.K = K := by rfl)
    (hs : starEach [e, e2] X.env = (false, eval e X.env) :: starEach [e2] X.env := by rfl) (hpl : (backTo pos (starEach [e2] X.env)).any (·.1) = false := by rfl) :
    PI X (.Tuple elts kk tpos) (.Call (.Name "zip" p) [e, e2] [] pos) (RZ.iZipA K ta) := by
  subst hK
  exact RZ.pi_zipA hg hm ha hs hpl
theorem pa_starK {e : Expr} {es : List Expr} {te : TE} {t : TA} {p : Pos} (he : PE X e te) (hr : PA X es t) (hK : X.K = K := by rfl) (hs : starEach (.Starred e p :: es) X.env = (true, eval e X.env) :: starEach es X.env := by rfl) : PA X (.Starred e p :: es) (StX.tStar K te t) := by
  subst hK
  exact StX.pa_star he hr hs
theorem pe_snK {P : Program} {w : World} {elt tg iter : Expr} {ifs : List Expr} {scope : Scope} {own : List (Str × Nat)} {pos : Pos} {wi : TI} {g : TG} {tt : TT} {te : TE} (hc : X.calm = true) (hu : X.A.units + 64 < cLine) (hN : X.N.Nodup) (hi : PI X tg iter wi) (ok : BlkOk X.N X.env.scope scope own)
    (hg : ∀ (s : Shared) (H : Hp) (C : Addr) (cl : List (Str × Addr)) (fp : List Addr), PG (X.blk s H scope (compEnvC scope cl C X.env) fp) tg g) (ht : ∀ (s : Shared) (H : Hp) (C : Addr) (cl : List (Str × Addr)) (fp : List Addr), PTs (X.blk s H scope (compEnvC scope cl C X.env) fp) ifs tt)
    (he : ∀ (s : Shared) (H : Hp) (C : Addr) (cl : List (Str × Addr)) (fp : List Addr), PE (X.blk s H scope (compEnvC scope cl C X.env) fp) elt te) (hP : X.prog = P := by rfl) (hw : X.w = w := by rfl) (hs : ∀ x, foldedSetIterable iter X.env x = pure x := by intro _; rfl) :
    PE X (.SetComp elt [⟨tg, iter, ifs, 0⟩] scope pos) (tSn P w wi g tt te (own.map (·.2))) := by
  subst hP hw
  exact pe_sn hc hu hN hi ok hg ht he hs
theorem cr_sumK (hc : X.calm = true) (hK : X.K = K := by rfl) : CallR X (.builtin "sum") (rSum K) := by
  subst hK
  exact cr_sum hc
theorem cr_sortedIK (hK : X.K = K := by rfl) : CallR X (.builtin "sorted") (rSortedI K) := by
  subst hK
  exact cr_sortedI
end

/-! ### the turns of a comprehension, whatever is done in each -/
section
variable {K : PySem.W.Frag} {a b : Addr} {xs ys : List V} {H0 : Hp} {Qd : Hp → Prop} {Body : (Hp → Prop) → V → Hp → Prop}
/-- what tLc, tSn, tDc ask of an iterator J -/
def Turns (J : It) (Body : (Hp → Prop) → V → Hp → Prop) (H0 : Hp) (Qd : Hp → Prop) : Prop := ∃ W : Nat → Nat → Hp → Prop, (∃ m, W 0 m H0) ∧ ∀ i m H, W i m H →
  (J.stop i H ∧ Qd H) ∨ (J.go i H ∧ ∃ Nx : Hp → Prop, (∀ H', Nx H' → ∃ m', m' < m ∧ W (i + 1) m' H') ∧ ∀ x H', J.yld i H x H' → Body Nx x H')
theorem turns_list (Pv : Nat → Hp → Prop) (h0 : Pv 0 H0) (hl : ∀ i H, i ≤ xs.length → Pv i H → SqL K H a xs) (hs : ∀ i x H, xs[i]? = some x → Pv i H → Body (Pv (i + 1)) x H) (hd : ∀ H, Pv xs.length H → Qd H) : Turns (Itl K a) Body H0 Qd := by
  refine ⟨fun i m H => m = xs.length - i ∧ i ≤ xs.length ∧ Pv i H, ⟨xs.length, by simp, Nat.zero_le _, h0⟩, ?_⟩
  rintro i m H ⟨rfl, hi, p⟩
  have q := hl i H hi p
  by_cases hlt : i < xs.length
  · refine .inr ⟨⟨xs, xs[i], q, by simp [hlt]⟩, Pv (i + 1), fun H' p' => ⟨xs.length - (i + 1), by omega, rfl, hlt, p'⟩, fun x H' y => ?_⟩
    obtain ⟨e, y⟩ := y
    subst e
    exact hs i x _ (y xs q) p
  · have e : i = xs.length := by omega
    subst e
    exact .inl ⟨⟨xs, q, Nat.le_refl _⟩, hd H p⟩
theorem turns_zip (hl : xs.length = ys.length) (Pv : Nat → Hp → Prop) (h0 : Pv 0 H0) (hq : ∀ i H, i ≤ xs.length → Pv i H → H a = some (.tup xs) ∧ H b = some (.tup ys))
    (hs : ∀ i x y T H, xs[i]? = some x → ys[i]? = some y → Pv i H → H T = none → Body (Pv (i + 1)) (.ref T) (upd H T (.tup [x, y]))) (hd : ∀ H, Pv xs.length H → Qd H) : Turns (RZ.ItzT K a b) Body H0 Qd := by
  refine ⟨fun i m H => m = xs.length - i ∧ i ≤ xs.length ∧ Pv i H, ⟨xs.length, by simp, Nat.zero_le _, h0⟩, ?_⟩
  rintro i m H ⟨rfl, hi, p⟩
  obtain ⟨q1, q2⟩ := hq i H hi p
  have qx : SqT K H a xs := SqT.of q1
  have qy : SqT K H b ys := SqT.of q2
  by_cases hlt : i < xs.length
  · have hx : xs[i]? = some xs[i] := List.getElem?_eq_getElem hlt
    have hlt2 : i < ys.length := by omega
    have hy : ys[i]? = some ys[i] := List.getElem?_eq_getElem hlt2
    refine .inr ⟨⟨xs, ys, _, _, qx, qy, hx, hy⟩, Pv (i + 1), fun H' p' => ⟨xs.length - (i + 1), by omega, rfl, hlt, p'⟩, fun v H' y => ?_⟩
    obtain ⟨T, x', y', rfl, hT, rfl, f1, f2⟩ := y
    exact hs i x' y' T H (f1 xs qx) (f2 ys qy) p hT
  · have e : i = xs.length := by omega
    subst e
    exact .inl ⟨⟨xs, ys, qx, qy, Or.inl (Nat.le_refl _)⟩, hd H p⟩
end
section
variable {H0 : Hp} {Qd : Hp → Prop} {Body : (Hp → Prop) → V → Hp → Prop} {d : Addr} {o : Obj} {kvs : List (Key × V)}
theorem turns_vals (Pv : Nat → Hp → Prop) (h0 : Pv 0 H0) (hl : ∀ i H, i ≤ kvs.length → Pv i H → H d = some (.frz o (.dK kvs))) (hs : ∀ i k x H, kvs[i]? = some (k, x) → Pv i H → Body (Pv (i + 1)) x H) (hd : ∀ H, Pv kvs.length H → Qd H) : Turns (Itd d o kvs) Body H0 Qd := by
  refine ⟨fun i m H => m = kvs.length - i ∧ i ≤ kvs.length ∧ Pv i H, ⟨kvs.length, by simp, Nat.zero_le _, h0⟩, ?_⟩
  rintro i m H ⟨rfl, hi, p⟩
  have q := hl i H hi p
  by_cases hlt : i < kvs.length
  · refine .inr ⟨⟨q, hlt⟩, Pv (i + 1), fun H' p' => ⟨kvs.length - (i + 1), by omega, rfl, hlt, p'⟩, fun x H' y => ?_⟩
    obtain ⟨rfl, k, hk⟩ := y
    exact hs i k x _ hk p
  · have e : i = kvs.length := by omega
    subst e
    exact .inl ⟨⟨q, Nat.le_refl _⟩, hd H p⟩
theorem turns_keys (Pv : Nat → Hp → Prop) (h0 : Pv 0 H0) (hl : ∀ i H, i ≤ kvs.length → Pv i H → H d = some (.frz o (.dK kvs))) (hs : ∀ i k x H, kvs[i]? = some (k, x) → Pv i H → Body (Pv (i + 1)) (kV k) H) (hd : ∀ H, Pv kvs.length H → Qd H) : Turns (Itk d o kvs) Body H0 Qd := by
  refine ⟨fun i m H => m = kvs.length - i ∧ i ≤ kvs.length ∧ Pv i H, ⟨kvs.length, by simp, Nat.zero_le _, h0⟩, ?_⟩
  rintro i m H ⟨rfl, hi, p⟩
  have q := hl i H hi p
  by_cases hlt : i < kvs.length
  · refine .inr ⟨⟨q, hlt⟩, Pv (i + 1), fun H' p' => ⟨kvs.length - (i + 1), by omega, rfl, hlt, p'⟩, fun x H' y => ?_⟩
    obtain ⟨rfl, k, v, hk, rfl⟩ := y
    exact hs i k v _ hk p
  · have e : i = kvs.length := by omega
    subst e
    exact .inl ⟨⟨q, Nat.le_refl _⟩, hd H p⟩
end
section
variable {K : PySem.W.Frag} {σ : L2.St} {H : Hp} {Q : VK} {P : Program} {w : World}
/-! ### zip of two tuples -/
def ZipR (K : PySem.W.Frag) (vs : List V) (H1 : Hp) (R : It → Hp → Prop) : Prop := ∃ a b xs ys, vs = [.ref a, .ref b] ∧ ((SqL K H1 a xs ∧ SqL K H1 b ys ∧ R (Itz K a b) H1) ∨ (SqT K H1 a xs ∧ SqT K H1 b ys ∧ R (RZ.ItzT K a b) H1))
def ForR (g : TG) (tb : TS) (D : Ends) (σ : L2.St) (J : It) (H1 : Hp) : Prop := ∃ W : Nat → Nat → L2.St → Hp → Prop, (∃ m, W 0 m σ H1) ∧ ∀ i m σ H, W i m σ H →
  (J.stop i H ∧ D.nx σ H) ∨ (J.go i H ∧ ∃ N : L2.St → Hp → Prop, (∀ σ' H', N σ' H' → ∃ m', m' < m ∧ W (i + 1) m' σ' H') ∧ ∀ x H', J.yld i H x H' → g x σ H' fun σ2 H2 => tb { D with nx := N, ct := N, bk := D.nx } σ2 H2)
theorem w_zipF {ta : TA} {g : TG} {tb : TS} {D : Ends} (q : ta σ H fun vs H1 => ZipR K vs H1 (ForR g tb D σ)) : tFor (RZ.iZipA K ta) g tb D σ H := q
theorem w_zipT {g : TG} {tb : TS} {D : Ends} {a b : Addr} {xs ys : List V} (ha : H a = some (.tup xs)) (hb : H b = some (.tup ys)) (hl : xs.length = ys.length) (Pv : Nat → L2.St → Hp → Prop) (h0 : Pv 0 σ H) (hq : ∀ i σ H, Pv i σ H → H a = some (.tup xs) ∧ H b = some (.tup ys))
    (hs : ∀ (i : Nat) (x y : V) (T : Addr) (σ : L2.St) (H : Hp), xs[i]? = some x → ys[i]? = some y → Pv i σ H → H T = none → g (.ref T) σ (upd H T (.tup [x, y])) fun σ2 H2 => tb { D with nx := Pv (i + 1), ct := Pv (i + 1), bk := D.nx } σ2 H2) (hd : ∀ σ H, Pv xs.length σ H → D.nx σ H) :
    ZipR K [.ref a, .ref b] H (ForR g tb D σ) := ⟨a, b, xs, ys, rfl, .inr ⟨SqT.of ha, SqT.of hb, RZ.for_zipT hl Pv h0 (fun i σ H p => ⟨SqT.of (hq i σ H p).1, SqT.of (hq i σ H p).2⟩) hs hd⟩⟩
/-! ### comprehensions by their turns -/
def LcBody (g : TG) (tt : TT) (te : TE) (vs : List Nat) (σ : L2.St) (D : Addr) (Nx : Hp → Prop) (x : V) (H' : Hp) : Prop := g x (wipe σ vs) H' fun σ2 H2 => wipe σ2 vs = wipe σ vs ∧ tt σ2 H2 fun b H3 =>
    if b = true then te σ2 H3 fun y H4 => ∃ acc, H4 D = some (.lst acc) ∧ acc.length < sizeLine ∧ Nx (upd H4 D (.lst (acc ++ [y]))) else Nx H3
def LcR (g : TG) (tt : TT) (te : TE) (vs : List Nat) (σ : L2.St) (Q : VK) (J : It) (H1 : Hp) : Prop := ∀ D, H1 D = none → Turns J (LcBody g tt te vs σ D) (upd H1 D (.lst [])) fun H => Q (.ref D) H
theorem w_lcZ {ta : TA} {g : TG} {tt : TT} {te : TE} {vs : List Nat} (q : ta σ H fun us H1 => ZipR K us H1 (LcR g tt te vs σ Q)) : tLc (RZ.iZipA K ta) g tt te vs σ H Q := q
theorem w_lcZT {g : TG} {tt : TT} {te : TE} {vs : List Nat} {a b : Addr} {xs ys : List V} (ha : H a = some (.tup xs)) (hb : H b = some (.tup ys)) (hl : xs.length = ys.length) (Pv : Addr → Nat → Hp → Prop) (h0 : ∀ D, H D = none → Pv D 0 (upd H D (.lst [])))
    (hq : ∀ D i H, i ≤ xs.length → Pv D i H → H a = some (.tup xs) ∧ H b = some (.tup ys)) (hs : ∀ D i x y T H, xs[i]? = some x → ys[i]? = some y → Pv D i H → H T = none → LcBody g tt te vs σ D (Pv D (i + 1)) (.ref T) (upd H T (.tup [x, y]))) (hd : ∀ D H, Pv D xs.length H → Q (.ref D) H) :
    ZipR K [.ref a, .ref b] H (LcR g tt te vs σ Q) := ⟨a, b, xs, ys, rfl, .inr ⟨SqT.of ha, SqT.of hb, fun D hD => turns_zip hl (Pv D) (h0 D hD) (hq D) (hs D) (hd D)⟩⟩
def SnBody (P : Program) (w : World) (g : TG) (tt : TT) (te : TE) (vs : List Nat) (σ : L2.St) (D : Addr) (Nx : Hp → Prop) (x : V) (H' : Hp) : Prop := g x (wipe σ vs) H' fun σ2 H2 => wipe σ2 vs = wipe σ vs ∧ tt σ2 H2 fun b H3 =>
    if b = true then te σ2 H3 fun y H4 => ∃ (L : List (NestedKey × Addr)) (p : NestedKey × Addr), y = .ref p.2 ∧ H4 D = some (SN P w D L) ∧ (∀ e ∈ L, ElN H4 e) ∧ ElN H4 p ∧ L.length + 1 < 64 ∧ ∀ L', AddN L p L' → Nx (upd H4 D (SN P w D L')) else Nx H3
def SnR (P : Program) (w : World) (g : TG) (tt : TT) (te : TE) (vs : List Nat) (σ : L2.St) (Q : VK) (J : It) (H1 : Hp) : Prop := ∀ D, H1 D = none → Turns J (SnBody P w g tt te vs σ D) (upd H1 D (SN P w D [])) fun H => Q (.ref D) H
def ListR (K : PySem.W.Frag) (x : V) (H1 : Hp) (R : It → Hp → Prop) : Prop := ∃ a, x = .ref a ∧ (∃ xs, SqL K H1 a xs) ∧ R (Itl K a) H1
theorem w_snL {tl : TE} {g : TG} {tt : TT} {te : TE} {vs : List Nat} (q : tl σ H fun x H1 => ListR K x H1 (SnR P w g tt te vs σ Q)) : tSn P w (iList K tl) g tt te vs σ H Q := q
theorem w_listR {a : Addr} {xs : List V} {R : It → Hp → Prop} (h : SqL K H a xs) (q : R (Itl K a) H) : ListR K (.ref a) H R := ⟨a, rfl, ⟨xs, h⟩, q⟩
theorem w_star {te : TE} {t : TA} {Q : List V → Hp → Prop} (q : te σ H fun x H1 => ∃ p xs, x = V.ref p ∧ (SqT K H1 p xs ∨ SqL K H1 p xs) ∧ t σ H1 fun ys H2 => Q (xs ++ ys) H2) : StX.tStar K te t σ H Q := q
/-! ### dicts: values, keys, locked; get, pop, setdefault with a default -/
def ValR (x : V) (H1 : Hp) (R : It → Hp → Prop) : Prop := ∃ d o kvs, x = .ref d ∧ H1 d = some (.frz o (.dK kvs)) ∧ R (Itd d o kvs) H1
theorem w_lcV {td : TE} {g : TG} {tt : TT} {te : TE} {vs : List Nat} (q : td σ H fun x H1 => ValR x H1 (LcR g tt te vs σ Q)) : tLc (iVals td) g tt te vs σ H Q := q
theorem w_valR {d : Addr} {o : Obj} {kvs : List (Key × V)} {R : It → Hp → Prop} (h : H d = some (.frz o (.dK kvs))) (q : R (Itd d o kvs) H) : ValR (.ref d) H R := ⟨d, o, kvs, rfl, h, q⟩
def KeyR (x : V) (H1 : Hp) (R : It → Hp → Prop) : Prop := ∃ d o, x = .ref d ∧ ((∃ kvs, H1 d = some (.frz o (.dK kvs)) ∧ R (Itk d o kvs) H1) ∨ ∃ kvs, H1 d = some (.frz o (.dT kvs)) ∧ R (Itkt d o kvs) H1)
theorem w_lcK {td : TE} {g : TG} {tt : TT} {te : TE} {vs : List Nat} (q : td σ H fun x H1 => KeyR x H1 (LcR g tt te vs σ Q)) : tLc (iKeys td) g tt te vs σ H Q := q
theorem w_keyR {d : Addr} {o : Obj} {kvs : List (Key × V)} {R : It → Hp → Prop} (h : H d = some (.frz o (.dK kvs))) (q : R (Itk d o kvs) H) : KeyR (.ref d) H R := ⟨d, o, rfl, .inl ⟨kvs, h, q⟩⟩
def DcBody (g : TG) (tt : TT) (tk tv : TE) (vs : List Nat) (σ : L2.St) (D : Addr) (Nx : Hp → Prop) (x : V) (H' : Hp) : Prop := g x (wipe σ vs) H' fun σ2 H2 => wipe σ2 vs = wipe σ vs ∧ tt σ2 H2 fun b H3 =>
    if b = true then tk σ2 H3 fun y H4 => tv σ2 H4 fun z H5 => ∃ kvs k, y = kV k ∧ H5 D = some (.dK kvs) ∧ kvs.length < sizeLine ∧ Nx (upd H5 D (.dK (putK kvs k z))) else Nx H3
def DcR (g : TG) (tt : TT) (tk tv : TE) (vs : List Nat) (σ : L2.St) (Q : VK) (J : It) (H1 : Hp) : Prop := ∀ D, H1 D = none → Turns J (DcBody g tt tk tv vs σ D) (upd H1 D (.dK [])) fun H => Q (.ref D) H
theorem w_dcK {td : TE} {g : TG} {tt : TT} {tk tv : TE} {vs : List Nat} (q : td σ H fun x H1 => KeyR x H1 (DcR g tt tk tv vs σ Q)) : tDc (iKeys td) g tt tk tv vs σ H Q := q
theorem w_lockE {B : Hp} {L : List (Addr × HO)} {L' : Obj → List (Addr × HO)} {d : Addr} {kvs : List (Key × V)} {t : TE} (hs : Hs B L H) (h : ∀ od, Put L d (.dK kvs) (.frz od (.dK kvs)) (L' od)) (q : ∀ od H', Hs B (L' od) H' → t σ H' fun v H2 => H2 d = some (.frz od (.dK kvs)) ∧ Q v (upd H2 d (.dK kvs))) : tLockE t σ H Q :=
  ⟨d, .dK kvs, hs.gets (h default), True.intro, fun od => q od _ (hs.puts (h od))⟩
def RDg2 (a : Addr) (y z : V) (H : Hp) (Q : VK) : Prop := ∃ o, DGet H a y o ∧ Q (o.getD z) H
theorem w_dget2 {td ty tx : TE} (q : td σ H fun x H1 => RPopA x H1 fun a => ty σ H1 fun y H2 => tx σ H2 fun z H3 => RDg2 a y z H3 Q) : tDGet2 td ty tx σ H Q := q
theorem w_dg2 {p : Addr} {kvs : List (Key × V)} {n : Int} {z : V} (h : H p = some (.dK kvs)) (q : Q ((valV kvs (Sum.inl n)).getD z) H) : RDg2 p (.int n) z H Q := ⟨_, DGet.k (k := Sum.inl n) h, q⟩
def RPop2 (a : Addr) (y z : V) (H : Hp) (Q : VK) : Prop := ∃ kvs k, H a = some (.dK kvs) ∧ y = kV k ∧ (∀ v, valV kvs k = some v → Q v (upd H a (.dK (dropK kvs k)))) ∧ (valV kvs k = none → Q z H)
theorem w_dpop2 {td ty tx : TE} (q : td σ H fun x H1 => RPopA x H1 fun a => ty σ H1 fun y H2 => tx σ H2 fun z H3 => RPop2 a y z H3 Q) : tDPop2 td ty tx σ H Q := q
theorem w_pop2 {B : Hp} {L L' : List (Addr × HO)} {p : Addr} {kvs : List (Key × V)} {n : Int} {z : V} (hs : Hs B L H) (h : Put L p (.dK kvs) (.dK (dropK kvs (Sum.inl n))) L') (q1 : ∀ v H', valV kvs (Sum.inl n) = some v → Hs B L' H' → Q v H') (q2 : valV kvs (Sum.inl n) = none → Q z H) : RPop2 p (.int n) z H Q :=
  ⟨kvs, Sum.inl n, hs.gets h, rfl, fun v e => q1 v _ e (hs.puts h), q2⟩
def RSetd (a : Addr) (y z : V) (H : Hp) (Q : VK) : Prop := ∃ (kvs : List (Key × V)) (k : Key), H a = some (.dK kvs) ∧ y = kV k ∧ kvs.length < sizeLine ∧ (∀ v, valV kvs k = some v → Q v H) ∧ (valV kvs k = none → Q z (upd H a (.dK (putK kvs k z))))
theorem w_dsetd {td ty tx : TE} (q : td σ H fun x H1 => RPopA x H1 fun a => ty σ H1 fun y H2 => tx σ H2 fun z H3 => RSetd a y z H3 Q) : tDSetd td ty tx σ H Q := q
/-! ### a range whose end is reckoned -/
def RngR (us : List V) (H1 : Hp) (R : It → Hp → Prop) : Prop := ∃ j : Int, us = [.int j] ∧ -(2 ^ 62) ≤ j ∧ j < 2 ^ 62 ∧ R (Itr 0 j.toNat) H1
theorem w_lcG {ta : TA} {g : TG} {tt : TT} {te : TE} {vs : List Nat} (q : ta σ H fun us H1 => RngR us H1 (LcR g tt te vs σ Q)) : tLc (iRng1 ta) g tt te vs σ H Q := q
theorem turns_range {H0 : Hp} {Qd : Hp → Prop} {Body : (Hp → Prop) → V → Hp → Prop} {n : Nat} (Pv : Nat → Hp → Prop) (h0 : Pv 0 H0) (hs : ∀ i H, i < n → Pv i H → Body (Pv (i + 1)) (.int (i : Int)) H) (hd : ∀ H, Pv n H → Qd H) : Turns (Itr 0 n) Body H0 Qd := by
  refine ⟨fun i m H => m = n - i ∧ i ≤ n ∧ Pv i H, ⟨n, by simp, Nat.zero_le _, h0⟩, ?_⟩
  rintro i m H ⟨rfl, hi, p⟩
  by_cases hlt : i < n
  · refine .inr ⟨hlt, Pv (i + 1), fun H' p' => ⟨n - (i + 1), by omega, rfl, hlt, p'⟩, fun x H' y => ?_⟩
    obtain ⟨rfl, rfl⟩ := y
    rw [show (0 : Int) + (i : Int) = (i : Int) from Int.zero_add _]
    exact hs i _ hlt p
  · have e : i = n := by omega
    subst e
    exact .inl ⟨Nat.le_refl _, hd H p⟩
theorem w_rngR {n : Int} {R : It → Hp → Prop} (h0 : 0 ≤ n) (h1 : n < 1000000) (q : R (Itr 0 n.toNat) H) : RngR [.int n] H R := ⟨n, rfl, by omega, by omega, q⟩
end
end Hb

set_option Elab.async false
set_option linter.all false
set_option maxRecDepth 100000
set_option maxHeartbeats 4000000
/-! repr of data, in a law's own body: there no display is under way, which the promise of a def does not tell; so the law's def is run where it is called. -/
namespace Hb
open PySem PySem.Spec L2 PyProof.Rows
/-- data whose text is short -/
structure Shows (d : PyData) : Prop where
  lay : d.canLay0 = true
  dep : d.depth ≤ 40
  sho : d.showable = true
  blk : d.bulk ≤ 2 ^ 20
  lvs : d.leavesShort 13 = true
def rReprD (K : PySem.W.Frag) : List V → Hp → VK → Prop := fun xs H Q => ∃ (p : Addr) (d : PyData), xs = [.ref p] ∧ Dp K H (.ref p) d ∧ Shows d ∧ Q (.str d.shown) H
theorem call_reprD {X : Cx} (hg : X.A.guards = some []) (hu : X.A.units + 64 < cLine) : CallR X (.builtin "repr") (rReprD X.K) := by
  rintro pins s σ H xs us Q I r ⟨p, d, rfl, hd, hs, q⟩
  rw [Vals.ref1 r]
  obtain ⟨as, rd⟩ := Dp.reads I d (.ref p) (.ref p) hd rfl
  have hdep := hs.dep
  refine repr_of_reads' rd hs.sho (PyData.noDict_hsm (PyData.hasDict_of_canLay d hs.lay)) hg (by omega) (fun _ _ e => e) (fun h' u tk hk => ?_) (PyData.shown_fits_bulk (B := 13) (by decide) (by decide) hs.lvs hs.blk)
  exact ⟨.str d.shown, H, I.kept (t' := tk) hk, ⟨_, rfl⟩, q⟩
theorem call_reprDK {X : Cx} {K : PySem.W.Frag} (hg : X.A.guards = some [] := by rfl) (hu : X.A.units + 64 < cLine := by assumption) (hK : X.K = K := by rfl) : CallR X (.builtin "repr") (rReprD K) := by
  subst hK
  exact call_reprD hg hu
theorem w_reprD {K : PySem.W.Frag} {H : Hp} {Q : VK} {p : Addr} {d : PyData} (h : Dp K H (.ref p) d) (hs : Shows d) (q : Q (.str d.shown) H) : rReprD K [.ref p] H Q := ⟨p, d, rfl, h, hs, q⟩

/-! ### a law's def, run where it is called -/
/-- the promise of the law's def at the call itself -/
def LawRun (P : Program) (w : World) (K : PySem.W.Frag) (mg : Str → Option Value) (base : Heap) (k : Nat)
    (f : Addr) (fd : FuncData) (ps : List Str) (sp : Sp) : Prop :=
  ∀ (s : Shared) (H : Hp) (args : Args) (us : List Value)
    (vs : List V) (Q : VK) (E : XK), Room k callerA →
    Env0 P w K mg base callerA [] s H → BindsTo s fd args (ps.zip us) →
    Vals vs us → sp vs H Q E →
    codeAny (model P w) callerA (.call (.ref f) args)
      (CR CX0 [] P w H s Q E) s
section
variable {P : Program} {w : World} {K : PySem.W.Frag} {mg : Str → Option Value} {base : Heap}
theorem law_run {x qual : Str} {st : Stmt} {f : Addr} {fd : FuncData} {N ps : List Str} {k : Nat} {sp : Sp}
    (F : Fun K x qual st f fd) (S : FnScope N ps (defScope st))
    (len : ∀ vs H Q E, sp vs H Q E → vs.length = ps.length)
    (hbody : ∀ (cdv : Value) (s : Shared) (H : Hp) (vs : List V) (Q : VK) (E : XK),
      Room k (callerA.deeper (envOfC qual (defScope st) s.heap.objs.size f cdv)) → sp vs H Q E →
      ∃ t, PSs (cxOf CX0 P w K mg base N qual (defScope st) f cdv callerA [] s H E).nox (defBody st) t ∧
        t { nx := fun _ H' => Q .non H', rt := Q } (start N vs) H) :
    LawRun P w K mg base (k + 1) f fd ps sp := by
  intro s H args us vs Q E hr en hb rv hsp
  obtain ⟨oc, od, kV, doc, pm, an, cdv, ct, osl, rfl, lk, hcd⟩ := F.ex
  have hlen := len vs H Q E hsp
  have hold : ∀ b o, base.get? b = some o → s.heap.get? b = some o := fun b o e => (en.bs b o e).1
  have kin : K.In s.heap := en.mod.kin.keeps hold
  have nolim : s.heap.NoLimit := en.mod.nolimit.keeps hold
  refine codeAny_call_function hr.depth (kin _ _ lk) rfl S.co S.gen rfl (PySem.W.codeRec_of kin hcd) (hb _ _ _ _ ?_)
  refine wpAny_newFunctionEnv_cells S.kind ?_ ?_
  · rintro ⟨n, v⟩ hy
    cases S.par n (List.of_mem_zip hy).1 with
    | inl q => exact Or.inl q
    | inr q => exact Or.inr ⟨q, PySem.W.cellsFrom_some _ _ _ (Or.inl q)⟩
  · intro env he s1 hx
    subst he
    obtain ⟨t, ht, hq⟩ := hbody cdv s H vs Q E (hr.deeper _) hsp
    have i0 := inv_start (CX := CX0) (E := E) S hr.hd en hlen rv hx
    refine ⟨nolim.keeps hx.toInCall.keep, codeAny_func ?_⟩
    refine wpAny_mono (ht.nox.run [] s1 (start N vs) H _ i0 hq) ?_ (fun _ _ q => q)
    intro fl s' hs
    cases fl with
    | ret u =>
      obtain ⟨v, σ', H', j, r1, q1⟩ := hs
      exact ⟨v, H', j.os, j.bare, j.base, j.hok, r1, q1⟩
    | next =>
      obtain ⟨σ', H', j, q1⟩ := hs
      exact ⟨.non, H', j.os, j.bare, j.base, j.hok, rfl, q1⟩
    | brk => exact (hs.choose_spec.choose_spec.2 : False).elim
    | cont => exact (hs.choose_spec.choose_spec.2 : False).elim
end

section
variable {P : Program} {w : World} {K : PySem.W.Frag} {mg mb : Str → Option Value} {k : Nat} {fa a : Addr} {fd : FuncData} {x : Str} {sp : Sp}
/-- what a law's call must show -/
def LawEnd (s₁ : Shared) (r : Result) (s' : Shared) : Prop :=
  r = .ok (.ret (.bool true)) ∧ OldK s₁.heap s'.heap ∧ s'.os = s₁.os ∧ AllBare s'.gens
/-- an abstract heap that tells at most the script, as the machine has it -/
structure Lone (P : Program) (w : World) (K : PySem.W.Frag) (a : Addr) (H : Hp) (h : Heap) : Prop where
  only : Only H
  ok : HOk P w H h
  at_ : ∀ b, H b ≠ none → b = a
  off : H a ≠ none → K.lookup a = none
theorem Lone.free {H : Hp} {s : Shared} {vs : List Value} (L : Lone P w K a H s.heap)
    (ha : s.heap.get? a = some { cls := .type "list", data := .seq vs.toArray })
    {b : Addr} {o : Obj} {es : Array DictEntry} {n : Nat}
    (e : s.heap.get? b = some o) (d : o.data = .dict es n) : H b = none := by
  apply Classical.byContradiction
  intro z
  have q := L.at_ b z
  rw [q, ha] at e
  rw [← Option.some.inj e] at d
  cases d
theorem lone_call {H : Hp} {s : Shared} {vs : List Value} {ns : List Int}
    (L : Lone P w K a H s.heap) (hin : K.In s.heap) (hm : s.heap.Ns mainGlobals mg)
    (hbn : s.heap.Ns builtinsNs mb) (hbv : ∀ y : Str, y ≠ "__name__" → mb y = bootBuiltins y)
    (hno : s.heap.NoLimit) (hgen : s.gens = #[])
    (ha : s.heap.get? a = some { cls := .type "list", data := .seq vs.toArray })
    (hS : SqL K H a (ns.map V.int)) (hr : Room k callerA)
    (F : ∀ base : Heap, K.In base → base.Ns mainGlobals mg → LawRun P w K mg base k fa fd [x] sp)
    (hbind : ∀ (s : Shared) (u : Value), BindsTo s fd ⟨[u], []⟩ [(x, u)])
    (hsp : sp [.ref a] H (fun v _ => v = .bl true) fun _ _ _ => False) :
    codeAny (model P w) callerA (.call (.ref fa) ⟨[.ref a], []⟩) (LawEnd s) s := by
  have keepNs : ∀ {b : Addr} {m : Str → Option Value}, s.heap.Ns b m → (hidT s.heap H).Ns b m := by
    rintro b m ⟨o, es, n, e, d, rest⟩
    exact ⟨o, es, n, hidT_get e (L.free ha e d), d, rest⟩
  have keepK : K.In (hidT s.heap H) := by
    intro b o e
    refine hidT_get (hin b o e) ?_
    apply Classical.byContradiction
    intro z
    have q := L.at_ b z
    rw [q] at e z
    exact absurd ((L.off z).symm.trans e) (by simp)
  have mod : Mod K mg (hidT s.heap H) := by
    obtain ⟨mc, c1, c2⟩ := hno
    exact ⟨keepK, keepNs hm, ⟨mb, keepNs hbn, hbv⟩, mc, keepNs c1, c2⟩
  have none_in : ∀ b : Addr, b ∉ frs ([] : List Env) := fun b z => by
    have z2 : b ∈ ([] : List Addr) := z
    cases z2
  have en : Env0 P w K mg (hidT s.heap H) callerA [] s H := {
    frames := rfl
    mod := mod
    bs := fun b o e => of_hidT e
    bsz := Nat.le_of_eq (hidT_size _ _)
    funs := trivial
    frf := fun b z => (none_in b z).elim
    hok := L.ok
    bare := .of_eq hgen }
  have run := F _ keepK (keepNs hm) s H ⟨[.ref a], []⟩ [.ref a] [.ref a] _ _ hr en
    (hbind s (.ref a)) (.cons rfl .nil) hsp
  refine codeAny_mono run ?_
  intro r s' done
  match r, done with
  | .ok (.ret u), done =>
    obtain ⟨v, H', os, bare, un, ok', rel, hv⟩ := done
    have hv' : v = .bl true := hv
    rw [hv'] at rel
    have hu : u = Value.bool true := rel
    refine ⟨by rw [hu], OldK.of_keep ?_, os, bare⟩
    intro b o e
    rcases L.only b with z | ⟨ob, xs, z⟩
    · exact un.keep b o e z (none_in b) List.not_mem_nil
    · have e1 := (L.ok b _ z).1
      have e2 := (ok' b _ (un.frzs b ob _ z)).1
      rw [e1] at e
      rw [← e]
      exact e2
  | .error e, done => exact (show False from done).elim
  | .ok .next, done => exact (show False from done).elim
  | .ok .brk, done => exact (show False from done).elim
  | .ok .cont, done => exact (show False from done).elim
theorem law_at_call {s : Shared} {vs : List Value} {ns : List Int}
    (hin : K.In s.heap) (hm : s.heap.Ns mainGlobals mg) (hbn : s.heap.Ns builtinsNs mb)
    (hbv : ∀ y : Str, y ≠ "__name__" → mb y = bootBuiltins y) (hno : s.heap.NoLimit) (hgen : s.gens = #[])
    (ha : s.heap.get? a = some { cls := .type "list", data := .seq vs.toArray })
    (hi : IntsAre vs ns) (hl : ns.length ≤ sizeLine) (hr : Room k callerA)
    (F : ∀ base : Heap, K.In base → base.Ns mainGlobals mg → LawRun P w K mg base k fa fd [x] sp)
    (hbind : ∀ (s : Shared) (u : Value), BindsTo s fd ⟨[u], []⟩ [(x, u)])
    (hsp : ∀ H : Hp, Only H → SqL K H a (ns.map V.int) → sp [.ref a] H (fun v _ => v = .bl true) fun _ _ _ => False) :
    codeAny (model P w) callerA (.call (.ref fa) ⟨[.ref a], []⟩) (LawEnd s) s := by
  have rv := vals_ints hi
  cases hk : K.lookup a with
  | some o =>
    have e := hin a o hk
    rw [ha] at e
    have eo := Option.some.inj e
    subst eo
    have L : Lone P w K a (fun _ => none) s.heap :=
      ⟨fun _ => Or.inl rfl, fun _ u z => absurd (show none = some u from z) (by simp), fun _ z => (z rfl).elim, fun z => (z rfl).elim⟩
    have hS : SqL K (fun _ => none) a (ns.map V.int) :=
      Or.inr ⟨_, vs.toArray, _, hk, rfl, rfl, rfl, by rw [List.size_toArray, hi.length]; exact hl, by simpa using rv⟩
    exact lone_call L hin hm hbn hbv hno hgen ha hS hr F hbind (hsp _ L.only hS)
  | none =>
    let fz : HO := .frz { cls := .type "list", data := .seq vs.toArray } (.lst (ns.map V.int))
    have self : upd (fun _ => none) a fz a = some fz := upd_same
    have others : ∀ b, b ≠ a → upd (fun _ => none) a fz b = none := fun b n => upd_ne n
    have L : Lone P w K a (upd (fun _ => none) a fz) s.heap := by
      refine ⟨fun b => ?_, fun b u z => ?_, fun b z => ?_, fun _ => hk⟩
      · by_cases q : b = a
        · rw [q]
          exact Or.inr ⟨_, _, self⟩
        · exact Or.inl (others b q)
      · by_cases q : b = a
        · rw [q] at z ⊢
          have z2 := Option.some.inj (self.symm.trans z)
          subst z2
          exact ⟨ha, by rw [List.length_map]; exact hl, vs, _, rv, ha⟩
        · exact absurd ((others b q).symm.trans z) (by simp)
      · exact Classical.byContradiction fun q => z (others b q)
    have hS : SqL K (upd (fun _ => none) a fz) a (ns.map V.int) := Or.inl (Or.inr ⟨_, self⟩)
    exact lone_call L hin hm hbn hbv hno hgen ha hS hr F hbind (hsp _ L.only hS)
end
/-- the end of a law row from the law's run -/
theorem walk_run {l : PySem.W.OpenLaw} {n k : Nat} {q : Program} {loose : List Str} {XP : (Str → Option Value) → Heap → Prop}
    {YP : World → Heap → Prop} {d : DefRec} {K : Params → PySem.W.Frag} {sp : World → Sp} {x : Str}
    (hn : l.most = some n) (hn2 : n ≤ sizeLine) (hdf : d.params.defaults = []) (hr : Room k callerA)
    (hY : ∀ (w : World) (h : Heap), YP w h → (K w.params).In h)
    (F : ∀ (w : World) (mg : Str → Option Value) (fa : Addr) (h : Heap),
      (K w.params).In h → h.Ns mainGlobals mg → mg d.name = some (.ref fa) →
      ∃ fd : FuncData, (∀ (s : Shared) (u : Value), BindsTo s fd ⟨[u], []⟩ [(x, u)]) ∧
        ∀ base : Heap, (K w.params).In base → base.Ns mainGlobals mg →
          LawRun l.prog w (K w.params) mg base k fa fd [x] (sp w))
    (hsp : ∀ (w : World) (H : Hp) (a : Addr) (ns : List Int), ns.length ≤ n → Only H →
      SqL (K w.params) H a (ns.map V.int) → sp w [.ref a] H (fun v _ => v = .bl true) fun _ _ _ => False) :
    PySem.W.WalkO q loose XP YP l.row.toRowW d [] (fun f vs => PySem.call f vs) := by
  refine Att.attach_call hn hdf ?_
  intro w s₀ s₁ mg mb fa o pm cd doc a vs ns G Y _ _ _ hmg hobj hints hlen hgen
  have hin := hY w _ Y
  obtain ⟨fd, hb, hF⟩ := F w mg fa _ hin G.T.g hmg
  exact law_at_call hin G.T.g G.T.b G.T.builtins G.T.nolimit hgen hobj hints
    (Nat.le_trans hlen hn2) hr hF hb fun H hO hS => hsp w H a ns hlen hO hS
end Hb

set_option Elab.async false
set_option linter.all false
set_option maxRecDepth 100000
set_option maxHeartbeats 4000000
/-! More of dicts with nested tuple keys: get with and without a default, list(d); tuples joined, whatever they are; truth of lists of bools. -/
namespace Hb
open PySem L2 PyProof.Rows
section
variable {X : Cx} {w : World} {o e f : Expr} {apos cpos : Pos} {td ty tx : TE}
def rNG (w : World) (x y z : V) (H : Hp) (Q : VK) : Prop := ∃ a b es k, AtN w H x y a b es k ∧ Q ((atN es k).getD z) H
def tNGet1 (w : World) (td ty : TE) : TE := fun σ H Q => td σ H fun x H1 => (∃ a es, x = .ref a ∧ H1 a = some (DN w a es)) ∧ ty σ H1 fun y H2 => rNG w x y .non H2 Q
def tNGet2 (w : World) (td ty tx : TE) : TE := fun σ H Q => td σ H fun x H1 => (∃ a es, x = .ref a ∧ H1 a = some (DN w a es)) ∧ ty σ H1 fun y H2 => tx σ H2 fun z H3 => rNG w x y z H3 Q
theorem pe_nget1 (hu : X.A.units + 64 < cLine) (ho : PE X o td) (he : PE X e ty) (m : M1 X o "get" apos e cpos) (hw : X.w = w := by rfl) : PE X (.Call (.Attribute o "get" apos) [e] [] cpos) (tNGet1 w td ty) := by
  refine ⟨fun pins s σ H Q I h => ?_⟩
  refine wpAny_Call_method m.base m.few m.line PySem.F.plainAttrs_dict PySem.F.slot_dict_get PySem.F.type_dict_get (thn (ho.run pins s σ H _ I h) ?_)
  rintro u s1 ⟨x, H1, I1, rx, ⟨a0, es0, rfl, ea⟩, q1⟩
  obtain rfl : u = Value.ref a0 := rx
  subst hw
  obtain ⟨t1, t2⟩ := dn_type I1 ea
  have hd0 : (a0 == sysModules) = false := (show ObjOk X.prog X.w H1 s1.heap a0 (DN X.w a0 es0) from I1.hok _ _ ea).1.2.1
  refine ⟨t1, t2, ?_⟩
  rw [m.trees]
  refine wpAny_dict_get1_heap (knd := nestedKind X.prog X.w) (n_room hu) hd0 (thn (he.run pins s1 σ H1 _ I1 q1) ?_)
  rintro iv s2 ⟨y, H2, I2, ry, a, b, es, k, g, q2⟩
  obtain ⟨z, hd, xs, rr, dd, hk⟩ := g.dn I2 rfl
  cases g.ex
  cases g.ey
  refine ⟨b, k, xs, ry, hk, dd, ?_⟩
  exact ⟨_, H2, I2.tok _, (rr.at k).getD (show RelV .non .none from rfl), q2⟩
theorem pe_nget2 (hu : X.A.units + 64 < cLine) (ho : PE X o td) (he : PE X e ty) (hf : PE X f tx) (m : M2 X o "get" apos e f cpos) (hw : X.w = w := by rfl) : PE X (.Call (.Attribute o "get" apos) [e, f] [] cpos) (tNGet2 w td ty tx) := by
  refine ⟨fun pins s σ H Q I h => ?_⟩
  refine wpAny_Call_method m.base m.few m.line PySem.F.plainAttrs_dict PySem.F.slot_dict_get PySem.F.type_dict_get (thn (ho.run pins s σ H _ I h) ?_)
  rintro u s1 ⟨x, H1, I1, rx, ⟨a0, es0, rfl, ea⟩, q1⟩
  obtain rfl : u = Value.ref a0 := rx
  subst hw
  obtain ⟨t1, t2⟩ := dn_type I1 ea
  have hd0 : (a0 == sysModules) = false := (show ObjOk X.prog X.w H1 s1.heap a0 (DN X.w a0 es0) from I1.hok _ _ ea).1.2.1
  refine ⟨t1, t2, ?_⟩
  rw [m.trees]
  refine wpAny_dict_get2_heap (knd := nestedKind X.prog X.w) (n_room hu) hd0 (thn (he.run pins s1 σ H1 _ I1 q1) ?_)
  rintro iv s2 ⟨y, H2, I2, ry, q2⟩
  refine thn (hf.run pins s2 σ H2 _ I2 q2) ?_
  rintro fv s3 ⟨z0, H3, I3, rz, a, b, es, k, g, q3⟩
  obtain ⟨z, hd, xs, rr, dd, hk⟩ := g.dn I3 rfl
  cases g.ex
  cases g.ey
  refine ⟨b, k, xs, ry, hk, dd, ?_⟩
  exact ⟨_, H3, I3.tok _, (rr.at k).getD rz, q3⟩
/-- list(d) -/
def rListN (w : World) : List V → Hp → VK → Prop := fun xs H Q => ∃ (p : Addr) (es : List Ent), xs = [.ref p] ∧ H p = some (DN w p es) ∧ ∀ q, H q = none → Q (.ref q) (upd H q (.lst (es.map fun e => V.ref e.2.1)))
theorem call_listN (hc : X.calm = true) (hw : X.w = w := by rfl) : CallR X (.type "list") (rListN w) := by
  subst hw
  rintro pins s σ H xs us Q I r ⟨p, es, rfl, hp, q⟩
  rw [Vals.ref1 r]
  obtain ⟨⟨z, lo, vs, rel, ob, ds, ep, h1, h2, h3, h4, h5⟩, _, _⟩ := (show ObjOk X.prog X.w H s.heap p (DN X.w p es) from I.hok _ _ hp)
  have hsz : ds.size = es.length := by
    rw [← Array.length_toList, h4, List.length_map, rel.len]
  refine PySem.W.kdl_call (kdl_raw lo h2 h3) (I.ok.hd hc) h1 (by rw [hsz]; exact z) fun h' tk acc c hk hS hacc => ?_
  have hac : acc.toList = es.map fun e => Value.ref e.2.1 := by
    refine List.ext_getElem? fun j => ?_
    rw [List.getElem?_map]
    cases e1 : acc.toList[j]? with
    | none =>
      have g1 := List.getElem?_eq_none_iff.mp e1
      rw [Array.length_toList, hacc.1, hsz] at g1
      rw [List.getElem?_eq_none g1]
      rfl
    | some v =>
      obtain ⟨en, g1, g2⟩ := hacc.2 j v (by rw [← Array.getElem?_toList]; exact e1)
      rw [← Array.getElem?_toList, h4, List.getElem?_map] at g1
      obtain ⟨x, g3, g4⟩ := Option.map_eq_some_iff.mp g1
      have g5 := congrArg (fun l => l[j]?) rel.addrs
      simp only [List.getElem?_map, g3] at g5
      rw [g2, ← g4]
      cases e2 : es[j]? with
      | none =>
        rw [e2] at g5
        simp at g5
      | some y =>
        rw [e2] at g5
        simp only [Option.map_some, Option.some.injEq, Value.ref.injEq] at g5
        simp only [Option.map_some, entN, g5]
  have vals : ∀ l : List Ent, Vals (l.map fun e => V.ref e.2.1) (l.map fun e => Value.ref e.2.1) := fun l => by
    induction l with
    | nil => exact .nil
    | cons e l ih => exact .cons rfl ih
  refine ⟨.ref s.heap.objs.size, upd H s.heap.objs.size (.lst (es.map fun e => V.ref e.2.1)), I.laid hk (Nat.le_refl _) (show ObjOk X.prog X.w _ _ _ (.lst (es.map fun e => V.ref e.2.1)) from ⟨by rw [List.length_map]; exact z, acc.toList, c, ?_, hS⟩), rfl, q _ (I.hok.fresh (Nat.le_refl _))⟩
  rw [hac]
  exact vals es
theorem op_catAK {K : PySem.W.Frag} (hK : X.K = K := by rfl) : OpR X (binaryOp .Add) (rCatA K) := by
  subst hK
  exact op_catA
theorem sl_tupAK {K : PySem.W.Frag} (hK : X.K = K := by rfl) : SlR X (rSlA K) := by
  subst hK
  exact sl_tupA
theorem ix_kdictK {K : PySem.W.Frag} (hK : X.K = K := by rfl) (hw : X.w = w := by rfl) : IxR X (rIxD K w) := by
  subst hK hw
  exact ix_kdict
theorem cr_allK {K : PySem.W.Frag} (hc : X.calm = true) (hK : X.K = K := by rfl) : CallR X (.builtin "all") (rAll K) := by
  subst hK
  exact cr_all hc
theorem cr_anyK {K : PySem.W.Frag} (hc : X.calm = true) (hK : X.K = K := by rfl) : CallR X (.builtin "any") (rAny K) := by
  subst hK
  exact cr_any hc
theorem cr_minK {K : PySem.W.Frag} (hc : X.calm = true) (hK : X.K = K := by rfl) : CallR X (.builtin "min") (rMin K) := by
  subst hK
  exact cr_min hc
theorem cr_maxK {K : PySem.W.Frag} (hc : X.calm = true) (hK : X.K = K := by rfl) : CallR X (.builtin "max") (rMax K) := by
  subst hK
  exact cr_max hc
end
end Hb

set_option Elab.async false
set_option linter.all false
set_option maxRecDepth 100000
set_option maxHeartbeats 4000000
/-! Dicts whose keys are tuples of ints and of flat tuples of ints, with any values: a plain list of pairs. -/
namespace Hb
open PySem L2 PyProof.Rows
abbrev IK := List Itm
abbrev GM := List (IK × V)
theorem nkI_depth (x : Itm) : (nkI x).depth ≤ 3 := by
  cases x with
  | inl i => simp [nkI, NestedKey.depth]
  | inr ns =>
    have h : ∀ l : List Int, NestedKey.depthAll (l.map NestedKey.num) ≤ 1 := fun l => by
      induction l with
      | nil => simp [NestedKey.depthAll]
      | cons n l ih =>
        rw [List.map_cons]
        simp only [NestedKey.depthAll, NestedKey.depth]
        omega
    have := h ns
    simp only [nkI, NestedKey.depth]
    omega
theorem nkK_depth (ks : IK) : (nkK ks).depth ≤ 8 := by
  have h : ∀ l : List Itm, NestedKey.depthAll (l.map nkI) ≤ 3 := fun l => by
    induction l with
    | nil => simp [NestedKey.depthAll]
    | cons x l ih =>
      have := nkI_depth x
      rw [List.map_cons]
      simp only [NestedKey.depthAll]
      omega
  have := h ks
  simp only [nkK, NestedKey.depth]
  omega
/-- an item of a key, as it stands -/
def ItAt (H : Hp) (v : V) : Itm → Prop
  | .inl i => v = .int i
  | .inr ns => ∃ p : Addr, v = .ref p ∧ H p = some (.tup (ns.map V.int))
theorem nks_ints {H : Hp} : ∀ ns : List Int, NKs H (ns.map NestedKey.num) (ns.map V.int)
  | [] => .nil
  | n :: ns => .cons (.int n) (nks_ints ns)
theorem nks_ints_inv {H : Hp} : ∀ {ns : List Int} {vs : List V}, NKs H (ns.map NestedKey.num) vs → vs = ns.map V.int
  | [], _, h => by cases h; rfl
  | n :: ns, _, h => by
    cases h with
    | cons h1 h2 =>
      cases h1
      rw [nks_ints_inv h2]
      rfl
theorem ItAt.nk {H : Hp} {v : V} : ∀ {x : Itm}, ItAt H v x → NK H (nkI x) v
  | .inl i, h => by
    cases h
    exact .int i
  | .inr ns, ⟨p, h1, h2⟩ => by
    cases h1
    exact .tup h2 (nks_ints ns)
theorem ItAt.of {H : Hp} {v : V} : ∀ {x : Itm}, NK H (nkI x) v → ItAt H v x
  | .inl i, h => by
    cases h
    rfl
  | .inr ns, h => by
    cases h with
    | tup h1 h2 => exact ⟨_, rfl, by rw [h1, nks_ints_inv h2]⟩
/-- the key at an address: its items -/
def KAt (H : Hp) (p : Addr) (ks : IK) : Prop := ∃ vs, H p = some (.tup vs) ∧ Paired (fun v x => ItAt H v x) vs ks
theorem KAt.nk {H : Hp} {p : Addr} {ks : IK} (h : KAt H p ks) : NK H (nkK ks) (.ref p) := by
  obtain ⟨vs, h1, h2⟩ := h
  refine .tup h1 ?_
  clear h1
  induction h2 with
  | nil => exact .nil
  | cons h _ ih => exact .cons h.nk ih
theorem KAt.of {H : Hp} {p : Addr} {ks : IK} (h : NK H (nkK ks) (.ref p)) : KAt H p ks := by
  cases h with
  | @tup _ vs _ h1 h2 =>
    refine ⟨vs, h1, ?_⟩
    clear h1
    induction ks generalizing vs with
    | nil => cases h2; exact .nil
    | cons x ks ih =>
      cases h2 with
      | cons k1 k2 => exact .cons (ItAt.of k1) (ih k2)
theorem ItAt.mono {H H' : Hp} (e : ∀ p xs, H p = some (.tup xs) → H' p = some (.tup xs)) {v : V} : ∀ {x : Itm}, ItAt H v x → ItAt H' v x
  | .inl _, h => h
  | .inr _, ⟨p, h1, h2⟩ => ⟨p, h1, e _ _ h2⟩
theorem KAt.mono {H H' : Hp} (e : ∀ p xs, H p = some (.tup xs) → H' p = some (.tup xs)) {p : Addr} {ks : IK} (h : KAt H p ks) : KAt H' p ks := by
  obtain ⟨vs, h1, h2⟩ := h
  exact ⟨vs, e _ _ h1, Paired.mapP h2 fun _ _ => ItAt.mono e⟩
theorem KAt.same {H H' : Hp} (e : Same H H') {p : Addr} {ks : IK} (h : KAt H p ks) : KAt H' p ks := h.mono fun _ _ => e _ _
/-- a flat tuple of ints as a key -/
theorem kat_ints {H : Hp} {p : Addr} {ns : List Int} (h : H p = some (.tup (ns.map V.int))) : KAt H p (ns.map Sum.inl) := by
  refine ⟨_, h, ?_⟩
  clear h
  induction ns with
  | nil => exact .nil
  | cons n ns ih => exact .cons (show ItAt H (.int n) (.inl n) from rfl) ih
theorem kat_ints_inv {H : Hp} {p : Addr} {ns : List Int} (h : KAt H p (ns.map Sum.inl)) : H p = some (.tup (ns.map V.int)) := by
  obtain ⟨vs, h1, h2⟩ := h
  rw [h1]
  congr 2
  clear h1
  induction ns generalizing vs with
  | nil => cases h2; rfl
  | cons n ns ih =>
    cases h2 with
    | cons k1 k2 =>
      rw [ih _ k2, show _ = V.int n from k1]
      rfl
/-! ### the pairs -/
def valG (M : GM) (k : IK) : Option V := (M.find? fun x => decide (x.1 = k)).map (·.2)
def putG (M : GM) (k : IK) (v : V) : GM := if (valG M k).isSome then M.map (fun x => if x.1 = k then (x.1, v) else x) else M ++ [(k, v)]
def dropG (M : GM) (k : IK) : GM := M.filter fun x => decide (x.1 ≠ k)
abbrev EntG (H : Hp) : List Ent → GM → Prop := Paired fun e x => e.1 = nkK x.1 ∧ e.2.2 = x.2 ∧ KAt H e.2.1 x.1
theorem EntG.mono {H H' : Hp} (e : ∀ p xs, H p = some (.tup xs) → H' p = some (.tup xs)) {es : List Ent} {M : GM} (h : EntG H es M) : EntG H' es M := Paired.mapP h fun _ _ ⟨h1, h2, h3⟩ => ⟨h1, h2, h3.mono e⟩
theorem EntG.same {H H' : Hp} (e : Same H H') {es : List Ent} {M : GM} (h : EntG H es M) : EntG H' es M := h.mono fun _ _ => e _ _
theorem EntG.nil {H : Hp} : EntG H [] [] := Paired.nil
theorem EntG.ok {H : Hp} {es : List Ent} {M : GM} (h : EntG H es M) : EntsOk H es := by
  induction h with
  | nil => exact EntsOk.nil
  | cons h _ ih =>
    intro e he
    rcases List.mem_cons.mp he with rfl | he
    · rw [h.1]
      exact ⟨h.2.2.nk, nkK_depth _⟩
    · exact ih e he
theorem EntG.len {H : Hp} {es : List Ent} {M : GM} (h : EntG H es M) : es.length = M.length := Paired.length h
theorem EntG.at {H : Hp} {es : List Ent} {M : GM} (h : EntG H es M) (k : IK) : atN es (nkK k) = valG M k := by
  induction h with
  | nil => rfl
  | @cons e x es xs h _ ih =>
    unfold atN valG at ih ⊢
    rw [List.find?_cons, List.find?_cons, h.1]
    by_cases hc : x.1 = k
    · rw [decide_eq_true hc, decide_eq_true (by rw [hc])]
      show some e.2.2 = some x.2
      rw [h.2.1]
    · rw [decide_eq_false hc, decide_eq_false (fun z => hc (nkK_inj z))]
      exact ih
theorem entG_map {H : Hp} {k : IK} {v : V} : ∀ {es : List Ent} {M : GM}, EntG H es M → EntG H (es.map fun e => if e.1 = nkK k then (e.1, e.2.1, v) else e) (M.map fun x => if x.1 = k then (x.1, v) else x)
  | _, _, Paired.nil => Paired.nil
  | e :: es, x :: xs, Paired.cons h t => by
    refine Paired.cons ?_ (entG_map t)
    by_cases hc : x.1 = k
    · have hc2 : e.1 = nkK k := by rw [h.1, hc]
      simp only [if_pos hc2, if_pos hc]
      exact ⟨h.1, trivial, h.2.2⟩
    · have hc2 : ¬ e.1 = nkK k := fun z => hc (nkK_inj (h.1.symm.trans z))
      simp only [if_neg hc2, if_neg hc]
      exact h
theorem EntG.put {H : Hp} {es : List Ent} {M : GM} (h : EntG H es M) {k : IK} {b : Addr} (v : V) (hk : KAt H b k) : EntG H (putN es (nkK k) b v) (putG M k v) := by
  unfold putN putG
  rw [h.at k]
  by_cases hc : (valG M k).isSome = true
  · rw [if_pos hc, if_pos hc]
    exact entG_map h
  · rw [if_neg hc, if_neg hc]
    exact paired_app h (Paired.cons ⟨rfl, rfl, hk⟩ Paired.nil)
theorem putG_len {M : GM} {k : IK} {v : V} : (putG M k v).length ≤ M.length + 1 := by
  unfold putG
  by_cases h : (valG M k).isSome = true
  · rw [if_pos h, List.length_map]
    omega
  · rw [if_neg h, List.length_append]
    exact Nat.le_refl _
theorem valG_some {M : GM} {k : IK} : (valG M k).isSome = true ↔ k ∈ M.map (·.1) := by
  unfold valG
  rw [Option.isSome_map, List.find?_isSome, List.mem_map]
  exact ⟨fun ⟨x, h1, h2⟩ => ⟨x, h1, of_decide_eq_true h2⟩, fun ⟨x, h1, h2⟩ => ⟨x, h1, decide_eq_true h2⟩⟩
theorem putG_keys (M : GM) (k : IK) (v : V) : (putG M k v).map (·.1) = if (valG M k).isSome = true then M.map (·.1) else M.map (·.1) ++ [k] := by
  unfold putG
  by_cases h : (valG M k).isSome = true
  · rw [if_pos h, if_pos h, List.map_map]
    refine List.map_congr_left fun x _ => ?_
    by_cases hc : x.1 = k
    · simp [hc]
    · simp [hc]
  · rw [if_neg h, if_neg h, List.map_append]
    rfl
theorem valG_cons (x : IK × V) (M : GM) (k : IK) : valG (x :: M) k = if x.1 = k then some x.2 else valG M k := by
  unfold valG
  rw [List.find?_cons]
  by_cases h : x.1 = k
  · rw [decide_eq_true h, if_pos h]
    rfl
  · rw [decide_eq_false h, if_neg h]
theorem valG_nil (k : IK) : valG [] k = none := rfl
theorem valG_put (M : GM) (k : IK) (v : V) (j : IK) : valG (putG M k v) j = if j = k then some v else valG M j := by
  unfold putG
  by_cases h : (valG M k).isSome = true
  · rw [if_pos h]
    by_cases hj : j = k
    · subst hj
      rw [if_pos rfl]
      induction M with
      | nil => cases h
      | cons x M ih =>
        rw [List.map_cons, valG_cons]
        rw [valG_cons] at h
        by_cases hx : x.1 = j
        · rw [if_pos hx, if_pos hx]
        · rw [if_neg hx] at h
          rw [if_neg hx, if_neg hx]
          exact ih h
    · rw [if_neg hj]
      clear h
      induction M with
      | nil => rfl
      | cons x M ih =>
        rw [List.map_cons, valG_cons, valG_cons, ih]
        by_cases hx : x.1 = k
        · rw [if_pos hx]
          by_cases hxj : x.1 = j
          · exact absurd (hxj.symm.trans hx) hj
          · rw [if_neg hxj, if_neg hxj]
        · rw [if_neg hx]
  · rw [if_neg h]
    have hn : valG M k = none := by
      cases e : valG M k with
      | none => rfl
      | some _ => exact absurd (by rw [e]; rfl) h
    clear h
    induction M with
    | nil =>
      rw [List.nil_append, valG_cons]
      by_cases hj : k = j
      · rw [if_pos hj, if_pos hj.symm]
      · rw [if_neg hj, if_neg (fun z => hj z.symm)]
    | cons x M ih =>
      rw [valG_cons] at hn
      by_cases hx : x.1 = k
      · rw [if_pos hx] at hn
        cases hn
      · rw [if_neg hx] at hn
        rw [List.cons_append, valG_cons, ih hn, valG_cons]
        by_cases hxj : x.1 = j
        · rw [if_pos hxj]
          by_cases hj : j = k
          · exact absurd (hxj.trans hj) hx
          · rw [if_neg hj, if_pos hxj]
        · rw [if_neg hxj, if_neg hxj]
/-! ### the steps -/
section
variable {w : World} {σ : L2.St} {H B : Hp} {Q : VK} {D : Ends} {td ty tv tx : TE} {L L' : List (Addr × HO)} {es : List Ent} {M : GM} {k : IK} {d b : Addr} {v : V}
theorem atG_of (h : H d = some (DN w d es)) (e : EntG H es M) (hk : KAt H b k) : AtN w H (.ref d) (.ref b) d b es (nkK k) := ⟨rfl, rfl, h, e.ok, hk.nk, nkK_depth k⟩
theorem wg_get (hs : Hs B L H) (h : H d = some (DN w d es)) (e : EntG B es M) (hk : KAt H b k) (hv : valG M k = some v) (q : Q v H) : rNGet w (.ref d) (.ref b) H Q :=
  ⟨d, b, es, nkK k, v, atG_of h (e.same hs.same) hk, by rw [e.at k, hv], q⟩
theorem wg_in {R : Bool → Prop} (hs : Hs B L H) (h : H d = some (DN w d es)) (e : EntG B es M) (hk : KAt H b k) (q : R (valG M k).isSome) : rNIn w (.ref d) (.ref b) H R :=
  ⟨d, b, es, nkK k, atG_of h (e.same hs.same) hk, by rw [e.at k]; exact q⟩
theorem wg_put {R : Hp → Prop} (hs : Hs B L H) (h : Put L d (DN w d es) (DN w d (putN es (nkK k) b v)) L') (e : EntG B es M) (hk : KAt B b k) (hl : M.length ≤ 1000000) (q : ∀ H', Hs B L' H' → EntG B (putN es (nkK k) b v) (putG M k v) → R H') : rNPut w (.ref d) (.ref b) v H R :=
  ⟨d, b, es, nkK k, atG_of (hs.gets h) (e.same hs.same) (hk.same hs.same), by rw [e.len, sizeLine_eq]; omega, q _ (hs.puts h) (e.put v hk)⟩
theorem wg_def {z : V} (hs : Hs B L H) (h : H d = some (DN w d es)) (e : EntG B es M) (hk : KAt H b k) (q : Q ((valG M k).getD z) H) : rNG w (.ref d) (.ref b) z H Q :=
  ⟨d, b, es, nkK k, atG_of h (e.same hs.same) hk, by rw [e.at k]; exact q⟩
theorem w_ng1 (q : td σ H fun x H1 => (∃ a es, x = .ref a ∧ H1 a = some (DN w a es)) ∧ ty σ H1 fun y H2 => rNG w x y .non H2 Q) : tNGet1 w td ty σ H Q := q
theorem w_ng2 (q : td σ H fun x H1 => (∃ a es, x = .ref a ∧ H1 a = some (DN w a es)) ∧ ty σ H1 fun y H2 => tx σ H2 fun z H3 => rNG w x y z H3 Q) : tNGet2 w td ty tx σ H Q := q
theorem EntG.row {es : List Ent} {M : GM} (h : EntG H es M) : Paired (fun (v : V) (x : IK) => ∃ p : Addr, v = .ref p ∧ KAt H p x) (es.map fun e => V.ref e.2.1) (M.map (·.1)) := by
  induction h with
  | nil => exact .nil
  | cons h _ ih => exact .cons ⟨_, rfl, h.2.2⟩ ih
theorem wg_list (hs : Hs B L H) (h : H d = some (DN w d es)) (q : ∀ p H', Hs B ((p, .lst (es.map fun e => V.ref e.2.1)) :: L) H' → Q (.ref p) H') : rListN w [.ref d] H Q :=
  ⟨d, es, rfl, h, fun p hp => q p _ (hs.new hp)⟩
end
end Hb

set_option Elab.async false
set_option linter.all false
set_option maxRecDepth 100000
set_option maxHeartbeats 4000000
/-! Rows of items side by side with what they tell; sorted of keys; promises joined; objects that stand. -/
namespace Hb
open PySem L2 PyProof.Rows
/-! ## data side by side -/
def Row {α : Type} (R : V → α → Prop) (us : List V) (xs : List α) : Prop := us.length = xs.length ∧ ∀ (i : Nat) (u : V) (x : α), us[i]? = some u → xs[i]? = some x → R u x
theorem Row.mono {α : Type} {R R' : V → α → Prop} (h : ∀ u x, R u x → R' u x) {us : List V} {xs : List α} (r : Row R us xs) : Row R' us xs := ⟨r.1, fun i u x h1 h2 => h _ _ (r.2 i u x h1 h2)⟩
theorem Row.get {α : Type} {R : V → α → Prop} {us : List V} {xs : List α} (r : Row R us xs) {i : Nat} {u : V} (h : us[i]? = some u) : ∃ x, xs[i]? = some x ∧ R u x := by
  have hi := (List.getElem?_eq_some_iff.mp h).1
  have h2 : xs[i]? = some (xs[i]'(by have := r.1; omega)) := List.getElem?_eq_getElem _
  exact ⟨_, h2, r.2 i _ _ h h2⟩
theorem Row.nil {α : Type} {R : V → α → Prop} : Row R [] [] := ⟨rfl, fun _ _ _ z => nomatch z⟩
theorem Row.cons {α : Type} {R : V → α → Prop} {us : List V} {xs : List α} {u : V} {x : α} (h : R u x) (r : Row R us xs) : Row R (u :: us) (x :: xs) := by
  refine ⟨by rw [List.length_cons, List.length_cons, r.1], fun i y z h1 h2 => ?_⟩
  cases i with
  | zero =>
    cases h1
    cases h2
    exact h
  | succ i => exact r.2 i y z (by simpa using h1) (by simpa using h2)
theorem Row.snoc {α : Type} {R : V → α → Prop} {us : List V} {xs : List α} {u : V} {x : α} (r : Row R us xs) (h : R u x) : Row R (us ++ [u]) (xs ++ [x]) := by
  refine ⟨by rw [List.length_append, List.length_append, r.1]; rfl, fun i y z h1 h2 => ?_⟩
  by_cases hi : i < us.length
  · rw [List.getElem?_append_left hi] at h1
    rw [List.getElem?_append_left (by rw [← r.1]; exact hi)] at h2
    exact r.2 i y z h1 h2
  · rw [List.getElem?_append_right (by omega)] at h1
    rw [List.getElem?_append_right (by rw [← r.1]; omega)] at h2
    rw [r.1] at h1
    cases hj : i - xs.length with
    | zero =>
      rw [hj] at h1 h2
      cases h1
      cases h2
      exact h
    | succ n =>
      rw [hj] at h1
      simp at h1
theorem Row.take {α : Type} {R : V → α → Prop} {us : List V} {xs : List α} (r : Row R us xs) (n : Nat) : Row R (us.take n) (xs.take n) := by
  refine ⟨by rw [List.length_take, List.length_take, r.1], fun i u x h1 h2 => ?_⟩
  rw [List.getElem?_take] at h1 h2
  by_cases h : i < n
  · rw [if_pos h] at h1 h2
    exact r.2 i u x h1 h2
  · rw [if_neg h] at h1
    cases h1
theorem Row.drop {α : Type} {R : V → α → Prop} {us : List V} {xs : List α} (r : Row R us xs) (n : Nat) : Row R (us.drop n) (xs.drop n) := by
  refine ⟨by rw [List.length_drop, List.length_drop, r.1], fun i u x h1 h2 => ?_⟩
  rw [List.getElem?_drop] at h1 h2
  exact r.2 _ u x h1 h2
theorem Row.app {α : Type} {R : V → α → Prop} {us vs : List V} {xs ys : List α} (r : Row R us xs) (q : Row R vs ys) : Row R (us ++ vs) (xs ++ ys) := by
  refine ⟨by rw [List.length_append, List.length_append, r.1, q.1], fun i u x h1 h2 => ?_⟩
  by_cases hi : i < us.length
  · rw [List.getElem?_append_left hi] at h1
    rw [List.getElem?_append_left (by rw [← r.1]; exact hi)] at h2
    exact r.2 i u x h1 h2
  · rw [List.getElem?_append_right (by omega)] at h1
    rw [List.getElem?_append_right (by rw [← r.1]; omega), ← r.1] at h2
    exact q.2 _ u x h1 h2
theorem Row.dpAll {α : Type} {K : PySem.W.Frag} {H : Hp} {R : V → α → Prop} {d : α → PyData} (hd : ∀ u x, R u x → Dp K H u (d x)) : ∀ {us : List V} {xs : List α}, Row R us xs → DpAll K H us (xs.map d)
  | [], [], _ => .nil
  | [], _ :: _, h => by cases h.1
  | _ :: _, [], h => by cases h.1
  | u :: us, x :: xs, h => .cons (hd _ _ (h.2 0 u x rfl rfl)) (Row.dpAll hd ⟨Nat.succ.inj h.1, fun i y z h1 h2 => h.2 (i + 1) y z (by simpa using h1) (by simpa using h2)⟩)
/-- what is new and stands: from a callee that only makes -/
theorem Hs_own {B H H' : Hp} {L : List (Addr × HO)} {p : Addr} {o : HO} (hs : Hs B L H) (e : Same H H') (hn : H p = none) (h : H' p = some o) : Hs B ((p, o) :: L) H' := by
  refine ⟨hs.same.trans e, ?_, fun x hx => ?_, fun x hx => ?_⟩
  · rw [List.map_cons, List.nodup_cons]
    exact ⟨hs.fresh hn, hs.nd⟩
  · rcases List.mem_cons.mp hx with rfl | hx
    · exact hs.same.free hn
    · exact hs.out x hx
  · rcases List.mem_cons.mp hx with rfl | hx
    · exact h
    · exact e _ _ (hs.at_ x hx)
theorem w_lcLR {K : PySem.W.Frag} {σ : L2.St} {H : Hp} {Q : VK} {tl : TE} {g : TG} {tt : TT} {te : TE} {vs : List Nat} (q : tl σ H fun x H1 => ListR K x H1 (LcR g tt te vs σ Q)) : tLc (iList K tl) g tt te vs σ H Q := q
/-- [e for x in us], row by row: what is told of the new items hangs on tuples alone -/
theorem w_lcRow {α : Type} {K : PySem.W.Frag} {σ : L2.St} {H : Hp} {Q : VK} {tl : TE} {te : TE} {j : Nat} {vs : List Nat} {a : Addr} {us : List V} (R : Hp → V → α → Prop) (hm : ∀ H1 H2 v y, (∀ p xs, H1 p = some (.tup xs) → H2 p = some (.tup xs)) → R H1 v y → R H2 v y) (hx : SqL K H a us) (hz : us.length ≤ 1000000) (ys : List α) (hlen : us.length = ys.length)
    (htl : ∀ Q : VK, Q (.ref a) H → tl σ H Q) (hw : ∀ v, wipe ((wipe σ vs).set j (some v)) vs = wipe σ vs)
    (he : ∀ (i : Nat) (u : V) (y : α) (H' : Hp) (Q' : VK), us[i]? = some u → ys[i]? = some y → Same H H' → (∀ v H3, Same H' H3 → R H3 v y → Q' v H3) → te ((wipe σ vs).set j (some u)) H' Q')
    (hq : ∀ D acc H', Hs H [(D, .lst acc)] H' → Row (R H') acc ys → Q (.ref D) H') : tLc (iList K tl) (gName j) tYes te vs σ H Q := by
  refine w_lcLR (htl _ (w_listR hx fun D hD => ?_))
  refine turns_list (Body := LcBody (gName j) tYes te vs σ D) (fun i H' => ∃ acc, Hs H [(D, .lst acc)] H' ∧ Row (R H') acc (ys.take i)) ⟨[], (Hs.start H).new hD, Row.nil⟩ (fun i H' _ ⟨_, h, _⟩ => h.same.seq hx) ?_ ?_
  · rintro i u H' hu ⟨acc, h1, h2⟩
    have hi := (List.getElem?_eq_some_iff.mp hu).1
    have hy : ys[i]? = some (ys[i]'(by omega)) := List.getElem?_eq_getElem _
    refine w_name ⟨hw _, w_yes (iteT (he i u _ H' _ hu hy h1.same fun v H3 s3 r => ?_))⟩
    have hD3 : H3 D = some (.lst acc) := s3 _ _ h1.g0
    have hlt : acc.length ≤ i := by
      have := h2.1
      rw [List.length_take] at this
      omega
    refine ⟨acc, hD3, szl (by omega), acc ++ [v], (h1.keep s3).p0 _, ?_⟩
    rw [List.take_add_one, hy]
    refine Row.mono (fun u x => hm H3 _ u x fun a xs => tup_but hD3 (fun _ z => by cases z) a xs) ((h2.mono fun u x => hm _ _ u x fun a xs e => s3 _ _ e).snoc r)
  · rintro H' ⟨acc, h1, h2⟩
    rw [hlen, List.take_length] at h2
    exact hq D acc H' h1 h2
def spF : Sp := fun _ _ _ _ => False
theorem fn_F {P : Program} {w : World} {K : PySem.W.Frag} {mg : Str → Option Value} {base : Heap} {k : Nat} {f : Addr} {fd : FuncData} {ps : List Str} : FnOk P w K mg base CX0 k f fd ps spF := ⟨fun _ _ _ _ h => h.elim, fun _ _ _ _ _ _ _ _ _ _ _ _ _ h => h.elim⟩
theorem fn_or {P : Program} {w : World} {K : PySem.W.Frag} {mg : Str → Option Value} {base : Heap} {k : Nat} {f : Addr} {fd : FuncData} {ps : List Str} {sp1 sp2 : Sp} (F1 : FnOk P w K mg base CX0 k f fd ps sp1) (F2 : FnOk P w K mg base CX0 k f fd ps sp2) : FnOk P w K mg base CX0 k f fd ps (fun vs H Q E => sp1 vs H Q E ∨ sp2 vs H Q E) :=
  ⟨fun vs H Q E h => h.elim (F1.len vs H Q E) (F2.len vs H Q E), fun A outer s H args us vs Q E hr he hb hv h => h.elim (F1.run A outer s H args us vs Q E hr he hb hv) (F2.run A outer s H args us vs Q E hr he hb hv)⟩
theorem w_slA {K : PySem.W.Frag} {B H : Hp} {L : List (Addr × HO)} {Q : VK} {p : Addr} {xs : List V} {lo hi : Option Int} (hs : Hs B L H) (h : SqT K H p xs) (hw : ¬ (HT.sIx xs.length 0 lo = 0 ∧ HT.sIx xs.length xs.length hi = xs.length)) (q : ∀ l H', Hs B ((l, .tup (cutV xs lo hi)) :: L) H' → Q (.ref l) H') : rSlA K (.ref p) lo hi H Q :=
  ⟨p, xs, rfl, h, fun z => absurd z hw, fun _ => w_new hs q⟩

/-! ## sorted: keys of one shape -/
def ltQ (x y : IK) : Bool := lexI (flK x) (flK y)
def SortedK (l : List IK) : Prop := l.Pairwise fun x y => ltQ y x = false
def insK (x : IK) : List IK → List IK
  | [] => [x]
  | y :: ys => if ltQ y x then y :: insK x ys else x :: y :: ys
def srtK : List IK → List IK
  | [] => []
  | x :: xs => insK x (srtK xs)
theorem insK_perm (x : IK) : ∀ ys : List IK, (insK x ys).Perm (x :: ys)
  | [] => List.Perm.refl _
  | y :: ys => by
    unfold insK
    split
    · exact ((insK_perm x ys).cons y).trans (List.Perm.swap x y ys)
    · exact List.Perm.refl _
theorem srtK_perm : ∀ ls : List IK, (srtK ls).Perm ls
  | [] => List.Perm.refl _
  | x :: xs => (insK_perm x (srtK xs)).trans ((srtK_perm xs).cons x)
theorem insK_sorted (x : IK) : ∀ ys : List IK, SortedK ys → SortedK (insK x ys)
  | [], _ => List.pairwise_singleton _ _
  | y :: ys, h => by
    have h1 := List.pairwise_cons.mp h
    unfold insK
    by_cases hc : ltQ y x = true
    · rw [if_pos hc]
      refine List.pairwise_cons.mpr ⟨fun z hz => ?_, insK_sorted x ys h1.2⟩
      rcases List.mem_cons.mp ((insK_perm x ys).mem_iff.mp hz) with rfl | hz
      · exact lexI_asym _ _ hc
      · exact h1.1 z hz
    · rw [if_neg hc]
      have hc' : ltQ y x = false := by
        cases q : ltQ y x with
        | true => exact absurd q hc
        | false => rfl
      refine List.pairwise_cons.mpr ⟨fun z hz => ?_, h⟩
      rcases List.mem_cons.mp hz with rfl | hz
      · exact hc'
      · exact lexI_tr _ _ _ hc' (h1.1 z hz)
theorem srtK_sorted : ∀ ls : List IK, SortedK (srtK ls)
  | [] => List.Pairwise.nil
  | x :: xs => insK_sorted x _ (srtK_sorted xs)
/-- of one shape, the ints tell the key -/
theorem fl_shape : ∀ {x y : IK}, x.map shp = y.map shp → flK x = flK y → x = y
  | [], [], _, _ => rfl
  | [], _ :: _, h, _ => by cases h
  | _ :: _, [], h, _ => by cases h
  | a :: x, b :: y, h, e => by
    rw [List.map_cons, List.map_cons] at h
    injection h with h1 h2
    have hl := shp_len h1
    unfold flK at e
    rw [List.flatMap_cons, List.flatMap_cons] at e
    obtain ⟨e1, e2⟩ := List.append_inj e hl
    have hx := fl_shape h2 (show flK x = flK y from e2)
    have ha : a = b := by
      cases a with
      | inl i =>
        cases b with
        | inl j =>
          injection e1 with e1
          rw [e1]
        | inr ms => cases h1
      | inr ns =>
        cases b with
        | inl j => cases h1
        | inr ms => exact congrArg Sum.inr e1
    rw [hx, ha]
theorem sortedK_uniq {sh : List (Option Nat)} : ∀ {l m : List IK}, l.Perm m → (∀ x ∈ l, x.map shp = sh) → SortedK l → SortedK m → l = m
  | [], m, p, _, _, _ => (List.Perm.eq_nil p.symm).symm
  | x :: l, [], p, _, _, _ => absurd p.length_eq (by simp)
  | x :: l, y :: m, p, hs, hl, hm => by
    have h1 := List.pairwise_cons.mp hl
    have h2 := List.pairwise_cons.mp hm
    have e : x = y := by
      rcases List.mem_cons.mp (p.mem_iff.mp List.mem_cons_self) with e | hx
      · exact e
      · have hy2 := p.mem_iff.mpr (List.mem_cons_self (a := y) (l := m))
        rcases List.mem_cons.mp hy2 with e | hy
        · exact e.symm
        · exact fl_shape ((hs x List.mem_cons_self).trans (hs y hy2).symm) (lexI_total _ _ (h2.1 x hx) (h1.1 y hy))
    subst e
    rw [sortedK_uniq p.cons_inv (fun z hz => hs z (List.mem_cons_of_mem _ hz)) h1.2 h2.2]
theorem srtK_uniq {sh : List (Option Nat)} {l ls : List IK} (p : l.Perm ls) (hs : ∀ x ∈ ls, x.map shp = sh) (h : SortedK l) : l = srtK ls :=
  sortedK_uniq (p.trans (srtK_perm ls).symm) (fun x hx => hs x (p.mem_iff.mp hx)) h (srtK_sorted ls)
/-- an item of a list that is a key -/
def KeyAt (H : Hp) (v : V) (k : IK) : Prop := ∃ p : Addr, v = .ref p ∧ KAt H p k
theorem KeyAt.mono {H H' : Hp} (e : ∀ p xs, H p = some (.tup xs) → H' p = some (.tup xs)) {v : V} {k : IK} (h : KeyAt H v k) : KeyAt H' v k := by
  obtain ⟨p, h1, h2⟩ := h
  exact ⟨p, h1, h2.mono e⟩
theorem KeyAt.inj {H : Hp} {v : V} {k k' : IK} (h : KeyAt H v k) (h' : KeyAt H v k') : k = k' := by
  obtain ⟨p, rfl, h1⟩ := h
  obtain ⟨q, e, h2⟩ := h'
  cases e
  exact nkK_inj (NK.inj h1.nk h2.nk)
theorem KeyAt.it {H : Hp} {v : V} {k : IK} (h : KeyAt H v k) : itK H v = k := by
  obtain ⟨p, rfl, h1⟩ := h
  exact itK_eq h1.nk
theorem row_perm {α : Type} {R : V → α → Prop} {us ys : List V} (p : ys.Perm us) {xs : List α} (r : Row R us xs) : ∃ zs, zs.Perm xs ∧ Row R ys zs := by
  have toP : ∀ {us : List V} {xs : List α}, Row R us xs → Paired R us xs := by
    intro us
    induction us with
    | nil =>
      intro xs r
      cases xs with
      | nil => exact .nil
      | cons _ _ => cases r.1
    | cons u us ih =>
      intro xs r
      cases xs with
      | nil => cases r.1
      | cons x xs => exact .cons (r.2 0 u x rfl rfl) (ih ⟨Nat.succ.inj r.1, fun i y z h1 h2 => r.2 (i + 1) y z (by simpa using h1) (by simpa using h2)⟩)
  have ofP : ∀ {us : List V} {xs : List α}, Paired R us xs → Row R us xs := by
    intro us xs h
    induction h with
    | nil => exact Row.nil
    | cons h _ ih => exact Row.cons h ih
  obtain ⟨zs, h1, h2⟩ := paired_perm p (toP r)
  exact ⟨zs, h1, ofP h2⟩
theorem w_sortK2 {K : PySem.W.Frag} {B H : Hp} {L : List (Addr × HO)} {Q : VK} {a : Addr} {us : List V} {ks : List IK} {c : Option Nat} {sh : List (Option Nat)} (hs : Hs B L H) (h : SqL K H a us) (r : Row (KeyAt H) us ks) (hsh : ∀ k ∈ ks, k.map shp = c :: sh)
    (q : ∀ p ys H', ys.Perm us → Hs B ((p, .lst ys) :: L) H' → Row (KeyAt H') ys (srtK ks) → Q (.ref p) H') : rSortN K c sh [.ref a] H Q := by
  refine ⟨a, us, itK H, rfl, h, fun x hx => ?_, fun ys p h1 h2 hp => ?_⟩
  · obtain ⟨i, hi, rfl⟩ := List.getElem_of_mem hx
    obtain ⟨k, hk, hat⟩ := r.get (List.getElem?_eq_getElem hi)
    rw [hat.it]
    obtain ⟨b, e, hb⟩ := hat
    exact ⟨⟨b, e⟩, by rw [e]; exact hb.nk, hsh k (List.mem_of_getElem? hk)⟩
  · obtain ⟨zs, p1, p2⟩ := row_perm h2.perm r
    have srt : SortedK zs := by
      refine List.pairwise_iff_getElem.mpr fun i j hi hj hij => ?_
      have hi' : i < ys.length := by rw [p2.1]; exact hi
      have hj' : j < ys.length := by rw [p2.1]; exact hj
      have a1 := p2.2 i ys[i] zs[i] (List.getElem?_eq_getElem hi') (List.getElem?_eq_getElem hi)
      have a2 := p2.2 j ys[j] zs[j] (List.getElem?_eq_getElem hj') (List.getElem?_eq_getElem hj)
      have := List.pairwise_iff_getElem.mp h1 i j hi' hj' hij
      unfold ltK at this
      rw [a1.it, a2.it] at this
      exact this
    have e := srtK_uniq p1 hsh srt
    subst e
    have hs2 := hs.new (o := .lst ys) hp
    exact q p ys _ h2.perm hs2 (p2.mono fun u k => KeyAt.mono fun b xs e => by rw [upd_ne (ne_of_none e hp)]; exact e)
theorem frz_hs {B H : Hp} {p : Addr} {o : HO} {L : List (Addr × HO)} (hs : Hs B ((p, o) :: L) H) : ∃ B2, Same B B2 ∧ B2 p = some o ∧ Hs B2 L H := ⟨_, hs.freeze.1, upd_same, hs.freeze.2⟩
theorem shp_can {d : PyData} (h : SeqAt.shaped d = true) : d.canLay0 = true := by
  unfold SeqAt.shaped at h
  exact (Bool.and_eq_true_iff.mp h).1
theorem w_neRefl {K : PySem.W.Frag} {H : Hp} {Q : VK} {p q : V} {d : PyData} (h1 : Dp K H p d) (h2 : Dp K H q d) (hs : SeqAt.shaped d = true) (k : Q (.bl false) H) : rNeD K p q H Q :=
  ⟨d, d, h1, h2, hs, hs, by
    rw [SeqAt.eqv_refl _ (shp_can hs)]
    exact k⟩

/-! ## for i, x in enumerate(xs) -/
theorem w_enumF {K : PySem.W.Frag} {σ : L2.St} {H : Hp} {ta : TA} {g : TG} {tb : TS} {D : Ends} {a : Addr} {xs : List V} (hx : SqL K H a xs) (Pv : Nat → L2.St → Hp → Prop) (hta : ∀ Q : List V → Hp → Prop, Q [.ref a] H → ta σ H Q) (h0 : Pv 0 σ H) (hl : ∀ i σ H, i ≤ xs.length → Pv i σ H → SqL K H a xs)
    (hs : ∀ i x T σ H, xs[i]? = some x → Pv i σ H → H T = none → g (.ref T) σ (upd H T (.tup [.int (i : Int), x])) fun σ2 H2 => tb { D with nx := Pv (i + 1), ct := Pv (i + 1), bk := D.nx } σ2 H2) (hd : ∀ σ H, Pv xs.length σ H → D.nx σ H) : tFor (iEnum K ta) g tb D σ H := by
  refine hta _ ⟨a, xs, rfl, hx, fun i m σ H => m = xs.length - i ∧ i ≤ xs.length ∧ Pv i σ H, ⟨xs.length, by simp, Nat.zero_le _, h0⟩, ?_⟩
  rintro i m σ' H' ⟨rfl, hi, p⟩
  have q := hl i σ' H' hi p
  by_cases hlt : i < xs.length
  · refine .inr ⟨⟨xs, xs[i], q, List.getElem?_eq_getElem hlt⟩, Pv (i + 1), fun σ2 H2 p2 => ⟨xs.length - (i + 1), by omega, rfl, hlt, p2⟩, fun v H2 y => ?_⟩
    obtain ⟨T, x, rfl, hT, rfl, hx2⟩ := y
    exact hs i x T _ _ (hx2 xs q) p hT
  · have e : i = xs.length := by omega
    subst e
    exact .inl ⟨⟨xs, q, Nat.le_refl _⟩, hd σ' H' p⟩
theorem w_sortK {K : PySem.W.Frag} {B H : Hp} {L : List (Addr × HO)} {Q : VK} {a : Addr} {us : List V} {ks : List IK} {c : Option Nat} {sh : List (Option Nat)} (hs : Hs B L H) (h : SqL K H a us) (r : Row (KeyAt H) us ks) (hsh : ∀ k ∈ ks, k.map shp = c :: sh)
    (q : ∀ p ys H', Hs B ((p, .lst ys) :: L) H' → Row (KeyAt H') ys (srtK ks) → Q (.ref p) H') : rSortN K c sh [.ref a] H Q := w_sortK2 hs h r hsh fun p ys H' _ => q p ys H'
/-! ## ranges with a lower end -/
theorem w_forR2 {σ : L2.St} {H : Hp} {D : Ends} {ta : TA} {g : TG} {tb : TS} {lo hi : Int} (b1 : -(2 ^ 62) ≤ lo ∧ lo < 2 ^ 62 ∧ -(2 ^ 62) ≤ hi ∧ hi < 2 ^ 62) (Pv : Nat → L2.St → Hp → Prop) (hta : ∀ Q : List V → Hp → Prop, Q [.int lo, .int hi] H → ta σ H Q) (h0 : Pv 0 σ H)
    (hs : ∀ (i : Nat) σ H, lo + (i : Int) < hi → Pv i σ H → g (.int (lo + (i : Int))) σ H fun σ2 H2 => tb { D with nx := Pv (i + 1), ct := Pv (i + 1), bk := D.nx } σ2 H2) (hd : ∀ σ H, Pv (hi - lo).toNat σ H → D.nx σ H) : tFor (iRng2 ta) g tb D σ H :=
  hta _ ⟨lo, hi, rfl, b1, for_range (lo := lo) (n := (hi - lo).toNat) Pv h0 (fun i σ' H' hi' p => hs i σ' H' (by omega) p) hd⟩
def RngR2 (us : List V) (H1 : Hp) (R : It → Hp → Prop) : Prop := ∃ lo hi : Int, us = [.int lo, .int hi] ∧ (-(2 ^ 62) ≤ lo ∧ lo < 2 ^ 62 ∧ -(2 ^ 62) ≤ hi ∧ hi < 2 ^ 62) ∧ R (Itr lo (hi - lo).toNat) H1
theorem w_lcG2 {σ : L2.St} {H : Hp} {Q : VK} {ta : TA} {g : TG} {tt : TT} {te : TE} {vs : List Nat} (q : ta σ H fun us H1 => RngR2 us H1 (LcR g tt te vs σ Q)) : tLc (iRng2 ta) g tt te vs σ H Q := q
theorem turns_rangeL {H0 : Hp} {Qd : Hp → Prop} {Body : (Hp → Prop) → V → Hp → Prop} {lo : Int} {n : Nat} (Pv : Nat → Hp → Prop) (h0 : Pv 0 H0) (hs : ∀ i H, i < n → Pv i H → Body (Pv (i + 1)) (.int (lo + (i : Int))) H) (hd : ∀ H, Pv n H → Qd H) : Turns (Itr lo n) Body H0 Qd := by
  refine ⟨fun i m H => m = n - i ∧ i ≤ n ∧ Pv i H, ⟨n, by simp, Nat.zero_le _, h0⟩, ?_⟩
  rintro i m H ⟨rfl, hi, p⟩
  by_cases hlt : i < n
  · refine .inr ⟨hlt, Pv (i + 1), fun H' p' => ⟨n - (i + 1), by omega, rfl, hlt, p'⟩, fun x H' y => ?_⟩
    obtain ⟨rfl, rfl⟩ := y
    exact hs i _ hlt p
  · have e : i = n := by omega
    subst e
    exact .inl ⟨Nat.le_refl _, hd H p⟩

/-! ## [e for x in us if t], index by index -/
theorem w_lcIx {K : PySem.W.Frag} {σ : L2.St} {H : Hp} {Q : VK} {tl : TE} {te : TE} {tt : TT} {j : Nat} {vs : List Nat} {a : Addr} {us : List V} (f : Nat → Option V) (hx : SqL K H a us) (hz : us.length ≤ 1000000)
    (htl : ∀ Q : VK, Q (.ref a) H → tl σ H Q) (hw : ∀ v, wipe ((wipe σ vs).set j (some v)) vs = wipe σ vs)
    (he : ∀ (i : Nat) (u : V) (H' : Hp) (Nx : Hp → Prop) (Ap : VK), us[i]? = some u → Same H H' → (f i = none → ∀ H2, Same H' H2 → Nx H2) → (∀ y, f i = some y → ∀ H2, Same H' H2 → Ap y H2) → tt ((wipe σ vs).set j (some u)) H' fun b H2 => if b = true then te ((wipe σ vs).set j (some u)) H2 Ap else Nx H2)
    (hq : ∀ D acc H', Hs H [(D, .lst acc)] H' → acc = (List.range us.length).filterMap f → Q (.ref D) H') : tLc (iList K tl) (gName j) tt te vs σ H Q := by
  refine w_lcLR (htl _ (w_listR hx fun D hD => ?_))
  refine turns_list (Body := LcBody (gName j) tt te vs σ D) (fun i H' => ∃ acc, Hs H [(D, .lst acc)] H' ∧ acc = (List.range i).filterMap f) ⟨[], (Hs.start H).new hD, rfl⟩ (fun i H' _ ⟨_, h, _⟩ => h.same.seq hx) ?_ ?_
  · rintro i u H' hu ⟨acc, h1, rfl⟩
    have hi := (List.getElem?_eq_some_iff.mp hu).1
    have hst : (List.range (i + 1)).filterMap f = (List.range i).filterMap f ++ (f i).toList := by
      have e1 : List.filterMap f [i] = (f i).toList := by
        rw [List.filterMap_cons]
        cases f i with
        | none => rfl
        | some y => rfl
      rw [List.range_succ, List.filterMap_append, e1]
    refine w_name ⟨hw _, he i u H' _ _ hu h1.same (fun hn H2 s2 => ?_) fun y hy H2 s2 => ?_⟩
    · refine ⟨_, h1.keep s2, ?_⟩
      rw [hst, hn]
      exact (List.append_nil _).symm
    · have hl : ((List.range i).filterMap f).length ≤ i := by
        refine Nat.le_trans (List.length_filterMap_le _ _) ?_
        rw [List.length_range]
        exact Nat.le_refl _
      refine ⟨_, s2 _ _ h1.g0, szl (by omega), _, (h1.keep s2).p0 _, ?_⟩
      rw [hst, hy]
      rfl
  · rintro H' ⟨acc, h1, h2⟩
    exact hq D acc H' h1 h2
/-- a part of the rows -/
theorem row_filter {α : Type} {R : V → α → Prop} {us : List V} {xs : List α} (r : Row R us xs) (q : α → Bool) (f : Nat → Option V) (hf : ∀ i x u, us[i]? = some u → xs[i]? = some x → f i = if q x = true then some u else none) : Row R ((List.range us.length).filterMap f) (xs.filter q) := by
  have key : ∀ n, n ≤ us.length → Row R ((List.range n).filterMap f) ((xs.take n).filter q) := fun n => by
    induction n with
    | zero => exact fun _ => Row.nil
    | succ n ih =>
      intro hn
      have hu : us[n]? = some (us[n]'(by omega)) := List.getElem?_eq_getElem _
      have hx : xs[n]? = some (xs[n]'(by have := r.1; omega)) := List.getElem?_eq_getElem _
      generalize us[n]'(by omega) = u at hu
      generalize xs[n]'(by have := r.1; omega) = x at hx
      rw [List.range_succ, List.filterMap_append, List.take_add_one, hx, List.filter_append]
      have e1 : List.filterMap f [n] = (f n).toList := by
        rw [List.filterMap_cons]
        cases f n with
        | none => rfl
        | some y => rfl
      have e2 : List.filter q (some x).toList = if q x = true then [x] else [] := by
        show List.filter q [x] = _
        rw [List.filter_cons]
        rfl
      rw [e1, e2, hf n x u hu hx]
      by_cases h : q x = true
      · rw [if_pos h, if_pos h]
        exact (ih (by omega)).snoc (r.2 n u x hu hx)
      · rw [if_neg h, if_neg h]
        show Row R (_ ++ []) (_ ++ [])
        rw [List.append_nil, List.append_nil]
        exact ih (by omega)
  have := key us.length (Nat.le_refl _)
  rw [r.1, List.take_length, ← r.1] at this
  exact this
end Hb

set_option Elab.async false
set_option linter.all false
set_option maxRecDepth 100000
set_option maxHeartbeats 4000000
/-! len(set(xs)) of tuples of ints, comprehensions with two fors -/
namespace Hb
open PySem PySem.Spec L2 PyProof.Rows
def tLenSetT (K : PySem.W.Frag) (ta : TE) : TE := fun σ H Q => ta σ H fun x H1 => ∃ (l : Addr) (ks : List (Addr × List Int)), x = V.ref l ∧ SqL K H1 l (ks.map fun p => V.ref p.1) ∧ (∀ p ∈ ks, SqT K H1 p.1 (p.2.map V.int)) ∧ ks.length < 64 ∧
  ∀ L : List (List Int), L.Nodup → (∀ x, x ∈ L ↔ x ∈ ks.map (·.2)) → Q (.int L.length) H1
section
variable {X : Cx}
theorem pe_lenSetT {a : Expr} {ta : TE} {p p2 q pos : Pos} {K : PySem.W.Frag} (hc : X.calm = true) (hu : X.A.units + 64 < cLine) (hg : Gl X "len") (hm : X.mg "len" = none) (hg2 : Gl X "set") (hm2 : X.mg "set" = none) (ha : PE X a ta)
    (na : starEach [a] X.env = (false, eval a X.env) :: starEach [] X.env := by rfl) (hK : X.K = K := by rfl) : PE X (.Call (.Name "len" p) [.Call (.Name "set" p2) [a] [] q] [] pos) (tLenSetT K ta) := by
  subst hK
  refine ⟨fun pins s σ H Q I h => ?_⟩
  refine Call_ (ld_blt I hg hm PySem.boot_len ?_)
  refine PyProof.Rows.callWith_builtin1 (PyProof.Rows.args_cons ?_ rfl) rfl rfl
  refine Call_ (ld_blt I hg2 hm2 PyProof.Rows.boot_set ?_)
  refine PyProof.Rows.callWith_type1 (PyProof.Rows.args_cons (thn (ha.run pins s σ H _ I h) fun v s1 ⟨x, H1, I1, r1, q1⟩ => PyProof.Rows.args_nil ?_) na) na rfl
  obtain ⟨l, ks, rfl, hq, hk, h1, q1⟩ := q1
  cases r1
  obtain ⟨its, rv, pl, hz⟩ := I1.list hq
  refine call_set_tups (P := X.prog) (w := X.w) ks (I1.ok.hd hc) pl.isList (by simpa using refs_of_vals rv) (fun p hp => I1.isT (hk p hp)) h1 (by omega) fun h' tk L es ep t R g hkk => ?_
  refine PyProof.Rows.args_nil ?_
  have I2 : Inv X pins σ H1 { s1 with heap := h', toks := tk } := I1.kept fun b o e => hkk b o e
  obtain ⟨o, ho, hex, hd⟩ := R.ob
  have hz2 : es.size = L.length := SetTR.size (s := { s1 with heap := h', toks := tk }) R
  refine call_len_set ho hex hd (SetTR.fits (s := { s1 with heap := h', toks := tk }) R) (by have := R.few; omega) ⟨.int (L.map (·.2)).length, H1, I2.tok _, ⟨_, by rw [hz2, List.length_map]⟩, q1 _ R.nd fun x => ⟨fun hx => ?_, fun hx => ?_⟩⟩
  · obtain ⟨p, hp, rfl⟩ := List.mem_map.mp hx
    exact List.mem_map.mpr ⟨p, List.mem_of_mem_take (g.sub p hp), rfl⟩
  · obtain ⟨p, hp, rfl⟩ := List.mem_map.mp hx
    exact g.all p (by rw [List.take_length]; exact hp)
end
/-! ### [v for t in ts for v in t if ..] -/
theorem turns_tup {K : PySem.W.Frag} {a : Addr} {xs : List V} {H0 : Hp} {Qd : Hp → Prop} {Body : (Hp → Prop) → V → Hp → Prop} (Pv : Nat → Hp → Prop) (h0 : Pv 0 H0) (hl : ∀ i H, i ≤ xs.length → Pv i H → SqT K H a xs) (hs : ∀ i x H, xs[i]? = some x → Pv i H → Body (Pv (i + 1)) x H) (hd : ∀ H, Pv xs.length H → Qd H) : Turns (Itt K a) Body H0 Qd := by
  refine ⟨fun i m H => m = xs.length - i ∧ i ≤ xs.length ∧ Pv i H, ⟨xs.length, by simp, Nat.zero_le _, h0⟩, ?_⟩
  rintro i m H ⟨rfl, hi, p⟩
  have q := hl i H hi p
  by_cases hlt : i < xs.length
  · refine .inr ⟨⟨xs, xs[i], q, by simp [hlt]⟩, Pv (i + 1), fun H' p' => ⟨xs.length - (i + 1), by omega, rfl, hlt, p'⟩, fun x H' y => ?_⟩
    obtain ⟨e, y⟩ := y
    subst e
    exact hs i x _ (y xs q) p
  · have e : i = xs.length := by omega
    subst e
    exact .inl ⟨⟨xs, q, Nat.le_refl _⟩, hd H p⟩
def Lc2In (g1 : TG) (tt1 : TT) (te : TE) (vs1 : List Nat) (σ2 : L2.St) (D : Addr) (Nx1 : Hp → Prop) (x : V) (H : Hp) : Prop := g1 x (wipe σ2 vs1) H fun σ3 H5 => wipe σ3 vs1 = wipe σ2 vs1 ∧ tt1 σ3 H5 fun b H6 =>
  if b = true then te σ3 H6 fun y H7 => ∃ acc, H7 D = some (.lst acc) ∧ acc.length < sizeLine ∧ Nx1 (upd H7 D (.lst (acc ++ [y]))) else Nx1 H6
def Lc2Out (g : TG) (tt : TT) (wi1 : TI) (g1 : TG) (tt1 : TT) (te : TE) (vs vs1 : List Nat) (σ : L2.St) (D : Addr) (Nx : Hp → Prop) (x : V) (H : Hp) : Prop := g x (wipe σ vs) H fun σ2 H2 => wipe σ2 vs = wipe σ vs ∧ tt σ2 H2 fun b H3 =>
  if b = true then wi1 σ2 H3 fun J1 H4 => Turns J1 (Lc2In g1 tt1 te vs1 σ2 D) H4 Nx else Nx H3
theorem w_lc2R {K : PySem.W.Frag} {σ : L2.St} {H : Hp} {Q : VK} {tl : TE} {g : TG} {tt : TT} {wi1 : TI} {g1 : TG} {tt1 : TT} {te : TE} {vs vs1 : List Nat} (q : tl σ H fun x H1 => ListR K x H1 fun J H1 => ∀ D, H1 D = none → Turns J (Lc2Out g tt wi1 g1 tt1 te vs vs1 σ D) (upd H1 D (.lst [])) fun H => Q (.ref D) H) : tLc2 (iList K tl) g tt wi1 g1 tt1 te vs vs1 σ H Q := q
/-- the rows are tuples; what is kept of them, in order -/
theorem w_lc2T {K : PySem.W.Frag} {σ : L2.St} {H : Hp} {Q : VK} {tl tm : TE} {tt1 : TT} {te : TE} {j j1 : Nat} {vs vs1 : List Nat} {a : Addr} {us : List V} (it : Nat → List V) (keep : Nat → Nat → Bool) (hx : SqL K H a us) (hz : us.length ≤ 100000) (h2 : ∀ i, (it i).length ≤ 10)
    (hu : ∀ (i : Nat) (u : V), us[i]? = some u → ∃ p, u = .ref p ∧ H p = some (.tup (it i)))
    (htl : ∀ Q : VK, Q (.ref a) H → tl σ H Q) (hw : ∀ v, wipe ((wipe σ vs).set j (some v)) vs = wipe σ vs)
    (htm : ∀ (v : V) (H' : Hp) (Q' : VK), Q' v H' → tm ((wipe σ vs).set j (some v)) H' Q')
    (hw1 : ∀ u v, wipe ((wipe ((wipe σ vs).set j (some u)) vs1).set j1 (some v)) vs1 = wipe ((wipe σ vs).set j (some u)) vs1)
    (he : ∀ (i k : Nat) (p : Addr) (v : V) (H' : Hp) (Nx : Hp → Prop) (Ap : VK), us[i]? = some (.ref p) → (it i)[k]? = some v → Same H H' → (keep i k = false → ∀ H2, Same H' H2 → Nx H2) → (keep i k = true → ∀ H2, Same H' H2 → Ap v H2) →
      tt1 ((wipe ((wipe σ vs).set j (some (.ref p))) vs1).set j1 (some v)) H' fun b H2 => if b = true then te ((wipe ((wipe σ vs).set j (some (.ref p))) vs1).set j1 (some v)) H2 Ap else Nx H2)
    (hq : ∀ D acc H', Hs H [(D, .lst acc)] H' → acc = (List.range us.length).flatMap (fun i => (List.range (it i).length).filterMap fun k => if keep i k = true then (it i)[k]? else none) → Q (.ref D) H') :
    tLc2 (iList K tl) (gName j) tYes (iTup K tm) (gName j1) tt1 te vs vs1 σ H Q := by
  refine w_lc2R (htl _ (w_listR hx fun D hD => ?_))
  let row : Nat → Nat → List V := fun i n => (List.range n).filterMap fun k => if keep i k = true then (it i)[k]? else none
  let done : Nat → List V := fun n => (List.range n).flatMap fun i => row i (it i).length
  have rowz : ∀ i n, (row i n).length ≤ n := fun i n => by
    refine Nat.le_trans (List.length_filterMap_le _ _) ?_
    rw [List.length_range]
    exact Nat.le_refl _
  have donez : ∀ n, (done n).length ≤ n * 10 := fun n => by
    induction n with
    | zero => exact Nat.le_refl _
    | succ n ih =>
      show ((List.range (n + 1)).flatMap fun i => row i (it i).length).length ≤ _
      rw [List.range_succ, List.flatMap_append, List.length_append]
      have h1 := rowz n (it n).length
      have h3 := h2 n
      have h4 : ([n].flatMap fun i => row i (it i).length).length = (row n (it n).length).length := by simp
      rw [h4]
      have : (List.flatMap (fun i => row i (it i).length) (List.range n)).length ≤ n * 10 := ih
      omega
  refine turns_list (Body := Lc2Out (gName j) tYes (iTup K tm) (gName j1) tt1 te vs vs1 σ D) (fun i H' => Hs H [(D, .lst (done i))] H') ((Hs.start H).new hD) (fun i H' _ h => h.same.seq hx) ?_ ?_
  · intro i u H' hui hs
    obtain ⟨p, rfl, hp⟩ := hu i u hui
    have hi := (List.getElem?_eq_some_iff.mp hui).1
    refine w_name ⟨hw _, w_yes (iteT (htm _ _ _ ⟨p, rfl, ⟨_, SqT.of (hs.same _ _ hp)⟩, ?_⟩))⟩
    refine turns_tup (xs := it i) (Body := Lc2In (gName j1) tt1 te vs1 _ D) (fun k H2 => Hs H [(D, .lst (done i ++ row i k))] H2) ?_ (fun k H2 _ h => SqT.of (h.same _ _ hp)) ?_ ?_
    · show Hs H [(D, .lst (done i ++ []))] H'
      rw [List.append_nil]
      exact hs
    · intro k v H2 hv hs2
      have hst : row i (k + 1) = row i k ++ (if keep i k = true then [v] else []) := by
        show (List.range (k + 1)).filterMap _ = _
        rw [List.range_succ, List.filterMap_append]
        congr 1
        rw [List.filterMap_cons, hv]
        cases keep i k with
        | true => rfl
        | false => rfl
      refine w_name ⟨hw1 _ _, he i k p v H2 _ _ hui hv hs2.same (fun hn H3 s3 => ?_) fun hy H3 s3 => ?_⟩
      · rw [hst, hn]
        simp only [Bool.false_eq_true, if_false, List.append_nil]
        exact hs2.keep s3
      · have z1 := donez i
        have z2 := rowz i k
        have z3 := h2 i
        have z4 := (List.getElem?_eq_some_iff.mp hv).1
        refine ⟨_, s3 _ _ hs2.g0, szl (by rw [List.length_append]; omega), ?_⟩
        rw [hst, hy]
        simp only [if_true]
        rw [← List.append_assoc]
        exact (hs2.keep s3).p0 _
    · intro H2 hs2
      have : done (i + 1) = done i ++ row i (it i).length := by
        show (List.range (i + 1)).flatMap _ = _
        rw [List.range_succ, List.flatMap_append]
        simp [done]
      show Hs H [(D, .lst (done (i + 1)))] H2
      rw [this]
      exact hs2
  · intro H' hs
    exact hq D _ H' hs rfl
end Hb

set_option Elab.async false
set_option linter.all false
set_option maxRecDepth 100000
set_option maxHeartbeats 4000000
/-! for over a tuple; a number in a list of numbers -/
namespace Hb
open PySem PySem.Spec L2 PyProof.Rows
section
variable {K : PySem.W.Frag} {σ : L2.St} {H : Hp} {Q : VK} {D : Ends} {g : TG} {tb : TS}
def TupR (K : PySem.W.Frag) (x : V) (H1 : Hp) (R : It → Hp → Prop) : Prop := ∃ a, x = V.ref a ∧ (∃ xs, SqT K H1 a xs) ∧ R (Itt K a) H1
theorem w_forTF {tl : TE} (q : tl σ H fun x H1 => TupR K x H1 (ForR g tb D σ)) : tFor (iTup K tl) g tb D σ H := q
theorem w_tupR {a : Addr} {xs : List V} {R : It → Hp → Prop} (h : SqT K H a xs) (q : R (Itt K a) H) : TupR K (.ref a) H R := ⟨a, rfl, ⟨xs, h⟩, q⟩
theorem for_tupR {a : Addr} {xs : List V} (Pv : Nat → L2.St → Hp → Prop) (h0 : Pv 0 σ H) (hl : ∀ i σ H, i ≤ xs.length → Pv i σ H → SqT K H a xs)
    (hs : ∀ i x σ H, xs[i]? = some x → Pv i σ H → g x σ H fun σ2 H2 => tb { D with nx := Pv (i + 1), ct := Pv (i + 1), bk := D.nx } σ2 H2) (hd : ∀ σ H, Pv xs.length σ H → D.nx σ H) : ForR g tb D σ (Itt K a) H := by
  refine ⟨fun i m σ H => m = xs.length - i ∧ i ≤ xs.length ∧ Pv i σ H, ⟨xs.length, by simp, Nat.zero_le _, h0⟩, ?_⟩
  rintro i m σ' H' ⟨rfl, hi, p⟩
  have q := hl i σ' H' hi p
  by_cases hlt : i < xs.length
  · refine .inr ⟨⟨xs, xs[i], q, List.getElem?_eq_getElem hlt⟩, Pv (i + 1), fun σ2 H2 p2 => ⟨xs.length - (i + 1), by omega, rfl, hlt, p2⟩, fun v H2 y => ?_⟩
    obtain ⟨rfl, y⟩ := y
    exact hs i v _ _ (y xs q) p
  · have e : i = xs.length := by omega
    subst e
    exact .inl ⟨⟨xs, q, Nat.le_refl _⟩, hd σ' H' p⟩
theorem inV_ints {n : Int} : ∀ ns : List Int, inV (.int n) (ns.map V.int) = decide (n ∈ ns)
  | [] => rfl
  | m :: ns => by
    have ih := inV_ints (n := n) ns
    unfold inV at ih ⊢
    rw [List.map_cons, List.any_cons, ih]
    have e : eqV (.int m) (.int n) = decide (n = m) := by
      by_cases h : m = n
      · subst h
        simp [eqV]
      · rw [decide_eq_false (Ne.symm h)]
        simp [eqV, h]
    rw [e]
    simp
theorem flat_ints : ∀ ns : List Int, (ns.map V.int).all flatV = true
  | [] => rfl
  | _ :: ns => by
    rw [List.map_cons, List.all_cons, flat_ints ns]
    rfl
theorem w_inIs {neg : Bool} {n : Int} {ns : List Int} {p : Addr} (h : SqL K H p (ns.map V.int)) (q : Q (.bl (if neg then !decide (n ∈ ns) else decide (n ∈ ns))) H) : rIn K neg (.int n) (.ref p) H Q := by
  refine ⟨p, _, rfl, .inl h, rfl, flat_ints ns, ?_⟩
  rw [inV_ints]
  exact q
theorem Hs.down {B B1 H : Hp} {L : List (Addr × HO)} (e : Same B B1) (hs : Hs B1 L H) : Hs B L H := ⟨e.trans hs.same, hs.nd, fun x hx => e.free (hs.out x hx), hs.at_⟩
theorem Hs.tups {B H : Hp} {L : List (Addr × HO)} (hs : Hs B L H) : ∀ p xs, B p = some (.tup xs) → H p = some (.tup xs) := fun _ _ => hs.same _ _
/-- what stands, owned for a while -/
theorem Hs.own {H : Hp} {d : Addr} {o : HO} (h : H d = some o) : ∃ B, Hs B [(d, o)] H ∧ (∀ p o', p ≠ d → H p = some o' → B p = some o') ∧ ∀ L H', Hs B (L ++ [(d, o)]) H' → Hs H L H' := by
  refine ⟨fun a => if a = d then none else H a, ⟨fun b o' hb => ?_, by simp, fun x hx => ?_, fun x hx => ?_⟩, fun p o' hp e => ?_, fun L H' hs => ⟨fun b o' hb => ?_, ?_, fun x hx => ?_, fun x hx => hs.at_ x (List.mem_append_left _ hx)⟩⟩
  · by_cases hd : b = d
    · rw [if_pos hd] at hb
      cases hb
    · rwa [if_neg hd] at hb
  · rw [List.mem_singleton.mp hx]
    exact if_pos rfl
  · rw [List.mem_singleton.mp hx]
    exact h
  · exact (if_neg hp).trans e
  · by_cases hd : b = d
    · subst hd
      rw [h] at hb
      cases hb
      exact hs.at_ (b, o) (List.mem_append_right _ (List.mem_singleton.mpr rfl))
    · exact hs.same b o' (by rw [if_neg hd]; exact hb)
  · have := hs.nd
    rw [List.map_append] at this
    exact (List.nodup_append.mp this).1
  · have h1 := hs.out x (List.mem_append_left _ hx)
    have h2 := hs.nd
    rw [List.map_append, List.nodup_append] at h2
    have h3 : x.1 ≠ d := fun e => h2.2.2 x.1 (List.mem_map_of_mem hx) d (by simp) e
    rwa [if_neg h3] at h1
/-! a dict read while it is walked -/
theorem w_dgetF {p : Addr} {kvs : List (Key × V)} {n : Int} {v : V} {od : Obj} (h : H p = some (.frz od (.dK kvs))) (hv : valV kvs (Sum.inl n) = some v) (q : Q v H) : RDget (.ref p) (.int n) H Q := ⟨p, v, rfl, .inl ⟨kvs, Sum.inl n, .inr ⟨od, h⟩, rfl, hv.symm⟩, q⟩
theorem w_ext2 {B : Hp} {L : List (Addr × HO)} {l b : Addr} {xs zs : List V} (hs : Hs B ((b, .lst zs) :: (l, .lst xs) :: L) H) (hl : xs.length + zs.length ≤ 1000000) (q : ∀ H', Hs B ((l, .lst (xs ++ zs)) :: L) H' → Q .non H') : rExtend (.ref l) [.ref b] H Q :=
  ⟨l, b, xs, zs, rfl, rfl, hs.g1, hs.g0, Nat.le_of_lt (szl (by omega)), q _ (hs.p1 _).tl⟩
theorem w_listDK {B : Hp} {L : List (Addr × HO)} {d : Addr} {kvs : List (Key × V)} (hs : Hs B L H) (h : H d = some (.dK kvs)) (q : ∀ p H', Hs B ((p, .lst (kvs.map fun kv => kV kv.1)) :: L) H' → Q (.ref p) H') : rListD [.ref d] H Q := ⟨d, kvs, rfl, h, w_new hs q⟩
/-- a part stays one's own, the others go into the ground -/
theorem Hs.rest {B H : Hp} {R : List (Addr × HO)} (L : List (Addr × HO)) (hs : Hs B (L ++ R) H) : ∃ B2, Same B B2 ∧ Hs B2 L H ∧ ∀ e ∈ R, B2 e.1 = some e.2 := by
  have h := hs.frame L
  refine ⟨around L H, h.1, h.2.1, fun e he => ?_⟩
  have nd := hs.nd
  rw [List.map_append, List.nodup_append] at nd
  rw [around_out fun z => nd.2.2 e.1 z e.1 (List.mem_map_of_mem he) rfl]
  exact hs.at_ e (List.mem_append_right _ he)
/-! what repr shows -/
def IB (n : Int) : Prop := 0 ≤ n ∧ n ≤ 100
structure Sh (D b : Nat) (d : PyData) : Prop where
  lay : d.canLay0 = true
  dep : d.depth ≤ D
  sho : d.showable = true
  blk : d.bulk ≤ b
  lvs : d.leavesShort 13 = true
theorem Sh.mono {D D' b b' : Nat} (h1 : D ≤ D') (h2 : b ≤ b') {d : PyData} (h : Sh D b d) : Sh D' b' d := ⟨h.lay, Nat.le_trans h.dep h1, h.sho, Nat.le_trans h.blk h2, h.lvs⟩
structure ShA (D b : Nat) (xs : List PyData) : Prop where
  lay : PyData.canLayAll0 xs = true
  dep : PyData.depthAll xs ≤ D
  sho : PyData.showableAll xs = true
  blk : PyData.bulkAll xs ≤ b
  lvs : PyData.leavesShortAll 13 xs = true
theorem ShA.nil {D b : Nat} : ShA D b [] := ⟨rfl, Nat.zero_le _, rfl, Nat.zero_le _, rfl⟩
theorem ShA.cons {D b c : Nat} {x : PyData} {xs : List PyData} (h : Sh D b x) (t : ShA D c xs) : ShA D (b + 1 + c) (x :: xs) := by
  have h1 := h.dep
  have h2 := t.dep
  have h3 := h.blk
  have h4 := t.blk
  refine ⟨?_, ?_, ?_, ?_, ?_⟩
  · simp only [PyData.canLayAll0, h.lay, t.lay, Bool.and_self]
  · simp only [PyData.depthAll]
    omega
  · simp only [PyData.showableAll, h.sho, t.sho, Bool.and_self]
  · simp only [PyData.bulkAll]
    omega
  · simp only [PyData.leavesShortAll, h.lvs, t.lvs, Bool.and_self]
theorem ShA.all {D b : Nat} : ∀ {xs : List PyData}, (∀ x ∈ xs, Sh D b x) → ShA D (xs.length * (b + 1)) xs
  | [], _ => ShA.nil
  | x :: xs, h => by
    have := (h x (List.mem_cons_self ..)).dep
    have t := ShA.cons (h x (List.mem_cons_self ..)) (ShA.all fun y hy => h y (List.mem_cons_of_mem _ hy))
    rw [List.length_cons, Nat.add_mul, Nat.one_mul, Nat.add_comm]
    exact t
theorem Sh.tup {D b : Nat} {xs : List PyData} (h : ShA D b xs) : Sh (D + 1) b (.tuple xs) := by
  have := h.dep
  exact ⟨by simp only [PyData.canLay0, h.lay], by simp only [PyData.depth]; omega, by simp only [PyData.showable, h.sho], by simp only [PyData.bulk]; exact h.blk, by simp only [PyData.leavesShort, h.lvs]⟩
theorem Sh.lst {D b : Nat} {xs : List PyData} (h : ShA D b xs) : Sh (D + 1) b (.list xs) := by
  have := h.dep
  exact ⟨by simp only [PyData.canLay0, h.lay], by simp only [PyData.depth]; omega, by simp only [PyData.showable, h.sho], by simp only [PyData.bulk]; exact h.blk, by simp only [PyData.leavesShort, h.lvs]⟩
theorem small_ints : ∀ n : Fin 101, (PyData.int ((n.val : Nat) : Int)).showable = true ∧ (PyData.int ((n.val : Nat) : Int)).leavesShort 13 = true := by decide +kernel
theorem Sh.int {n : Int} (h : IB n) : Sh 0 0 (.int n) := by
  have := small_ints ⟨n.toNat, by have := h.2; omega⟩
  have e : ((n.toNat : Nat) : Int) = n := by have := h.1; omega
  rw [e] at this
  exact ⟨rfl, Nat.le_refl _, this.1, Nat.le_refl _, this.2⟩
theorem Sh.ints {ns : List Int} (h : ∀ x ∈ ns, IB x) : Sh 1 (ns.length * 1) (.tuple (ns.map .int)) := by
  have := Sh.tup (ShA.all (D := 0) (b := 0) (xs := ns.map .int) fun d hd => by
    obtain ⟨x, hx, rfl⟩ := List.mem_map.mp hd
    exact Sh.int (h x hx))
  rw [List.length_map] at this
  exact this
/-! != of two dicts that map alike: the values are data -/
theorem kv_at {ls : List (Key × V)} {vs : List (Key × Value)} (r : KV ls vs) {k : Key} {u : V} (h : valV ls k = some u) : ∃ y, valueAt vs k = some y ∧ RelV u y := by
  induction r with
  | nil => cases h
  | @cons p q ps qs h1 _ ih =>
    unfold valV at h
    rw [List.find?_cons] at h
    unfold valueAt
    rw [List.find?_cons]
    by_cases hk : q.1 = k
    · have e1 : decide (p.1 = k) = true := decide_eq_true (h1.1.trans hk)
      rw [e1] at h
      cases h
      rw [decide_eq_true hk]
      exact ⟨q.2, rfl, h1.2⟩
    · have e1 : decide (p.1 = k) = false := decide_eq_false fun z => hk (h1.1.symm.trans z)
      rw [e1] at h
      rw [decide_eq_false hk]
      exact ih h
def rNeDD (K : PySem.W.Frag) : R2 := fun x y H Q => ∃ (a b : Addr) (ks ls : List (Key × V)), x = .ref a ∧ y = .ref b ∧ H a = some (.dK ks) ∧ H b = some (.dK ls) ∧ ks.length = ls.length ∧ (∀ p ∈ ks, ∃ u d, valV ls p.1 = some u ∧ Dp K H p.2 d ∧ Dp K H u d ∧ SeqAt.shaped d = true) ∧ Q (.bl false) H
theorem op_neDD {X : Cx} (hu : X.A.units + 65 < cLine) (hK : X.K = K := by rfl) : OpR X (compareOp .NotEq) (rNeDD K) := by
  subst hK
  intro pins s σ H x y v u Q I rx ry h
  obtain ⟨a, b, ks, ls, rfl, rfl, ha, hb, hl, hall, q⟩ := h
  cases rx
  cases ry
  obtain ⟨_, na, va, ra, da⟩ := dk_of I.hok ha
  obtain ⟨_, nb, vb, rb, db⟩ := dk_of I.hok hb
  have hits : ∀ {ks : List (Key × V)} {va : List (Key × Value)}, KV ks va → (∀ p ∈ ks, ∃ u d, valV ls p.1 = some u ∧ Dp X.K H p.2 d ∧ Dp X.K H u d ∧ SeqAt.shaped d = true) → PySem.W.KeqHits X.A.in1 s vb va true := fun {ks va} r => by
    induction r with
    | nil => exact fun _ => .nil
    | @cons p z ps zs h1 _ ih =>
      intro hall
      obtain ⟨u, d, h2, h3, h4, h5⟩ := hall p List.mem_cons_self
      obtain ⟨y, hy, ry⟩ := kv_at rb h2
      obtain ⟨as, g1⟩ := Dp.reads I d _ _ h3 h1.2
      obtain ⟨bs, g2⟩ := Dp.reads I d _ _ h4 ry
      have e := PySem.W.keq_at (A := X.A) g1 g2 h5 h5 (by show X.A.units + 1 + 64 < cLine; omega)
      rw [SeqAt.eqv_refl _ (shp_can h5)] at e
      have hz : z = (z.1, z.2) := rfl
      have := PySem.W.KeqHits.hit (k := z.1) (v := z.2) (by rw [← h1.1]; exact hy) e (ih fun p hp => hall p (List.mem_cons_of_mem _ hp))
      exact this
  have len : va.length = vb.length := by
    have h1 := Paired.length ra
    have h2 := Paired.length rb
    omega
  refine PySem.W.keq_ne na nb da db (by omega) (fun _ => hits ra hall) ?_
  have e : (!(va.length == vb.length && true)) = false := by rw [len]; simp
  rw [e]
  exact ⟨.bl false, H, I, rfl, q⟩
/-! two ways to one place -/
theorem w_orD {b1 b2 : Bool} {tb : TE} (h : b1 = false → ∀ R : VK, R (.bl b2) H → tb σ H R) (q : Q (.bl (b1 || b2)) H) : ∃ k, V.bl b1 = .bl k ∧ if k = true then Q (.bl true) H else tb σ H Q := by
  refine ⟨b1, rfl, ?_⟩
  cases b1 with
  | true => exact q
  | false => exact h rfl _ q
theorem join {A G : Prop} (f : A → G) (a : A) : G := f a
/-! one tuple of ints > another one -/
def rGtT : R2 := fun x y H Q => ∃ (a b : Addr) (ns ms : List Int), x = .ref a ∧ y = .ref b ∧ H a = some (.tup (ns.map V.int)) ∧ H b = some (.tup (ms.map V.int)) ∧ ns.length = ms.length ∧ Q (.bl (lexI ms ns)) H
theorem op_gtT {X : Cx} (hu : X.A.units + 64 < cLine) : OpR X (compareOp .Gt) rGtT := by
  intro pins s σ H x y v u Q I rx ry h
  obtain ⟨a, b, ns, ms, rfl, rfl, ha, hb, hl, q⟩ := h
  obtain ⟨as, r1⟩ := Dp.reads I (.tuple (ns.map .int)) _ _ (.tup (SqT.of ha) (im_ints ns).dp) rx
  obtain ⟨bs, r2⟩ := Dp.reads I (.tuple (ms.map .int)) _ _ (.tup (SqT.of hb) (im_ints ms).dp) ry
  refine PySem.W.gt_data r1 r2 (alike_ints hl) (by intro z; cases z) ?_ ⟨.bl (lexI ms ns), H, I, ?_, q⟩
  · have h1 := depth_ints ns
    have h2 := depth_ints ms
    simp only [PyData.depth]
    omega
  · rw [dataLt_ints]
    rfl
theorem w_gtT {a b : Addr} {ns ms : List Int} (ha : H a = some (.tup (ns.map V.int))) (hb : H b = some (.tup (ms.map V.int))) (hl : ns.length = ms.length) (q : Q (.bl (lexI ms ns)) H) : rGtT (.ref a) (.ref b) H Q := ⟨a, b, ns, ms, rfl, rfl, ha, hb, hl, q⟩
/-! a comprehension within another one's block -/
theorem look_rel {env : Env} {n : Str} : ∀ {l : List (Str × NameKind)} {k : NameKind}, l.lookup n = some k → k = .cell ∨ k = .free →
    (l.map fun x => match x with
      | (n, k) => if (k == NameKind.free && env.scope.kind == ScopeKind.function && env.kindOf n == some NameKind.cell) = true then (n, NameKind.cell) else (n, k)).lookup n = some .cell ∨
    (l.map fun x => match x with
      | (n, k) => if (k == NameKind.free && env.scope.kind == ScopeKind.function && env.kindOf n == some NameKind.cell) = true then (n, NameKind.cell) else (n, k)).lookup n = some .free
  | [], _, h, _ => nomatch h
  | (m, j) :: l, k, h, hk => by
    rw [List.lookup_cons] at h
    rw [List.map_cons]
    by_cases hm : n = m
    · subst hm
      have e : (n == n) = true := by simp
      rw [e] at h
      cases h
      by_cases hc : (j == NameKind.free && env.scope.kind == ScopeKind.function && env.kindOf n == some NameKind.cell) = true
      · left
        show List.lookup n ((if _ then _ else _) :: _) = _
        rw [if_pos hc, List.lookup_cons, e]
      · rcases hk with rfl | rfl
        · left
          show List.lookup n ((if _ then _ else _) :: _) = _
          rw [if_neg hc, List.lookup_cons, e]
        · right
          show List.lookup n ((if _ then _ else _) :: _) = _
          rw [if_neg hc, List.lookup_cons, e]
    · have e : (n == m) = false := by simpa using hm
      rw [e] at h
      have ih := look_rel (env := env) (l := l) h hk
      by_cases hc : (j == NameKind.free && env.scope.kind == ScopeKind.function && env.kindOf m == some NameKind.cell) = true
      · show List.lookup n ((if _ then _ else _) :: _) = _ ∨ List.lookup n ((if _ then _ else _) :: _) = _
        rw [if_pos hc, List.lookup_cons, e]
        exact ih
      · show List.lookup n ((if _ then _ else _) :: _) = _ ∨ List.lookup n ((if _ then _ else _) :: _) = _
        rw [if_neg hc, List.lookup_cons, e]
        exact ih
theorem blkOk_in {N : List Str} {scO scope : Scope} {own : List (Str × Nat)} {env : Env} {cl : List (Str × Addr)} {C : Addr} (h : blkC N scO scope own = true) : BlkOk N (Env.scope (compEnvC scO cl C env)) scope own := by
  have b : BlkOk N scO scope own := blkOk_by h
  exact ⟨b.kind, b.uniq, b.ix, fun y hy hk => (b.free y hy hk).elim (fun z => look_rel z (.inl rfl)) (fun z => look_rel z (.inr rfl)), b.own⟩
/-! xs[::-1] -/
theorem pe_revLK {X : Cx} {e : Expr} {te : TE} {k p1 p2 p3 pos} (he : PE X e te) (hK : X.K = K := by rfl) : PE X (.Subscript e (.Slice none none (some (.UnaryOp .USub (.Constant (.int 1) k p1) p2)) p3) pos) (tRevL K te) := by
  subst hK
  exact pe_revL he
def RevR (K : PySem.W.Frag) (x : V) (H1 : Hp) (Q : VK) : Prop := ∃ a xs, x = .ref a ∧ SqL K H1 a xs ∧ ∀ p, H1 p = none → Q (.ref p) (upd H1 p (.lst xs.reverse))
theorem w_revL {te : TE} (q : te σ H fun x H1 => RevR K x H1 Q) : tRevL K te σ H Q := q
theorem w_revR {B : Hp} {L : List (Addr × HO)} {a : Addr} {xs : List V} (hs : Hs B L H) (h : SqL K H a xs) (q : ∀ l H', Hs B ((l, .lst xs.reverse) :: L) H' → Q (.ref l) H') : RevR K (.ref a) H Q := ⟨a, xs, rfl, h, w_new hs q⟩
end
end Hb

set_option Elab.async false
set_option linter.all false
set_option maxRecDepth 100000
set_option maxHeartbeats 4000000
namespace K04
open PySem L2 Hb
class IsP (P : Program) : Prop where
  eq : P = PySem.Challenge.pw_hangbridge_k04_graphs_and_ways
def top (i : Nat) : Stmt := PySem.Challenge.pw_hangbridge_k04_graphs_and_ways.main.body.getD i (.Pass ⟨0, 0, 0, 0⟩)
abbrev s_is_end : Stmt := (top 3)
abbrev s_link_of : Stmt := (top 4)
abbrev s_check_graph : Stmt := (top 5)
abbrev s_peer : Stmt := (top 6)
abbrev s_reached : Stmt := (top 7)
abbrev s_ends_at : Stmt := (top 10)
abbrev s_tree : Stmt := (top 11)
abbrev s_way : Stmt := (top 12)
abbrev s_below : Stmt := (top 13)
abbrev s_ways_by_tree : Stmt := (top 14)
abbrev s_two_ways : Stmt := (top 15)
abbrev s__law_state : Stmt := (top 17)
abbrev s__law_draw : Stmt := (top 18)
abbrev s__law_pick : Stmt := (top 19)
abbrev s__law_graph : Stmt := (top 20)
abbrev s__law_peer : Stmt := (top 22)
abbrev s__law_tree : Stmt := (top 23)
abbrev s__law_way : Stmt := (top 24)
abbrev s__law_near : Stmt := (top 25)
abbrev s__law_good : Stmt := (top 26)
abbrev s__law_faulty : Stmt := (top 27)
abbrev s__law_below : Stmt := (top 28)
abbrev s_law : Stmt := (top 29)
abbrev N_is_end : List Str := ["count", "end", "switch", "port"]
theorem sc_is_end : FnScope N_is_end ["count", "end"] (defScope s_is_end) := ⟨rfl, rfl, rfl, by decide +kernel, rfl, by decide +kernel, by decide +kernel⟩
abbrev N_link_of : List Str := ["one", "other"]
theorem sc_link_of : FnScope N_link_of ["one", "other"] (defScope s_link_of) := ⟨rfl, rfl, rfl, by decide +kernel, rfl, by decide +kernel, by decide +kernel⟩
abbrev N_check_graph : List Str := ["graph", "_", "count", "links", "ends", "one", "other"]
theorem sc_check_graph : FnScope N_check_graph ["graph"] (defScope s_check_graph) := ⟨rfl, rfl, rfl, by decide +kernel, rfl, by decide +kernel, by decide +kernel⟩
abbrev N_peer : List Str := ["links", "end", "one", "other"]
theorem sc_peer : FnScope N_peer ["links", "end"] (defScope s_peer) := ⟨rfl, rfl, rfl, by decide +kernel, rfl, by decide +kernel, by decide +kernel⟩
abbrev N_reached : List Str := ["links", "switch", "found", "growing", "one", "other"]
theorem sc_reached : FnScope N_reached ["links", "switch"] (defScope s_reached) := ⟨rfl, rfl, rfl, by decide +kernel, rfl, by decide +kernel, by decide +kernel⟩
abbrev N_ends_at : List Str := ["links", "switch", "link", "end"]
theorem sc_ends_at : FnScope N_ends_at ["links", "switch"] (defScope s_ends_at) := ⟨rfl, rfl, rfl, by decide +kernel, rfl, by decide +kernel, by decide +kernel⟩
abbrev N_tree : List Str := ["links", "parents", "found", "at", "end", "switch"]
theorem sc_tree : FnScope N_tree ["links"] (defScope s_tree) := ⟨rfl, rfl, rfl, by decide +kernel, rfl, by decide +kernel, by decide +kernel⟩
abbrev N_way : List Str := ["parents", "to", "ends", "switch"]
theorem sc_way : FnScope N_way ["parents", "to"] (defScope s_way) := ⟨rfl, rfl, rfl, by decide +kernel, rfl, by decide +kernel, by decide +kernel⟩
abbrev N_below : List Str := ["parents", "switch", "hanging", "at", "above", "other"]
theorem sc_below : FnScope N_below ["parents", "switch"] (defScope s_below) := ⟨rfl, rfl, rfl, by decide +kernel, rfl, by decide +kernel, by decide +kernel⟩
abbrev N_ways_by_tree : List Str := ["links", "to", "parents"]
theorem sc_ways_by_tree : FnScope N_ways_by_tree ["links", "to"] (defScope s_ways_by_tree) := ⟨rfl, rfl, rfl, by decide +kernel, rfl, by decide +kernel, by decide +kernel⟩
abbrev N_two_ways : List Str := ["links", "to", "first", "gone", "end", "link"]
theorem sc_two_ways : FnScope N_two_ways ["links", "to"] (defScope s_two_ways) := ⟨rfl, rfl, rfl, by decide +kernel, rfl, by decide +kernel, by decide +kernel⟩
abbrev N__law_state : List Str := ["script", "seed", "cell"]
theorem sc__law_state : FnScope N__law_state ["script"] (defScope s__law_state) := ⟨rfl, rfl, rfl, by decide +kernel, rfl, by decide +kernel, by decide +kernel⟩
abbrev N__law_draw : List Str := ["state", "many", "cells", "value", "mixed"]
theorem sc__law_draw : FnScope N__law_draw ["state", "many"] (defScope s__law_draw) := ⟨rfl, rfl, rfl, by decide +kernel, rfl, by decide +kernel, by decide +kernel⟩
abbrev N__law_pick : List Str := ["state", "row"]
theorem sc__law_pick : FnScope N__law_pick ["state", "row"] (defScope s__law_pick) := ⟨rfl, rfl, rfl, by decide +kernel, rfl, by decide +kernel, by decide +kernel⟩
abbrev N__law_graph : List Str := ["state", "most", "count", "links", "used", "turn", "one", "other"]
theorem sc__law_graph : FnScope N__law_graph ["state", "most"] (defScope s__law_graph) := ⟨rfl, rfl, rfl, by decide +kernel, rfl, by decide +kernel, by decide +kernel⟩
abbrev N__law_peer : List Str := ["links", "end", "one", "other"]
theorem sc__law_peer : FnScope N__law_peer ["links", "end"] (defScope s__law_peer) := ⟨rfl, rfl, rfl, by decide +kernel, rfl, by decide +kernel, by decide +kernel⟩
abbrev N__law_tree : List Str := ["links", "found", "row", "turn", "port", "other"]
theorem sc__law_tree : FnScope N__law_tree ["links"] (defScope s__law_tree) := ⟨rfl, rfl, rfl, by decide +kernel, rfl, by decide +kernel, by decide +kernel⟩
abbrev N__law_way : List Str := ["parents", "to", "found", "turn"]
theorem sc__law_way : FnScope N__law_way ["parents", "to"] (defScope s__law_way) := ⟨rfl, rfl, rfl, by decide +kernel, rfl, by decide +kernel, by decide +kernel⟩
abbrev N__law_near : List Str := ["links", "switch", "found", "turn", "one", "other", "near", "far"]
theorem sc__law_near : FnScope N__law_near ["links", "switch"] (defScope s__law_near) := ⟨rfl, rfl, rfl, by decide +kernel, rfl, by decide +kernel, by decide +kernel⟩
abbrev N__law_good : List Str := ["graph", "word", "count", "links", "ends", "one", "other", "end"]
theorem sc__law_good : FnScope N__law_good ["graph"] (defScope s__law_good) := ⟨rfl, rfl, rfl, by decide +kernel, rfl, by decide +kernel, by decide +kernel⟩
abbrev N__law_faulty : List Str := ["state", "graph", "word", "count", "links", "turn", "one", "other", "more"]
theorem sc__law_faulty : FnScope N__law_faulty ["state", "graph"] (defScope s__law_faulty) := ⟨rfl, rfl, rfl, by decide +kernel, rfl, by decide +kernel, by decide +kernel⟩
abbrev N__law_below : List Str := ["parents", "switch", "each", "end"]
theorem sc__law_below : FnScope N__law_below ["parents", "switch"] (defScope s__law_below) := ⟨rfl, rfl, rfl, by decide +kernel, rfl, by decide +kernel, by decide +kernel⟩
abbrev N_law : List Str := ["script", "state", "graph", "other", "one", "told", "count", "links", "kept", "parents", "switch", "near", "port", "ends", "used", "rest", "due", "end", "link"]
theorem sc_law : FnScope N_law ["script"] (defScope s_law) := ⟨rfl, rfl, rfl, by decide +kernel, rfl, by decide +kernel, by decide +kernel⟩
structure Ad where
  is_end : Addr
  fd_is_end : FuncData
  link_of : Addr
  fd_link_of : FuncData
  check_graph : Addr
  fd_check_graph : FuncData
  peer : Addr
  fd_peer : FuncData
  reached : Addr
  fd_reached : FuncData
  ends_at : Addr
  fd_ends_at : FuncData
  tree : Addr
  fd_tree : FuncData
  way : Addr
  fd_way : FuncData
  below : Addr
  fd_below : FuncData
  ways_by_tree : Addr
  fd_ways_by_tree : FuncData
  two_ways : Addr
  fd_two_ways : FuncData
  _law_state : Addr
  fd__law_state : FuncData
  _law_draw : Addr
  fd__law_draw : FuncData
  _law_pick : Addr
  fd__law_pick : FuncData
  _law_graph : Addr
  fd__law_graph : FuncData
  _law_peer : Addr
  fd__law_peer : FuncData
  _law_tree : Addr
  fd__law_tree : FuncData
  _law_way : Addr
  fd__law_way : FuncData
  _law_near : Addr
  fd__law_near : FuncData
  _law_good : Addr
  fd__law_good : FuncData
  _law_faulty : Addr
  fd__law_faulty : FuncData
  _law_below : Addr
  fd__law_below : FuncData
  law : Addr
  fd_law : FuncData
structure Txt (w : World) (K : PySem.W.Frag) (mg : Str → Option Value) (a : Ad) : Prop where
  fn_is_end : Fun K "is_end" "is_end" s_is_end a.is_end a.fd_is_end
  bi_is_end : Binds K a.fd_is_end ["count", "end"] []
  mg_is_end : mg "is_end" = some (.ref a.is_end)
  kp_is_end : PySem.W.keepIn K (.ref a.is_end) = true
  fn_link_of : Fun K "link_of" "link_of" s_link_of a.link_of a.fd_link_of
  bi_link_of : Binds K a.fd_link_of ["one", "other"] []
  mg_link_of : mg "link_of" = some (.ref a.link_of)
  kp_link_of : PySem.W.keepIn K (.ref a.link_of) = true
  fn_check_graph : Fun K "check_graph" "check_graph" s_check_graph a.check_graph a.fd_check_graph
  bi_check_graph : Binds K a.fd_check_graph ["graph"] []
  mg_check_graph : mg "check_graph" = some (.ref a.check_graph)
  kp_check_graph : PySem.W.keepIn K (.ref a.check_graph) = true
  fn_peer : Fun K "peer" "peer" s_peer a.peer a.fd_peer
  bi_peer : Binds K a.fd_peer ["links", "end"] []
  mg_peer : mg "peer" = some (.ref a.peer)
  kp_peer : PySem.W.keepIn K (.ref a.peer) = true
  fn_reached : Fun K "reached" "reached" s_reached a.reached a.fd_reached
  bi_reached : Binds K a.fd_reached ["links", "switch"] []
  mg_reached : mg "reached" = some (.ref a.reached)
  kp_reached : PySem.W.keepIn K (.ref a.reached) = true
  fn_ends_at : Fun K "ends_at" "ends_at" s_ends_at a.ends_at a.fd_ends_at
  bi_ends_at : Binds K a.fd_ends_at ["links", "switch"] []
  mg_ends_at : mg "ends_at" = some (.ref a.ends_at)
  kp_ends_at : PySem.W.keepIn K (.ref a.ends_at) = true
  fn_tree : Fun K "tree" "tree" s_tree a.tree a.fd_tree
  bi_tree : Binds K a.fd_tree ["links"] []
  mg_tree : mg "tree" = some (.ref a.tree)
  kp_tree : PySem.W.keepIn K (.ref a.tree) = true
  fn_way : Fun K "way" "way" s_way a.way a.fd_way
  bi_way : Binds K a.fd_way ["parents", "to"] []
  mg_way : mg "way" = some (.ref a.way)
  kp_way : PySem.W.keepIn K (.ref a.way) = true
  fn_below : Fun K "below" "below" s_below a.below a.fd_below
  bi_below : Binds K a.fd_below ["parents", "switch"] []
  mg_below : mg "below" = some (.ref a.below)
  kp_below : PySem.W.keepIn K (.ref a.below) = true
  fn_ways_by_tree : Fun K "ways_by_tree" "ways_by_tree" s_ways_by_tree a.ways_by_tree a.fd_ways_by_tree
  bi_ways_by_tree : Binds K a.fd_ways_by_tree ["links", "to"] []
  mg_ways_by_tree : mg "ways_by_tree" = some (.ref a.ways_by_tree)
  kp_ways_by_tree : PySem.W.keepIn K (.ref a.ways_by_tree) = true
  fn_two_ways : Fun K "two_ways" "two_ways" s_two_ways a.two_ways a.fd_two_ways
  bi_two_ways : Binds K a.fd_two_ways ["links", "to"] []
  mg_two_ways : mg "two_ways" = some (.ref a.two_ways)
  kp_two_ways : PySem.W.keepIn K (.ref a.two_ways) = true
  fn__law_state : Fun K "_law_state" "_law_state" s__law_state a._law_state a.fd__law_state
  bi__law_state : Binds K a.fd__law_state ["script"] []
  mg__law_state : mg "_law_state" = some (.ref a._law_state)
  kp__law_state : PySem.W.keepIn K (.ref a._law_state) = true
  fn__law_draw : Fun K "_law_draw" "_law_draw" s__law_draw a._law_draw a.fd__law_draw
  bi__law_draw : Binds K a.fd__law_draw ["state", "many"] []
  mg__law_draw : mg "_law_draw" = some (.ref a._law_draw)
  kp__law_draw : PySem.W.keepIn K (.ref a._law_draw) = true
  fn__law_pick : Fun K "_law_pick" "_law_pick" s__law_pick a._law_pick a.fd__law_pick
  bi__law_pick : Binds K a.fd__law_pick ["state", "row"] []
  mg__law_pick : mg "_law_pick" = some (.ref a._law_pick)
  kp__law_pick : PySem.W.keepIn K (.ref a._law_pick) = true
  fn__law_graph : Fun K "_law_graph" "_law_graph" s__law_graph a._law_graph a.fd__law_graph
  bi__law_graph : Binds K a.fd__law_graph ["state", "most"] []
  mg__law_graph : mg "_law_graph" = some (.ref a._law_graph)
  kp__law_graph : PySem.W.keepIn K (.ref a._law_graph) = true
  fn__law_peer : Fun K "_law_peer" "_law_peer" s__law_peer a._law_peer a.fd__law_peer
  bi__law_peer : Binds K a.fd__law_peer ["links", "end"] []
  mg__law_peer : mg "_law_peer" = some (.ref a._law_peer)
  kp__law_peer : PySem.W.keepIn K (.ref a._law_peer) = true
  fn__law_tree : Fun K "_law_tree" "_law_tree" s__law_tree a._law_tree a.fd__law_tree
  bi__law_tree : Binds K a.fd__law_tree ["links"] []
  mg__law_tree : mg "_law_tree" = some (.ref a._law_tree)
  kp__law_tree : PySem.W.keepIn K (.ref a._law_tree) = true
  fn__law_way : Fun K "_law_way" "_law_way" s__law_way a._law_way a.fd__law_way
  bi__law_way : Binds K a.fd__law_way ["parents", "to"] []
  mg__law_way : mg "_law_way" = some (.ref a._law_way)
  kp__law_way : PySem.W.keepIn K (.ref a._law_way) = true
  fn__law_near : Fun K "_law_near" "_law_near" s__law_near a._law_near a.fd__law_near
  bi__law_near : Binds K a.fd__law_near ["links", "switch"] []
  mg__law_near : mg "_law_near" = some (.ref a._law_near)
  kp__law_near : PySem.W.keepIn K (.ref a._law_near) = true
  fn__law_good : Fun K "_law_good" "_law_good" s__law_good a._law_good a.fd__law_good
  bi__law_good : Binds K a.fd__law_good ["graph"] []
  mg__law_good : mg "_law_good" = some (.ref a._law_good)
  kp__law_good : PySem.W.keepIn K (.ref a._law_good) = true
  fn__law_faulty : Fun K "_law_faulty" "_law_faulty" s__law_faulty a._law_faulty a.fd__law_faulty
  bi__law_faulty : Binds K a.fd__law_faulty ["state", "graph"] []
  mg__law_faulty : mg "_law_faulty" = some (.ref a._law_faulty)
  kp__law_faulty : PySem.W.keepIn K (.ref a._law_faulty) = true
  fn__law_below : Fun K "_law_below" "_law_below" s__law_below a._law_below a.fd__law_below
  bi__law_below : Binds K a.fd__law_below ["parents", "switch"] []
  mg__law_below : mg "_law_below" = some (.ref a._law_below)
  kp__law_below : PySem.W.keepIn K (.ref a._law_below) = true
  fn_law : Fun K "law" "law" s_law a.law a.fd_law
  bi_law : Binds K a.fd_law ["script"] []
  mg_law : mg "law" = some (.ref a.law)
  kp_law : PySem.W.keepIn K (.ref a.law) = true
  mg_MOST_SWITCHES : ∃ tk, mg "MOST_SWITCHES" = some (.int 8 tk)
  mg_MOST_PORT : ∃ tk, mg "MOST_PORT" = some (.int 6 tk)
  mg_ROOT : ∃ tk, mg "ROOT" = some (.int 1 tk)
  mg_sorted : mg "sorted" = none
  mg_len : mg "len" = none
  mg_set : mg "set" = none
  mg_abs : mg "abs" = none
  mg_int : mg "int" = none
  mg_range : mg "range" = none
  mg_max : mg "max" = none
  mg_min : mg "min" = none
  mg_list : mg "list" = none
  mg_repr : mg "repr" = none
  mg_isinstance : mg "isinstance" = none
  mg_bool : mg "bool" = none
local macro_rules | `(tactic| walk_at "g") => `(tactic| first | assumption | exact Hs.g0 (by assumption) | exact Hs.g1 (by assumption) | exact Hs.g2 (by assumption) | exact Hs.g3 (by assumption) | exact Hs.g4 (by assumption) | exact Hs.g5 (by assumption) | exact Hs.g6 (by assumption) | exact Hs.g7 (by assumption) | exact Hs.g8 (by assumption) | exact Hs.g9 (by assumption) | exact Hs.g10 (by assumption) | exact Hs.g11 (by assumption) | exact Hs.g12 (by assumption) | exact Hs.g13 (by assumption) | exact Hs.g14 (by assumption) | exact Hs.g15 (by assumption) | exact Hs.old (by assumption) (by assumption))
local macro_rules | `(tactic| walk_at "l") => `(tactic| first | assumption | exact SqL.of (by walk_at "g") | exact Hs.sql (by assumption) (by assumption))
local macro_rules | `(tactic| walk_at "p") => `(tactic| first | exact .here | exact .there .here | exact .there (.there .here) | exact .there (.there (.there .here)) | exact .there (.there (.there (.there .here))) | exact .there (.there (.there (.there (.there .here)))) | exact .there (.there (.there (.there (.there (.there .here))))) | exact .there (.there (.there (.there (.there (.there (.there .here)))))) | exact .there (.there (.there (.there (.there (.there (.there (.there .here))))))) | exact .there (.there (.there (.there (.there (.there (.there (.there (.there .here)))))))) | exact .there (.there (.there (.there (.there (.there (.there (.there (.there (.there .here))))))))) | exact .there (.there (.there (.there (.there (.there (.there (.there (.there (.there (.there .here)))))))))) | exact .there (.there (.there (.there (.there (.there (.there (.there (.there (.there (.there (.there .here))))))))))) | exact .there (.there (.there (.there (.there (.there (.there (.there (.there (.there (.there (.there (.there .here)))))))))))))
local macro_rules | `(tactic| walk_at "f") => `(tactic| first | exact lk0 | exact lk1 (by decide +kernel) lk0 | exact lk1 (by decide +kernel) (lk1 (by decide +kernel) lk0) | exact lk1 (by decide +kernel) (lk1 (by decide +kernel) (lk1 (by decide +kernel) lk0)) | exact lk1 (by decide +kernel) (lk1 (by decide +kernel) (lk1 (by decide +kernel) (lk1 (by decide +kernel) lk0))) | exact lk1 (by decide +kernel) (lk1 (by decide +kernel) (lk1 (by decide +kernel) (lk1 (by decide +kernel) (lk1 (by decide +kernel) lk0)))) | exact lk1 (by decide +kernel) (lk1 (by decide +kernel) (lk1 (by decide +kernel) (lk1 (by decide +kernel) (lk1 (by decide +kernel) (lk1 (by decide +kernel) lk0))))) | exact lk1 (by decide +kernel) (lk1 (by decide +kernel) (lk1 (by decide +kernel) (lk1 (by decide +kernel) (lk1 (by decide +kernel) (lk1 (by decide +kernel) (lk1 (by decide +kernel) lk0)))))) | exact lk1 (by decide +kernel) (lk1 (by decide +kernel) (lk1 (by decide +kernel) (lk1 (by decide +kernel) (lk1 (by decide +kernel) (lk1 (by decide +kernel) (lk1 (by decide +kernel) (lk1 (by decide +kernel) lk0))))))))
local macro_rules | `(tactic| walk_at "fn") => `(tactic| first | exact lke | exact lkn (by decide +kernel) lke | exact lkn (by decide +kernel) (lkn (by decide +kernel) lke) | exact lkn (by decide +kernel) (lkn (by decide +kernel) (lkn (by decide +kernel) lke)) | exact lkn (by decide +kernel) (lkn (by decide +kernel) (lkn (by decide +kernel) (lkn (by decide +kernel) lke))) | exact lkn (by decide +kernel) (lkn (by decide +kernel) (lkn (by decide +kernel) (lkn (by decide +kernel) (lkn (by decide +kernel) lke)))) | exact lkn (by decide +kernel) (lkn (by decide +kernel) (lkn (by decide +kernel) (lkn (by decide +kernel) (lkn (by decide +kernel) (lkn (by decide +kernel) lke))))) | exact lkn (by decide +kernel) (lkn (by decide +kernel) (lkn (by decide +kernel) (lkn (by decide +kernel) (lkn (by decide +kernel) (lkn (by decide +kernel) (lkn (by decide +kernel) lke)))))) | exact lkn (by decide +kernel) (lkn (by decide +kernel) (lkn (by decide +kernel) (lkn (by decide +kernel) (lkn (by decide +kernel) (lkn (by decide +kernel) (lkn (by decide +kernel) (lkn (by decide +kernel) lke))))))))
local macro_rules | `(tactic| walk_at "fp") => `(tactic| first | exact pue | exact pu0 | exact pu2 (by decide +kernel) pue | exact pu2 (by decide +kernel) pu0 | exact pu2 (by decide +kernel) (pu2 (by decide +kernel) pue) | exact pu2 (by decide +kernel) (pu2 (by decide +kernel) pu0) | exact pu2 (by decide +kernel) (pu2 (by decide +kernel) (pu2 (by decide +kernel) pue)) | exact pu2 (by decide +kernel) (pu2 (by decide +kernel) (pu2 (by decide +kernel) pu0)) | exact pu2 (by decide +kernel) (pu2 (by decide +kernel) (pu2 (by decide +kernel) (pu2 (by decide +kernel) pue))) | exact pu2 (by decide +kernel) (pu2 (by decide +kernel) (pu2 (by decide +kernel) (pu2 (by decide +kernel) pu0))) | exact pu2 (by decide +kernel) (pu2 (by decide +kernel) (pu2 (by decide +kernel) (pu2 (by decide +kernel) (pu2 (by decide +kernel) pue)))) | exact pu2 (by decide +kernel) (pu2 (by decide +kernel) (pu2 (by decide +kernel) (pu2 (by decide +kernel) (pu2 (by decide +kernel) pu0)))) | exact pu2 (by decide +kernel) (pu2 (by decide +kernel) (pu2 (by decide +kernel) (pu2 (by decide +kernel) (pu2 (by decide +kernel) (pu2 (by decide +kernel) pue))))) | exact pu2 (by decide +kernel) (pu2 (by decide +kernel) (pu2 (by decide +kernel) (pu2 (by decide +kernel) (pu2 (by decide +kernel) (pu2 (by decide +kernel) pu0))))) | exact pu2 (by decide +kernel) (pu2 (by decide +kernel) (pu2 (by decide +kernel) (pu2 (by decide +kernel) (pu2 (by decide +kernel) (pu2 (by decide +kernel) (pu2 (by decide +kernel) pue)))))) | exact pu2 (by decide +kernel) (pu2 (by decide +kernel) (pu2 (by decide +kernel) (pu2 (by decide +kernel) (pu2 (by decide +kernel) (pu2 (by decide +kernel) (pu2 (by decide +kernel) pu0)))))))
local macro_rules | `(tactic| walk_at "c") => `(tactic| first | assumption | omega | (dsimp only; omega) | (unfold CMul; omega))
local macro_rules | `(tactic| walk_at "z") => `(tactic| first | assumption | (refine sz ?_; first | decide | omega | (simp only [List.length_map, List.length_append] <;> omega) | (simp only [List.length_cons, List.length_nil, List.length_map, List.length_append] <;> omega)) | (refine szl ?_; first | decide | omega | (simp only [List.length_map, List.length_append] <;> omega) | (simp only [List.length_cons, List.length_nil, List.length_map, List.length_append] <;> omega)))
local macro_rules | `(tactic| walk_at "s") => `(tactic| first
  | with_reducible refine w_seq ?_
  | ((with_reducible refine' w_var ?h ?_); case h => exact rfl)
  | with_reducible refine w_c ?_
  | with_reducible refine w_name ?_
  | with_reducible refine w_asg ?_
  | with_reducible refine w_op ?_
  | with_reducible refine w_I0 ?_
  | with_reducible refine w_exb ?_
  | with_reducible refine w_if ?_
  | with_reducible refine w_test ?_
  | with_reducible refine w_fld ?_
  | ((with_reducible refine' w_fl ?h ?hc ?hn ?hl ?_); (case h => walk_at "g"); (case hc => assumption); (case hn => assumption); (case hl => walk_at "f"))
  | with_reducible refine w_nil ?_
  | with_reducible refine w_cons ?_
  | with_reducible refine w_cb ?_
  | with_reducible refine w_call ?_
  | with_reducible refine w_meth ?_
  | with_reducible refine w_make ?_
  | ((with_reducible refine' w_rc ?h ?hl ?_); (case h => walk_at "g"); (case hl => walk_at "fn"))
  | with_reducible refine w_drop ?_
  | with_reducible refine w_ret ?_
  | with_reducible refine w_retN ?_
  | with_reducible refine w_next ?_
  | with_reducible refine w_brk ?_
  | with_reducible refine w_cont ?_
  | with_reducible refine w_eqI ?_
  | with_reducible refine w_neI ?_
  | with_reducible refine w_neB ?_
  | with_reducible refine w_isi ?_
  | ((with_reducible refine' w_len ?h ?_); case h => walk_at "l")
  | ((with_reducible refine' w_ixL ?h ?a ?_); (case h => walk_at "l"); (case a => first | exact at0 | exact at1 | exact at2 | exact at3 | assumption))
  | with_reducible refine w_bm ?_
  | with_reducible refine w_bm0 ?_
  | ((with_reducible refine' w_tyL ?h ?_); case h => walk_at "l")
  | with_reducible refine w_B ?_
  | with_reducible refine w_not ?_
  | with_reducible refine w_and ?_
  | with_reducible refine w_or ?_
  | with_reducible refine w_andV ?_
  | with_reducible refine w_orV ?_
  | with_reducible refine w_notV ?_
  | with_reducible refine w_ifE ?_
  | with_reducible refine w_chain ?_
  | with_reducible refine w_un ?_
  | with_reducible refine w_U ?_
  | with_reducible refine w_int ?_
  | with_reducible refine w_abs ?_
  | with_reducible refine w_tup ?_
  | with_reducible refine w_lst ?_
  | with_reducible refine w_sl ?_
  | with_reducible refine w_noPart ?_
  | with_reducible refine w_part ?_
  | with_reducible refine w_exi ?_
  | ((with_reducible refine' w_newL ?hs ?hl ?_); (case hs => assumption); (case hl => walk_at "z"); intro _ _ _)
  | ((with_reducible refine' w_newT ?hs ?hl ?_); (case hs => assumption); (case hl => walk_at "z"); intro _ _ _)
  | ((with_reducible refine' w_slL ?hs ?h ?_); (case hs => assumption); (case h => walk_at "l"); intro _ _ _)
  | ((with_reducible refine' w_cat ?hs ?ha ?hb ?hl ?_); (case hs => assumption); (case ha => walk_at "g"); (case hb => walk_at "g"); (case hl => walk_at "z"); intro _ _ _)
  | ((with_reducible refine' w_app ?hs ?h ?hl ?_); (case hs => assumption); (case h => walk_at "p"); (case hl => walk_at "z"); intro _ _)
  | ((with_reducible refine' w_clear ?hs ?h ?_); (case hs => assumption); (case h => walk_at "p"); intro _ _)
  | with_reducible refine w_sfld ?_
  | ((with_reducible refine' w_fsP ?hs ?h ?hc ?hn ?hl ?hg ?_); (case hs => assumption); (case h => walk_at "p"); (case hc => assumption); (case hn => assumption); (case hl => exact Nat.lt_of_lt_of_le (by simp only [List.length_cons, List.length_nil]; omega) (Nat.le_refl 1000)); (case hg => walk_at "fp"); intro _ _)
  | with_reducible refine w_lpb ?_
  | with_reducible refine w_yes ?_
  | with_reducible refine w_sub ?_
  | with_reducible refine w_delL0 ?_
  | ((with_reducible refine' w_I ?h ?_); case h => walk_at "c"))
local macro_rules | `(tactic| walk_at "ss") => `(tactic| repeat walk_at "s")

local macro_rules | `(tactic| walk_at "t") => `(tactic| first | assumption | exact SqT.of (by walk_at "g"))
local macro_rules | `(tactic| walk_at "s") => `(tactic| first
  | with_reducible refine iteT ?_
  | with_reducible refine iteF ?_
  | with_reducible refine w_din ?_
  | with_reducible refine w_dni ?_
  | ((with_reducible refine' w_dinI ?h ?_); case h => walk_at "g")
  | ((with_reducible refine' w_dniI ?h ?_); case h => walk_at "g")
  | with_reducible refine w_dput ?_
  | ((with_reducible refine' w_dputI ?hs ?h ?hl ?_); (case hs => assumption); (case h => walk_at "p"); (case hl => walk_at "z"); intro _ _)
  | with_reducible refine w_dpop ?_
  | ((with_reducible refine' w_dpopA ?h ?_); case h => walk_at "g")
  | with_reducible refine w_dnew ?_
  | ((with_reducible refine' w_newD ?hs ?_); (case hs => assumption); intro _ _ _)
  | with_reducible refine w_faug ?_
  | ((with_reducible refine' w_fa1 ?h ?hc ?hn ?hl ?_); (case h => walk_at "g"); (case hc => assumption); (case hn => assumption); (case hl => walk_at "f"))
  | ((with_reducible refine' w_fa2 ?hs ?h ?hl ?hg ?_); (case hs => assumption); (case h => walk_at "p"); (case hl => exact Nat.lt_of_lt_of_le (by simp only [List.length_cons, List.length_nil]; omega) (Nat.le_refl 1000)); (case hg => walk_at "fp"); intro _ _)
  | with_reducible refine w_rAdd ?_
  | with_reducible refine w_rSub ?_
  | with_reducible refine w_max ?_
  | with_reducible refine w_min ?_
  | with_reducible refine w_eqB ?_
  | with_reducible refine w_methQ ?_
  | with_reducible refine w_xf0 ?_
  | ((with_reducible refine' w_xf ?h ?hl ?_); (case h => walk_at "g"); (case hl => walk_at "f"))
  | with_reducible refine w_eqSt ?_
  | with_reducible refine w_isN ?_
  | with_reducible refine w_notN ?_
  | ((with_reducible refine' w_gtup ?h ?hl ?_); (case h => walk_at "t"); (case hl => rfl))
  | with_reducible refine w_gnil ?_
  | with_reducible refine w_gcons ?_
  | with_reducible refine w_par3 ?_
  | with_reducible refine w_ex3 ?_
  | with_reducible refine w_par2 ?_
  | with_reducible refine w_ex2 ?_
  | ((with_reducible refine' w_ixT ?h ?a ?_); (case h => walk_at "t"); (case a => first | exact at0 | exact at1 | exact at2 | exact at3 | assumption))
  | ((with_reducible refine' w_lenT ?h ?_); case h => walk_at "t")
  | ((with_reducible refine' w_set0 ?hs ?h ?_); (case hs => assumption); (case h => walk_at "p"); intro _ _)
  | ((with_reducible refine' w_set1 ?hs ?h ?_); (case hs => assumption); (case h => walk_at "p"); intro _ _)
  | ((with_reducible refine' w_set2 ?hs ?h ?_); (case hs => assumption); (case h => walk_at "p"); intro _ _)
  | ((with_reducible refine' w_set3 ?hs ?h ?_); (case hs => assumption); (case h => walk_at "p"); intro _ _)
  | ((with_reducible refine' w_set4 ?hs ?h ?_); (case hs => assumption); (case h => walk_at "p"); intro _ _)
  | with_reducible refine w_vei ?_
  | with_reducible refine w_ost0 ?_
  | with_reducible refine w_mko ?_
  | with_reducible refine w_raise ?_
  | with_reducible refine w_js ?_
  | with_reducible refine w_js0 ?_
  | with_reducible refine w_fmt ?_)

local macro_rules | `(tactic| walk_at "v") => `(tactic| first | exact v0 | exact v1 | exact v2 | exact v3 | exact v4 | exact v5 | exact v6 | exact v7 | exact v8)
local macro_rules | `(tactic| walk_at "vs") => `(tactic| first | exact st0 | exact st1 | exact st2 | exact st3 | exact st4 | exact st5 | exact st6 | exact st7 | exact st8)
local macro_rules | `(tactic| walk_at "s") => `(tactic| first
  | with_reducible refine w_dget ?_
  | ((with_reducible refine' w_dgetZ ?h ?nd ?hk ?hv ?_); (case h => walk_at "g"); (case nd => walk_at "nd"); (case hk => walk_at "k"); (case hv => walk_at "v"))
  | ((with_reducible refine' w_dputZ ?hs ?h ?nd ?hk ?hv ?hu ?hl ?_); (case hs => assumption); (case h => walk_at "p"); (case nd => walk_at "nd"); (case hk => walk_at "k"); (case hv => walk_at "v"); (case hu => walk_at "vs"); (case hl => decide); intro _ _)
  | with_reducible refine w_gsub ?_
  | with_reducible refine w_setD ?_
  | with_reducible refine w_disp ?_
  | ((with_reducible refine' w_newP ?hs ?_); (case hs => assumption); intro _ _ _)
  | with_reducible refine w_pcons ?_
  | with_reducible refine w_pnil ?_)

local macro_rules | `(tactic| walk_at "s") => `(tactic| first
  | with_reducible refine w_nget ?_
  | with_reducible refine w_nin ?_
  | with_reducible refine w_nnot ?_
  | with_reducible refine w_nput ?_
  | with_reducible refine w_ndel ?_
  | with_reducible refine w_npop ?_
  | ((with_reducible refine' w_nnew ?hs ?_); (case hs => assumption); intro _ _ _))

/-! ## ends and links -/
def EndAt (H : Hp) (v : V) (x : E2) : Prop := ∃ q : Addr, v = .ref q ∧ H q = some (endO x)
theorem EndAt.mono {H H' : Hp} (e : ∀ p xs, H p = some (.tup xs) → H' p = some (.tup xs)) {v : V} {x : E2} (h : EndAt H v x) : EndAt H' v x := by
  obtain ⟨q, h1, h2⟩ := h
  exact ⟨q, h1, e _ _ h2⟩
def OptE (H : Hp) (v : V) : Option E2 → Prop
  | none => v = .non
  | some e => EndAt H v e
theorem OptE.same {H H' : Hp} (e : Same H H') {v : V} : ∀ {o : Option E2}, OptE H v o → OptE H' v o
  | none, h => h
  | some _, h => EndAt.mono (fun _ _ => e _ _) h
abbrev has (x : E2) (l : Lk) : Bool := decide (l.1 = x) || decide (l.2 = x)
abbrev peerM (ls : List Lk) (x : E2) : Option E2 := (ls.find? (has x)).map fun l => if l.1 = x then l.2 else l.1
def isEnd (cnt : Int) (x : E2) : Bool := (decide (1 ≤ x.1) && decide (x.1 ≤ cnt)) && (decide (1 ≤ x.2) && decide (x.2 ≤ 6))
def endK (x : E2) : IK := [.inl x.1, .inl x.2]
theorem kat_end {H : Hp} {p : Addr} {x : E2} (h : H p = some (endO x)) : KAt H p (endK x) := kat_ints (ns := [x.1, x.2]) h
theorem endAt_k {H : Hp} {v : V} {x : E2} (h : EndAt H v x) : KeyAt H v (endK x) := by
  obtain ⟨q, rfl, h2⟩ := h
  exact ⟨q, rfl, kat_end h2⟩
theorem k_endAt {H : Hp} {v : V} {x : E2} (h : KeyAt H v (endK x)) : EndAt H v x := by
  obtain ⟨q, rfl, vs, h1, h2⟩ := h
  refine ⟨q, rfl, ?_⟩
  cases h2 with
  | cons a1 r1 =>
    cases r1 with
    | cons a2 r2 =>
      cases r2
      cases a1
      cases a2
      exact h1
/-- the ends at a switch, sorted -/
def rawEnds (ls : List Lk) (sw : Int) : List E2 := ls.flatMap fun l => [l.1, l.2].filter fun x => decide (x.1 = sw)
def kE : IK → E2
  | [.inl a, .inl b] => (a, b)
  | _ => (0, 0)
def endsM (ls : List Lk) (sw : Int) : List E2 := (srtK ((rawEnds ls sw).map endK)).map kE
theorem find_take {α : Type} {p : α → Bool} : ∀ {ls : List α} {i : Nat} {l : α}, ls[i]? = some l → (ls.take i).find? p = none → p l = true → ls.find? p = some l
  | y :: ys, 0, l, e, _, h => by
    cases e
    rw [List.find?_cons, h]
  | y :: ys, i + 1, l, e, h0, h => by
    rw [List.take_succ_cons, List.find?_cons] at h0
    cases hy : p y with
    | true =>
      rw [hy] at h0
      cases h0
    | false =>
      rw [hy] at h0
      rw [List.find?_cons, hy]
      exact find_take (by simpa using e) h0 h
theorem find_more {α : Type} {p : α → Bool} {ls : List α} {i : Nat} {l : α} (e : ls[i]? = some l) (h0 : (ls.take i).find? p = none) (h : p l = false) : (ls.take (i + 1)).find? p = none := by
  rw [List.take_add_one, e, List.find?_append, h0]
  show List.find? p [l] = none
  rw [List.find?_cons, h]
  rfl
theorem row_map {α β : Type} {R : V → α → Prop} {R' : V → β → Prop} (f : α → β) {us : List V} {xs : List α} (h : ∀ u x, x ∈ xs → R u x → R' u (f x)) (r : Row R us xs) : Row R' us (xs.map f) := by
  refine ⟨by rw [List.length_map]; exact r.1, fun i u y h1 h2 => ?_⟩
  rw [List.getElem?_map] at h2
  obtain ⟨x, hx, rfl⟩ := Option.map_eq_some_iff.mp h2
  exact h u x (List.mem_of_getElem? hx) (r.2 i u x h1 hx)
theorem row_flat {α β : Type} {R : V → β → Prop} {ls : List α} {f : Nat → List V} {g : α → List β} (h : ∀ i l, ls[i]? = some l → Row R (f i) (g l)) : Row R ((List.range ls.length).flatMap f) (ls.flatMap g) := by
  have key : ∀ n, n ≤ ls.length → Row R ((List.range n).flatMap f) ((ls.take n).flatMap g) := fun n => by
    induction n with
    | zero => exact fun _ => Row.nil
    | succ n ih =>
      intro hn
      have hl : ls[n]? = some (ls[n]'(by omega)) := List.getElem?_eq_getElem _
      rw [List.range_succ, List.flatMap_append, List.take_add_one, hl, List.flatMap_append]
      refine (ih (by omega)).app ?_
      have := h n _ hl
      simpa using this
  have := key ls.length (Nat.le_refl _)
  rwa [List.take_length] at this
theorem kE_endK (x : E2) : kE (endK x) = x := rfl
def ltE (x y : E2) : Bool := decide (x.1 < y.1) || (decide (x.1 = y.1) && decide (x.2 < y.2))
theorem lex_end (x y : E2) : lexI [x.1, x.2] [y.1, y.2] = ltE x y := by
  unfold ltE
  by_cases h1 : x.1 < y.1
  · simp [lexI, HT.lexLt, h1]
    exact .inl (by omega)
  · by_cases h2 : x.1 = y.1
    · simp [lexI, HT.lexLt, h2]
      omega
    · simp [lexI, HT.lexLt, h1, h2]
section
variable {P : Program} [IsP P] {w : World} {K : PySem.W.Frag} {mg : Str → Option Value} {base : Heap} {a : Ad}
def sp_is_end : Sp := fun vs H Q _ => ∃ (e : Addr) (cnt : Int) (x : E2), vs = [.int cnt, .ref e] ∧ H e = some (endO x) ∧ Q (.bl (isEnd cnt x)) H
theorem ok_is_end (T : Txt w K mg a) : FnOk P w K mg base CX0 1 a.is_end a.fd_is_end ["count", "end"] sp_is_end := by
  refine T.fn_is_end.ok sc_is_end (fun vs H Q E h => ?_) (fun cdv A outer s H vs Q E hr h => ?_)
  · obtain ⟨_, _, _, rfl, _⟩ := h
    rfl
  · obtain ⟨e, cnt, x, rfl, he, k⟩ := h
    refine ⟨_, (pss_cons (ps_asg (pv 1) (pg_tupK (K := K) rfl (pgs_cons (pg_name (i := 2) sc_is_end.nd rfl (Or.inl rfl)) (pgs_cons (pg_name (i := 3) sc_is_end.nd rfl (Or.inl rfl)) pgs_nil))))
  (pss_one (ps_ret (pe_and (pe_chain op_le op_le pe_int (pv 2) (pv 0)) (pe_one (pe_chain op_le op_le pe_int (pv 3) (pe_glob (v := .int 6) rfl (Exists.choose_spec T.mg_MOST_PORT) ⟨_, rfl⟩))))))), ?_⟩
    have fin : ∀ b : Bool, isEnd cnt x = b → Q (.bl b) H := fun b h => h ▸ k
    walk_at "ss"
    refine ifd (fun h1 => ?_) (fun h1 => ?_)
    · walk_at "ss"
      refine ifd (fun h2 => ?_) (fun h2 => ?_)
      · walk_at "ss"
        refine ifd (fun h3 => ?_) (fun h3 => ?_)
        · walk_at "ss"
          refine fin _ ?_
          unfold isEnd
          rw [decide_eq_true h1, decide_eq_true h2, decide_eq_true h3]
          rfl
        · refine fin _ ?_
          unfold isEnd
          rw [decide_eq_false h3, Bool.false_and, Bool.and_false]
      · refine fin _ ?_
        unfold isEnd
        rw [decide_eq_false h2, Bool.and_false, Bool.false_and]
    · refine ⟨_, rfl, iteF ?_⟩
      refine fin _ ?_
      unfold isEnd
      rw [decide_eq_false h1, Bool.false_and, Bool.false_and]
def sp_peer : Sp := fun vs H Q _ => ∃ (r e : Addr) (us : List V) (ls : List Lk) (x : E2), vs = [.ref r, .ref e] ∧ H r = some (.lst us) ∧ LkL H us ls ∧ H e = some (endO x) ∧ ∀ v, OptE H v (peerM ls x) → Q v H
theorem ok_peer (T : Txt w K mg a) : FnOk P w K mg base CX0 1 a.peer a.fd_peer ["links", "end"] sp_peer := by
  refine T.fn_peer.ok sc_peer (fun vs H Q E h => ?_) (fun cdv A outer s H vs Q E hr h => ?_)
  · obtain ⟨_, _, _, _, _, rfl, _⟩ := h
    rfl
  · obtain ⟨r, e, us, ls, x, rfl, hr0, hL, he, k⟩ := h
    refine ⟨_, (pss_cons (ps_for PassesOwn.never rfl (pi_listK (K := K) (pv 0)) (pg_tupK (K := K) rfl (pgs_cons (pg_name (i := 2) sc_peer.nd rfl (Or.inl rfl)) (pgs_cons (pg_name (i := 3) sc_peer.nd rfl (Or.inl rfl)) pgs_nil)))
  (pss_cons (ps_if (pt_cmpR (op_eqDK (K := K) hr.units) (pv 2) (pv 1) (nomark _))
  (pss_one (ps_ret (pv 3)))
  pss_nil)
  (pss_one (ps_if (pt_cmpR (op_eqDK (K := K) hr.units) (pv 3) (pv 1) (nomark _))
  (pss_one (ps_ret (pv 2)))
  pss_nil))))
  (pss_one (ps_ret pe_non))), ?_⟩
    walk_at "ss"
    refine w_forL (SqL.of hr0) (fun i σ H' => H' = H ∧ ∃ v2 v3, σ = [some (.ref r), some (.ref e), v2, v3] ∧ (ls.take i).find? (has x) = none) (fun Q q => ⟨_, rfl, q⟩) ⟨rfl, none, none, rfl, rfl⟩ (fun i σ H' _ ⟨e, _⟩ => by rw [e]; exact SqL.of hr0) ?_ ?_
    · rintro i y σ H1 hi ⟨rfl, v2, v3, rfl, hf⟩
      obtain ⟨t, l, rfl, hli, hk⟩ := LkL.get hL hi
      obtain ⟨p, q, ht, hp, hq⟩ := nk_link hk
      walk_at "ss"
      refine w_eqE (x := l.1) (y := x) hp he ?_
      refine ⟨_, rfl, ifd (fun h1 => ?_) (fun h1 => ?_)⟩
      · have hh : has x l = true := by
          unfold has
          rw [decide_eq_true h1]
          rfl
        walk_at "ss"
        refine k _ ?_
        unfold peerM
        rw [find_take hli hf hh]
        refine ⟨q, rfl, ?_⟩
        show H1 q = some (endO (if l.1 = x then l.2 else l.1))
        rw [if_pos h1]
        exact hq
      · walk_at "ss"
        refine w_eqE (x := l.2) (y := x) hq he ?_
        refine ⟨_, rfl, ifd (fun h2 => ?_) (fun h2 => ?_)⟩
        · have hh : has x l = true := by
            unfold has
            rw [decide_eq_true h2, Bool.or_true]
          walk_at "ss"
          refine k _ ?_
          unfold peerM
          rw [find_take hli hf hh]
          refine ⟨p, rfl, ?_⟩
          show H1 p = some (endO (if l.1 = x then l.2 else l.1))
          rw [if_neg h1]
          exact hp
        · have hh : has x l = false := by
            unfold has
            rw [decide_eq_false h1, decide_eq_false h2]
            rfl
          walk_at "ss"
          exact ⟨rfl, _, _, rfl, find_more hli hf hh⟩
    · rintro σ H1 ⟨rfl, v2, v3, rfl, hf⟩
      walk_at "ss"
      refine k _ ?_
      rw [LkL.len hL, List.take_length] at hf
      unfold peerM
      rw [hf]
      rfl
def sp_ends_at : Sp := fun vs H Q _ => ∃ (r : Addr) (us : List V) (ls : List Lk) (sw : Int), vs = [.ref r, .int sw] ∧ H r = some (.lst us) ∧ LkL H us ls ∧ us.length ≤ 1000 ∧ ∀ l ys H', Hs H [(l, .lst ys)] H' → Row (EndAt H') ys (endsM ls sw) → Q (.ref l) H'
theorem ok_ends_at (T : Txt w K mg a) : FnOk P w K mg base CX0 1 a.ends_at a.fd_ends_at ["links", "switch"] sp_ends_at := by
  refine T.fn_ends_at.ok sc_ends_at (fun vs H Q E h => ?_) (fun cdv A outer s H vs Q E hr h => ?_)
  · obtain ⟨_, _, _, _, rfl, _⟩ := h
    rfl
  · obtain ⟨r, us, ls, sw, rfl, hr0, hL, hz, k⟩ := h
    refine ⟨_, (pss_one (ps_ret (pe_callB (cr_sortN (K := K) (c := none) (sh := [none]) (r64 hr)) (by rfl) T.mg_sorted (by decide +kernel) (pa_cons (pe_lc2 (own := [("link", 2), ("end", 3)]) (vs1 := [3]) (g := (gName 2)) (g1 := (gName 3)) (tt := tYes) rfl sc_ends_at.nd (pi_listK (K := K) (pv 0)) (blkOk_by (own := [("link", 2), ("end", 3)]) (N := N_ends_at) (sc := defScope s_ends_at) (by decide +kernel)) (by decide) (fun _ _ _ _ _ => by exact (pg_name (i := 2) sc_ends_at.nd rfl (Or.inl rfl))) (fun _ _ _ _ _ => pts_nil) (fun _ _ _ _ _ => by exact (pi_tupK (K := K) (pv 2))) (fun _ _ _ _ _ => by exact (pg_name (i := 3) sc_ends_at.nd rfl (Or.inl rfl))) (fun _ _ _ _ _ => by exact pts_one (pt_cmpR op_eq (pe_ix (ix_tupK (K := K)) (pv 3) pe_int (fun _ _ => rfl)) (pv 1) (nomark _))) (fun _ _ _ _ _ => by exact (pv 3))) pa_nil)))), ?_⟩
    walk_at "ss"
    let it : Nat → List V := fun i => match us[i]? with
      | some (V.ref p) => (match H p with
        | some (HO.tup [V.ref x, V.ref y]) => [V.ref x, V.ref y]
        | _ => [])
      | _ => []
    let kp : Nat → Nat → Bool := fun i k => match ls[i]? with
      | some l => decide ((if k = 0 then l.1 else l.2).1 = sw)
      | none => false
    have row : ∀ i u, us[i]? = some u → ∃ (t p q : Addr) (l : Lk), u = .ref t ∧ ls[i]? = some l ∧ H t = some (.tup [.ref p, .ref q]) ∧ H p = some (endO l.1) ∧ H q = some (endO l.2) ∧ it i = [.ref p, .ref q] := fun i u hu => by
      obtain ⟨t, l, rfl, hli, hk⟩ := LkL.get hL hu
      obtain ⟨p, q, ht, hp, hq⟩ := nk_link hk
      refine ⟨t, p, q, l, rfl, hli, ht, hp, hq, ?_⟩
      show (match us[i]? with
        | some (V.ref p) => (match H p with
          | some (HO.tup [V.ref x, V.ref y]) => [V.ref x, V.ref y]
          | _ => [])
        | _ => ([] : List V)) = _
      rw [hu]
      show (match H t with
          | some (HO.tup [V.ref x, V.ref y]) => [V.ref x, V.ref y]
          | _ => ([] : List V)) = _
      rw [ht]
    refine w_lc2T it kp (SqL.of hr0) (by omega) (fun i => ?_) (fun i u hu => ?_) (fun Q' q => ?_) (fun _ => rfl) (fun v H' Q' q => ?_) (fun _ _ => rfl) (fun i k' p v H' Nx Ap hui hv sm hN hA => ?_) fun D acc H1 hs1 hacc => ?_
    · show (match us[i]? with
        | some (V.ref p) => (match H p with
          | some (HO.tup [V.ref x, V.ref y]) => [V.ref x, V.ref y]
          | _ => [])
        | _ => ([] : List V)).length ≤ 10
      repeat' split
      all_goals simp
    · obtain ⟨t, p, q, l, rfl, hli, ht, hp, hq, hit⟩ := row i u hu
      exact ⟨t, rfl, by rw [hit]; exact ht⟩
    · walk_at "ss"
      exact q
    · walk_at "ss"
      exact q
    · obtain ⟨t, pa, qa, l, e1, hli, ht, hp, hq, hit⟩ := row i _ hui
      cases e1
      rw [hit] at hv
      have hkp : kp i k' = decide ((if k' = 0 then l.1 else l.2).1 = sw) := by
        show (match ls[i]? with
          | some l => decide ((if k' = 0 then l.1 else l.2).1 = sw)
          | none => false) = _
        rw [hli]
      obtain ⟨ve, hve, hvv⟩ : ∃ ve : Addr, v = .ref ve ∧ H ve = some (endO (if k' = 0 then l.1 else l.2)) := by
        match k', hv with
        | 0, hv =>
          cases hv
          exact ⟨pa, rfl, hp⟩
        | 1, hv =>
          cases hv
          exact ⟨qa, rfl, hq⟩
        | k' + 2, hv => cases hv
      subst hve
      generalize (if k' = 0 then l.1 else l.2) = x at hkp hvv
      have hv' : H' ve = some (.tup [.int x.1, .int x.2]) := sm _ _ hvv
      walk_at "ss"
      refine ifd (fun h => ?_) (fun h => ?_)
      · walk_at "ss"
        exact hA (by rw [hkp]; exact decide_eq_true h) _ (Same.refl _)
      · exact hN (by rw [hkp]; exact decide_eq_false h) _ (Same.refl _)
    · have hrow : Row (EndAt H1) acc (rawEnds ls sw) := by
        rw [hacc, LkL.len hL]
        refine row_flat fun i l hli => ?_
        have hi : i < us.length := by
          rw [LkL.len hL]
          exact (List.getElem?_eq_some_iff.mp hli).1
        obtain ⟨t, p, q, l', e1, hli', ht, hp, hq, hit⟩ := row i _ (List.getElem?_eq_getElem hi)
        rw [hli] at hli'
        cases hli'
        have hk : ∀ k', kp i k' = decide ((if k' = 0 then l.1 else l.2).1 = sw) := fun k' => by
          show (match ls[i]? with
            | some l => decide ((if k' = 0 then l.1 else l.2).1 = sw)
            | none => false) = _
          rw [hli]
        have e2 : (List.range (it i).length).filterMap (fun k => if kp i k = true then (it i)[k]? else none) = ([(0 : Nat), 1].filterMap fun k => if kp i k = true then ([V.ref p, V.ref q] : List V)[k]? else none) := by
          rw [hit]
          rfl
        rw [e2]
        have k0 : kp i 0 = decide (l.1.1 = sw) := hk 0
        have k1 : kp i 1 = decide (l.2.1 = sw) := hk 1
        have z1 : EndAt H1 (.ref p) l.1 := ⟨p, rfl, hs1.same _ _ hp⟩
        have z2 : EndAt H1 (.ref q) l.2 := ⟨q, rfl, hs1.same _ _ hq⟩
        simp only [List.filterMap_cons, List.filterMap_nil, List.filter_cons, List.filter_nil, k0, k1]
        cases decide (l.1.1 = sw) with
        | true =>
          cases decide (l.2.1 = sw) with
          | true => exact Row.cons z1 (Row.cons z2 Row.nil)
          | false => exact Row.cons z1 Row.nil
        | false =>
          cases decide (l.2.1 = sw) with
          | true => exact Row.cons z2 Row.nil
          | false => exact Row.nil
      walk_at "ss"
      refine w_sortK hs1 (SqL.of hs1.g0) (row_map endK (fun u x _ h => endAt_k h) hrow) (fun x hx => ?_) fun p ys H2 hs2 hr2 => ?_
      · obtain ⟨z, _, rfl⟩ := List.mem_map.mp hx
        rfl
      · refine k p ys H2 (hs2.sel [0]) (row_map kE (fun u x hx h => ?_) hr2)
        obtain ⟨z, _, rfl⟩ := List.mem_map.mp ((srtK_perm _).mem_iff.mp hx)
        rw [kE_endK]
        exact k_endAt h
def sp_link_of : Sp := fun vs H Q _ => ∃ (p q : Addr) (x y : E2), vs = [.ref p, .ref q] ∧ H p = some (endO x) ∧ H q = some (endO y) ∧ ∀ t H', Hs H [(t, .tup (if ltE x y = true then [.ref p, .ref q] else [.ref q, .ref p]))] H' → Q (.ref t) H'
theorem ok_link_of (T : Txt w K mg a) : FnOk P w K mg base CX0 1 a.link_of a.fd_link_of ["one", "other"] sp_link_of := by
  refine T.fn_link_of.ok sc_link_of (fun vs H Q E h => ?_) (fun cdv A outer s H vs Q E hr h => ?_)
  · obtain ⟨_, _, _, _, rfl, _⟩ := h
    rfl
  · obtain ⟨p, q, x, y, rfl, hp, hq, k⟩ := h
    refine ⟨_, (pss_one (ps_ret (pe_ifExp (pt_cmpR (op_ltT (r0 hr)) (pv 0) (pv 1) (nomark _)) (pe_tup (pa_cons (pv 0) (pa_cons (pv 1) pa_nil))) (pe_tup (pa_cons (pv 1) (pa_cons (pv 0) pa_nil)))))), ?_⟩
    have hs := Hs.start H
    walk_at "ss"
    refine w_ltT (K := K) (ns := [x.1, x.2]) (ms := [y.1, y.2]) hp hq ?_
    have e1 : lexI [x.1, x.2] [y.1, y.2] = ltE x y := lex_end x y
    rw [e1]
    cases h : ltE x y with
    | true =>
      refine ⟨_, rfl, iteT ?_⟩
      rw [h] at k
      walk_at "ss"
      exact k _ _ (by assumption)
    | false =>
      refine ⟨_, rfl, iteF ?_⟩
      rw [h] at k
      walk_at "ss"
      exact k _ _ (by assumption)
end
local macro_rules | `(tactic| walk_at "v") => `(tactic| first | exact v0 | exact v1 | exact v2 | exact v3 | exact v4 | exact v5 | exact v6 | exact v7 | exact v8)
local macro_rules | `(tactic| walk_at "vs") => `(tactic| first | exact st0 | exact st1 | exact st2 | exact st3 | exact st4 | exact st5 | exact st6 | exact st7 | exact st8)
local macro_rules | `(tactic| walk_at "s") => `(tactic| first
  | with_reducible refine w_dget ?_
  | ((with_reducible refine' w_dgetZ ?h ?nd ?hk ?hv ?_); (case h => walk_at "g"); (case nd => walk_at "nd"); (case hk => walk_at "k"); (case hv => walk_at "v"))
  | ((with_reducible refine' w_dputZ ?hs ?h ?nd ?hk ?hv ?hu ?hl ?_); (case hs => assumption); (case h => walk_at "p"); (case nd => walk_at "nd"); (case hk => walk_at "k"); (case hv => walk_at "v"); (case hu => walk_at "vs"); (case hl => decide); intro _ _)
  | with_reducible refine w_gsub ?_
  | with_reducible refine w_setD ?_
  | with_reducible refine w_disp ?_
  | ((with_reducible refine' w_newP ?hs ?_); (case hs => assumption); intro _ _ _)
  | with_reducible refine w_pcons ?_
  | with_reducible refine w_pnil ?_)

local macro_rules | `(tactic| walk_at "s") => `(tactic| first
  | with_reducible refine w_nget ?_
  | with_reducible refine w_nin ?_
  | with_reducible refine w_nnot ?_
  | with_reducible refine w_nput ?_
  | with_reducible refine w_ndel ?_
  | with_reducible refine w_npop ?_
  | ((with_reducible refine' w_nnew ?hs ?_); (case hs => assumption); intro _ _ _))

section
variable {P : Program} [IsP P] {w : World} {K : PySem.W.Frag} {mg : Str → Option Value} {base : Heap} {a : Ad}
/-! ### the draws of the law -/
/-- what a state may be -/
def Good (m : Int) (cells : List Int) : Prop := 0 ≤ m ∧ m < 2147483648 ∧ cells.length ≤ 1000
abbrev sto (c : Addr) (m : Int) : HO := .lst [.ref c, .int m]
abbrev clo (cells : List Int) : HO := .lst (cells.map V.int)
def sp__law_state (K : PySem.W.Frag) : Sp := fun vs H Q _ => ∃ (x : Addr) (ns : List Int), vs = [.ref x] ∧ SqL K H x (ns.map V.int) ∧ ns.length ≤ 1000 ∧ ∀ s c m cells H', Hs H [(s, sto c m), (c, clo cells)] H' → Good m cells → Q (.ref s) H'
def sp__law_draw : Sp := fun vs H Q _ => ∃ (B : Hp) (s c : Addr) (m many : Int) (cells : List Int), vs = [.ref s, .int many] ∧ Hs B [(s, sto c m), (c, clo cells)] H ∧ Good m cells ∧ many < 1000000000 ∧
  ∀ r m' cells' H', Hs B [(s, sto c m'), (c, clo cells')] H' → Good m' cells' → (many < 1 → r = 0) → (1 ≤ many → 0 ≤ r ∧ r < many) → Q (.int r) H'
theorem abs_map (ns : List Int) (i : Nat) {x : V} (h : (ns.map V.int)[i]? = some x) : ∃ n, ns[i]? = some n ∧ x = .int n := by
  rw [List.getElem?_map] at h
  cases e : ns[i]? with
  | none =>
    rw [e] at h
    cases h
  | some n =>
    rw [e] at h
    exact ⟨n, rfl, (Option.some.inj h).symm⟩
theorem ok__law_state (T : Txt w K mg a) : FnOk P w K mg base CX0 1 a._law_state a.fd__law_state ["script"] (sp__law_state K) := by
  refine T.fn__law_state.ok sc__law_state (fun vs H Q E h => ?_) (fun cdv A outer s H vs Q E hr h => ?_)
  · obtain ⟨_, _, rfl, _⟩ := h
    rfl
  · obtain ⟨x, ns, rfl, hx, hl, k⟩ := h
    refine ⟨_, (pss_cons (ps_set (i := 1) sc__law_state.nd rfl (Or.inl rfl) pe_int)
  (pss_cons (ps_for PassesOwn.never rfl (pi_listK (K := K) (pv 0)) (pg_name (i := 2) sc__law_state.nd rfl (Or.inl rfl))
  (pss_one (ps_set (i := 1) sc__law_state.nd rfl (Or.inl rfl) (pe_op op_mod (pe_callTy call_intQ (by rfl) T.mg_int (by decide +kernel) (pa_cons (pe_op op_add (pe_op op_mul (pv 1) pe_int) (pv 2)) pa_nil)) pe_int))))
  (pss_one (ps_ret (pe_lst (pa_cons (pe_lc (own := [("cell", 2)]) (g := (gName 2)) (tt := tYes) rfl sc__law_state.nd (pi_listK (K := K) (pv 0)) (blkOk_by (own := [("cell", 2)]) (N := N__law_state) (sc := defScope s__law_state) (by decide +kernel)) (fun _ _ _ _ _ => by exact (pg_name (i := 2) sc__law_state.nd rfl (Or.inl rfl))) (fun _ _ _ _ _ => pts_nil) (fun _ _ _ _ _ => by exact (pe_callB call_absQ (by rfl) T.mg_abs (by decide +kernel) (pa_cons (pv 2) pa_nil)))) (pa_cons (pe_op op_add (pv 1) pe_int) pa_nil))))))), ?_⟩
    have hs : Hs H [] H := Hs.start H
    walk_at "ss"
    refine w_forL hx (fun i σ H' => ∃ (m : Int) (v : Option V), σ = [some (.ref x), some (.int m), v] ∧ 0 ≤ m ∧ m < 1000003 ∧ Hs H [] H') (fun Q q => ⟨_, rfl, q⟩) ⟨7, none, rfl, by omega, by omega, hs⟩ (fun i σ H' _ ⟨_, _, _, _, _, hs⟩ => hs.sql hx) ?_ ?_
    · rintro i y σ H' hi ⟨m, v, rfl, h0, h1, hs⟩
      obtain ⟨n, _, rfl⟩ := abs_map ns i hi
      walk_at "ss"
      refine ⟨(m * 31 + n) % 1000003, _, rfl, ?_, ?_, hs⟩
      · exact Int.emod_nonneg _ (by decide)
      · exact Int.emod_lt_of_pos _ (by decide)
    · rintro σ H' ⟨m, v, rfl, h0, h1, hs⟩
      walk_at "ss"
      have hx1 : SqL K H' x (ns.map V.int) := Hs.sql (by assumption) hx
      refine w_lc hx1 (fun D i H2 => ∃ acc : List Int, acc.length = i ∧ Hs H [(D, clo acc)] H2) (fun Q q => ⟨_, rfl, q⟩) (fun D hD => ⟨[], rfl, Hs.new (by assumption) hD⟩) (fun D i H2 _ ⟨_, _, hs⟩ => hs.sql hx) ?_ ?_
      · rintro D i y H2 hi ⟨acc, ha, hs⟩
        obtain ⟨n, _, rfl⟩ := abs_map ns i hi
        have hin : i < ns.length := by
          have := (List.getElem?_eq_some_iff.mp hi).1
          rwa [List.length_map] at this
        walk_at "ss"
        refine ⟨rfl, ?_⟩
        walk_at "ss"
        try (with_reducible refine iteT ?_)
        walk_at "ss"
        refine ⟨_, hs.g0, ?_, acc ++ [if n < 0 then -n else n], ?_, ?_⟩
        · refine szl ?_
          rw [List.length_map]
          omega
        · rw [List.length_append, ha]
          rfl
        · have := hs.p0 (.lst ((acc.map V.int) ++ [V.int (if n < 0 then -n else n)]))
          unfold clo
          rw [List.map_append]
          exact this
      · rintro D H2 ⟨acc, ha, hs⟩
        rw [List.length_map] at ha
        walk_at "ss"
        refine k _ D (m + 1) acc _ (by assumption) ⟨by omega, by omega, by omega⟩
theorem ok__law_draw (T : Txt w K mg a) : FnOk P w K mg base CX0 1 a._law_draw a.fd__law_draw ["state", "many"] sp__law_draw := by
  refine T.fn__law_draw.ok sc__law_draw (fun vs H Q E h => ?_) (fun cdv A outer s H vs Q E hr h => ?_)
  · obtain ⟨_, _, _, _, _, _, rfl, _⟩ := h
    rfl
  · obtain ⟨B, s, c, m, many, cells, rfl, hs, ⟨hm0, hm1, hl⟩, hmany, k⟩ := h
    refine ⟨_, (pss_cons (ps_if (pt_cmpR op_lt (pv 1) pe_int (nomark _))
  (pss_one (ps_ret pe_int))
  pss_nil)
  (pss_cons (ps_set (i := 2) sc__law_draw.nd rfl (Or.inl rfl) (pe_ix (ix_listK (K := K)) (pv 0) pe_int (fun _ _ => rfl)))
  (pss_cons (ps_while PassesOwn.never (PW.pt (pw_and (pt_cmpR op_gt (pe_callB (call_lenK (K := K)) (by rfl) T.mg_len PySem.boot_len (pa_cons (pv 2) pa_nil)) pe_int (nomark _)) (pw_and1 (pt_cmpR op_eq (pe_ix (ix_listK (K := K)) (pv 2) pe_int (fun _ _ => rfl)) pe_int (nomark _)))))
  (pss_one (ps_expr (pe_bmK (K := K) PySem.F.plainAttrs_list PySem.F.slot_list_pop PySem.F.type_list_pop mt_popAt (pv 2) (pa_cons pe_int pa_nil)))))
  (pss_cons (ps_if (pt_cmpR op_gt (pe_callB (call_lenK (K := K)) (by rfl) T.mg_len PySem.boot_len (pa_cons (pv 2) pa_nil)) pe_int (nomark _))
  (pss_cons (ps_set (i := 3) sc__law_draw.nd rfl (Or.inl rfl) (pe_ix (ix_listK (K := K)) (pv 2) pe_int (fun _ _ => rfl)))
  (pss_cons (ps_asg (pe_op op_fdivW (pv 3) (pv 1)) (pg_sub (pv 2) pe_int set_list))
  (pss_one (ps_ret (pe_op op_mod (pe_callTy call_intQ (by rfl) T.mg_int (by decide +kernel) (pa_cons (pv 3) pa_nil)) (pv 1))))))
  pss_nil)
  (pss_cons (ps_set (i := 4) sc__law_draw.nd rfl (Or.inl rfl) (pe_op op_mod (pe_callTy call_intQ (by rfl) T.mg_int (by decide +kernel) (pa_cons (pe_op op_add (pe_op op_mul (pe_ix (ix_listK (K := K)) (pv 0) pe_int (fun _ _ => rfl)) pe_int) pe_int) pa_nil)) pe_int))
  (pss_cons (ps_asg (pv 4) (pg_sub (pv 0) pe_int set_list))
  (pss_one (ps_ret (pe_op op_mod (pe_callTy call_intQ (by rfl) T.mg_int (by decide +kernel) (pa_cons (pe_op op_fdivW (pv 4) pe_int) pa_nil)) (pv 1)))))))))), ?_⟩
    walk_at "ss"
    refine ifd (fun h => ?_) (fun h => ?_)
    · walk_at "ss"
      exact k 0 m cells _ hs ⟨hm0, hm1, hl⟩ (fun _ => rfl) (fun q => by omega)
    walk_at "ss"
    refine w_while (fun n σ H' => ∃ cells : List Int, σ = [some (.ref s), some (.int many), some (.ref c), none, none] ∧ cells.length = n ∧ cells.length ≤ 1000 ∧ Hs B [(s, sto c m), (c, clo cells)] H') cells.length ⟨cells, rfl, rfl, hl, hs⟩ ?_
    clear hs
    clear hl cells
    rintro n σ H' ⟨cells, rfl, hn, hl, hs⟩
    walk_at "ss"
    cases cells with
    | nil =>
      show if decide ((0 : Int) < ((0 : Nat) : Int)) = true then _ else _
      refine iteF ?_
      try (with_reducible refine iteF ?_)
      walk_at "ss"
      refine iteF ?_
      walk_at "ss"
      rename_i H2 hs2
      clear hs
      have e1 : 0 ≤ (m * 48271 + 12345) % 2147483647 := Int.emod_nonneg _ (by decide)
      have e2 : (m * 48271 + 12345) % 2147483647 < 2147483647 := Int.emod_lt_of_pos _ (by decide)
      generalize (m * 48271 + 12345) % 2147483647 = mm at e1 e2 hs2 ⊢
      refine w_I ⟨by decide, by decide⟩ ?_
      walk_at "ss"
      refine k _ mm [] _ hs2 ⟨e1, by omega, by decide⟩ (fun q => by omega) fun q => ⟨Int.emod_nonneg _ (by omega), Int.emod_lt_of_pos _ (by omega)⟩
    | cons z cells =>
      refine ifd (fun _ => ?_) (fun q => absurd (show (0 : Int) < _ from by simp only [List.map_cons, List.length_cons]; omega) q)
      walk_at "ss"
      refine ifd (fun hz => ?_) (fun hz => ?_)
      · walk_at "ss"
        refine w_popAt (k := 0) hs (by walk_at "p") rfl rfl (by walk_at "z") fun H2 hs2 => ?_
        rw [List.length_cons] at hl hn
        exact ⟨cells.length, by omega, cells, rfl, rfl, by omega, hs2⟩
      · walk_at "ss"
        refine ifd (fun _ => ?_) (fun q => absurd (show (0 : Int) < _ from by simp only [List.map_cons, List.length_cons]; omega) q)
        walk_at "ss"
        refine w_I ⟨by omega, ?_⟩ ?_
        · refine PySem.Flt.log2_lt_of (by decide) (Nat.lt_of_lt_of_le (show many.natAbs < 2 ^ 30 by omega) (Nat.pow_le_pow_right (by decide) (by decide)))
        walk_at "ss"
        rename_i H2 hs2
        refine k _ m ((z / many) :: cells) _ hs2 ⟨hm0, hm1, by simpa using hl⟩ (fun q => by omega) fun q => ⟨Int.emod_nonneg _ (by omega), Int.emod_lt_of_pos _ (by omega)⟩

theorem w_draw {B H : Hp} {Q : VK} {E : XK} {s c : Addr} {m many : Int} {cells : List Int} {R : List (Addr × HO)} (hs : Hs B ((s, sto c m) :: (c, clo cells) :: R) H) (g : Good m cells) (hm : many < 1000000000)
    (q : ∀ r m' cells' H', Hs B ((s, sto c m') :: (c, clo cells') :: R) H' → Good m' cells' → (many < 1 → r = 0) → (1 ≤ many → 0 ≤ r ∧ r < many) → Q (.int r) H') : sp__law_draw [.ref s, .int many] H Q E := by
  obtain ⟨B', _, h1, back⟩ := hs.frame2
  exact ⟨B', s, c, m, many, cells, rfl, h1, g, hm, fun r m' cells' H' h2 => q r m' cells' H' (back _ _ h2)⟩
/-! ## what the law's makers promise: what they make is new, or was given -/
def mix (G B B2 : Hp) : Hp := fun p => if B p = none then B2 p else G p
theorem mix_new {G B B2 : Hp} {p : Addr} (h : B p = none) : mix G B B2 p = B2 p := if_pos h
theorem mix_old {G B B2 : Hp} (e : Same G B) : Same G (mix G B B2) := fun b o h => by
  unfold mix
  rw [if_neg (by rw [e _ _ h]; simp)]
  exact h
theorem mix_mono {G B B2 B3 : Hp} (e : Same B2 B3) : Same (mix G B B2) (mix G B B3) := fun b o h => by
  unfold mix at h ⊢
  by_cases hb : B b = none
  · rw [if_pos hb] at h ⊢
    exact e _ _ h
  · rw [if_neg hb] at h ⊢
    exact h
theorem mix_le {G B B2 : Hp} (e : Same G B) (s : Same B B2) : Same (mix G B B2) B2 := fun b o h => by
  unfold mix at h
  by_cases hb : B b = none
  · rw [if_pos hb] at h
    exact h
  · rw [if_neg hb] at h
    exact s _ _ (e _ _ h)
theorem frz_mix {G B B1 H : Hp} {p : Addr} {o : HO} {L : List (Addr × HO)} (e : Same B B1) (hs : Hs B1 ((p, o) :: L) H) : ∃ B2, Same B1 B2 ∧ mix G B B2 p = some o ∧ Same (mix G B B1) (mix G B B2) ∧ Hs B2 L H := by
  obtain ⟨B2, sm, hp, hs2⟩ := frz_hs hs
  refine ⟨B2, sm, ?_, mix_mono sm, hs2⟩
  rw [mix_new (e.free (hs.out _ List.mem_cons_self))]
  exact hp
def spS {γ : Type} (ar : γ → Hp → List V → Prop) (Post : γ → Hp → V → Prop) : Sp := fun vs H Q _ => ∃ (x : γ) (G B : Hp) (s c : Addr) (m : Int) (cells : List Int) (args : List V), vs = .ref s :: args ∧ Same G B ∧ Hs B [(s, sto c m), (c, clo cells)] H ∧ Good m cells ∧ ar x G args ∧
  ∀ B2 v m' cells' H', Same B B2 → Hs B2 [(s, sto c m'), (c, clo cells')] H' → Good m' cells' → Post x (mix G B B2) v → Q v H'
theorem w_spS {γ : Type} {ar : γ → Hp → List V → Prop} {Post : γ → Hp → V → Prop} (x : γ) {B H : Hp} {Q : VK} {E : XK} {s c : Addr} {m : Int} {cells : List Int} {R : List (Addr × HO)} {args : List V} (hs : Hs B ((s, sto c m) :: (c, clo cells) :: R) H) (g : Good m cells) (ha : ar x B args)
    (hm : ∀ H1 H2 v, Same H1 H2 → Post x H1 v → Post x H2 v)
    (q : ∀ B2 v m' cells' H', Same B B2 → Hs B2 ((s, sto c m') :: (c, clo cells') :: R) H' → Good m' cells' → Post x B2 v → Q v H') : spS ar Post (.ref s :: args) H Q E := by
  have fr : ∃ B', B' = around [(s, sto c m), (c, clo cells)] H ∧ Same B B' ∧ Hs B' [(s, sto c m), (c, clo cells)] H ∧ ∀ A' H', Hs B' A' H' → Hs B (A' ++ R) H' := ⟨_, rfl, hs.frame [(s, sto c m), (c, clo cells)]⟩
  obtain ⟨B', eB, smB, h1, back⟩ := fr
  refine ⟨x, B, B', s, c, m, cells, args, rfl, smB, h1, g, ha, fun B2 v m' cells' H' sm h2 g2 post => ?_⟩
  have nd := hs.nd
  have hRB : ∀ e ∈ R, B' e.1 = some e.2 := fun e he => by
    have nm : e.1 ∉ [(s, sto c m), (c, clo cells)].map (·.1) := fun z => by
      rw [List.map_cons, List.map_cons, List.nodup_cons, List.nodup_cons] at nd
      have h3 : e.1 ∈ R.map (·.1) := List.mem_map.mpr ⟨e, he, rfl⟩
      rcases List.mem_cons.mp z with z | z
      · rw [z] at h3
        exact nd.1 (List.mem_cons_of_mem _ h3)
      · rw [List.mem_singleton.mp z] at h3
        exact nd.2.1 h3
    rw [eB, around_out nm]
    exact hs.at_ e (List.mem_cons_of_mem _ (List.mem_cons_of_mem _ he))
  have hb := back _ _ (Hs.base sm h2)
  have hmix : Same (mix B B' B2) (around R B2) := fun p o hp => by
    rw [around_out fun z => ?_]
    · exact mix_le smB sm _ _ hp
    · obtain ⟨e, he, rfl⟩ := List.mem_map.mp z
      unfold mix at hp
      rw [if_neg (by rw [hRB e he]; simp)] at hp
      have := hs.out e (List.mem_cons_of_mem _ (List.mem_cons_of_mem _ he))
      rw [this] at hp
      cases hp
  refine q (around R B2) v m' cells' H' (fun b o e => hmix _ _ (mix_old smB _ _ e)) ⟨fun b o e => ?_, hb.nd, fun e he => ?_, hb.at_⟩ g2 (hm _ _ _ hmix post)
  · unfold around at e
    split at e
    · cases e
    · exact h2.same _ _ e
  · rcases List.mem_append.mp (show e ∈ [(s, sto c m'), (c, clo cells')] ++ R from he) with he | he
    · unfold around
      split
      · rfl
      · exact h2.out e he
    · unfold around
      rw [if_pos (List.mem_map.mpr ⟨e, he, rfl⟩)]
/-- the same, seen from a maker -/
theorem w_spM {γ : Type} {ar : γ → Hp → List V → Prop} {Post : γ → Hp → V → Prop} (x : γ) {G B0 B H : Hp} {Q : VK} {E : XK} {s c : Addr} {m : Int} {cells : List Int} {R : List (Addr × HO)} {args : List V} (eG : Same G B0) (e0 : Same B0 B) (hs : Hs B ((s, sto c m) :: (c, clo cells) :: R) H) (g : Good m cells) (ha : ar x (mix G B0 B) args)
    (hm : ∀ H1 H2 v, Same H1 H2 → Post x H1 v → Post x H2 v)
    (q : ∀ B2 v m' cells' H', Same B B2 → Hs B2 ((s, sto c m') :: (c, clo cells') :: R) H' → Good m' cells' → Post x (mix G B0 B2) v → Q v H') : spS ar Post (.ref s :: args) H Q E := by
  have fr : ∃ B', B' = around [(s, sto c m), (c, clo cells)] H ∧ Same B B' ∧ Hs B' [(s, sto c m), (c, clo cells)] H ∧ ∀ A' H', Hs B' A' H' → Hs B (A' ++ R) H' := ⟨_, rfl, hs.frame [(s, sto c m), (c, clo cells)]⟩
  obtain ⟨B', eB, smB, h1, back⟩ := fr
  have eM : Same (mix G B0 B) B := mix_le eG e0
  refine ⟨x, mix G B0 B, B', s, c, m, cells, args, rfl, eM.trans smB, h1, g, ha, fun B2 v m' cells' H' sm h2 g2 post => ?_⟩
  have nd := hs.nd
  have hRB : ∀ e ∈ R, B' e.1 = some e.2 := fun e he => by
    have nm : e.1 ∉ [(s, sto c m), (c, clo cells)].map (·.1) := fun z => by
      rw [List.map_cons, List.map_cons, List.nodup_cons, List.nodup_cons] at nd
      have h3 : e.1 ∈ R.map (·.1) := List.mem_map.mpr ⟨e, he, rfl⟩
      rcases List.mem_cons.mp z with z | z
      · rw [z] at h3
        exact nd.1 (List.mem_cons_of_mem _ h3)
      · rw [List.mem_singleton.mp z] at h3
        exact nd.2.1 h3
    rw [eB, around_out nm]
    exact hs.at_ e (List.mem_cons_of_mem _ (List.mem_cons_of_mem _ he))
  have hb := back _ _ (Hs.base sm h2)
  have outR : ∀ p o, B p = some o → p ∉ R.map (·.1) := fun p o hp z => by
    obtain ⟨e, he, rfl⟩ := List.mem_map.mp z
    have := hs.out e (List.mem_cons_of_mem _ (List.mem_cons_of_mem _ he))
    rw [this] at hp
    cases hp
  have sBB : Same B (around R B2) := fun b o e => by
    rw [around_out (outR b o e)]
    exact sm _ _ (smB _ _ e)
  have hmix : Same (mix (mix G B0 B) B' B2) (mix G B0 (around R B2)) := fun p o hp => by
    by_cases hB : B' p = none
    · rw [mix_new hB] at hp
      have hp0 : B0 p = none := e0.free (smB.free hB)
      rw [mix_new hp0, around_out fun z => ?_]
      · exact hp
      · obtain ⟨e, he, rfl⟩ := List.mem_map.mp z
        rw [hRB e he] at hB
        cases hB
    · have e1 : mix (mix G B0 B) B' B2 p = mix G B0 B p := if_neg hB
      rw [e1] at hp
      exact mix_mono sBB _ _ hp
  refine q (around R B2) v m' cells' H' sBB ⟨fun b o e => ?_, hb.nd, fun e he => ?_, hb.at_⟩ g2 (hm _ _ _ hmix post)
  · unfold around at e
    split at e
    · cases e
    · exact h2.same _ _ e
  · rcases List.mem_append.mp (show e ∈ [(s, sto c m'), (c, clo cells')] ++ R from he) with he | he
    · unfold around
      split
      · rfl
      · exact h2.out e he
    · unfold around
      rw [if_pos (List.mem_map.mpr ⟨e, he, rfl⟩)]
/-! ## picking -/
def arPick (xs : List V) (G : Hp) (args : List V) : Prop := ∃ r : Addr, args = [.ref r] ∧ G r = some (.lst xs) ∧ xs ≠ [] ∧ xs.length ≤ 1000
abbrev sp__law_pick : Sp := spS arPick fun xs _ v => v ∈ xs
theorem ok__law_pick (T : Txt w K mg a) : FnOk P w K mg base CX0 2 a._law_pick a.fd__law_pick ["state", "row"] sp__law_pick := by
  have G__law_draw := ok__law_draw (P := P) (w := w) (base := base) T
  refine T.fn__law_pick.ok sc__law_pick (fun vs H Q E h => ?_) (fun cdv A outer s H vs Q E hr h => ?_)
  · obtain ⟨_, _, _, _, _, _, _, _, rfl, _, _, _, ⟨_, rfl, _⟩, _⟩ := h
    rfl
  · obtain ⟨xs, G, B, s, c, m, cells, _, rfl, sG, hs, g, ⟨r, rfl, hr1, hne, hl⟩, k⟩ := h
    refine ⟨_, (pss_one (ps_ret (pe_ix (ix_listK (K := K)) (pv 1) (pe_call G__law_draw (hr.mono (by first | decide | omega)) rfl T.mg__law_draw T.kp__law_draw T.bi__law_draw .nil pass0 (pa_cons (pv 0) (pa_cons (pe_callB (call_lenK (K := K)) (by rfl) T.mg_len PySem.boot_len (pa_cons (pv 1) pa_nil)) pa_nil))) (fun _ _ => rfl)))), ?_⟩
    have hrB : B r = some (.lst xs) := sG _ _ hr1
    walk_at "ss"
    have hpos : 0 < xs.length := List.length_pos_iff.mpr hne
    refine w_draw hs g (by omega) fun d m2 cells2 H2 hs2 g2 _ hd => ?_
    clear hs
    obtain ⟨d0, d1⟩ := hd (by omega)
    have hin : d.toNat < xs.length := by omega
    have ea : atI xs d = some xs[d.toNat] := at_of (j := d.toNat) (by omega) (List.getElem?_eq_getElem hin)
    refine w_ixL (SqL.of (hs2.same _ _ hrB)) ea ?_
    walk_at "ss"
    exact k B _ m2 cells2 H2 (Same.refl _) hs2 g2 (List.getElem_mem hin)
/-- a pick from a row that is one's own and new -/
theorem w_pick {B H : Hp} {Q : VK} {E : XK} {s c r : Addr} {m : Int} {cells : List Int} {xs : List V} {R : List (Addr × HO)} (hs : Hs B ((r, .lst xs) :: (s, sto c m) :: (c, clo cells) :: R) H) (g : Good m cells) (hne : xs ≠ []) (hl : xs.length ≤ 1000)
    (q : ∀ (x : V) m' cells' H', x ∈ xs → Hs B ((s, sto c m') :: (c, clo cells') :: R) H' → Good m' cells' → Q x H') : sp__law_pick [.ref s, .ref r] H Q E := by
  obtain ⟨B1, sm1, h1, hs1⟩ := frz_hs hs
  exact w_spS xs hs1 g ⟨r, rfl, h1, hne, hl⟩ (fun _ _ _ _ h => h) fun B2 v m' cells' H' sm2 hs2 g2 hv => q v m' cells' H' hv (Hs.base (sm1.trans sm2) hs2) g2
end
/-! ## what graphs are -/
def flatE (ls : List Lk) : List E2 := ls.flatMap fun l => [l.1, l.2]
structure Gd (ls : List Lk) : Prop where
  rng : ∀ l ∈ ls, isEnd 6 l.1 = true ∧ isEnd 6 l.2 = true
  dif : ∀ l ∈ ls, l.1.1 < l.2.1
  nd : (flatE ls).Nodup
theorem isEnd_iff {cnt : Int} {x : E2} : isEnd cnt x = true ↔ (1 ≤ x.1 ∧ x.1 ≤ cnt) ∧ 1 ≤ x.2 ∧ x.2 ≤ 6 := by
  unfold isEnd
  simp
theorem mem_flatE {ls : List Lk} {e : E2} : e ∈ flatE ls ↔ ∃ l ∈ ls, l.1 = e ∨ l.2 = e := by
  unfold flatE
  rw [List.mem_flatMap]
  constructor
  · rintro ⟨l, hl, h⟩
    refine ⟨l, hl, ?_⟩
    simp at h
    rcases h with h | h
    · exact .inl h.symm
    · exact .inr h.symm
  · rintro ⟨l, hl, h⟩
    refine ⟨l, hl, ?_⟩
    simp
    rcases h with h | h
    · exact .inl h.symm
    · exact .inr h.symm
theorem flat_sub {ls ms : List Lk} (h : ms.Sublist ls) : (flatE ms).Sublist (flatE ls) := by
  unfold flatE
  induction h with
  | slnil => exact List.Sublist.refl _
  | cons a _ ih =>
    rw [List.flatMap_cons]
    exact ih.trans (List.sublist_append_right _ _)
  | cons_cons a _ ih =>
    rw [List.flatMap_cons, List.flatMap_cons]
    exact (List.Sublist.refl _).append ih
theorem Gd.sub {ls ms : List Lk} (g : Gd ls) (h : ms.Sublist ls) : Gd ms :=
  ⟨fun l hl => g.rng l (h.subset hl), fun l hl => g.dif l (h.subset hl), g.nd.sublist (flat_sub h)⟩
theorem has_iff {x : E2} {l : Lk} : has x l = true ↔ l.1 = x ∨ l.2 = x := by
  unfold has
  simp
theorem has_uniq : ∀ {ls : List Lk}, (flatE ls).Nodup → ∀ {l m : Lk} {e : E2}, l ∈ ls → m ∈ ls → has e l = true → has e m = true → l = m
  | [], _, _, _, _, h, _, _, _ => nomatch h
  | x :: ls, nd, l, m, e, hl, hm, h1, h2 => by
    have e1 : flatE (x :: ls) = [x.1, x.2] ++ flatE ls := rfl
    rw [e1, List.nodup_append] at nd
    have dis : ∀ y : Lk, y ∈ ls → has e y = true → has e x = true → False := fun y hy k1 k2 => by
      have a : e ∈ [x.1, x.2] := by
        rcases has_iff.mp k2 with z | z
        · rw [← z]; simp
        · rw [← z]; simp
      exact nd.2.2 _ a _ (mem_flatE.mpr ⟨y, hy, has_iff.mp k1⟩) rfl
    rcases List.mem_cons.mp hl with e3 | h3
    · rcases List.mem_cons.mp hm with e4 | h4
      · rw [e3, e4]
      · rw [e3] at h1
        exact (dis m h4 h2 h1).elim
    · rcases List.mem_cons.mp hm with e4 | h4
      · rw [e4] at h2
        exact (dis l h3 h1 h2).elim
      · exact has_uniq nd.2.1 h3 h4 h1 h2
theorem peer_of {ls : List Lk} {e o : E2} (h : peerM ls e = some o) : ∃ l ∈ ls, (l.1 = e ∧ l.2 = o) ∨ (l.2 = e ∧ l.1 = o) := by
  obtain ⟨l, hl, rfl⟩ := Option.map_eq_some_iff.mp h
  refine ⟨l, List.mem_of_find?_eq_some hl, ?_⟩
  have := has_iff.mp (List.find?_some hl)
  by_cases h1 : l.1 = e
  · exact .inl ⟨h1, (if_pos h1).symm⟩
  · exact .inr ⟨this.resolve_left h1, (if_neg h1).symm⟩
theorem peer_none {ls : List Lk} {e : E2} : peerM ls e = none ↔ ∀ l ∈ ls, has e l = false := by
  unfold peerM
  rw [Option.map_eq_none_iff, List.find?_eq_none]
  simp
theorem peer_l {ls : List Lk} (g : Gd ls) {l : Lk} (hl : l ∈ ls) : peerM ls l.1 = some l.2 ∧ peerM ls l.2 = some l.1 := by
  have key : ∀ e, has e l = true → peerM ls e = some (if l.1 = e then l.2 else l.1) := fun e he => by
    cases hf : ls.find? (has e) with
    | none => exact absurd (List.find?_eq_none.mp hf l hl) (by rw [he]; simp)
    | some m =>
      have : m = l := has_uniq g.nd (List.mem_of_find?_eq_some hf) hl (List.find?_some hf) he
      subst this
      unfold peerM
      rw [hf]
      rfl
  have hne : l.1 ≠ l.2 := fun h => by
    have := g.dif l hl
    rw [h] at this
    omega
  refine ⟨?_, ?_⟩
  · rw [key _ (has_iff.mpr (.inl rfl)), if_pos rfl]
  · rw [key _ (has_iff.mpr (.inr rfl)), if_neg hne]
/-! ## what is joined -/
def adj (ls : List Lk) (s t : Int) : Prop := ∃ l ∈ ls, (l.1.1 = s ∧ l.2.1 = t) ∨ (l.2.1 = s ∧ l.1.1 = t)
inductive Rch (ls : List Lk) (s : Int) : Int → Prop
  | refl : Rch ls s s
  | step {t u : Int} : Rch ls s t → adj ls t u → Rch ls s u
theorem adj.symm {ls : List Lk} {s t : Int} (h : adj ls s t) : adj ls t s := by
  obtain ⟨l, hl, h⟩ := h
  exact ⟨l, hl, h.elim (fun z => .inr ⟨z.2, z.1⟩) fun z => .inl ⟨z.2, z.1⟩⟩
theorem Rch.cons {ls : List Lk} {s t u : Int} (h : adj ls s t) (r : Rch ls t u) : Rch ls s u := by
  induction r with
  | refl => exact .step .refl h
  | step _ a ih => exact .step ih a
theorem Rch.symm {ls : List Lk} {s t : Int} (r : Rch ls s t) : Rch ls t s := by
  induction r with
  | refl => exact .refl
  | step _ a ih => exact Rch.cons a.symm ih
/-- nothing that is next to f lies outside -/
def okL (f : List Int) (l : Lk) : Prop := l.1.1 ∈ f ↔ l.2.1 ∈ f
def closedF (ls : List Lk) (f : List Int) : Prop := ∀ l ∈ ls, okL f l
theorem closed_all {ls : List Lk} {f : List Int} (c : closedF ls f) {s t : Int} (hs : s ∈ f) (r : Rch ls s t) : t ∈ f := by
  induction r with
  | refl => exact hs
  | step _ a ih =>
    obtain ⟨l, hl, ⟨h1, h2⟩ | ⟨h1, h2⟩⟩ := a
    · rw [← h2]; exact (c l hl).mp (h1 ▸ ih)
    · rw [← h2]; exact (c l hl).mpr (h1 ▸ ih)
theorem adj_rng {ls : List Lk} (g : Gd ls) {s t : Int} (h : adj ls s t) : 1 ≤ t ∧ t ≤ 6 := by
  obtain ⟨l, hl, h⟩ := h
  have := g.rng l hl
  have a := (isEnd_iff.mp this.1).1
  have b := (isEnd_iff.mp this.2).1
  rcases h with ⟨_, h⟩ | ⟨_, h⟩ <;> rw [← h] <;> assumption
theorem rch_rng {ls : List Lk} (g : Gd ls) {s t : Int} (hs : 1 ≤ s ∧ s ≤ 6) (r : Rch ls s t) : 1 ≤ t ∧ t ≤ 6 := by
  cases r with
  | refl => exact hs
  | step _ a => exact adj_rng g a
theorem few {f : List Int} (nd : f.Nodup) (h : ∀ x ∈ f, 1 ≤ x ∧ x ≤ 6) : f.length ≤ 6 := by
  have key : ∀ (k : Nat) (f : List Int), f.Nodup → (∀ x ∈ f, 1 ≤ x ∧ x ≤ (k : Int)) → f.length ≤ k := fun k => by
    induction k with
    | zero =>
      intro f _ h
      cases f with
      | nil => exact Nat.le_refl _
      | cons x f =>
        have := h x List.mem_cons_self
        omega
    | succ k ih =>
      intro f nd h
      have h1 := ih (f.erase ((k : Int) + 1)) (nd.erase _) fun x hx => by
        have h2 := (nd.mem_erase_iff).mp hx
        have := h x h2.2
        have := h2.1
        omega
      have h3 : f.length ≤ (f.erase ((k : Int) + 1)).length + 1 := by
        rw [List.length_erase]
        split <;> omega
      omega
  exact key 6 f nd h
/-- the two ways of finding: sets of the switches that are reached -/
structure Near (ls : List Lk) (s : Int) (f : List Int) : Prop where
  nd : f.Nodup
  me : s ∈ f
  sub : ∀ x ∈ f, Rch ls s x
theorem Near.one (ls : List Lk) (s : Int) : Near ls s [s] := ⟨(by simp), List.mem_singleton.mpr rfl, fun x h => by rw [List.mem_singleton.mp h]; exact .refl⟩
theorem Near.add {ls : List Lk} {s : Int} {f : List Int} (h : Near ls s f) {a b : Int} (ha : a ∈ f) (hb : b ∉ f) (hab : adj ls a b) : Near ls s (f ++ [b]) := by
  refine ⟨List.nodup_append.mpr ⟨h.nd, (by simp), fun x hx y hy e => ?_⟩, List.mem_append_left _ h.me, fun x hx => ?_⟩
  · rw [List.mem_singleton.mp hy] at e
    exact hb (e ▸ hx)
  · rcases List.mem_append.mp hx with hx | hx
    · exact h.sub x hx
    · rw [List.mem_singleton.mp hx]
      exact .step (h.sub a ha) hab
theorem Near.all {ls : List Lk} {s : Int} {f : List Int} (h : Near ls s f) (c : closedF ls f) {x : Int} : x ∈ f ↔ Rch ls s x := ⟨h.sub x, closed_all c h.me⟩
theorem Near.few {ls : List Lk} (g : Gd ls) {s : Int} (hs : 1 ≤ s ∧ s ≤ 6) {f : List Int} (h : Near ls s f) : f.length ≤ 6 := K04.few h.nd fun x hx => rch_rng g hs (h.sub x hx)
theorem sorted_uniq : ∀ {l m : List Int}, l.Pairwise (· < ·) → m.Pairwise (· < ·) → (∀ x, x ∈ l ↔ x ∈ m) → l = m
  | [], [], _, _, _ => rfl
  | [], y :: m, _, _, h => nomatch (h y).mpr List.mem_cons_self
  | x :: l, [], _, _, h => nomatch (h x).mp List.mem_cons_self
  | x :: l, y :: m, hl, hm, h => by
    have a := List.pairwise_cons.mp hl
    have b := List.pairwise_cons.mp hm
    have e : x = y := by
      rcases List.mem_cons.mp ((h x).mp List.mem_cons_self) with e | h1
      · exact e
      · rcases List.mem_cons.mp ((h y).mpr List.mem_cons_self) with e | h2
        · exact e.symm
        · have := b.1 x h1
          have := a.1 y h2
          omega
    subst e
    rw [sorted_uniq a.2 b.2 fun z => ⟨fun hz => ?_, fun hz => ?_⟩]
    · rcases List.mem_cons.mp ((h z).mp (List.mem_cons_of_mem _ hz)) with rfl | h1
      · exact absurd (a.1 z hz) (by omega)
      · exact h1
    · rcases List.mem_cons.mp ((h z).mpr (List.mem_cons_of_mem _ hz)) with rfl | h1
      · exact absurd (b.1 z hz) (by omega)
      · exact h1
/-! ## the tree -/
abbrev Par := List (Int × E2)
abbrev TSt := List Int × Par
def tstep (ls : List Lk) (st : TSt) (e : E2) : TSt := match peerM ls e with
  | none => st
  | some o => if o.1 ∈ st.1 then st else (st.1 ++ [o.1], st.2 ++ [(o.1, e)])
def six (s : Int) : List E2 := [(s, 1), (s, 2), (s, 3), (s, 4), (s, 5), (s, 6)]
def tout (ls : List Lk) (st : TSt) (i : Nat) : TSt := match st.1[i]? with
  | none => st
  | some s => (six s).foldl (tstep ls) st
def trow (ls : List Lk) : Nat → TSt
  | 0 => ([1], [])
  | n + 1 => tout ls (trow ls n) n
def treeM (ls : List Lk) : TSt := trow ls 8
structure TI (ls : List Lk) (st : TSt) : Prop where
  hd : st.1 = 1 :: st.2.map (·.1)
  nd : st.1.Nodup
  par : ∀ (j : Nat) (t : Int) (e : E2), st.2[j]? = some (t, e) → (∃ i, i ≤ j ∧ st.1[i]? = some e.1) ∧ ∃ o, peerM ls e = some o ∧ o.1 = t
theorem TI.step {ls : List Lk} {st : TSt} (h : TI ls st) {e : E2} (he : e.1 ∈ st.1) : TI ls (tstep ls st e) := by
  unfold tstep
  cases hp : peerM ls e with
  | none => exact h
  | some o =>
    show TI ls (if o.1 ∈ st.1 then st else _)
    by_cases hm : o.1 ∈ st.1
    · rw [if_pos hm]; exact h
    · rw [if_neg hm]
      refine ⟨?_, List.nodup_append.mpr ⟨h.nd, (by simp), fun x hx y hy e => hm ?_⟩, fun j t e' hj => ?_⟩
      · show st.1 ++ [o.1] = 1 :: (st.2 ++ [(o.1, e)]).map (·.1)
        rw [h.hd, List.map_append]
        rfl
      · rw [List.mem_singleton.mp hy] at e
        exact e ▸ hx
      · have hlen : st.1.length = st.2.length + 1 := by
          rw [h.hd, List.length_cons, List.length_map]
        have hj' : (st.2 ++ [(o.1, e)])[j]? = some (t, e') := hj
        by_cases hlt : j < st.2.length
        · rw [List.getElem?_append_left hlt] at hj'
          obtain ⟨⟨i, h1, h2⟩, h3⟩ := h.par j t e' hj'
          refine ⟨⟨i, h1, ?_⟩, h3⟩
          show (st.1 ++ [o.1])[i]? = _
          rw [List.getElem?_append_left (by omega)]
          exact h2
        · rw [List.getElem?_append_right (by omega)] at hj'
          have hz : j - st.2.length = 0 := by
            cases q : j - st.2.length with
            | zero => rfl
            | succ n => rw [q] at hj'; simp at hj'
          rw [hz] at hj'
          simp at hj'
          obtain ⟨rfl, rfl⟩ := hj'
          obtain ⟨i, hi, hie⟩ := List.getElem_of_mem he
          refine ⟨⟨i, by omega, ?_⟩, o, hp, rfl⟩
          show (st.1 ++ [o.1])[i]? = _
          rw [List.getElem?_append_left hi, List.getElem?_eq_getElem hi, hie]
theorem tstep_pre (ls : List Lk) (st : TSt) (e : E2) : st.1 <+: (tstep ls st e).1 := by
  unfold tstep
  cases peerM ls e with
  | none => exact List.prefix_refl _
  | some o =>
    show st.1 <+: (if o.1 ∈ st.1 then st else _).1
    by_cases hm : o.1 ∈ st.1
    · rw [if_pos hm]; exact List.prefix_refl _
    · rw [if_neg hm]; exact List.prefix_append _ _
theorem fold_pre (ls : List Lk) : ∀ (es : List E2) (st : TSt), st.1 <+: (es.foldl (tstep ls) st).1
  | [], _ => List.prefix_refl _
  | e :: es, st => (tstep_pre ls st e).trans (fold_pre ls es _)
theorem TI.fold {ls : List Lk} {s : Int} : ∀ {es : List E2} {st : TSt}, TI ls st → s ∈ st.1 → (∀ e ∈ es, e.1 = s) → TI ls (es.foldl (tstep ls) st)
  | [], _, h, _, _ => h
  | e :: es, st, h, hs, he => TI.fold (es := es) (st := tstep ls st e) (h.step (by rw [he e List.mem_cons_self]; exact hs)) ((tstep_pre ls st e).subset hs) fun x hx => he x (List.mem_cons_of_mem _ hx)
theorem six_fst {s : Int} : ∀ e ∈ six s, e.1 = s := by
  intro e he
  unfold six at he
  simp at he
  rcases he with h | h | h | h | h | h <;> rw [h]
theorem TI.out {ls : List Lk} {st : TSt} (h : TI ls st) (i : Nat) : TI ls (tout ls st i) := by
  unfold tout
  cases hi : st.1[i]? with
  | none => exact h
  | some s => exact h.fold (List.mem_of_getElem? hi) six_fst
theorem tout_pre (ls : List Lk) (st : TSt) (i : Nat) : st.1 <+: (tout ls st i).1 := by
  unfold tout
  cases st.1[i]? with
  | none => exact List.prefix_refl _
  | some s => exact fold_pre ls _ _
theorem TI.row (ls : List Lk) : ∀ n, TI ls (trow ls n)
  | 0 => ⟨rfl, by unfold trow; exact (by simp), fun j t e h => by unfold trow at h; simp at h⟩
  | n + 1 => (TI.row ls n).out n
theorem TI.mem1 {ls : List Lk} {st : TSt} (h : TI ls st) : (1 : Int) ∈ st.1 := by
  rw [h.hd]
  exact List.mem_cons_self
theorem TI.mem {ls : List Lk} {st : TSt} (h : TI ls st) {x : Int} : x ∈ st.1 ↔ x = 1 ∨ ∃ e, (x, e) ∈ st.2 := by
  rw [h.hd, List.mem_cons, List.mem_map]
  refine or_congr Iff.rfl ⟨fun ⟨p, hp, e⟩ => ⟨p.2, by rw [← e]; exact hp⟩, fun ⟨e, he⟩ => ⟨_, he, rfl⟩⟩
theorem adj_peer {ls : List Lk} {e o : E2} (h : peerM ls e = some o) : adj ls e.1 o.1 := by
  obtain ⟨l, hl, ⟨h1, h2⟩ | ⟨h1, h2⟩⟩ := peer_of h
  · exact ⟨l, hl, .inl ⟨by rw [h1], by rw [h2]⟩⟩
  · exact ⟨l, hl, .inr ⟨by rw [h1], by rw [h2]⟩⟩
theorem TI.rch {ls : List Lk} {st : TSt} (h : TI ls st) : ∀ (i : Nat) (x : Int), st.1[i]? = some x → Rch ls 1 x := by
  intro i
  induction i using Nat.strongRecOn with
  | ind i ih =>
    intro x hx
    have hx' := hx
    rw [h.hd] at hx
    cases i with
    | zero =>
      cases hx
      exact .refl
    | succ j =>
      rw [List.getElem?_cons_succ, List.getElem?_map] at hx
      obtain ⟨⟨t, e⟩, hj, rfl⟩ := Option.map_eq_some_iff.mp hx
      obtain ⟨⟨k, hk, hke⟩, o, ho, hot⟩ := h.par j t e hj
      refine Rch.step (ih k (by omega) _ hke) ?_
      have := adj_peer ho
      rw [hot] at this
      exact this
theorem TI.rng {ls : List Lk} (g : Gd ls) {st : TSt} (h : TI ls st) : ∀ x ∈ st.1, 1 ≤ x ∧ x ≤ 6 := fun x hx => by
  obtain ⟨i, hi⟩ := List.mem_iff_getElem?.mp hx
  exact rch_rng g (by omega) (h.rch i x hi)
theorem TI.few {ls : List Lk} (g : Gd ls) {st : TSt} (h : TI ls st) : st.1.length ≤ 6 := K04.few h.nd (h.rng g)
theorem tout_end {ls : List Lk} {st : TSt} {i : Nat} (h : st.1.length ≤ i) : tout ls st i = st := by
  unfold tout
  rw [List.getElem?_eq_none h]
theorem trow_end {ls : List Lk} {n : Nat} (h : (trow ls n).1.length ≤ n) : ∀ m, n ≤ m → trow ls m = trow ls n := by
  intro m hm
  induction m with
  | zero =>
    have : n = 0 := by omega
    subst this
    rfl
  | succ m ih =>
    by_cases hnm : n = m + 1
    · rw [hnm]
    · have e := ih (by omega)
      show tout ls (trow ls m) m = _
      rw [e]
      exact tout_end (by omega)
theorem tree_end {ls : List Lk} {n : Nat} (h : (trow ls n).1.length ≤ n) (h8 : n ≤ 8) : trow ls n = treeM ls := (trow_end h 8 h8).symm
/-- behind a switch's turn its peers are found -/
theorem tstep_has {ls : List Lk} {st : TSt} {e o : E2} (h : peerM ls e = some o) : o.1 ∈ (tstep ls st e).1 := by
  unfold tstep
  rw [h]
  show o.1 ∈ (if o.1 ∈ st.1 then st else _).1
  by_cases hm : o.1 ∈ st.1
  · rw [if_pos hm]; exact hm
  · rw [if_neg hm]; exact List.mem_append_right _ (List.mem_singleton.mpr rfl)
theorem fold_has {ls : List Lk} {e o : E2} (h : peerM ls e = some o) : ∀ {es : List E2} {st : TSt}, e ∈ es → o.1 ∈ (es.foldl (tstep ls) st).1
  | x :: es, st, he => by
    rcases List.mem_cons.mp he with rfl | he
    · exact (fold_pre ls es _).subset (tstep_has h)
    · exact fold_has h (es := es) he
theorem six_of {e : E2} (h : 1 ≤ e.2 ∧ e.2 ≤ 6) : e ∈ six e.1 := by
  obtain ⟨a, b⟩ := e
  obtain ⟨h1, h2⟩ := h
  unfold six
  have : b = 1 ∨ b = 2 ∨ b = 3 ∨ b = 4 ∨ b = 5 ∨ b = 6 := by
    have h1 : 1 ≤ b := h1
    have h2 : b ≤ 6 := h2
    omega
  rcases this with rfl | rfl | rfl | rfl | rfl | rfl <;> simp
theorem trow_has {ls : List Lk} : ∀ (n i : Nat), i < n → ∀ {s : Int} {e o : E2}, (trow ls n).1[i]? = some s → e.1 = s → 1 ≤ e.2 ∧ e.2 ≤ 6 → peerM ls e = some o → o.1 ∈ (trow ls n).1
  | n + 1, i, hi, s, e, o, hs, he, hr, hp => by
    have pre := tout_pre ls (trow ls n) n
    show o.1 ∈ (tout ls (trow ls n) n).1
    by_cases hin : i < (trow ls n).1.length
    · have hs0 : (trow ls n).1[i]? = some s := by
        obtain ⟨t, ht⟩ := pre
        have : (tout ls (trow ls n) n).1[i]? = some s := hs
        rw [← ht, List.getElem?_append_left hin] at this
        exact this
      by_cases h2 : i = n
      · subst h2
        unfold tout
        rw [hs0]
        exact fold_has hp (by rw [← he]; exact six_of hr)
      · exact pre.subset (trow_has n i (by omega) hs0 he hr hp)
    · have : tout ls (trow ls n) n = trow ls n := tout_end (by omega)
      have hs' : (tout ls (trow ls n) n).1[i]? = some s := hs
      rw [this, List.getElem?_eq_none (by omega)] at hs'
      cases hs'
theorem tree_closed {ls : List Lk} (g : Gd ls) : closedF ls (treeM ls).1 := by
  have hi := TI.row ls 8
  have hf := hi.few g
  have key : ∀ l ∈ ls, ∀ e o : E2, has e l = true → peerM ls e = some o → 1 ≤ e.2 ∧ e.2 ≤ 6 → e.1 ∈ (treeM ls).1 → o.1 ∈ (treeM ls).1 := fun l hl e o he ho hr hm => by
    obtain ⟨i, hi⟩ := List.mem_iff_getElem?.mp hm
    have := (List.getElem?_eq_some_iff.mp hi).1
    exact trow_has 8 i (by unfold treeM at this; omega) hi rfl hr ho
  intro l hl
  have p := peer_l g hl
  have r := g.rng l hl
  have r1 := (isEnd_iff.mp r.1).2
  have r2 := (isEnd_iff.mp r.2).2
  exact ⟨fun h => key l hl l.1 l.2 (has_iff.mpr (.inl rfl)) p.1 r1 h, fun h => key l hl l.2 l.1 (has_iff.mpr (.inr rfl)) p.2 r2 h⟩
theorem tree_rch {ls : List Lk} (g : Gd ls) {x : Int} : x ∈ (treeM ls).1 ↔ Rch ls 1 x := by
  refine ⟨fun h => ?_, closed_all (tree_closed g) (TI.row ls 8).mem1⟩
  obtain ⟨i, hi⟩ := List.mem_iff_getElem?.mp h
  exact (TI.row ls 8).rch i x hi
/-! ## ends at a switch: what is to be asked -/
def ltE' (x y : E2) : Prop := x.1 < y.1 ∨ (x.1 = y.1 ∧ x.2 < y.2)
instance (x y : E2) : Decidable (ltE' x y) := inferInstanceAs (Decidable (_ ∨ _))
theorem raw_eq (ls : List Lk) (s : Int) : rawEnds ls s = (flatE ls).filter fun x => decide (x.1 = s) := by
  unfold rawEnds flatE
  induction ls with
  | nil => rfl
  | cons l ls ih => rw [List.flatMap_cons, List.flatMap_cons, List.filter_append, ih]
theorem mem_raw {ls : List Lk} {s : Int} {e : E2} : e ∈ rawEnds ls s ↔ e.1 = s ∧ peerM ls e ≠ none := by
  rw [raw_eq, List.mem_filter, mem_flatE]
  constructor
  · rintro ⟨⟨l, hl, h⟩, hs⟩
    refine ⟨of_decide_eq_true hs, fun hn => ?_⟩
    have := peer_none.mp hn l hl
    rw [has_iff.mpr h] at this
    cases this
  · rintro ⟨hs, hn⟩
    refine ⟨?_, decide_eq_true hs⟩
    cases hp : peerM ls e with
    | none => exact absurd hp hn
    | some o =>
      obtain ⟨l, hl, ⟨h1, _⟩ | ⟨h1, _⟩⟩ := peer_of hp
      · exact ⟨l, hl, .inl h1⟩
      · exact ⟨l, hl, .inr h1⟩
theorem ltE_uniq : ∀ {l m : List E2}, l.Pairwise ltE' → m.Pairwise ltE' → (∀ x, x ∈ l ↔ x ∈ m) → l = m
  | [], [], _, _, _ => rfl
  | [], y :: m, _, _, h => nomatch (h y).mpr List.mem_cons_self
  | x :: l, [], _, _, h => nomatch (h x).mp List.mem_cons_self
  | x :: l, y :: m, hl, hm, h => by
    have a := List.pairwise_cons.mp hl
    have b := List.pairwise_cons.mp hm
    have e : x = y := by
      rcases List.mem_cons.mp ((h x).mp List.mem_cons_self) with e | h1
      · exact e
      · rcases List.mem_cons.mp ((h y).mpr List.mem_cons_self) with e | h2
        · exact e.symm
        · have p := b.1 x h1
          have q := a.1 y h2
          unfold ltE' at p q
          omega
    subst e
    rw [ltE_uniq a.2 b.2 fun z => ⟨fun hz => ?_, fun hz => ?_⟩]
    · rcases List.mem_cons.mp ((h z).mp (List.mem_cons_of_mem _ hz)) with e | h1
      · subst e
        have p := a.1 z hz
        unfold ltE' at p
        omega
      · exact h1
    · rcases List.mem_cons.mp ((h z).mpr (List.mem_cons_of_mem _ hz)) with e | h1
      · subst e
        have p := b.1 z hz
        unfold ltE' at p
        omega
      · exact h1
theorem six_sorted (s : Int) : (six s).Pairwise ltE' := by
  unfold six ltE'
  simp
def asked (ls : List Lk) (s : Int) : List E2 := (six s).filter fun e => (peerM ls e).isSome
theorem asked_uniq {ls : List Lk} (g : Gd ls) {s : Int} {es : List E2} (p : es.Perm (rawEnds ls s)) (h : es.Pairwise ltE') : es = asked ls s := by
  refine ltE_uniq h ((six_sorted s).filter _) fun e => ?_
  rw [p.mem_iff, mem_raw]
  unfold asked
  rw [List.mem_filter]
  constructor
  · rintro ⟨h1, h2⟩
    cases hp : peerM ls e with
    | none => exact absurd hp h2
    | some o =>
      refine ⟨?_, rfl⟩
      obtain ⟨l, hl, hh⟩ := peer_of hp
      have r := g.rng l hl
      have : 1 ≤ e.2 ∧ e.2 ≤ 6 := by
        rcases hh with ⟨h3, _⟩ | ⟨h3, _⟩
        · rw [← h3]; exact (isEnd_iff.mp r.1).2
        · rw [← h3]; exact (isEnd_iff.mp r.2).2
      rw [← h1]
      exact six_of this
  · rintro ⟨h1, h2⟩
    refine ⟨six_fst e h1, fun hn => ?_⟩
    rw [hn] at h2
    cases h2
theorem raw_nd {ls : List Lk} (g : Gd ls) (s : Int) : (rawEnds ls s).Nodup := by
  rw [raw_eq]
  exact g.nd.filter _
theorem fold_asked (ls : List Lk) : ∀ (es : List E2) (st : TSt), (es.filter fun e => (peerM ls e).isSome).foldl (tstep ls) st = es.foldl (tstep ls) st
  | [], _ => rfl
  | e :: es, st => by
    rw [List.filter_cons]
    cases hp : peerM ls e with
    | none =>
      have : tstep ls st e = st := by
        unfold tstep
        rw [hp]
      rw [List.foldl_cons, this]
      exact fold_asked ls es st
    | some o => exact fold_asked ls es _
/-! ## ways and what hangs -/
def getP (par : Par) (t : Int) : Option E2 := par.lookup t
theorem TI.get {ls : List Lk} {st : TSt} (h : TI ls st) {t : Int} {e : E2} : getP st.2 t = some e ↔ (t, e) ∈ st.2 := by
  have nd : (st.2.map (·.1)).Nodup := by
    have := h.nd
    rw [h.hd] at this
    exact (List.nodup_cons.mp this).2
  unfold getP
  generalize st.2 = l at nd
  induction l with
  | nil => simp
  | cons x l ih =>
    obtain ⟨k, v⟩ := x
    rw [List.map_cons, List.nodup_cons] at nd
    rw [List.lookup_cons]
    by_cases hk : t = k
    · subst hk
      simp
      constructor
      · rintro rfl
        exact .inl rfl
      · rintro (h | h)
        · exact h.symm
        · exact absurd (List.mem_map_of_mem (f := (·.1)) h) nd.1
    · have : (t == k) = false := by simpa using hk
      rw [this]
      simp [hk]
      exact ih nd.2
theorem nd_ix {f : List Int} (nd : f.Nodup) {i k : Nat} {x : Int} (h1 : f[i]? = some x) (h2 : f[k]? = some x) : i = k :=
  (List.getElem?_inj (List.getElem?_eq_some_iff.mp h1).1 nd).mp (h1.trans h2.symm)
def at_ (st : TSt) (x : Int) (i : Nat) : Prop := st.1[i]? = some x
theorem TI.up {ls : List Lk} {st : TSt} (h : TI ls st) {x : Int} {i : Nat} (hx : at_ st x i) : (i = 0 ∧ x = 1) ∨ (x ≠ 1 ∧ ∃ e k, getP st.2 x = some e ∧ k < i ∧ at_ st e.1 k) := by
  have hx0 := hx
  unfold at_ at hx
  rw [h.hd] at hx
  cases i with
  | zero =>
    cases hx
    exact .inl ⟨rfl, rfl⟩
  | succ j =>
    refine .inr ⟨fun hx1 => ?_, ?_⟩
    · have h0 : st.1[0]? = some 1 := by rw [h.hd]; rfl
      have h1 : st.1[j + 1]? = some 1 := hx1 ▸ hx0
      have := nd_ix h.nd h0 h1
      omega
    · rw [List.getElem?_cons_succ, List.getElem?_map] at hx
      obtain ⟨⟨t, e⟩, hj, rfl⟩ := Option.map_eq_some_iff.mp hx
      obtain ⟨⟨k, hk, hke⟩, _⟩ := h.par j t e hj
      exact ⟨e, k, h.get.mpr (List.mem_of_getElem? hj), by omega, hke⟩
theorem TI.ix {ls : List Lk} {st : TSt} (h : TI ls st) {x : Int} (hx : x ∈ st.1) : ∃ i, at_ st x i := List.mem_iff_getElem?.mp hx
theorem TI.ixU {ls : List Lk} {st : TSt} (h : TI ls st) {x : Int} {i k : Nat} (h1 : at_ st x i) (h2 : at_ st x k) : i = k := nd_ix h.nd h1 h2
def wayN (par : Par) : Nat → Int → List E2
  | 0, _ => []
  | n + 1, t => if t = 1 then [] else match getP par t with
    | none => []
    | some e => wayN par n e.1 ++ [e]
theorem wayN_s (par : Par) (n : Nat) (t : Int) : wayN par (n + 1) t = if t = 1 then [] else match getP par t with
    | none => []
    | some e => wayN par n e.1 ++ [e] := rfl
def wayM (par : Par) (t : Int) : List E2 := wayN par 9 t
theorem wayN_st {ls : List Lk} {st : TSt} (h : TI ls st) : ∀ (n m i : Nat) (t : Int), at_ st t i → i ≤ n → i ≤ m → wayN st.2 n t = wayN st.2 m t := by
  have one : ∀ n, wayN st.2 n 1 = [] := fun n => by
    cases n with
    | zero => rfl
    | succ n => exact if_pos rfl
  intro n
  induction n with
  | zero =>
    intro m i t hi h1 h2
    rcases h.up hi with ⟨_, rfl⟩ | ⟨_, _, k, _, hk, _⟩
    · rw [one, one]
    · omega
  | succ n ih =>
    intro m i t hi h1 h2
    rcases h.up hi with ⟨_, rfl⟩ | ⟨ht, e, k, he, hk, hke⟩
    · rw [one, one]
    · cases m with
      | zero => omega
      | succ m =>
        rw [wayN_s, wayN_s, if_neg ht, if_neg ht, he]
        show wayN st.2 n e.1 ++ [e] = wayN st.2 m e.1 ++ [e]
        rw [ih m k e.1 hke (by omega) (by omega)]
theorem way_one (par : Par) : wayM par 1 = [] := (wayN_s par 8 1).trans (if_pos rfl)
theorem way_up {ls : List Lk} (g : Gd ls) {st : TSt} (h : TI ls st) {t : Int} (ht : t ∈ st.1) (h1 : t ≠ 1) : ∃ e, getP st.2 t = some e ∧ e.1 ∈ st.1 ∧ wayM st.2 t = wayM st.2 e.1 ++ [e] := by
  obtain ⟨i, hi⟩ := h.ix ht
  rcases h.up hi with ⟨_, rfl⟩ | ⟨_, e, k, he, hk, hke⟩
  · exact absurd rfl h1
  · refine ⟨e, he, List.mem_of_getElem? hke, ?_⟩
    have hf := h.few g
    have hil := (List.getElem?_eq_some_iff.mp hi).1
    have e1 : wayM st.2 t = wayN st.2 8 e.1 ++ [e] := by
      unfold wayM
      rw [wayN_s, if_neg h1, he]
    rw [e1, wayN_st h 8 9 k e.1 hke (by omega) (by omega)]
    rfl
theorem way_some {ls : List Lk} {st : TSt} (h : TI ls st) : ∀ (n : Nat) (t : Int) (e : E2), e ∈ wayN st.2 n t → ∃ o, peerM ls e = some o ∧ e.1 ∈ st.1
  | n + 1, t, e, he => by
    unfold wayN at he
    by_cases h1 : t = 1
    · rw [if_pos h1] at he
      cases he
    · rw [if_neg h1] at he
      cases hg : getP st.2 t with
      | none =>
        rw [hg] at he
        cases he
      | some x =>
        rw [hg] at he
        rcases List.mem_append.mp he with he | he
        · exact way_some h n _ e he
        · rw [List.mem_singleton.mp he]
          obtain ⟨j, hj⟩ := List.mem_iff_getElem?.mp (h.get.mp hg)
          obtain ⟨⟨i, _, hi⟩, o, ho, _⟩ := h.par j t x hj
          exact ⟨o, ho, List.mem_of_getElem? hi⟩
/-- what hangs on s -/
def hang (par : Par) (s t : Int) : Prop := s ∈ (wayM par t).map (·.1) ++ [t]
instance (par : Par) (s t : Int) : Decidable (hang par s t) := inferInstanceAs (Decidable (_ ∈ _))
theorem hang_self (par : Par) (s : Int) : hang par s s := List.mem_append_right _ (List.mem_singleton.mpr rfl)
theorem hang_one {par : Par} {s : Int} : hang par s 1 ↔ s = 1 := by
  unfold hang
  rw [way_one]
  simp
theorem hang_up {ls : List Lk} (g : Gd ls) {st : TSt} (h : TI ls st) {s t : Int} (ht : t ∈ st.1) (h1 : t ≠ 1) {e : E2} (he : getP st.2 t = some e) : hang st.2 s t ↔ s = t ∨ hang st.2 s e.1 := by
  obtain ⟨e', he', _, hw⟩ := way_up g h ht h1
  rw [he] at he'
  cases he'
  unfold hang
  rw [hw, List.map_append, List.mem_append, List.mem_singleton]
  exact or_comm
theorem hang_ix {ls : List Lk} (g : Gd ls) {st : TSt} (h : TI ls st) {s : Int} : ∀ (i : Nat) (t : Int), at_ st t i → hang st.2 s t → ∃ k, k ≤ i ∧ at_ st s k := by
  intro i
  induction i using Nat.strongRecOn with
  | ind i ih =>
    intro t ht hh
    rcases h.up ht with ⟨_, rfl⟩ | ⟨h1, e, k, he, hk, hke⟩
    · rw [hang_one] at hh
      subst hh
      exact ⟨i, Nat.le_refl _, ht⟩
    · rcases (hang_up g h (List.mem_of_getElem? ht) h1 he).mp hh with rfl | hh
      · exact ⟨i, Nat.le_refl _, ht⟩
      · obtain ⟨k2, h2, h3⟩ := ih k hk e.1 hke hh
        exact ⟨k2, by omega, h3⟩
/-- the list of those that hang, while it is made: the first n have their turn behind them -/
structure BI (st : TSt) (s : Int) (f : List Int) (n : Nat) : Prop where
  nd : f.Nodup
  me : s ∈ f
  sub : ∀ x ∈ f, x ∈ st.1 ∧ hang st.2 s x
  src : ∀ x ∈ f, x = s ∨ ∃ i e, i < n ∧ getP st.2 x = some e ∧ f[i]? = some e.1
  cls : ∀ (i : Nat) (x t : Int) (e : E2), i < n → f[i]? = some x → getP st.2 t = some e → e.1 = x → t ∈ f
theorem BI.zero {st : TSt} {s : Int} (hs : s ∈ st.1) : BI st s [s] 0 := by
  refine ⟨by simp, List.mem_singleton.mpr rfl, fun x hx => ?_, fun x hx => .inl (List.mem_singleton.mp hx), fun i _ _ _ h => absurd h (Nat.not_lt_zero _)⟩
  rw [List.mem_singleton.mp hx]
  exact ⟨hs, hang_self _ _⟩
def kids (par : Par) (x : Int) : List Int := (par.map (·.1)).filter fun t => decide ((getP par t).map (·.1) = some x)
theorem TI.keys {ls : List Lk} {st : TSt} (h : TI ls st) : (st.2.map (·.1)).Nodup := by
  have := h.nd
  rw [h.hd] at this
  exact (List.nodup_cons.mp this).2
theorem TI.key1 {ls : List Lk} {st : TSt} (h : TI ls st) : (1 : Int) ∉ st.2.map (·.1) := by
  have := h.nd
  rw [h.hd] at this
  exact (List.nodup_cons.mp this).1
theorem mem_kids {ls : List Lk} {st : TSt} (h : TI ls st) {x t : Int} : t ∈ kids st.2 x ↔ ∃ e, getP st.2 t = some e ∧ e.1 = x := by
  unfold kids
  rw [List.mem_filter]
  constructor
  · rintro ⟨_, h2⟩
    obtain ⟨e, he, h3⟩ := Option.map_eq_some_iff.mp (of_decide_eq_true h2)
    exact ⟨e, he, h3⟩
  · rintro ⟨e, he, h3⟩
    exact ⟨List.mem_map.mpr ⟨_, h.get.mp he, rfl⟩, decide_eq_true (by rw [he]; exact congrArg some h3)⟩
theorem BI.next {ls : List Lk} (g : Gd ls) {st : TSt} (h : TI ls st) {s : Int} {f : List Int} {n : Nat} {x : Int} (b : BI st s f n) (hx : f[n]? = some x) : BI st s (f ++ kids st.2 x) (n + 1) := by
  have hxm := List.mem_of_getElem? hx
  have hn := (List.getElem?_eq_some_iff.mp hx).1
  have kid : ∀ t, t ∈ kids st.2 x → t ∈ st.1 ∧ t ≠ 1 ∧ ∃ e, getP st.2 t = some e ∧ e.1 = x := fun t ht => by
    obtain ⟨e, he, hex⟩ := (mem_kids h).mp ht
    have hm := h.get.mp he
    refine ⟨h.mem.mpr (.inr ⟨e, hm⟩), fun h1 => ?_, e, he, hex⟩
    subst h1
    exact h.key1 (List.mem_map.mpr ⟨_, hm, rfl⟩)
  have new : ∀ t, t ∈ kids st.2 x → t ∉ f := fun t ht hf => by
    obtain ⟨hm, h1, e, he, hex⟩ := kid t ht
    rcases b.src t hf with rfl | ⟨i, e', hi, he', hfi⟩
    · -- the switch itself is no kid of one that hangs on it
      obtain ⟨hxs, hhx⟩ := b.sub x hxm
      obtain ⟨ix, hix⟩ := h.ix hxs
      obtain ⟨k, hk, hks⟩ := hang_ix g h ix x hix hhx
      rcases h.up hks with ⟨_, h2⟩ | ⟨_, e2, k2, he2, hk2, hke2⟩
      · exact h1 h2
      · rw [he] at he2
        cases he2
        rw [hex] at hke2
        have := h.ixU hix hke2
        omega
    · rw [he] at he'
      cases he'
      rw [hex] at hfi
      have := nd_ix b.nd hx hfi
      omega
  refine ⟨List.nodup_append.mpr ⟨b.nd, h.keys.filter _, fun y hy z hz e => new z hz (e ▸ hy)⟩, List.mem_append_left _ b.me, fun y hy => ?_, fun y hy => ?_, fun i y t e hi hfi he hey => ?_⟩
  · rcases List.mem_append.mp hy with hy | hy
    · exact b.sub y hy
    · obtain ⟨hm, h1, e, he, hex⟩ := kid y hy
      exact ⟨hm, (hang_up g h hm h1 he).mpr (.inr (hex ▸ (b.sub x hxm).2))⟩
  · rcases List.mem_append.mp hy with hy | hy
    · rcases b.src y hy with h1 | ⟨i, e, hi, he, hfi⟩
      · exact .inl h1
      · exact .inr ⟨i, e, by omega, he, by rw [List.getElem?_append_left (by omega)]; exact hfi⟩
    · obtain ⟨hm, h1, e, he, hex⟩ := kid y hy
      exact .inr ⟨n, e, by omega, he, by rw [List.getElem?_append_left hn, hex]; exact hx⟩
  · by_cases hin : i < n
    · rw [List.getElem?_append_left (by omega)] at hfi
      exact List.mem_append_left _ (b.cls i y t e hin hfi he hey)
    · have : i = n := by omega
      subst this
      rw [List.getElem?_append_left hn, hx] at hfi
      cases hfi
      exact List.mem_append_right _ ((mem_kids h).mpr ⟨e, he, hey⟩)
theorem BI.all {ls : List Lk} (g : Gd ls) {st : TSt} (h : TI ls st) {s : Int} {f : List Int} {n : Nat} (b : BI st s f n) (hn : f.length ≤ n) {t : Int} (ht : t ∈ st.1) : t ∈ f ↔ hang st.2 s t := by
  refine ⟨fun hf => (b.sub t hf).2, ?_⟩
  obtain ⟨i, hi⟩ := h.ix ht
  clear ht
  induction i using Nat.strongRecOn generalizing t with
  | ind i ih =>
    intro hh
    rcases h.up hi with ⟨_, rfl⟩ | ⟨h1, e, k, he, hk, hke⟩
    · rw [hang_one] at hh
      rw [← hh]
      exact b.me
    · rcases (hang_up g h (List.mem_of_getElem? hi) h1 he).mp hh with rfl | hh
      · exact b.me
      · obtain ⟨j, hj⟩ := List.mem_iff_getElem?.mp (ih k hk hke hh)
        have := (List.getElem?_eq_some_iff.mp hj).1
        exact b.cls j e.1 t e (by omega) hj he rfl
theorem BI.few {ls : List Lk} (g : Gd ls) {st : TSt} (h : TI ls st) {s : Int} {f : List Int} {n : Nat} (b : BI st s f n) : f.length ≤ 6 := K04.few b.nd fun x hx => h.rng g x (b.sub x hx).1
/-- both have the same in order -/
def belowM (st : TSt) (s : Int) (ys : List Int) : Prop := ys.Pairwise (· < ·) ∧ ∀ t, t ∈ ys ↔ (t ∈ st.1 ∧ hang st.2 s t)
theorem below_uniq {st : TSt} {s : Int} {ys zs : List Int} (h1 : belowM st s ys) (h2 : belowM st s zs) : ys = zs := sorted_uniq h1.1 h2.1 fun x => (h1.2 x).trans (h2.2 x).symm
/-! ## two ways -/
def lkM (e o : E2) : Lk := if ltE' e o then (e, o) else (o, e)
def pe (ls : List Lk) (e : E2) : E2 := (peerM ls e).getD (0, 0)
def goneM (ls : List Lk) (es : List E2) : List Lk := es.map fun e => lkM e (pe ls e)
def usedM (ls : List Lk) (es : List E2) : List E2 := es ++ es.map (pe ls)
theorem lk_link {ls : List Lk} (g : Gd ls) {e o : E2} (h : peerM ls e = some o) : ∃ m ∈ ls, lkM e o = m ∧ has e m = true ∧ has o m = true := by
  obtain ⟨m, hm, ⟨h1, h2⟩ | ⟨h1, h2⟩⟩ := peer_of h
  · have d := g.dif m hm
    refine ⟨m, hm, ?_, has_iff.mpr (.inl h1), has_iff.mpr (.inr h2)⟩
    subst h1 h2
    exact if_pos (.inl d)
  · have d := g.dif m hm
    refine ⟨m, hm, ?_, has_iff.mpr (.inr h1), has_iff.mpr (.inl h2)⟩
    subst h1 h2
    refine if_neg fun z => ?_
    unfold ltE' at z
    omega
theorem gone_used {ls : List Lk} (g : Gd ls) {es : List E2} (hs : ∀ e ∈ es, ∃ o, peerM ls e = some o) {l : Lk} (hl : l ∈ ls) : l ∈ goneM ls es ↔ l.1 ∈ usedM ls es := by
  unfold goneM usedM
  rw [List.mem_append, List.mem_map, List.mem_map]
  constructor
  · rintro ⟨e, he, h⟩
    obtain ⟨o, ho⟩ := hs e he
    have hp : pe ls e = o := by unfold pe; rw [ho]; rfl
    rw [hp] at h
    unfold lkM at h
    by_cases hlt : ltE' e o
    · rw [if_pos hlt] at h
      exact .inl (h ▸ he)
    · rw [if_neg hlt] at h
      exact .inr ⟨e, he, by rw [hp, ← h]⟩
  · rintro (h | ⟨e, he, h⟩)
    · refine ⟨l.1, h, ?_⟩
      have := (peer_l g hl).1
      obtain ⟨m, hm, h1, h2, _⟩ := lk_link g this
      have hp : pe ls l.1 = l.2 := by unfold pe; rw [this]; rfl
      rw [hp, h1]
      exact has_uniq g.nd hm hl h2 (has_iff.mpr (.inl rfl))
    · refine ⟨e, he, ?_⟩
      obtain ⟨o, ho⟩ := hs e he
      have hp : pe ls e = o := by unfold pe; rw [ho]; rfl
      rw [hp] at h ⊢
      obtain ⟨m, hm, h1, _, h2⟩ := lk_link g ho
      rw [h1]
      exact has_uniq g.nd hm hl h2 (has_iff.mpr (.inl h.symm))
def restM (ls : List Lk) (es : List E2) : List Lk := ls.filter fun l => decide (l.1 ∉ usedM ls es)
theorem rest_eq {ls : List Lk} (g : Gd ls) {es : List E2} (hs : ∀ e ∈ es, ∃ o, peerM ls e = some o) : (ls.filter fun l => decide (l ∉ goneM ls es)) = restM ls es := by
  unfold restM
  refine List.filter_congr fun l hl => ?_
  rw [decide_eq_decide]
  exact not_congr (gone_used g hs hl)
/-- the ways by a tree, none or one -/
def waysM (ls : List Lk) (to : Int) : List (List E2) := if to ∈ (treeM ls).1 then [wayM (treeM ls).2 to] else []
def twoM (ls : List Lk) (to : Int) : List (List E2) := if to ∈ (treeM ls).1 then [wayM (treeM ls).2 to] ++ waysM (restM ls (wayM (treeM ls).2 to)) to else []
theorem Gd.rest {ls : List Lk} (g : Gd ls) (es : List E2) : Gd (restM ls es) := g.sub List.filter_sublist
theorem tree_ti (ls : List Lk) : TI ls (treeM ls) := TI.row ls 8
theorem way_peers {ls : List Lk} {to : Int} : ∀ e ∈ wayM (treeM ls).2 to, ∃ o, peerM ls e = some o := fun e he => by
  obtain ⟨o, ho, _⟩ := way_some (tree_ti ls) 9 to e he
  exact ⟨o, ho⟩
theorem wayN_len (par : Par) : ∀ (n : Nat) (t : Int), (wayN par n t).length ≤ n
  | 0, _ => Nat.le_refl _
  | n + 1, t => by
    rw [wayN_s]
    split
    · exact Nat.zero_le _
    · cases getP par t with
      | none => exact Nat.zero_le _
      | some e =>
        show (wayN par n e.1 ++ [e]).length ≤ _
        rw [List.length_append]
        have := wayN_len par n e.1
        simp
        omega
local macro_rules | `(tactic| walk_at "v") => `(tactic| first | exact v0 | exact v1 | exact v2 | exact v3 | exact v4 | exact v5 | exact v6 | exact v7 | exact v8)
local macro_rules | `(tactic| walk_at "vs") => `(tactic| first | exact st0 | exact st1 | exact st2 | exact st3 | exact st4 | exact st5 | exact st6 | exact st7 | exact st8)
local macro_rules | `(tactic| walk_at "s") => `(tactic| first
  | with_reducible refine w_dget ?_
  | ((with_reducible refine' w_dgetZ ?h ?nd ?hk ?hv ?_); (case h => walk_at "g"); (case nd => walk_at "nd"); (case hk => walk_at "k"); (case hv => walk_at "v"))
  | ((with_reducible refine' w_dputZ ?hs ?h ?nd ?hk ?hv ?hu ?hl ?_); (case hs => assumption); (case h => walk_at "p"); (case nd => walk_at "nd"); (case hk => walk_at "k"); (case hv => walk_at "v"); (case hu => walk_at "vs"); (case hl => decide); intro _ _)
  | with_reducible refine w_gsub ?_
  | with_reducible refine w_setD ?_
  | with_reducible refine w_disp ?_
  | ((with_reducible refine' w_newP ?hs ?_); (case hs => assumption); intro _ _ _)
  | with_reducible refine w_pcons ?_
  | with_reducible refine w_pnil ?_)

local macro_rules | `(tactic| walk_at "s") => `(tactic| first
  | with_reducible refine w_nget ?_
  | with_reducible refine w_nin ?_
  | with_reducible refine w_nnot ?_
  | with_reducible refine w_nput ?_
  | with_reducible refine w_ndel ?_
  | with_reducible refine w_npop ?_
  | ((with_reducible refine' w_nnew ?hs ?_); (case hs => assumption); intro _ _ _))

/-! ## dicts whose keys are switches -/
def ins (f : List Int) (n : Int) : List Int := if n ∈ f then f else f ++ [n]
theorem valV_mem {n : Int} : ∀ {kvs : List (Key × V)} {f : List Int}, kvs.map (·.1) = f.map Sum.inl → (valV kvs (Sum.inl n)).isSome = decide (n ∈ f)
  | [], [], _ => by simp [valV]
  | [], _ :: _, h => by cases h
  | _ :: _, [], h => by cases h
  | kv :: kvs, x :: f, h => by
    rw [List.map_cons, List.map_cons] at h
    injection h with h1 h2
    have ih := valV_mem (n := n) h2
    unfold valV at ih ⊢
    rw [List.find?_cons]
    by_cases hx : x = n
    · subst hx
      have e1 : decide (kv.1 = Sum.inl x) = true := decide_eq_true h1
      rw [e1]
      simp
    · have e1 : decide (kv.1 = Sum.inl n) = false := decide_eq_false fun z => hx (Sum.inl.inj (h1.symm.trans z))
      rw [e1]
      show (Option.map _ (List.find? _ kvs)).isSome = _
      rw [ih, decide_eq_decide]
      simp [Ne.symm hx]
theorem put_keys {n : Int} {v : V} {kvs : List (Key × V)} {f : List Int} (h : kvs.map (·.1) = f.map Sum.inl) : (putK kvs (Sum.inl n) v).map (·.1) = (ins f n).map Sum.inl := by
  have hm := valV_mem (n := n) h
  unfold ins
  by_cases hn : n ∈ f
  · rw [if_pos hn]
    rw [decide_eq_true hn] at hm
    have ha : (kvs.any fun kv => decide (kv.1 = (Sum.inl n : Key))) = true := by
      unfold valV at hm
      rw [Option.isSome_map, List.find?_isSome] at hm
      obtain ⟨x, hx, hxx⟩ := hm
      exact List.any_eq_true.mpr ⟨x, hx, hxx⟩
    unfold putK
    rw [if_pos ha, List.map_map, ← h]
    refine List.map_congr_left fun kv _ => ?_
    show (if kv.1 = Sum.inl n then (kv.1, v) else kv).1 = kv.1
    split <;> rfl
  · rw [if_neg hn]
    rw [decide_eq_false hn] at hm
    rw [putK_new v (Option.not_isSome_iff_eq_none.mp (by rw [hm]; decide)), List.map_append, List.map_append, h]
    rfl
theorem Near.link {ls : List Lk} {s : Int} {f : List Int} (h : Near ls s f) {l : Lk} (hl : l ∈ ls) (hx : ¬ decide (l.1.1 ∈ f) = decide (l.2.1 ∈ f)) : Near ls s (ins (ins f l.1.1) l.2.1) ∧ (ins (ins f l.1.1) l.2.1).length = f.length + 1 := by
  by_cases h1 : l.1.1 ∈ f
  · have h2 : l.2.1 ∉ f := fun z => hx (by rw [decide_eq_true h1, decide_eq_true z])
    have e : ins (ins f l.1.1) l.2.1 = f ++ [l.2.1] := by
      unfold ins
      rw [if_pos h1, if_neg h2]
    rw [e]
    exact ⟨h.add h1 h2 ⟨l, hl, .inl ⟨rfl, rfl⟩⟩, by simp⟩
  · have h2 : l.2.1 ∈ f := by
      by_cases z : l.2.1 ∈ f
      · exact z
      · exact absurd (by rw [decide_eq_false h1, decide_eq_false z]) hx
    have e : ins (ins f l.1.1) l.2.1 = f ++ [l.1.1] := by
      unfold ins
      rw [if_neg h1, if_pos (List.mem_append_left _ h2)]
    rw [e]
    exact ⟨h.add h2 h1 ⟨l, hl, .inr ⟨rfl, rfl⟩⟩, by simp⟩
theorem pw_lt {ys : List Int} (nd : ys.Nodup) (h : ys.Pairwise (· ≤ ·)) : ys.Pairwise (· < ·) := by
  refine List.Pairwise.imp₂ (R := (· ≤ ·)) (S := (· ≠ ·)) (fun x y h1 h2 => ?_) h nd
  omega
section
variable {P : Program} [IsP P] {w : World} {K : PySem.W.Frag} {mg : Str → Option Value} {base : Heap} {a : Ad}
def nearP (ls : List Lk) (s : Int) (ys : List Int) : Prop := ys.Pairwise (· < ·) ∧ ∀ x, x ∈ ys ↔ Rch ls s x
theorem near_uniq {ls : List Lk} {s : Int} {ys zs : List Int} (h1 : nearP ls s ys) (h2 : nearP ls s zs) : ys = zs := K04.sorted_uniq h1.1 h2.1 fun x => (h1.2 x).trans (h2.2 x).symm
def spN : Sp := fun vs H Q _ => ∃ (r : Addr) (us : List V) (ls : List Lk) (s : Int), vs = [.ref r, .int s] ∧ H r = some (.lst us) ∧ LkL H us ls ∧ Gd ls ∧ (1 ≤ s ∧ s ≤ 6) ∧ ∀ l ys H', Hs H [(l, .lst (ys.map V.int))] H' → nearP ls s ys → Q (.ref l) H'
theorem ok_reached (T : Txt w K mg a) : FnOk P w K mg base CX0 1 a.reached a.fd_reached ["links", "switch"] spN := by
  refine T.fn_reached.ok sc_reached (fun vs H Q E h => ?_) (fun cdv A outer s H vs Q E hr h => ?_)
  · obtain ⟨_, _, _, _, rfl, _⟩ := h
    rfl
  · obtain ⟨r, us, ls, s0, rfl, hr0, hL, gd, hs0, k⟩ := h
    have hu := hu_of hr
    refine ⟨_, (pss_cons (ps_set (i := 2) sc_reached.nd rfl (Or.inl rfl) (pe_disp (pps_cons (pv 1) pe_bl pps_nil) (by rfl) (by rfl) (fun z => by cases z) (by decide)))
  (pss_cons (ps_set (i := 3) sc_reached.nd rfl (Or.inl rfl) pe_bl)
  (pss_cons (ps_while PassesOwn.never (pt_val (pv 3))
  (pss_cons (ps_set (i := 3) sc_reached.nd rfl (Or.inl rfl) pe_bl)
  (pss_one (ps_for PassesOwn.never rfl (pi_listK (K := K) (pv 0)) (pg_tupK (K := K) rfl (pgs_cons (pg_name (i := 4) sc_reached.nd rfl (Or.inl rfl)) (pgs_cons (pg_name (i := 5) sc_reached.nd rfl (Or.inl rfl)) pgs_nil)))
  (pss_one (ps_if (pt_cmpR op_ne (pe_cmp (pc_din hu (pe_ix (ix_tupK (K := K)) (pv 4) pe_int (fun _ _ => rfl)) (pv 2)) rfl) (pe_cmp (pc_din hu (pe_ix (ix_tupK (K := K)) (pv 5) pe_int (fun _ _ => rfl)) (pv 2)) rfl) (nomark _))
  (pss_cons (ps_dput hu (pv 2) (pe_ix (ix_tupK (K := K)) (pv 4) pe_int (fun _ _ => rfl)) pe_bl rfl)
  (pss_cons (ps_dput hu (pv 2) (pe_ix (ix_tupK (K := K)) (pv 5) pe_int (fun _ _ => rfl)) pe_bl rfl)
  (pss_one (ps_set (i := 3) sc_reached.nd rfl (Or.inl rfl) pe_bl))))
  pss_nil))))))
  (pss_one (ps_ret (pe_callB (call_sortedDI rfl) (by rfl) T.mg_sorted (by decide +kernel) (pa_cons (pv 2) pa_nil))))))), ?_⟩
    have hs := Hs.start H
    walk_at "ss"
    rename_i dd H1 hs1
    refine ⟨hs1.g0, [(Sum.inl s0, .bl true)], rfl, by simp, ?_⟩
    have hs2 : Hs H [(dd, .dK [(Sum.inl s0, .bl true)])] (upd H1 dd (.dK (mergeK [] [(Sum.inl s0, .bl true)]))) := hs1.p0 _
    generalize (upd H1 dd (.dK (mergeK [] [(Sum.inl s0, .bl true)]))) = H2 at hs2 ⊢
    clear hs hs1
    walk_at "ss"
    refine w_while (fun m σ H' => ∃ (f : List Int) (kvs : List (Key × V)) (gr : Bool) (v4 v5 : Option V), σ = [some (.ref r), some (.int s0), some (.ref dd), some (.bl gr), v4, v5] ∧ kvs.map (·.1) = f.map Sum.inl ∧ Near ls s0 f ∧ Hs H [(dd, .dK kvs)] H' ∧ (gr = false → closedF ls f) ∧ m = 2 * (7 - f.length) + (if gr then 1 else 0)) _ ⟨[s0], _, true, none, none, rfl, rfl, Near.one ls s0, hs2, (fun z => nomatch z), rfl⟩ ?_
    clear hs2 H2
    rintro m σ H2 ⟨f, kvs, gr, v4, v5, rfl, hk, nr, hs2, hc, rfl⟩
    walk_at "ss"
    cases gr with
    | false =>
      refine iteF ?_
      walk_at "ss"
      have hkz : kvs.length = f.length := by
        have := congrArg List.length hk
        simpa using this
      have hf6 := nr.few gd hs0
      refine ⟨dd, kvs, f, rfl, .inl hs2.g0, hk, by omega, fun ys p hp ho hn => ?_⟩
      refine k p ys _ ((hs2.new hn).sel [0]) ⟨pw_lt (hp.nodup_iff.mpr nr.nd) ho, fun x => ?_⟩
      rw [hp.mem_iff]
      exact nr.all (hc rfl)
    | true =>
      refine iteT ?_
      walk_at "ss"
      show tFor (iList K (tVar 0)) _ _ _ [some (.ref r), some (.int s0), some (.ref dd), some (.bl false), v4, v5] _
      refine w_forL (SqL.of (hs2.old hr0)) (fun i σ H' => ∃ (f' : List Int) (kvs : List (Key × V)) (gr : Bool) (v4 v5 : Option V), σ = [some (.ref r), some (.int s0), some (.ref dd), some (.bl gr), v4, v5] ∧ kvs.map (·.1) = f'.map Sum.inl ∧ Near ls s0 f' ∧ Hs H [(dd, .dK kvs)] H' ∧
          ((gr = false ∧ f' = f ∧ ∀ l ∈ ls.take i, okL f l) ∨ (gr = true ∧ f.length < f'.length))) (fun Q q => ⟨_, rfl, q⟩) ⟨f, kvs, false, v4, v5, rfl, hk, nr, hs2, .inl ⟨rfl, rfl, fun _ z => nomatch z⟩⟩ (fun i σ H' _ ⟨_, _, _, _, _, _, _, _, hs, _⟩ => SqL.of (hs.old hr0)) ?_ ?_
      · clear hs2 hk v4 v5 kvs
        rintro i y σ H3 hi ⟨f', kvs, gr, v4, v5, rfl, hk, nr', hs3, hcase⟩
        obtain ⟨t, l, rfl, hli, hnk⟩ := LkL.get hL hi
        obtain ⟨p, q, ht, hp, hq⟩ := nk_link hnk
        have hlm : l ∈ ls := List.mem_of_getElem? hli
        have ht' := hs3.old ht
        have hp' : H3 p = some (.tup [.int l.1.1, .int l.1.2]) := hs3.old hp
        have hq' : H3 q = some (.tup [.int l.2.1, .int l.2.2]) := hs3.old hq
        have hkz : kvs.length = f'.length := by
          have := congrArg List.length hk
          simpa using this
        have hf6 := nr'.few gd hs0
        walk_at "ss"
        rw [valV_mem hk, valV_mem hk]
        by_cases he : decide (l.1.1 ∈ f') = decide (l.2.1 ∈ f')
        · rw [decide_eq_true he, Bool.not_true]
          refine iteF ?_
          walk_at "ss"
          refine ⟨f', kvs, gr, _, _, rfl, hk, nr', hs3, ?_⟩
          refine hcase.imp (fun ⟨h1, h2, h3⟩ => ⟨h1, h2, fun l' hl' => ?_⟩) fun z => z
          rw [List.take_add_one, hli] at hl'
          rcases List.mem_append.mp hl' with hl' | hl'
          · exact h3 l' hl'
          · rw [Option.toList_some, List.mem_singleton] at hl'
            subst hl' h2
            exact decide_eq_decide.mp he
        · rw [decide_eq_false he, Bool.not_false]
          refine iteT ?_
          walk_at "ss"
          rename_i H4 hs4
          have hk4 := put_keys (n := l.1.1) (v := .bl true) hk
          have hp4 : H4 q = some (.tup [.int l.2.1, .int l.2.2]) := hs4.old hq
          walk_at "ss"
          have hkz4 := congrArg List.length hk4
          rw [List.length_map, List.length_map] at hkz4
          have hinsz : (ins f' l.1.1).length ≤ f'.length + 1 := by
            unfold ins
            split
            · omega
            · simp
          refine w_dputI (kvs := putK kvs (Sum.inl l.1.1) (.bl true)) hs4 .here (szl (by omega)) fun H5 hs5 => ?_
          walk_at "ss"
          obtain ⟨nr5, hlen⟩ := nr'.link hlm he
          refine ⟨_, _, true, _, _, rfl, put_keys hk4, nr5, hs5, .inr ⟨rfl, ?_⟩⟩
          rw [hlen]
          rcases hcase with ⟨_, rfl, _⟩ | ⟨_, h⟩
          · omega
          · omega
      · clear hs2 hk v4 v5 kvs
        rintro σ H3 ⟨f', kvs, gr, v4, v5, rfl, hk, nr', hs3, hcase⟩
        have h6 := nr'.few gd hs0
        rcases hcase with ⟨rfl, rfl, hall⟩ | ⟨rfl, hlt⟩
        · refine ⟨_, ?_, f', kvs, false, v4, v5, rfl, hk, nr', hs3, fun _ => ?_, rfl⟩
          · simp
          · rw [LkL.len hL, List.take_length] at hall
            exact hall
        · refine ⟨_, ?_, f', kvs, true, v4, v5, rfl, hk, nr', hs3, (fun z => nomatch z), rfl⟩
          have h6' := nr.few gd hs0
          simp
          omega
end
local macro_rules | `(tactic| walk_at "v") => `(tactic| first | exact v0 | exact v1 | exact v2 | exact v3 | exact v4 | exact v5 | exact v6 | exact v7 | exact v8)
local macro_rules | `(tactic| walk_at "vs") => `(tactic| first | exact st0 | exact st1 | exact st2 | exact st3 | exact st4 | exact st5 | exact st6 | exact st7 | exact st8)
local macro_rules | `(tactic| walk_at "s") => `(tactic| first
  | with_reducible refine w_dget ?_
  | ((with_reducible refine' w_dgetZ ?h ?nd ?hk ?hv ?_); (case h => walk_at "g"); (case nd => walk_at "nd"); (case hk => walk_at "k"); (case hv => walk_at "v"))
  | ((with_reducible refine' w_dputZ ?hs ?h ?nd ?hk ?hv ?hu ?hl ?_); (case hs => assumption); (case h => walk_at "p"); (case nd => walk_at "nd"); (case hk => walk_at "k"); (case hv => walk_at "v"); (case hu => walk_at "vs"); (case hl => decide); intro _ _)
  | with_reducible refine w_gsub ?_
  | with_reducible refine w_setD ?_
  | with_reducible refine w_disp ?_
  | ((with_reducible refine' w_newP ?hs ?_); (case hs => assumption); intro _ _ _)
  | with_reducible refine w_pcons ?_
  | with_reducible refine w_pnil ?_)

local macro_rules | `(tactic| walk_at "s") => `(tactic| first
  | with_reducible refine w_nget ?_
  | with_reducible refine w_nin ?_
  | with_reducible refine w_nnot ?_
  | with_reducible refine w_nput ?_
  | with_reducible refine w_ndel ?_
  | with_reducible refine w_npop ?_
  | ((with_reducible refine' w_nnew ?hs ?_); (case hs => assumption); intro _ _ _))

/-! ## what the law finds by spreading -/
theorem ok_of {ls : List Lk} {f : List Int} {i : Nat} {l : Lk} (hli : ls[i]? = some l) (h : ∀ l ∈ ls.take i, okL f l) (hl : okL f l) : ∀ l ∈ ls.take (i + 1), okL f l := fun l' h' => by
  rw [List.take_add_one, hli] at h'
  rcases List.mem_append.mp h' with h' | h'
  · exact h l' h'
  · rw [Option.toList_some, List.mem_singleton] at h'
    subst h'
    exact hl
theorem near_step {ls : List Lk} {s : Int} {f f0 : List Int} {x y : Int} (nr : Near ls s f) (h1 : x ∈ f) (h2 : y ∉ f) (hadj : adj ls x y) (hn : x ∈ f0 → y ∉ f0 → ¬ closedF ls f0) (hc : f = f0 ∨ (¬ closedF ls f0 ∧ f0.length < f.length)) : Near ls s (f ++ [y]) ∧ ¬ closedF ls f0 ∧ f0.length < (f ++ [y]).length := by
  refine ⟨nr.add h1 h2 hadj, ?_⟩
  rcases hc with rfl | ⟨h3, h4⟩
  · exact ⟨hn h1 h2, by simp⟩
  · exact ⟨h3, by rw [List.length_append]; omega⟩
section
variable {P : Program} [IsP P] {w : World} {K : PySem.W.Frag} {mg : Str → Option Value} {base : Heap} {a : Ad}
theorem ok__law_near (T : Txt w K mg a) : FnOk P w K mg base CX0 1 a._law_near a.fd__law_near ["links", "switch"] spN := by
  refine T.fn__law_near.ok sc__law_near (fun vs H Q E h => ?_) (fun cdv A outer s H vs Q E hr h => ?_)
  · obtain ⟨_, _, _, _, rfl, _⟩ := h
    rfl
  · obtain ⟨r, us, ls, s0, rfl, hr0, hL, gd, hs0, k⟩ := h
    refine ⟨_, (pss_cons (ps_set (i := 2) sc__law_near.nd rfl (Or.inl rfl) (pe_lst (pa_cons (pv 1) pa_nil)))
  (pss_cons (ps_for PassesOwn.never rfl (pi_range1 rfl T.mg_range (pa_cons pe_int pa_nil)) (pg_name (i := 3) sc__law_near.nd rfl (Or.inl rfl))
  (pss_one (ps_for PassesOwn.never rfl (pi_listK (K := K) (pv 0)) (pg_tupK (K := K) rfl (pgs_cons (pg_name (i := 4) sc__law_near.nd rfl (Or.inl rfl)) (pgs_cons (pg_name (i := 5) sc__law_near.nd rfl (Or.inl rfl)) pgs_nil)))
  (pss_one (ps_for PassesOwn.never rfl (pi_tupK (K := K) (pe_tup (pa_cons (pe_tup (pa_cons (pv 4) (pa_cons (pv 5) pa_nil))) (pa_cons (pe_tup (pa_cons (pv 5) (pa_cons (pv 4) pa_nil))) pa_nil)))) (pg_tupK (K := K) rfl (pgs_cons (pg_name (i := 6) sc__law_near.nd rfl (Or.inl rfl)) (pgs_cons (pg_name (i := 7) sc__law_near.nd rfl (Or.inl rfl)) pgs_nil)))
  (pss_one (ps_if (PW.pt (pw_and (pt_cmpR (op_inK (K := K)) (pe_ix (ix_tupK (K := K)) (pv 6) pe_int (fun _ _ => rfl)) (pv 2) (by rfl)) (pw_and1 (pt_cmpR (op_niK (K := K)) (pe_ix (ix_tupK (K := K)) (pv 7) pe_int (fun _ _ => rfl)) (pv 2) (by rfl)))))
  (pss_one (ps_expr (pe_bmK (K := K) PySem.F.plainAttrs_list PySem.F.slot_list_append PySem.F.type_list_append mt_append (pv 2) (pa_cons (pe_ix (ix_tupK (K := K)) (pv 7) pe_int (fun _ _ => rfl)) pa_nil))))
  pss_nil)))))))
  (pss_one (ps_ret (pe_callB (cr_sortedIK (K := K)) (by rfl) T.mg_sorted (by decide +kernel) (pa_cons (pv 2) pa_nil)))))), ?_⟩
    have hs := Hs.start H
    walk_at "ss"
    rename_i fl H1 hs1
    clear hs
    refine w_forR (n := 8) (by decide) (fun i σ H' => ∃ (f : List Int) (v3 v4 v5 v6 v7 : Option V), σ = [some (.ref r), some (.int s0), some (.ref fl), v3, v4, v5, v6, v7] ∧ Near ls s0 f ∧ Hs H [(fl, .lst (f.map V.int))] H' ∧ (closedF ls f ∨ i + 1 ≤ f.length))
      (fun Q' q => q) (by decide) ⟨[s0], _, _, _, _, _, rfl, Near.one ls s0, hs1, .inr (Nat.le_refl _)⟩ ?_ ?_
    · clear hs1 H1
      rintro i σ H1 hi ⟨f0, v3, v4, v5, v6, v7, rfl, nr0, hs1, hc⟩
      walk_at "ss"
      refine w_forL (SqL.of (hs1.old hr0)) (fun j σ H' => ∃ (f : List Int) (v4 v5 v6 v7 : Option V), σ = [some (.ref r), some (.int s0), some (.ref fl), some (.int (i : Int)), v4, v5, v6, v7] ∧ Near ls s0 f ∧ Hs H [(fl, .lst (f.map V.int))] H' ∧
          ((f = f0 ∧ ∀ l ∈ ls.take j, okL f0 l) ∨ (¬ closedF ls f0 ∧ f0.length < f.length))) (fun Q q => ⟨_, rfl, q⟩) ⟨f0, v4, v5, v6, v7, rfl, nr0, hs1, .inl ⟨rfl, fun _ z => nomatch z⟩⟩ (fun i σ H' _ ⟨_, _, _, _, _, _, _, hs, _⟩ => SqL.of (hs.old hr0)) ?_ ?_
      · clear hs1 v4 v5 v6 v7
        rintro j y σ H2 hj ⟨f, v4, v5, v6, v7, rfl, nr, hs2, hcase⟩
        obtain ⟨t, l, rfl, hli, hnk⟩ := LkL.get hL hj
        obtain ⟨p, q, ht, hp, hq⟩ := nk_link hnk
        have hlm : l ∈ ls := List.mem_of_getElem? hli
        have ht' := hs2.old ht
        walk_at "ss"
        refine w_forTF ?_
        walk_at "ss"
        rename_i t1 H3 _ t2 H4 _ t3 H5 hs5
        refine w_tupR (SqT.of hs5.g0) ?_
        refine for_tupR (fun k σ H' => ∃ (f : List Int) (v6 v7 : Option V), σ = [some (.ref r), some (.int s0), some (.ref fl), some (.int (i : Int)), some (.ref p), some (.ref q), v6, v7] ∧ Near ls s0 f ∧ Hs H [(t3, .tup [.ref t1, .ref t2]), (t2, .tup [.ref q, .ref p]), (t1, .tup [.ref p, .ref q]), (fl, .lst (f.map V.int))] H' ∧
          ((f = f0 ∧ (∀ l ∈ ls.take j, okL f0 l) ∧ (1 ≤ k → (l.1.1 ∈ f → l.2.1 ∈ f)) ∧ (2 ≤ k → (l.2.1 ∈ f → l.1.1 ∈ f))) ∨ (¬ closedF ls f0 ∧ f0.length < f.length)))
          ⟨f, v6, v7, rfl, nr, hs5, hcase.imp (fun ⟨z1, z2⟩ => ⟨z1, z2, fun z => by omega, fun z => by omega⟩) fun z => z⟩ (fun k σ H' _ ⟨_, _, _, _, _, hs, _⟩ => SqT.of hs.g0) ?_ ?_
        · clear hs5 hs2 hcase nr
          rintro k x σ H6 hk ⟨f, v6, v7, rfl, nr, hs6, hcase⟩
          have hf6 := nr.few gd hs0
          have hpp : H6 p = some (.tup [.int l.1.1, .int l.1.2]) := hs6.old hp
          have hqq : H6 q = some (.tup [.int l.2.1, .int l.2.2]) := hs6.old hq
          match k, hk with
          | 0, hk =>
            cases hk
            walk_at "ss"
            refine w_inIs (SqL.of (by walk_at "g")) ?_
            refine ⟨_, rfl, ifd (fun h1 => ?_) (fun h1 => ?_)⟩
            · walk_at "ss"
              refine w_inIs (SqL.of (by walk_at "g")) ?_
              refine ⟨_, rfl, ?_⟩
              show if (!decide (l.2.1 ∈ f)) = true then _ else _
              by_cases h2 : l.2.1 ∈ f
              · rw [decide_eq_true h2, Bool.not_true]
                refine iteF ?_
                walk_at "ss"
                refine ⟨f, _, _, rfl, nr, hs6, hcase.imp (fun ⟨z1, z2, z3, z4⟩ => ⟨z1, z2, fun _ _ => h2, fun z => by omega⟩) fun z => z⟩
              · rw [decide_eq_false h2, Bool.not_false]
                refine iteT ?_
                have hfz : (f.map V.int).length < sizeLine := szl (by rw [List.length_map]; omega)
                walk_at "ss"
                obtain ⟨nr7, hlt7⟩ := near_step (f0 := f0) nr h1 h2 ⟨l, hlm, .inl ⟨rfl, rfl⟩⟩ (fun z1 z2 z => z2 ((z l hlm).mp z1)) (hcase.imp And.left fun z => z)
                refine ⟨f ++ [l.2.1], _, _, rfl, nr7, ?_, .inr hlt7⟩
                rw [List.map_append]
                assumption
            · walk_at "ss"
              refine ⟨f, _, _, rfl, nr, hs6, hcase.imp (fun ⟨z1, z2, z3, z4⟩ => ⟨z1, z2, fun _ z => absurd z h1, fun z => by omega⟩) fun z => z⟩
          | 1, hk =>
            cases hk
            walk_at "ss"
            refine w_inIs (SqL.of (by walk_at "g")) ?_
            refine ⟨_, rfl, ifd (fun h1 => ?_) (fun h1 => ?_)⟩
            · walk_at "ss"
              refine w_inIs (SqL.of (by walk_at "g")) ?_
              refine ⟨_, rfl, ?_⟩
              show if (!decide (l.1.1 ∈ f)) = true then _ else _
              by_cases h2 : l.1.1 ∈ f
              · rw [decide_eq_true h2, Bool.not_true]
                refine iteF ?_
                walk_at "ss"
                refine ⟨f, _, _, rfl, nr, hs6, hcase.imp (fun ⟨z1, z2, z3, z4⟩ => ⟨z1, z2, fun _ => z3 (by omega), fun _ _ => h2⟩) fun z => z⟩
              · rw [decide_eq_false h2, Bool.not_false]
                refine iteT ?_
                have hfz : (f.map V.int).length < sizeLine := szl (by rw [List.length_map]; omega)
                walk_at "ss"
                obtain ⟨nr7, hlt7⟩ := near_step (f0 := f0) nr h1 h2 ⟨l, hlm, .inr ⟨rfl, rfl⟩⟩ (fun z1 z2 z => z2 ((z l hlm).mpr z1)) (hcase.imp And.left fun z => z)
                refine ⟨f ++ [l.1.1], _, _, rfl, nr7, ?_, .inr hlt7⟩
                rw [List.map_append]
                assumption
            · walk_at "ss"
              refine ⟨f, _, _, rfl, nr, hs6, hcase.imp (fun ⟨z1, z2, z3, z4⟩ => ⟨z1, z2, fun _ => z3 (by omega), fun _ z => absurd z h1⟩) fun z => z⟩
          | k + 2, hk => simp at hk
        · clear hs5 hs2 hcase nr
          rintro σ H6 ⟨f, v6, v7, rfl, nr, hs6, hcase⟩
          refine ⟨f, _, _, _, _, rfl, nr, hs6.sel [3], hcase.imp (fun ⟨z1, z2, z3, z4⟩ => ⟨z1, ok_of hli z2 ?_⟩) fun z => z⟩
          subst z1
          exact ⟨z3 (show 1 ≤ 2 by decide), z4 (show 2 ≤ 2 by decide)⟩
      · clear hs1 v4 v5 v6 v7
        rintro σ H2 ⟨f, v4, v5, v6, v7, rfl, nr, hs2, hcase⟩
        refine ⟨f, _, _, _, _, _, rfl, nr, hs2, ?_⟩
        rcases hcase with ⟨rfl, hall⟩ | ⟨hn, hlt⟩
        · rw [LkL.len hL, List.take_length] at hall
          exact .inl hall
        · exact .inr (by have := hc.resolve_left hn; omega)
    · clear hs1 H1
      rintro σ H1 ⟨f, v3, v4, v5, v6, v7, rfl, nr, hs1, hc⟩
      have hf6 := nr.few gd hs0
      have hc' : closedF ls f := hc.resolve_right (by
        have : (8 : Int).toNat = 8 := rfl
        omega)
      walk_at "ss"
      refine ⟨fl, f, rfl, SqL.of hs1.g0, fun ys p hp ho hn => ?_⟩
      refine k p ys _ ((hs1.new hn).sel [0]) ⟨pw_lt (hp.nodup_iff.mpr nr.nd) ho, fun x => ?_⟩
      rw [hp.mem_iff]
      exact nr.all hc'
end
local macro_rules | `(tactic| walk_at "v") => `(tactic| first | exact v0 | exact v1 | exact v2 | exact v3 | exact v4 | exact v5 | exact v6 | exact v7 | exact v8)
local macro_rules | `(tactic| walk_at "vs") => `(tactic| first | exact st0 | exact st1 | exact st2 | exact st3 | exact st4 | exact st5 | exact st6 | exact st7 | exact st8)
local macro_rules | `(tactic| walk_at "s") => `(tactic| first
  | with_reducible refine w_dget ?_
  | ((with_reducible refine' w_dgetZ ?h ?nd ?hk ?hv ?_); (case h => walk_at "g"); (case nd => walk_at "nd"); (case hk => walk_at "k"); (case hv => walk_at "v"))
  | ((with_reducible refine' w_dputZ ?hs ?h ?nd ?hk ?hv ?hu ?hl ?_); (case hs => assumption); (case h => walk_at "p"); (case nd => walk_at "nd"); (case hk => walk_at "k"); (case hv => walk_at "v"); (case hu => walk_at "vs"); (case hl => decide); intro _ _)
  | with_reducible refine w_gsub ?_
  | with_reducible refine w_setD ?_
  | with_reducible refine w_disp ?_
  | ((with_reducible refine' w_newP ?hs ?_); (case hs => assumption); intro _ _ _)
  | with_reducible refine w_pcons ?_
  | with_reducible refine w_pnil ?_)

local macro_rules | `(tactic| walk_at "s") => `(tactic| first
  | with_reducible refine w_nget ?_
  | with_reducible refine w_nin ?_
  | with_reducible refine w_nnot ?_
  | with_reducible refine w_nput ?_
  | with_reducible refine w_ndel ?_
  | with_reducible refine w_npop ?_
  | ((with_reducible refine' w_nnew ?hs ?_); (case hs => assumption); intro _ _ _))

theorem w_inL {K : PySem.W.Frag} {H : Hp} {Q : VK} {e t : Addr} {x : E2} {l : Lk} (he : H e = some (endO x)) (hk : NK H (lkK l) (.ref t)) (k : Q (.bl (has x l)) H) : rInDT K false (.ref e) (.ref t) H Q := by
  have h2 : Im K H (.ref t) (lkK l).data := hk.im
  rw [lk_data] at h2
  refine ⟨_, _, dp_end he, h2.dp, shp_end x, by simp [SeqAt.shaped, PyData.canLay0, PyData.canLayAll0, PyData.depth, PyData.depthAll], ?_⟩
  have e1 : (([PyData.tuple [.int l.1.1, .int l.1.2], .tuple [.int l.2.1, .int l.2.2]] : List PyData).any fun z => PyData.eqv z (.tuple [.int x.1, .int x.2])) = has x l := by
    rw [List.any_cons, List.any_cons, List.any_nil, eqv_end, eqv_end, Bool.or_false]
  rw [e1]
  exact k
section
variable {P : Program} [IsP P] {w : World} {K : PySem.W.Frag} {mg : Str → Option Value} {base : Heap} {a : Ad}
/-! ## the law's peer -/
def sp__law_peer : Sp := fun vs H Q _ => ∃ (r e : Addr) (us : List V) (ls : List Lk) (x : E2), vs = [.ref r, .ref e] ∧ H r = some (.lst us) ∧ LkL H us ls ∧ H e = some (endO x) ∧ ∀ v H', Same H H' → OptE H v (peerM ls x) → Q v H'
theorem ok__law_peer (T : Txt w K mg a) : FnOk P w K mg base CX0 1 a._law_peer a.fd__law_peer ["links", "end"] sp__law_peer := by
  refine T.fn__law_peer.ok sc__law_peer (fun vs H Q E h => ?_) (fun cdv A outer s H vs Q E hr h => ?_)
  · obtain ⟨_, _, _, _, _, rfl, _⟩ := h
    rfl
  · obtain ⟨r, e, us, ls, x, rfl, hr0, hL, he, k⟩ := h
    refine ⟨_, (pss_cons (ps_for PassesOwn.never rfl (pi_listK (K := K) (pv 0)) (pg_tupK (K := K) rfl (pgs_cons (pg_name (i := 2) sc__law_peer.nd rfl (Or.inl rfl)) (pgs_cons (pg_name (i := 3) sc__law_peer.nd rfl (Or.inl rfl)) pgs_nil)))
  (pss_one (ps_if (pt_cmpR (op_inDT (K := K) (r65 hr)) (pv 1) (pe_tup (pa_cons (pv 2) (pa_cons (pv 3) pa_nil))) (by rfl))
  (pss_one (ps_ret (pe_ifExp (pt_cmpR (op_eqDK (K := K) hr.units) (pv 1) (pv 2) (nomark _)) (pv 3) (pv 2))))
  pss_nil)))
  (pss_one (ps_ret pe_non))), ?_⟩
    walk_at "ss"
    refine w_forL (SqL.of hr0) (fun i σ H' => Hs H [] H' ∧ ∃ v2 v3, σ = [some (.ref r), some (.ref e), v2, v3] ∧ (ls.take i).find? (has x) = none) (fun Q q => ⟨_, rfl, q⟩) ⟨Hs.start H, none, none, rfl, rfl⟩ (fun i σ H' _ ⟨e, _⟩ => SqL.of (e.old hr0)) ?_ ?_
    · rintro i y σ H1 hi ⟨hs1, v2, v3, rfl, hf⟩
      obtain ⟨t, l, rfl, hli, hk⟩ := LkL.get hL hi
      obtain ⟨p, q, ht, hp, hq⟩ := nk_link hk
      have ht1 := hs1.old ht
      walk_at "ss"
      rename_i tt H2 hs2
      refine w_inL (hs2.old he) (nk_mk (l := l) hs2.g0 (hs2.old hp) (hs2.old hq)) ?_
      refine ⟨_, rfl, ?_⟩
      cases hh : has x l with
      | true =>
        refine iteT ?_
        walk_at "ss"
        refine w_eqE (x := x) (y := l.1) (hs2.old he) (hs2.old hp) ?_
        refine ⟨_, rfl, ifd (fun h1 => ?_) (fun h1 => ?_)⟩
        · walk_at "ss"
          refine k _ _ hs2.same ?_
          unfold peerM
          rw [find_take hli hf hh]
          refine ⟨q, rfl, ?_⟩
          show H q = some (endO (if l.1 = x then l.2 else l.1))
          rw [if_pos h1.symm]
          exact hq
        · walk_at "ss"
          refine k _ _ hs2.same ?_
          unfold peerM
          rw [find_take hli hf hh]
          refine ⟨p, rfl, ?_⟩
          show H p = some (endO (if l.1 = x then l.2 else l.1))
          rw [if_neg (Ne.symm h1)]
          exact hp
      | false =>
        refine iteF ?_
        walk_at "ss"
        exact ⟨hs2.tl, _, _, rfl, find_more hli hf hh⟩
    · rintro σ H1 ⟨hs1, v2, v3, rfl, hf⟩
      walk_at "ss"
      refine k _ _ hs1.same ?_
      rw [LkL.len hL, List.take_length] at hf
      unfold peerM
      rw [hf]
      rfl
end
local macro_rules | `(tactic| walk_at "v") => `(tactic| first | exact v0 | exact v1 | exact v2 | exact v3 | exact v4 | exact v5 | exact v6 | exact v7 | exact v8)
local macro_rules | `(tactic| walk_at "vs") => `(tactic| first | exact st0 | exact st1 | exact st2 | exact st3 | exact st4 | exact st5 | exact st6 | exact st7 | exact st8)
local macro_rules | `(tactic| walk_at "s") => `(tactic| first
  | with_reducible refine w_dget ?_
  | ((with_reducible refine' w_dgetZ ?h ?nd ?hk ?hv ?_); (case h => walk_at "g"); (case nd => walk_at "nd"); (case hk => walk_at "k"); (case hv => walk_at "v"))
  | ((with_reducible refine' w_dputZ ?hs ?h ?nd ?hk ?hv ?hu ?hl ?_); (case hs => assumption); (case h => walk_at "p"); (case nd => walk_at "nd"); (case hk => walk_at "k"); (case hv => walk_at "v"); (case hu => walk_at "vs"); (case hl => decide); intro _ _)
  | with_reducible refine w_gsub ?_
  | with_reducible refine w_setD ?_
  | with_reducible refine w_disp ?_
  | ((with_reducible refine' w_newP ?hs ?_); (case hs => assumption); intro _ _ _)
  | with_reducible refine w_pcons ?_
  | with_reducible refine w_pnil ?_)

local macro_rules | `(tactic| walk_at "s") => `(tactic| first
  | with_reducible refine w_nget ?_
  | with_reducible refine w_nin ?_
  | with_reducible refine w_nnot ?_
  | with_reducible refine w_nput ?_
  | with_reducible refine w_ndel ?_
  | with_reducible refine w_npop ?_
  | ((with_reducible refine' w_nnew ?hs ?_); (case hs => assumption); intro _ _ _))

/-! ## ends, sorted, are those that are asked -/
theorem ends_perm (ls : List Lk) (s : Int) : (endsM ls s).Perm (rawEnds ls s) := by
  unfold endsM
  have h := (srtK_perm ((rawEnds ls s).map endK)).map kE
  rw [List.map_map] at h
  have e : (kE ∘ endK) = id := funext fun x => rfl
  rw [e, List.map_id] at h
  exact h
theorem ltE_iff {x y : E2} : ltE x y = true ↔ ltE' x y := by
  unfold ltE ltE'
  simp
theorem ends_asked {ls : List Lk} (g : Gd ls) (s : Int) : endsM ls s = asked ls s := by
  refine asked_uniq g (ends_perm ls s) ?_
  have nd : (endsM ls s).Nodup := (ends_perm ls s).nodup_iff.mpr (raw_nd g s)
  unfold endsM at nd ⊢
  have h := srtK_sorted ((rawEnds ls s).map endK)
  have hm : ∀ k ∈ srtK ((rawEnds ls s).map endK), k = endK (kE k) := fun k hk => by
    obtain ⟨z, _, rfl⟩ := List.mem_map.mp ((srtK_perm _).mem_iff.mp hk)
    rfl
  unfold List.Nodup at nd
  rw [List.pairwise_map] at nd ⊢
  unfold SortedK at h
  refine List.Pairwise.imp_of_mem (fun {x y} hx hy hxy => ?_) (h.and nd)
  have h1 := hxy.1
  have h2 := hxy.2
  have e1 := hm x hx
  have e2 := hm y hy
  rw [e1, e2] at h1
  have h3 : ltE (kE y) (kE x) = false := by
    rw [← lex_end]
    exact h1
  have h4 : ¬ ltE' (kE y) (kE x) := fun z => by
    rw [ltE_iff.mpr z] at h3
    cases h3
  have h5 : ¬ (kE x).1 = (kE y).1 ∨ ¬ (kE x).2 = (kE y).2 := by
    by_cases z : (kE x).1 = (kE y).1
    · right
      intro z2
      exact h2 (Prod.ext z z2)
    · exact .inl z
  unfold ltE' at h4 ⊢
  omega
/-! ## the dict of parent ends -/
abbrev ParL (H : Hp) (kvs : List (Key × V)) (par : Par) : Prop := Paired (fun kv x => kv.1 = Sum.inl x.1 ∧ EndAt H kv.2 x.2) kvs par
theorem ParL.mono {H H' : Hp} (e : ∀ p xs, H p = some (.tup xs) → H' p = some (.tup xs)) {kvs : List (Key × V)} {par : Par} (h : ParL H kvs par) : ParL H' kvs par := Paired.mapP h fun _ _ ⟨h1, h2⟩ => ⟨h1, h2.mono e⟩
theorem ParL.same {H H' : Hp} (e : Same H H') {kvs : List (Key × V)} {par : Par} (h : ParL H kvs par) : ParL H' kvs par := h.mono fun _ _ => e _ _
theorem ParL.len {H : Hp} {kvs : List (Key × V)} {par : Par} (h : ParL H kvs par) : kvs.length = par.length := Paired.length h
theorem ParL.keys {H : Hp} : ∀ {kvs : List (Key × V)} {par : Par}, ParL H kvs par → kvs.map (·.1) = (par.map (·.1)).map Sum.inl
  | _, _, .nil => rfl
  | _, _, .cons h t => by
    rw [List.map_cons, List.map_cons, List.map_cons, ParL.keys t, h.1]
theorem ParL.snoc {H : Hp} {kvs : List (Key × V)} {par : Par} {n : Int} {v : V} {e : E2} (h : ParL H kvs par) (he : EndAt H v e) : ParL H (kvs ++ [(Sum.inl n, v)]) (par ++ [(n, e)]) := paired_app h (.cons ⟨rfl, he⟩ .nil)
theorem ParL.get {H : Hp} {n : Int} : ∀ {kvs : List (Key × V)} {par : Par}, ParL H kvs par → (getP par n = none ∧ valV kvs (Sum.inl n) = none) ∨ ∃ e v, getP par n = some e ∧ valV kvs (Sum.inl n) = some v ∧ EndAt H v e
  | _, _, .nil => .inl ⟨rfl, rfl⟩
  | kv :: kvs, x :: par, .cons h t => by
    unfold getP
    obtain ⟨t0, e0⟩ := x
    rw [List.lookup_cons]
    unfold valV
    rw [List.find?_cons]
    by_cases hx : n = t0
    · subst hx
      have e1 : decide (kv.1 = Sum.inl n) = true := decide_eq_true h.1
      rw [e1]
      refine .inr ⟨e0, kv.2, ?_, rfl, h.2⟩
      simp
    · have e1 : decide (kv.1 = Sum.inl n) = false := decide_eq_false fun z => hx (Sum.inl.inj (z.symm.trans h.1))
      have e2 : (n == t0) = false := by simpa using hx
      rw [e1, e2]
      exact ParL.get t
theorem keys_none {kvs : List (Key × V)} {f : List Int} (h : kvs.map (·.1) = f.map Sum.inl) {n : Int} (hn : n ∉ f) : valV kvs (Sum.inl n) = none := by
  have := valV_mem (n := n) h
  rw [decide_eq_false hn] at this
  exact Option.not_isSome_iff_eq_none.mp (by rw [this]; decide)
section
variable {P : Program} [IsP P] {w : World} {K : PySem.W.Frag} {mg : Str → Option Value} {base : Heap} {a : Ad}
/-! ## the tree -/
def spT : Sp := fun vs H Q _ => ∃ (r : Addr) (us : List V) (ls : List Lk), vs = [.ref r] ∧ H r = some (.lst us) ∧ LkL H us ls ∧ us.length ≤ 1000 ∧ Gd ls ∧ ∀ d kvs H', Hs H [(d, .dK kvs)] H' → ParL H' kvs (treeM ls).2 → Q (.ref d) H'
theorem ok_tree (T : Txt w K mg a) : FnOk P w K mg base CX0 2 a.tree a.fd_tree ["links"] spT := by
  have G_ends_at := ok_ends_at (P := P) (w := w) (base := base) T
  have G_peer := ok_peer (P := P) (w := w) (base := base) T
  refine T.fn_tree.ok sc_tree (fun vs H Q E h => ?_) (fun cdv A outer s H vs Q E hr h => ?_)
  · obtain ⟨_, _, _, rfl, _⟩ := h
    rfl
  · obtain ⟨r, us, ls, rfl, hr0, hL, hz, gd, k⟩ := h
    have hu := hu_of hr
    refine ⟨_, (pss_cons (ps_set (i := 1) sc_tree.nd rfl (Or.inl rfl) pe_dnewK)
  (pss_cons (ps_set (i := 2) sc_tree.nd rfl (Or.inl rfl) (pe_lst (pa_cons (pe_glob (v := .int 1) rfl (Exists.choose_spec T.mg_ROOT) ⟨_, rfl⟩) pa_nil)))
  (pss_cons (ps_set (i := 3) sc_tree.nd rfl (Or.inl rfl) pe_int)
  (pss_cons (ps_while PassesOwn.never (pt_cmpR op_lt (pv 3) (pe_callB (call_lenK (K := K)) (by rfl) T.mg_len PySem.boot_len (pa_cons (pv 2) pa_nil)) (nomark _))
  (pss_cons (ps_for PassesOwn.never rfl (pi_listK (K := K) (pe_call G_ends_at (hr.mono (by first | decide | omega)) rfl T.mg_ends_at T.kp_ends_at T.bi_ends_at .nil pass0 (pa_cons (pv 0) (pa_cons (pe_ix (ix_listK (K := K)) (pv 2) (pv 3) (fun _ _ => rfl)) pa_nil)))) (pg_name (i := 4) sc_tree.nd rfl (Or.inl rfl))
  (pss_cons (ps_set (i := 5) sc_tree.nd rfl (Or.inl rfl) (pe_ix (ix_tupK (K := K)) (pe_call G_peer (hr.mono (by first | decide | omega)) rfl T.mg_peer T.kp_peer T.bi_peer .nil pass0 (pa_cons (pv 0) (pa_cons (pv 4) pa_nil))) pe_int (fun _ _ => rfl)))
  (pss_one (ps_if (pt_cmpR (op_niK (K := K)) (pv 5) (pv 2) (by rfl))
  (pss_cons (ps_dput hu (pv 1) (pv 5) (pv 4) rfl)
  (pss_one (ps_expr (pe_bmK (K := K) PySem.F.plainAttrs_list PySem.F.slot_list_append PySem.F.type_list_append mt_append (pv 2) (pa_cons (pv 5) pa_nil)))))
  pss_nil))))
  (pss_one (ps_aug (i := 3) sc_tree.nd rfl (Or.inl rfl) pe_int ip_add))))
  (pss_one (ps_ret (pv 1))))))), ?_⟩
    have hs := Hs.start H
    walk_at "ss"
    rename_i pd H1 hsA fl H2 hs2
    clear hsA hs
    refine w_while (fun m σ H' => ∃ (n : Nat) (kvs : List (Key × V)) (v4 v5 : Option V), σ = [some (.ref r), some (.ref pd), some (.ref fl), some (.int (n : Int)), v4, v5] ∧ Hs H [(fl, .lst ((trow ls n).1.map V.int)), (pd, .dK kvs)] H' ∧ ParL H' kvs (trow ls n).2 ∧ n ≤ 6 ∧ m = 7 - n) 7 ⟨0, [], none, none, rfl, hs2, .nil, by decide, rfl⟩ ?_
    clear hs2 H2 H1
    rintro m σ H2 ⟨n, kvs, v4, v5, rfl, hs2, hP, hn6, rfl⟩
    have ti := TI.row ls n
    have h6 := ti.few gd
    walk_at "ss"
    rw [List.length_map]
    refine ifd (fun hlt => ?_) (fun hge => ?_)
    · have hlt' : n < (trow ls n).1.length := by omega
      obtain ⟨s0, hs0⟩ : ∃ s0, (trow ls n).1[n]? = some s0 := ⟨_, List.getElem?_eq_getElem hlt'⟩
      have hsm := List.mem_of_getElem? hs0
      walk_at "ss"
      refine w_forS ?_
      walk_at "ss"
      refine w_ixL (SqL.of hs2.g0) (at_of (j := n) rfl (by rw [List.getElem?_map, hs0]; rfl)) ?_
      walk_at "ss"
      have hL2 := hL.same hs2.same
      refine ⟨r, us, ls, s0, rfl, hs2.old hr0, hL2, hz, fun el ys H3 hs3 hrow => ?_⟩
      rw [ends_asked gd] at hrow
      have hs4z : Hs H [(el, .lst ys), (fl, .lst ((trow ls n).1.map V.int)), (pd, .dK kvs)] H3 := hs2.add hs3
      have hP3 := hP.same hs3.same
      obtain ⟨B1, sB, hs4, tb⟩ := hs4z.ground rfl
      replace hP3 := hP3.mono tb
      replace hrow := hrow.mono (fun _ _ z => EndAt.mono tb z)
      have hr1 := sB _ _ hr0
      clear hs4z
      have hL1 := hL.same sB
      have eout : trow ls (n + 1) = (asked ls s0).foldl (tstep ls) (trow ls n) := by
        show tout ls (trow ls n) n = _
        unfold tout
        rw [hs0]
        exact (fold_asked ls _ _).symm
      have hask : ∀ e ∈ asked ls s0, e.1 = s0 ∧ ∃ o, peerM ls e = some o := fun e he => by
        unfold asked at he
        rw [List.mem_filter] at he
        refine ⟨six_fst e he.1, ?_⟩
        cases hp : peerM ls e with
        | none =>
          rw [hp] at he
          cases he.2
        | some o => exact ⟨o, rfl⟩
      clear hs2 hs3 hP
      refine w_forL (SqL.of hs4.g0) (fun j σ H' => ∃ (kvs : List (Key × V)) (v4 v5 : Option V), σ = [some (.ref r), some (.ref pd), some (.ref fl), some (.int (n : Int)), v4, v5] ∧ Hs B1 [(el, .lst ys), (fl, .lst ((((asked ls s0).take j).foldl (tstep ls) (trow ls n)).1.map V.int)), (pd, .dK kvs)] H' ∧ ParL B1 kvs (((asked ls s0).take j).foldl (tstep ls) (trow ls n)).2)
        (fun Q q => q) ⟨kvs, v4, v5, rfl, hs4, hP3⟩ (fun i σ H' _ ⟨_, _, _, _, hs, _⟩ => SqL.of hs.g0) ?_ ?_
      · clear hs4 hP3 v4 v5 kvs
        rintro j y σ H4 hj ⟨kvs, v4, v5, rfl, hs4, hP⟩
        obtain ⟨e, hej, q, rfl, hq⟩ := hrow.get hj
        obtain ⟨hes, o, ho⟩ := hask e (List.mem_of_getElem? hej)
        have tj : TI ls (((asked ls s0).take j).foldl (tstep ls) (trow ls n)) := ti.fold hsm fun x hx => (hask x (List.mem_of_mem_take hx)).1
        have h6j := tj.few gd
        have est : ((asked ls s0).take (j + 1)).foldl (tstep ls) (trow ls n) = tstep ls (((asked ls s0).take j).foldl (tstep ls) (trow ls n)) e := by
          rw [List.take_add_one, hej, List.foldl_append]
          rfl
        rw [est]
        generalize ((asked ls s0).take j).foldl (tstep ls) (trow ls n) = st at hs4 hP tj h6j ⊢
        walk_at "ss"
        refine ⟨r, q, us, ls, e, rfl, hs4.old hr1, hL1.same hs4.same, hs4.old hq, fun v hv => ?_⟩
        rw [ho] at hv
        obtain ⟨v, rfl, hv⟩ := hv
        have hv' : H4 v = some (.tup [.int o.1, .int o.2]) := hv
        walk_at "ss"
        refine w_inIs (SqL.of hs4.g1) ?_
        refine ⟨_, rfl, ?_⟩
        show if (!decide (o.1 ∈ st.1)) = true then _ else _
        by_cases hm : o.1 ∈ st.1
        · rw [decide_eq_true hm, Bool.not_true]
          refine iteF ?_
          walk_at "ss"
          have e1 : tstep ls st e = st := by
            unfold tstep
            rw [ho]
            exact if_pos hm
          rw [e1]
          exact ⟨kvs, _, _, rfl, hs4, hP⟩
        · rw [decide_eq_false hm, Bool.not_false]
          refine iteT ?_
          have e1 : tstep ls st e = (st.1 ++ [o.1], st.2 ++ [(o.1, e)]) := by
            unfold tstep
            rw [ho]
            exact if_neg hm
          rw [e1]
          have hkz : kvs.length ≤ 6 := by
            have h1 := hP.len
            have h2 := congrArg List.length tj.hd
            rw [List.length_cons, List.length_map] at h2
            omega
          have enew : putK kvs (Sum.inl o.1) (.ref q) = kvs ++ [(Sum.inl o.1, .ref q)] := by
            refine putK_new _ (keys_none hP.keys fun z => hm ?_)
            rw [tj.hd]
            exact List.mem_cons_of_mem _ z
          have hz1 : (st.1.map V.int).length < sizeLine := szl (by rw [List.length_map]; omega)
          have hz2 : kvs.length < sizeLine := szl (by omega)
          walk_at "ss"
          rename_i H5 hs5 H6 hs6
          rw [enew] at hs6
          refine ⟨kvs ++ [(Sum.inl o.1, .ref q)], _, _, rfl, ?_, hP.snoc ⟨q, rfl, hq⟩⟩
          rw [List.map_append]
          exact hs6
      · clear hs4 hP3 v4 v5 kvs
        rintro σ H4 ⟨kvs, v4, v5, rfl, hs4, hP⟩
        rw [hrow.1, List.take_length, ← eout] at hs4 hP
        walk_at "ss"
        show tAug 3 _ _ _ [some (.ref r), some (.ref pd), some (.ref fl), some (.int (n : Int)), v4, v5] _
        refine ⟨_, rfl, _, _, rfl, rfl, ?_⟩
        refine ⟨7 - (n + 1), by omega, n + 1, kvs, _, _, rfl, (hs4.sel [1, 2]).down sB, hP.mono hs4.tups, by omega, rfl⟩
    · walk_at "ss"
      have e := tree_end (ls := ls) (n := n) (by omega) (by omega)
      rw [e] at hP
      exact k pd kvs _ (hs2.sel [1]) hP
end
local macro_rules | `(tactic| walk_at "v") => `(tactic| first | exact v0 | exact v1 | exact v2 | exact v3 | exact v4 | exact v5 | exact v6 | exact v7 | exact v8)
local macro_rules | `(tactic| walk_at "vs") => `(tactic| first | exact st0 | exact st1 | exact st2 | exact st3 | exact st4 | exact st5 | exact st6 | exact st7 | exact st8)
local macro_rules | `(tactic| walk_at "s") => `(tactic| first
  | with_reducible refine w_dget ?_
  | ((with_reducible refine' w_dgetZ ?h ?nd ?hk ?hv ?_); (case h => walk_at "g"); (case nd => walk_at "nd"); (case hk => walk_at "k"); (case hv => walk_at "v"))
  | ((with_reducible refine' w_dputZ ?hs ?h ?nd ?hk ?hv ?hu ?hl ?_); (case hs => assumption); (case h => walk_at "p"); (case nd => walk_at "nd"); (case hk => walk_at "k"); (case hv => walk_at "v"); (case hu => walk_at "vs"); (case hl => decide); intro _ _)
  | with_reducible refine w_gsub ?_
  | with_reducible refine w_setD ?_
  | with_reducible refine w_disp ?_
  | ((with_reducible refine' w_newP ?hs ?_); (case hs => assumption); intro _ _ _)
  | with_reducible refine w_pcons ?_
  | with_reducible refine w_pnil ?_)

local macro_rules | `(tactic| walk_at "s") => `(tactic| first
  | with_reducible refine w_nget ?_
  | with_reducible refine w_nin ?_
  | with_reducible refine w_nnot ?_
  | with_reducible refine w_nput ?_
  | with_reducible refine w_ndel ?_
  | with_reducible refine w_npop ?_
  | ((with_reducible refine' w_nnew ?hs ?_); (case hs => assumption); intro _ _ _))

theorem six_get {s : Int} {j : Nat} (h : j < 6) : (six s)[j]? = some (s, 1 + (j : Int)) := by
  match j, h with
  | 0, _ => rfl
  | 1, _ => rfl
  | 2, _ => rfl
  | 3, _ => rfl
  | 4, _ => rfl
  | 5, _ => rfl
  | j + 6, h => omega
theorem take_fold {ls : List Lk} {es : List E2} {j : Nat} {e : E2} {st : TSt} (h : es[j]? = some e) : (es.take (j + 1)).foldl (tstep ls) st = tstep ls ((es.take j).foldl (tstep ls) st) e := by
  rw [List.take_add_one, h, List.foldl_append]
  rfl
section
variable {P : Program} [IsP P] {w : World} {K : PySem.W.Frag} {mg : Str → Option Value} {base : Heap} {a : Ad}
theorem ok__law_tree (T : Txt w K mg a) : FnOk P w K mg base CX0 2 a._law_tree a.fd__law_tree ["links"] spT := by
  have G__law_peer := ok__law_peer (P := P) (w := w) (base := base) T
  refine T.fn__law_tree.ok sc__law_tree (fun vs H Q E h => ?_) (fun cdv A outer s H vs Q E hr h => ?_)
  · obtain ⟨_, _, _, rfl, _⟩ := h
    rfl
  · obtain ⟨r, us, ls, rfl, hr0, hL, hz, gd, k⟩ := h
    have hu := hu_of hr
    refine ⟨_, (pss_cons (ps_set (i := 1) sc__law_tree.nd rfl (Or.inl rfl) pe_dnewK)
  (pss_cons (ps_set (i := 2) sc__law_tree.nd rfl (Or.inl rfl) (pe_lst (pa_cons pe_int pa_nil)))
  (pss_cons (ps_for PassesOwn.never rfl (pi_range1 rfl T.mg_range (pa_cons pe_int pa_nil)) (pg_name (i := 3) sc__law_tree.nd rfl (Or.inl rfl))
  (pss_one (ps_if (pt_cmpR op_lt (pv 3) (pe_callB (call_lenK (K := K)) (by rfl) T.mg_len PySem.boot_len (pa_cons (pv 2) pa_nil)) (nomark _))
  (pss_one (ps_for PassesOwn.never rfl (pi_range2 rfl T.mg_range (pa_cons pe_int (pa_cons pe_int pa_nil))) (pg_name (i := 4) sc__law_tree.nd rfl (Or.inl rfl))
  (pss_cons (ps_set (i := 5) sc__law_tree.nd rfl (Or.inl rfl) (pe_call G__law_peer (hr.mono (by first | decide | omega)) rfl T.mg__law_peer T.kp__law_peer T.bi__law_peer .nil pass0 (pa_cons (pv 0) (pa_cons (pe_tup (pa_cons (pe_ix (ix_listK (K := K)) (pv 2) (pv 3) (fun _ _ => rfl)) (pa_cons (pv 4) pa_nil))) pa_nil))))
  (pss_one (ps_if (PW.pt (pw_and (pt_cmpR op_notNQ (pv 5) pe_non (nomark _)) (pw_and (pt_cmpR op_ne (pe_ix (ix_tupK (K := K)) (pv 5) pe_int (fun _ _ => rfl)) pe_int (nomark _)) (pw_and1 (pt_cmp (pc_dnotin hu (pe_ix (ix_tupK (K := K)) (pv 5) pe_int (fun _ _ => rfl)) (pv 1)))))))
  (pss_cons (ps_dput hu (pv 1) (pe_ix (ix_tupK (K := K)) (pv 5) pe_int (fun _ _ => rfl)) (pe_tup (pa_cons (pe_ix (ix_listK (K := K)) (pv 2) (pv 3) (fun _ _ => rfl)) (pa_cons (pv 4) pa_nil))) rfl)
  (pss_one (ps_expr (pe_bmK (K := K) PySem.F.plainAttrs_list PySem.F.slot_list_append PySem.F.type_list_append mt_append (pv 2) (pa_cons (pe_ix (ix_tupK (K := K)) (pv 5) pe_int (fun _ _ => rfl)) pa_nil)))))
  pss_nil)))))
  pss_nil)))
  (pss_one (ps_ret (pv 1)))))), ?_⟩
    have hs := Hs.start H
    walk_at "ss"
    rename_i fd H1 hsA rl H2 hs2
    clear hsA hs
    refine w_forR (n := 8) (by decide) (fun i σ H' => ∃ (B : Hp) (kvs : List (Key × V)) (v3 v4 v5 : Option V), σ = [some (.ref r), some (.ref fd), some (.ref rl), v3, v4, v5] ∧ Same H B ∧ Hs B [(rl, .lst ((trow ls i).1.map V.int)), (fd, .dK kvs)] H' ∧ ParL B kvs (trow ls i).2)
      (fun Q' q => q) (by decide) ⟨H, [], _, _, _, rfl, Same.refl _, hs2, .nil⟩ ?_ ?_
    · clear hs2 H2 H1
      rintro i σ H1 hi ⟨B, kvs, v3, v4, v5, rfl, sB, hs1, hP⟩
      have ti := TI.row ls i
      have h6 := ti.few gd
      walk_at "ss"
      rw [List.length_map]
      refine ifd (fun hlt => ?_) (fun hge => ?_)
      · have hlt' : i < (trow ls i).1.length := by omega
        obtain ⟨s0, hs0⟩ : ∃ s0, (trow ls i).1[i]? = some s0 := ⟨_, List.getElem?_eq_getElem hlt'⟩
        have hsm := List.mem_of_getElem? hs0
        have eout : trow ls (i + 1) = (six s0).foldl (tstep ls) (trow ls i) := by
          show tout ls (trow ls i) i = _
          unfold tout
          rw [hs0]
        walk_at "ss"
        refine w_forR2 (lo := 1) (hi := 7) ⟨by decide, by decide, by decide, by decide⟩ (fun j σ' H' => ∃ (B : Hp) (kvs : List (Key × V)) (v4 v5 : Option V), σ' = [some (.ref r), some (.ref fd), some (.ref rl), some (.int (i : Int)), v4, v5] ∧ Same H B ∧
            Hs B [(rl, .lst ((((six s0).take j).foldl (tstep ls) (trow ls i)).1.map V.int)), (fd, .dK kvs)] H' ∧ ParL B kvs (((six s0).take j).foldl (tstep ls) (trow ls i)).2)
          (fun Q' q => q) ⟨B, kvs, v4, v5, rfl, sB, hs1, hP⟩ ?_ ?_
        · clear hs1 hP v4 v5 kvs sB B
          rintro j σ' H2 hj ⟨B, kvs, v4, v5, rfl, sB, hs2, hP⟩
          have hj6 : j < 6 := by omega
          have hsj := six_get (s := s0) hj6
          have tj : TI ls (((six s0).take j).foldl (tstep ls) (trow ls i)) := ti.fold hsm fun x hx => six_fst x (List.mem_of_mem_take hx)
          have h6j := tj.few gd
          have hat : (((six s0).take j).foldl (tstep ls) (trow ls i)).1[i]? = some s0 := by
            obtain ⟨t, ht⟩ := fold_pre ls ((six s0).take j) (trow ls i)
            rw [← ht, List.getElem?_append_left hlt']
            exact hs0
          rw [take_fold hsj]
          generalize ((six s0).take j).foldl (tstep ls) (trow ls i) = st at hs2 hP tj h6j hat ⊢
          have hkz : kvs.length ≤ 6 := by
            have h1 := hP.len
            have h2 := congrArg List.length tj.hd
            rw [List.length_cons, List.length_map] at h2
            omega
          have hia : atI (st.1.map V.int) (i : Int) = some (.int s0) := at_of (j := i) rfl (by rw [List.getElem?_map, hat]; rfl)
          walk_at "ss"
          rename_i tt H3 hs3
          refine ⟨r, tt, us, ls, (s0, 1 + (j : Int)), rfl, (hs3.old (sB _ _ hr0)), hL.same (sB.trans hs3.same), hs3.g0, fun v H4 sm4 hv => ?_⟩
          obtain ⟨B3, sB3, ht3, hs3a⟩ := frz_hs hs3
          obtain ⟨B4, sB4, hs3b, tb⟩ := hs3a.ground rfl
          have hs4 := hs3b.keep sm4
          replace hP := (hP.same sB3).same sB4
          replace sB := sB.trans (sB3.trans sB4)
          clear hs3 hs3a hs3b hs2
          cases ho : peerM ls (s0, 1 + (j : Int)) with
          | none =>
            rw [ho] at hv
            obtain rfl : v = .non := hv
            walk_at "ss"
            have e1 : (!decide (V.non = V.non)) = false := by rw [decide_eq_true rfl]; rfl
            rw [e1]
            refine iteF ?_
            try refine iteF ?_
            walk_at "ss"
            have et : tstep ls st (s0, 1 + (j : Int)) = st := by
              unfold tstep
              rw [ho]
            rw [et]
            exact ⟨B4, kvs, _, _, rfl, sB, hs4, hP⟩
          | some o =>
            rw [ho] at hv
            obtain ⟨q, rfl, hq⟩ := hv
            have hqB : B4 q = some (.tup [.int o.1, .int o.2]) := tb _ _ hq
            have hq4 : H4 q = some (.tup [.int o.1, .int o.2]) := sm4 _ _ hq
            have e1 : (!decide (V.ref q = V.non)) = true := by rw [decide_eq_false (by intro z; cases z)]; rfl
            have et_in : o.1 ∈ st.1 → tstep ls st (s0, 1 + (j : Int)) = st := fun z => by
              unfold tstep
              rw [ho]
              exact if_pos z
            have et_new : o.1 ∉ st.1 → tstep ls st (s0, 1 + (j : Int)) = (st.1 ++ [o.1], st.2 ++ [(o.1, (s0, 1 + (j : Int)))]) := fun z => by
              unfold tstep
              rw [ho]
              exact if_neg z
            have hvm : (valV kvs (Sum.inl o.1)).isSome = decide (o.1 ∈ st.2.map (·.1)) := valV_mem hP.keys
            have hrow : o.1 ∈ st.1 ↔ o.1 = 1 ∨ o.1 ∈ st.2.map (·.1) := by
              rw [tj.hd, List.mem_cons]
            walk_at "ss"
            rw [e1]
            refine iteT ?_
            walk_at "ss"
            by_cases h1 : o.1 = 1
            · rw [decide_eq_true h1, Bool.not_true]
              refine iteF ?_
              try refine iteF ?_
              walk_at "ss"
              rw [et_in (hrow.mpr (.inl h1))]
              exact ⟨B4, kvs, _, _, rfl, sB, hs4, hP⟩
            · rw [decide_eq_false h1, Bool.not_false]
              refine iteT ?_
              walk_at "ss"
              rw [hvm]
              by_cases h2 : o.1 ∈ st.2.map (·.1)
              · rw [decide_eq_true h2, Bool.not_true]
                refine iteF ?_
                walk_at "ss"
                rw [et_in (hrow.mpr (.inr h2))]
                exact ⟨B4, kvs, _, _, rfl, sB, hs4, hP⟩
              · rw [decide_eq_false h2, Bool.not_false]
                refine iteT ?_
                have hn : o.1 ∉ st.1 := fun z => (hrow.mp z).elim h1 h2
                rw [et_new hn]
                have enew : ∀ v, putK kvs (Sum.inl o.1) v = kvs ++ [(Sum.inl o.1, v)] := fun v => putK_new _ (keys_none hP.keys h2)
                have hz1 : (st.1.map V.int).length < sizeLine := szl (by rw [List.length_map]; omega)
                have hz2 : kvs.length < sizeLine := szl (by omega)
                walk_at "ss"
                rename_i t5 H5 _ H6 _ H7 hs7
                rw [enew] at hs7
                have hs8 := hs7
                obtain ⟨B2, sB2, ht5, hs9⟩ := frz_hs hs8
                refine ⟨B2, kvs ++ [(Sum.inl o.1, .ref t5)], _, _, rfl, sB.trans sB2, ?_, (hP.same sB2).snoc ⟨t5, rfl, ht5⟩⟩
                rw [List.map_append]
                exact hs9
        · clear hs1 hP v4 v5 kvs sB B
          rintro σ' H2 ⟨B, kvs, v4, v5, rfl, sB, hs2, hP⟩
          have e6 : (six s0).take (7 - 1 : Int).toNat = six s0 := rfl
          rw [e6, ← eout] at hs2 hP
          exact ⟨B, kvs, _, _, _, rfl, sB, hs2, hP⟩
      · have e : trow ls (i + 1) = trow ls i := tout_end (by omega)
        walk_at "ss"
        rw [e]
        exact ⟨B, kvs, _, _, _, rfl, sB, hs1, hP⟩
    · clear hs2 H2 H1
      rintro σ H1 ⟨B, kvs, v3, v4, v5, rfl, sB, hs1, hP⟩
      walk_at "ss"
      exact k fd kvs _ ((hs1.sel [1]).down sB) (hP.mono hs1.tups)
end
local macro_rules | `(tactic| walk_at "v") => `(tactic| first | exact v0 | exact v1 | exact v2 | exact v3 | exact v4 | exact v5 | exact v6 | exact v7 | exact v8)
local macro_rules | `(tactic| walk_at "vs") => `(tactic| first | exact st0 | exact st1 | exact st2 | exact st3 | exact st4 | exact st5 | exact st6 | exact st7 | exact st8)
local macro_rules | `(tactic| walk_at "s") => `(tactic| first
  | with_reducible refine w_dget ?_
  | ((with_reducible refine' w_dgetZ ?h ?nd ?hk ?hv ?_); (case h => walk_at "g"); (case nd => walk_at "nd"); (case hk => walk_at "k"); (case hv => walk_at "v"))
  | ((with_reducible refine' w_dputZ ?hs ?h ?nd ?hk ?hv ?hu ?hl ?_); (case hs => assumption); (case h => walk_at "p"); (case nd => walk_at "nd"); (case hk => walk_at "k"); (case hv => walk_at "v"); (case hu => walk_at "vs"); (case hl => decide); intro _ _)
  | with_reducible refine w_gsub ?_
  | with_reducible refine w_setD ?_
  | with_reducible refine w_disp ?_
  | ((with_reducible refine' w_newP ?hs ?_); (case hs => assumption); intro _ _ _)
  | with_reducible refine w_pcons ?_
  | with_reducible refine w_pnil ?_)

local macro_rules | `(tactic| walk_at "s") => `(tactic| first
  | with_reducible refine w_nget ?_
  | with_reducible refine w_nin ?_
  | with_reducible refine w_nnot ?_
  | with_reducible refine w_nput ?_
  | with_reducible refine w_ndel ?_
  | with_reducible refine w_npop ?_
  | ((with_reducible refine' w_nnew ?hs ?_); (case hs => assumption); intro _ _ _))

theorem row_rev {α : Type} {R : V → α → Prop} : ∀ {us : List V} {xs : List α}, Row R us xs → Row R us.reverse xs.reverse
  | [], [], _ => Row.nil
  | [], _ :: _, h => by cases h.1
  | _ :: _, [], h => by cases h.1
  | u :: us, x :: xs, h => by
    rw [List.reverse_cons, List.reverse_cons]
    exact (row_rev ⟨Nat.succ.inj h.1, fun i y z h1 h2 => h.2 (i + 1) y z (by simpa using h1) (by simpa using h2)⟩).snoc (h.2 0 u x rfl rfl)
section
variable {P : Program} [IsP P] {w : World} {K : PySem.W.Frag} {mg : Str → Option Value} {base : Heap} {a : Ad}
/-! ## ways -/
def spW : Sp := fun vs H Q _ => ∃ (d : Addr) (kvs : List (Key × V)) (ls : List Lk) (st : TSt) (to : Int), vs = [.ref d, .int to] ∧ H d = some (.dK kvs) ∧ ParL H kvs st.2 ∧ TI ls st ∧ Gd ls ∧ to ∈ st.1 ∧ ∀ l ys H', Hs H [(l, .lst ys)] H' → Row (EndAt H) ys (wayM st.2 to) → Q (.ref l) H'
theorem ok_way (T : Txt w K mg a) : FnOk P w K mg base CX0 1 a.way a.fd_way ["parents", "to"] spW := by
  refine T.fn_way.ok sc_way (fun vs H Q E h => ?_) (fun cdv A outer s H vs Q E hr h => ?_)
  · obtain ⟨_, _, _, _, _, rfl, _⟩ := h
    rfl
  · obtain ⟨d, kvs, ls, st, to, rfl, hd, hP, ti, gd, hto, k⟩ := h
    have hu := hu_of hr
    refine ⟨_, (pss_cons (ps_set (i := 2) sc_way.nd rfl (Or.inl rfl) (pe_lst pa_nil))
  (pss_cons (ps_set (i := 3) sc_way.nd rfl (Or.inl rfl) (pv 1))
  (pss_cons (ps_while PassesOwn.never (pt_cmpR op_ne (pv 3) (pe_glob (v := .int 1) rfl (Exists.choose_spec T.mg_ROOT) ⟨_, rfl⟩) (nomark _))
  (pss_cons (ps_expr (pe_bmK (K := K) PySem.F.plainAttrs_list PySem.F.slot_list_append PySem.F.type_list_append mt_append (pv 2) (pa_cons (pe_dget hu (pv 0) (pv 3) (fun _ _ => rfl)) pa_nil)))
  (pss_one (ps_set (i := 3) sc_way.nd rfl (Or.inl rfl) (pe_ix (ix_tupK (K := K)) (pe_dget hu (pv 0) (pv 3) (fun _ _ => rfl)) pe_int (fun _ _ => rfl))))))
  (pss_one (ps_ret (pe_revLK (K := K) (pv 2))))))), ?_⟩
    have hs := Hs.start H
    obtain ⟨i0, hi0⟩ := ti.ix hto
    walk_at "ss"
    rename_i el H1 hs1
    refine w_while (fun m σ H' => ∃ (sw : Int) (i : Nat) (ys : List V) (es : List E2), σ = [some (.ref d), some (.int to), some (.ref el), some (.int sw)] ∧ at_ st sw i ∧ Hs H [(el, .lst ys)] H' ∧ Row (EndAt H) ys es ∧ wayM st.2 to = wayM st.2 sw ++ es.reverse ∧ m = i) i0 ⟨to, i0, [], [], rfl, hi0, hs1, Row.nil, by simp, rfl⟩ ?_
    clear hs hs1 H1
    rintro m σ H1 ⟨sw, i, ys, es, rfl, hi, hs1, hrow, hw, rfl⟩
    have hz9 : ys.length ≤ 9 := by
      have h1 := wayN_len st.2 9 to
      have h2 := congrArg List.length hw
      rw [List.length_append, List.length_reverse] at h2
      have h3 := hrow.1
      unfold wayM at h2
      omega
    have hd1 := hs1.old hd
    walk_at "ss"
    by_cases h1 : sw = 1
    · rw [decide_eq_true h1, Bool.not_true]
      refine iteF ?_
      walk_at "ss"
      refine w_revL ?_
      walk_at "ss"
      refine w_revR hs1 (SqL.of hs1.g0) fun l H2 hs2 => ?_
      rw [h1, way_one, List.nil_append] at hw
      refine k l _ _ (hs2.sel [0]) ?_
      rw [hw]
      exact row_rev hrow
    · rw [decide_eq_false h1, Bool.not_false]
      refine iteT ?_
      obtain ⟨e, hge, hem, hwe⟩ := way_up gd ti (List.mem_of_getElem? hi) h1
      rcases ti.up hi with ⟨_, h2⟩ | ⟨_, e', k', hge', hk', hke'⟩
      · exact absurd h2 h1
      rw [hge] at hge'
      cases hge'
      rcases hP.get (n := sw) with ⟨h2, _⟩ | ⟨e', v, h2, hv, hve⟩
      · rw [hge] at h2
        cases h2
      rw [hge] at h2
      cases h2
      obtain ⟨q, rfl, hq⟩ := hve
      have hq' : H q = some (.tup [.int e.1, .int e.2]) := hq
      have hz1 : ys.length < sizeLine := szl (by omega)
      walk_at "ss"
      refine w_dgetI hd1 hv ?_
      walk_at "ss"
      rename_i H2 hs2
      have hd2 := hs2.old hd
      have hq2 := hs2.old hq'
      walk_at "ss"
      refine w_dgetI hd2 hv ?_
      walk_at "ss"
      refine ⟨k', hk', e.1, k', ys ++ [.ref q], es ++ [e], rfl, hke', hs2, hrow.snoc ⟨q, rfl, hq⟩, ?_, rfl⟩
      rw [hw, hwe, List.reverse_append]
      simp
theorem ok__law_way (T : Txt w K mg a) : FnOk P w K mg base CX0 1 a._law_way a.fd__law_way ["parents", "to"] spW := by
  refine T.fn__law_way.ok sc__law_way (fun vs H Q E h => ?_) (fun cdv A outer s H vs Q E hr h => ?_)
  · obtain ⟨_, _, _, _, _, rfl, _⟩ := h
    rfl
  · obtain ⟨d, kvs, ls, st, to, rfl, hd, hP, ti, gd, hto, k⟩ := h
    have hu := hu_of hr
    refine ⟨_, (pss_cons (ps_set (i := 2) sc__law_way.nd rfl (Or.inl rfl) (pe_lst pa_nil))
  (pss_cons (ps_for PassesOwn.never rfl (pi_range1 rfl T.mg_range (pa_cons pe_int pa_nil)) (pg_name (i := 3) sc__law_way.nd rfl (Or.inl rfl))
  (pss_one (ps_if (pt_cmpR op_ne (pv 1) pe_int (nomark _))
  (pss_cons (ps_set (i := 2) sc__law_way.nd rfl (Or.inl rfl) (pe_op op_cat (pe_lst (pa_cons (pe_dget hu (pv 0) (pv 1) (fun _ _ => rfl)) pa_nil)) (pv 2)))
  (pss_one (ps_set (i := 1) sc__law_way.nd rfl (Or.inl rfl) (pe_ix (ix_tupK (K := K)) (pe_dget hu (pv 0) (pv 1) (fun _ _ => rfl)) pe_int (fun _ _ => rfl)))))
  pss_nil)))
  (pss_one (ps_ret (pv 2))))), ?_⟩
    have hs := Hs.start H
    obtain ⟨i0, hi0⟩ := ti.ix hto
    have hi6 : i0 ≤ 5 := by
      have := ti.few gd
      have := (List.getElem?_eq_some_iff.mp hi0).1
      omega
    walk_at "ss"
    rename_i fl H1 hs1
    refine w_forR (n := 9) (by decide) (fun t σ H' => ∃ (sw : Int) (i : Nat) (fl : Addr) (ys : List V) (es : List E2) (v3 : Option V), σ = [some (.ref d), some (.int sw), some (.ref fl), v3] ∧ at_ st sw i ∧ (i = 0 ∨ i + t ≤ 5) ∧ Hs H [(fl, .lst ys)] H' ∧ Row (EndAt H) ys es ∧ wayM st.2 to = wayM st.2 sw ++ es)
      (fun Q' q => q) (by decide) ⟨to, i0, fl, [], [], _, rfl, hi0, .inr (by omega), hs1, Row.nil, by simp⟩ ?_ ?_
    · clear hs hs1 H1 fl
      rintro t σ H1 ht ⟨sw, i, fl, ys, es, v3, rfl, hi, hit, hs1, hrow, hw⟩
      have hz9 : ys.length ≤ 9 := by
        have h1 := wayN_len st.2 9 to
        have h2 := congrArg List.length hw
        rw [List.length_append] at h2
        have h3 := hrow.1
        unfold wayM at h2
        omega
      have hd1 := hs1.old hd
      walk_at "ss"
      by_cases h1 : sw = 1
      · rw [decide_eq_true h1, Bool.not_true]
        refine iteF ?_
        walk_at "ss"
        refine ⟨sw, i, fl, ys, es, _, rfl, hi, ?_, hs1, hrow, hw⟩
        rcases ti.up hi with ⟨h2, _⟩ | ⟨h2, _⟩
        · exact .inl h2
        · exact absurd h1 h2
      · rw [decide_eq_false h1, Bool.not_false]
        refine iteT ?_
        obtain ⟨e, hge, hem, hwe⟩ := way_up gd ti (List.mem_of_getElem? hi) h1
        rcases ti.up hi with ⟨_, h2⟩ | ⟨_, e', k', hge', hk', hke'⟩
        · exact absurd h2 h1
        rw [hge] at hge'
        cases hge'
        rcases hP.get (n := sw) with ⟨h2, _⟩ | ⟨e', v, h2, hv, hve⟩
        · rw [hge] at h2
          cases h2
        rw [hge] at h2
        cases h2
        obtain ⟨q, rfl, hq⟩ := hve
        have hq' : H q = some (.tup [.int e.1, .int e.2]) := hq
        walk_at "ss"
        refine w_dgetI hd1 hv ?_
        walk_at "ss"
        rename_i l2 H2 _ l3 H3 hs3
        have hd3 := hs3.old hd
        have hq3 := hs3.old hq'
        walk_at "ss"
        refine w_dgetI hd3 hv ?_
        walk_at "ss"
        refine ⟨e.1, k', l3, .ref q :: ys, e :: es, _, rfl, hke', ?_, hs3.sel [0], Row.cons ⟨q, rfl, hq⟩ hrow, ?_⟩
        · rcases hit with h2 | h2
          · omega
          · exact .inr (by omega)
        · rw [hw, hwe]
          simp
    · clear hs hs1 H1 fl
      rintro σ H1 ⟨sw, i, fl, ys, es, v3, rfl, hi, hit, hs1, hrow, hw⟩
      have hi0 : i = 0 := by
        have : (9 : Int).toNat = 9 := rfl
        omega
      have h1 : sw = 1 := by
        rcases ti.up hi with ⟨_, h2⟩ | ⟨_, _, _, _, h2, _⟩
        · exact h2
        · omega
      walk_at "ss"
      rw [h1, way_one, List.nil_append] at hw
      rw [hw] at k
      exact k fl ys _ hs1 hrow
end
local macro_rules | `(tactic| walk_at "v") => `(tactic| first | exact v0 | exact v1 | exact v2 | exact v3 | exact v4 | exact v5 | exact v6 | exact v7 | exact v8)
local macro_rules | `(tactic| walk_at "vs") => `(tactic| first | exact st0 | exact st1 | exact st2 | exact st3 | exact st4 | exact st5 | exact st6 | exact st7 | exact st8)
local macro_rules | `(tactic| walk_at "s") => `(tactic| first
  | with_reducible refine w_dget ?_
  | ((with_reducible refine' w_dgetZ ?h ?nd ?hk ?hv ?_); (case h => walk_at "g"); (case nd => walk_at "nd"); (case hk => walk_at "k"); (case hv => walk_at "v"))
  | ((with_reducible refine' w_dputZ ?hs ?h ?nd ?hk ?hv ?hu ?hl ?_); (case hs => assumption); (case h => walk_at "p"); (case nd => walk_at "nd"); (case hk => walk_at "k"); (case hv => walk_at "v"); (case hu => walk_at "vs"); (case hl => decide); intro _ _)
  | with_reducible refine w_gsub ?_
  | with_reducible refine w_setD ?_
  | with_reducible refine w_disp ?_
  | ((with_reducible refine' w_newP ?hs ?_); (case hs => assumption); intro _ _ _)
  | with_reducible refine w_pcons ?_
  | with_reducible refine w_pnil ?_)

local macro_rules | `(tactic| walk_at "s") => `(tactic| first
  | with_reducible refine w_nget ?_
  | with_reducible refine w_nin ?_
  | with_reducible refine w_nnot ?_
  | with_reducible refine w_nput ?_
  | with_reducible refine w_ndel ?_
  | with_reducible refine w_npop ?_
  | ((with_reducible refine' w_nnew ?hs ?_); (case hs => assumption); intro _ _ _))

section
variable {P : Program} [IsP P] {w : World} {K : PySem.W.Frag} {mg : Str → Option Value} {base : Heap} {a : Ad}
/-! ## what hangs -/
def spB : Sp := fun vs H Q _ => ∃ (d : Addr) (kvs : List (Key × V)) (ls : List Lk) (st : TSt) (s0 : Int), vs = [.ref d, .int s0] ∧ H d = some (.dK kvs) ∧ ParL H kvs st.2 ∧ TI ls st ∧ Gd ls ∧ s0 ∈ st.1 ∧ ∀ l ys H', Hs H [(l, .lst (ys.map V.int))] H' → belowM st s0 ys → Q (.ref l) H'
theorem ok_below (T : Txt w K mg a) : FnOk P w K mg base CX0 1 a.below a.fd_below ["parents", "switch"] spB := by
  refine T.fn_below.ok sc_below (fun vs H Q E h => ?_) (fun cdv A outer s H vs Q E hr h => ?_)
  · obtain ⟨_, _, _, _, _, rfl, _⟩ := h
    rfl
  · obtain ⟨d, kvs, ls, st, s0, rfl, hd, hP0, ti, gd, hs0, k⟩ := h
    have hu := hu_of hr
    refine ⟨_, (pss_cons (ps_set (i := 2) sc_below.nd rfl (Or.inl rfl) (pe_lst (pa_cons (pv 1) pa_nil)))
  (pss_cons (ps_set (i := 3) sc_below.nd rfl (Or.inl rfl) pe_int)
  (pss_cons (ps_while PassesOwn.never (pt_cmpR op_lt (pv 3) (pe_callB (call_lenK (K := K)) (by rfl) T.mg_len PySem.boot_len (pa_cons (pv 2) pa_nil)) (nomark _))
  (pss_cons (ps_set (i := 4) sc_below.nd rfl (Or.inr rfl) (pe_ix (ix_listK (K := K)) (pv 2) (pv 3) (fun _ _ => rfl)))
  (pss_cons (ps_expr (pe_bmK (K := K) PySem.F.plainAttrs_list PySem.F.slot_list_extend PySem.F.type_list_extend mt_extend (pv 2) (pa_cons (pe_lock (pe_lc (own := [("other", 5)]) (g := (gName 5)) rfl sc_below.nd (pi_keys (pv 0)) (blkOk_by (own := [("other", 5)]) (N := N_below) (sc := defScope s_below) (by decide +kernel)) (fun _ _ _ _ _ => by exact (pg_name (i := 5) sc_below.nd rfl (Or.inl rfl))) (fun _ _ _ _ _ => by exact pts_one (pt_cmpR op_eq (pe_ix (ix_tupK (K := K)) (pe_dget hu (pv 0) (pv 5) (fun _ _ => rfl)) pe_int (fun _ _ => rfl)) (pv 4) (nomark _))) (fun _ _ _ _ _ => by exact (pv 5)))) pa_nil)))
  (pss_one (ps_aug (i := 3) sc_below.nd rfl (Or.inl rfl) pe_int ip_add)))))
  (pss_one (ps_ret (pe_callB (cr_sortedIK (K := K)) (by rfl) T.mg_sorted (by decide +kernel) (pa_cons (pv 2) pa_nil))))))), ?_⟩
    obtain ⟨B, hs, tb, back⟩ := Hs.own hd
    have hP : ParL B kvs st.2 := hP0.mono fun p xs e => tb p _ (fun z => by rw [z, hd] at e; cases e) e
    walk_at "ss"
    rename_i hl H1 hs1
    refine w_while (fun m σ H' => ∃ (n : Nat) (f : List Int) (v4 v5 : Option V), σ = [some (.ref d), some (.int s0), some (.ref hl), some (.int (n : Int)), v4, v5] ∧ BI st s0 f n ∧ Hs B [(hl, .lst (f.map V.int)), (d, .dK kvs)] H' ∧ n ≤ f.length ∧ m = 7 - n) 7 ⟨0, [s0], _, _, rfl, BI.zero hs0, hs1, Nat.zero_le _, rfl⟩ ?_
    clear hs hs1 H1
    rintro m σ H1 ⟨n, f, v4, v5, rfl, bi, hs1, hnf, rfl⟩
    have hf6 := bi.few gd ti
    walk_at "ss"
    rw [List.length_map]
    refine ifd (fun hlt => ?_) (fun hge => ?_)
    · have hlt' : n < f.length := by omega
      obtain ⟨x, hx⟩ : ∃ x, f[n]? = some x := ⟨_, List.getElem?_eq_getElem hlt'⟩
      have hia : atI (f.map V.int) (n : Int) = some (.int x) := at_of (j := n) rfl (by rw [List.getElem?_map, hx]; rfl)
      have hkz : kvs.length ≤ 5 := by
        have h1 := hP.len
        have h2 := congrArg List.length ti.hd
        rw [List.length_cons, List.length_map] at h2
        have := ti.few gd
        omega
      walk_at "ss"
      refine w_lockE hs1 (fun od => .there .here) fun od H2 hs2 => ?_
      clear hs1
      refine w_lcK ?_
      walk_at "ss"
      refine w_keyR hs2.g1 fun D hD => ?_
      have hkeys := hP.keys
      have hlen : kvs.length = (st.2.map (·.1)).length := by rw [List.length_map, hP.len]
      let pk : Int → Bool := fun t => decide ((getP st.2 t).map (·.1) = some x)
      refine turns_keys (Body := LcBody (gName 5) _ _ _ _ D) (fun i H' => Hs B [(D, .lst ((((st.2.map (·.1)).take i).filter pk).map V.int)), (hl, .lst (f.map V.int)), (d, .frz od (.dK kvs))] H') (hs2.new hD) (fun i H' _ q => q.g2) ?_ ?_
      · clear hs2 hD
        rintro i kk y H3 hi hs3
        obtain ⟨t, ht, rfl⟩ : ∃ t, (st.2.map (·.1))[i]? = some t ∧ kk = Sum.inl t := by
          have h1 := congrArg (fun l => l[i]?) hkeys
          simp only [List.getElem?_map, hi, Option.map_some] at h1
          cases h2 : (st.2)[i]? with
          | none =>
            rw [h2] at h1
            cases h1
          | some z =>
            rw [h2] at h1
            simp only [Option.map_some, Option.some.injEq] at h1
            exact ⟨z.1, by rw [List.getElem?_map, h2]; rfl, h1⟩
        obtain ⟨e, v, hge, hv, q, rfl, hq⟩ : ∃ e v, getP st.2 t = some e ∧ valV kvs (Sum.inl t) = some v ∧ EndAt B v e := by
          rcases hP.get (n := t) with ⟨h2, _⟩ | h2
          · have hm := List.mem_of_getElem? ht
            obtain ⟨z, hz, rfl⟩ := List.mem_map.mp hm
            rw [ti.get.mpr (show (z.1, z.2) ∈ st.2 from hz)] at h2
            cases h2
          · exact h2
        have hq3 : H3 q = some (.tup [.int e.1, .int e.2]) := hs3.old hq
        have hpk : pk t = decide (e.1 = x) := by
          show decide ((getP st.2 t).map (·.1) = some x) = _
          rw [hge, Option.map_some, decide_eq_decide]
          exact ⟨Option.some.inj, fun z => congrArg some z⟩
        have hst := take_filter (p := pk) ht
        rw [hpk] at hst
        rw [hst]
        have hz : (((st.2.map (·.1)).take i).filter pk).length ≤ 5 := by
          refine Nat.le_trans (List.length_filter_le _ _) ?_
          rw [List.length_take]
          omega
        walk_at "ss"
        refine ⟨rfl, ?_⟩
        walk_at "ss"
        refine w_dgetF hs3.g2 hv ?_
        walk_at "ss"
        refine ifd (fun h1 => ?_) (fun h1 => ?_)
        · walk_at "ss"
          refine ⟨_, hs3.g0, szl (by rw [List.length_map]; omega), ?_⟩
          rw [if_pos (decide_eq_true h1), List.map_append]
          exact hs3.p0 _
        · rw [if_neg (by rw [decide_eq_false h1]; decide), List.append_nil]
          exact hs3
      · intro H3 hs3
        clear hs2 hD
        rw [hlen, List.take_length] at hs3
        have hs4 := hs3.p2 (.dK kvs)
        refine ⟨hs3.g2, ?_⟩
        walk_at "ss"
        refine w_ext2 hs4 ?_ fun H5 hs5 => ?_
        · rw [List.length_map, List.length_map]
          have : ((st.2.map (·.1)).filter pk).length ≤ (st.2.map (·.1)).length := List.length_filter_le _ _
          omega
        · rw [← List.map_append] at hs5
          have bn := bi.next gd ti hx
          walk_at "ss"
          show tAug 3 _ _ _ [some (.ref d), some (.int s0), some (.ref hl), some (.int (n : Int)), some (.int x), v5] _
          refine ⟨_, rfl, _, _, rfl, rfl, ?_⟩
          refine ⟨7 - (n + 1), by omega, n + 1, _, _, _, rfl, bn, hs5, ?_, rfl⟩
          rw [List.length_append]
          omega
    · walk_at "ss"
      refine ⟨hl, f, rfl, SqL.of hs1.g0, fun ys p hp ho hn => ?_⟩
      have hs2 := back [(p, .lst (ys.map V.int))] _ ((hs1.new hn).sel [0, 2])
      refine k p ys _ hs2 ⟨pw_lt (hp.nodup_iff.mpr bi.nd) ho, fun t => ?_⟩
      rw [hp.mem_iff]
      exact ⟨fun z => bi.sub t z, fun z => (bi.all gd ti (by omega) z.1).mpr z.2⟩
end
local macro_rules | `(tactic| walk_at "v") => `(tactic| first | exact v0 | exact v1 | exact v2 | exact v3 | exact v4 | exact v5 | exact v6 | exact v7 | exact v8)
local macro_rules | `(tactic| walk_at "vs") => `(tactic| first | exact st0 | exact st1 | exact st2 | exact st3 | exact st4 | exact st5 | exact st6 | exact st7 | exact st8)
local macro_rules | `(tactic| walk_at "s") => `(tactic| first
  | with_reducible refine w_dget ?_
  | ((with_reducible refine' w_dgetZ ?h ?nd ?hk ?hv ?_); (case h => walk_at "g"); (case nd => walk_at "nd"); (case hk => walk_at "k"); (case hv => walk_at "v"))
  | ((with_reducible refine' w_dputZ ?hs ?h ?nd ?hk ?hv ?hu ?hl ?_); (case hs => assumption); (case h => walk_at "p"); (case nd => walk_at "nd"); (case hk => walk_at "k"); (case hv => walk_at "v"); (case hu => walk_at "vs"); (case hl => decide); intro _ _)
  | with_reducible refine w_gsub ?_
  | with_reducible refine w_setD ?_
  | with_reducible refine w_disp ?_
  | ((with_reducible refine' w_newP ?hs ?_); (case hs => assumption); intro _ _ _)
  | with_reducible refine w_pcons ?_
  | with_reducible refine w_pnil ?_)

local macro_rules | `(tactic| walk_at "s") => `(tactic| first
  | with_reducible refine w_nget ?_
  | with_reducible refine w_nin ?_
  | with_reducible refine w_nnot ?_
  | with_reducible refine w_nput ?_
  | with_reducible refine w_ndel ?_
  | with_reducible refine w_npop ?_
  | ((with_reducible refine' w_nnew ?hs ?_); (case hs => assumption); intro _ _ _))

theorem rows_ints {α : Type} {f : α → Int} : ∀ {us : List V} {xs : List α}, Row (fun v x => v = V.int (f x)) us xs → us = (xs.map f).map V.int
  | [], [], _ => rfl
  | [], _ :: _, h => by cases h.1
  | _ :: _, [], h => by cases h.1
  | u :: us, x :: xs, h => by
    have h1 : u = V.int (f x) := h.2 0 u x rfl rfl
    rw [h1, rows_ints (us := us) (xs := xs) ⟨Nat.succ.inj h.1, fun i y z h1 h2 => h.2 (i + 1) y z (by simpa using h1) (by simpa using h2)⟩]
    rfl
theorem range_filterMap {α : Type} (xs : List α) (p : α → Bool) : (List.range xs.length).filterMap (fun i => (xs[i]?).bind fun x => if p x = true then some x else none) = xs.filter p := by
  have key : ∀ n, n ≤ xs.length → (List.range n).filterMap (fun i => (xs[i]?).bind fun x => if p x = true then some x else none) = (xs.take n).filter p := fun n => by
    induction n with
    | zero => exact fun _ => rfl
    | succ n ih =>
      intro hn
      have hx : xs[n]? = some (xs[n]'(by omega)) := List.getElem?_eq_getElem _
      rw [List.range_succ, List.filterMap_append, ih (by omega), List.take_add_one, List.filter_append, hx]
      congr 1
      rw [List.filterMap_cons, hx]
      show (match if p xs[n] = true then some xs[n] else none with
        | none => List.filterMap _ []
        | some y => y :: List.filterMap _ []) = List.filter p [xs[n]]
      rw [List.filter_cons]
      cases p xs[n] <;> rfl
  rw [key xs.length (Nat.le_refl _), List.take_length]
section
variable {P : Program} [IsP P] {w : World} {K : PySem.W.Frag} {mg : Str → Option Value} {base : Heap} {a : Ad}
theorem ok__law_below (T : Txt w K mg a) : FnOk P w K mg base CX0 2 a._law_below a.fd__law_below ["parents", "switch"] spB := by
  have G__law_way := ok__law_way (P := P) (w := w) (base := base) T
  refine T.fn__law_below.ok sc__law_below (fun vs H Q E h => ?_) (fun cdv A outer s H vs Q E hr h => ?_)
  · obtain ⟨_, _, _, _, _, rfl, _⟩ := h
    rfl
  · obtain ⟨d, kvs, ls, st, s0, rfl, hd, hP, ti, gd, hs0, k⟩ := h
    have hu := hu_of hr
    refine ⟨_, (pss_one (ps_ret (pe_callB (cr_sortedIK (K := K)) (by rfl) T.mg_sorted (by decide +kernel) (pa_cons (pe_lc (own := [("each", 2)]) (g := (gName 2)) rfl sc__law_below.nd (pi_listK (K := K) (pe_op op_cat (pe_callTy (call_list_dK rfl) (by rfl) T.mg_list (by decide +kernel) (pa_cons (pv 0) pa_nil)) (pe_lst (pa_cons pe_int pa_nil)))) (blkOk_by (own := [("each", 2)]) (N := N__law_below) (sc := defScope s__law_below) (by decide +kernel)) (fun _ _ _ _ _ => by exact (pg_name (i := 2) sc__law_below.nd rfl (Or.inl rfl))) (fun _ _ _ _ _ => by exact pts_one (pt_cmpR (op_inK (K := K)) (pv 1) (pe_op op_cat (pe_lc (own := [("end", 3)]) (g := (gName 3)) (tt := tYes) rfl sc__law_below.nd (pi_listK (K := K) (pe_call G__law_way (hr.mono (by first | decide | omega)) rfl T.mg__law_way T.kp__law_way T.bi__law_way .nil pass0 (pa_cons (pv 0) (pa_cons (pv 2) pa_nil)))) (blkOk_in (own := [("end", 3)]) (N := N__law_below) (by decide +kernel)) (fun _ _ _ _ _ => by exact (pg_name (i := 3) sc__law_below.nd rfl (Or.inl rfl))) (fun _ _ _ _ _ => pts_nil) (fun _ _ _ _ _ => by exact (pe_ix (ix_tupK (K := K)) (pv 3) pe_int (fun _ _ => rfl)))) (pe_lst (pa_cons (pv 2) pa_nil))) (by rfl))) (fun _ _ _ _ _ => by exact (pv 2))) pa_nil)))), ?_⟩
    have hs := Hs.start H
    let xs : List Int := List.map (fun z : Int × E2 => z.1) st.2 ++ [1]
    have hxs : kvs.map (fun kv : Key × V => kV kv.1) ++ [V.int 1] = xs.map V.int := by
      show _ = (List.map (fun z : Int × E2 => z.1) st.2 ++ [1]).map V.int
      rw [List.map_append]
      have h1 := congrArg (List.map kV) hP.keys
      rw [List.map_map, List.map_map] at h1
      congr 1
    have hlx : xs.length ≤ 6 := by
      have h2 := congrArg List.length ti.hd
      rw [List.length_cons, List.length_map] at h2
      have := ti.few gd
      show (List.map (fun z : Int × E2 => z.1) st.2 ++ [1]).length ≤ 6
      rw [List.length_append, List.length_map, List.length_singleton]
      omega
    have hlk : kvs.length ≤ 5 := by
      have h1 := congrArg List.length hxs
      rw [List.length_append, List.length_map, List.length_map, List.length_singleton] at h1
      omega
    have hmem : ∀ t, t ∈ xs ↔ t ∈ st.1 := fun t => by
      show t ∈ List.map (fun z : Int × E2 => z.1) st.2 ++ [1] ↔ _
      rw [ti.hd, List.mem_append, List.mem_cons (a := t) (b := (1 : Int)) (l := st.2.map (·.1)), List.mem_singleton, or_comm]
    have hxnd : xs.Nodup := by
      refine List.nodup_append.mpr ⟨ti.keys, by simp, fun x hx y hy e => ti.key1 ?_⟩
      rw [List.mem_singleton.mp hy] at e
      exact e ▸ hx
    walk_at "ss"
    refine w_lcS ?_
    walk_at "ss"
    refine w_listDK hs hd fun l1 H1 hs1 => ?_
    clear hs
    walk_at "ss"
    rename_i l3 H3 hs3
    rw [hxs] at hs3
    have hH3 : Same H H3 := hs3.same
    refine w_lcIx (fun i => (xs[i]?).bind fun t => if decide (hang st.2 s0 t) = true then some (V.int t) else none) (SqL.of hs3.g0) (by rw [List.length_map]; omega) (fun Q q => q) (fun _ => rfl) (fun i u H' Nx Ap hui sm hN hA => ?_) fun D acc H4 hs4 hacc => ?_
    · obtain ⟨t, ht, rfl⟩ := abs_map xs i hui
      have hts : t ∈ st.1 := (hmem t).mp (List.mem_of_getElem? ht)
      have hf : ((xs[i]?).bind fun t => if decide (hang st.2 s0 t) = true then some (V.int t) else none) = if decide (hang st.2 s0 t) = true then some (V.int t) else none := by rw [ht]; rfl
      rw [hf] at hN hA
      have sH := hH3.trans sm
      walk_at "ss"
      refine w_lcS ?_
      walk_at "ss"
      refine ⟨d, kvs, ls, st, t, rfl, sH _ _ hd, hP.same sH, ti, gd, hts, fun l ys H5 hs5 hrow => ?_⟩
      have hz9 : ys.length ≤ 9 := by
        rw [hrow.1]
        exact wayN_len _ _ _
      refine w_lcRow (fun _ v (x : E2) => v = V.int x.1) (fun _ _ _ _ _ z => z) (SqL.of hs5.g0) (by omega) (wayM st.2 t) hrow.1 (fun Q q => q) (fun _ => rfl) (fun j u e H6 Q' hu he s6 hq => ?_) fun D acc H6 hs6 hr6 => ?_
      · obtain ⟨q, rfl, hqq⟩ := hrow.2 j u e hu he
        have hq6 : H6 q = some (.tup [.int e.1, .int e.2]) := s6 _ _ (hs5.old hqq)
        walk_at "ss"
        exact hq _ _ (Same.refl _) rfl
      · rw [rows_ints hr6] at hs6
        have hs7 : Hs H' [(D, .lst (((wayM st.2 t).map (·.1)).map V.int)), (l, .lst ys)] H6 := hs5.add hs6
        have hz8 : (wayM st.2 t).length ≤ 9 := wayN_len _ _ _
        walk_at "ss"
        rename_i l8 H8 _ l9 H9 hs9
        have e9 : ((wayM st.2 t).map (·.1)).map V.int ++ [V.int t] = ((wayM st.2 t).map (·.1) ++ [t]).map V.int := by
          rw [List.map_append]
          rfl
        rw [e9] at hs9
        refine w_inIs (SqL.of hs9.g0) ?_
        refine ⟨_, rfl, ?_⟩
        show if decide (hang st.2 s0 t) = true then _ else _
        by_cases hh : hang st.2 s0 t
        · rw [decide_eq_true hh] at hA ⊢
          refine iteT ?_
          walk_at "ss"
          exact hA _ rfl _ hs9.same
        · rw [decide_eq_false hh] at hN ⊢
          refine iteF ?_
          exact hN rfl _ hs9.same
    · rw [List.length_map] at hacc
      have e1 : acc = (xs.filter fun t => decide (hang st.2 s0 t)).map V.int := by
        rw [hacc, ← range_filterMap xs (fun t => decide (hang st.2 s0 t)), List.map_filterMap]
        refine congrArg (fun f => List.filterMap f _) (funext fun i => ?_)
        cases xs[i]? with
        | none => rfl
        | some t =>
          show (if decide (hang st.2 s0 t) = true then some (V.int t) else none) = Option.map V.int (if decide (hang st.2 s0 t) = true then some t else none)
          split <;> rfl
      subst e1
      walk_at "ss"
      refine ⟨D, _, rfl, SqL.of hs4.g0, fun ys p hp ho hn => ?_⟩
      refine k p ys _ (((Hs.of_same hH3).add (hs4.new hn)).sel [0]) ⟨pw_lt (hp.nodup_iff.mpr (hxnd.filter _)) ho, fun t => ?_⟩
      rw [hp.mem_iff, List.mem_filter, hmem, decide_eq_true_iff]
end
local macro_rules | `(tactic| walk_at "v") => `(tactic| first | exact v0 | exact v1 | exact v2 | exact v3 | exact v4 | exact v5 | exact v6 | exact v7 | exact v8)
local macro_rules | `(tactic| walk_at "vs") => `(tactic| first | exact st0 | exact st1 | exact st2 | exact st3 | exact st4 | exact st5 | exact st6 | exact st7 | exact st8)
local macro_rules | `(tactic| walk_at "s") => `(tactic| first
  | with_reducible refine w_dget ?_
  | ((with_reducible refine' w_dgetZ ?h ?nd ?hk ?hv ?_); (case h => walk_at "g"); (case nd => walk_at "nd"); (case hk => walk_at "k"); (case hv => walk_at "v"))
  | ((with_reducible refine' w_dputZ ?hs ?h ?nd ?hk ?hv ?hu ?hl ?_); (case hs => assumption); (case h => walk_at "p"); (case nd => walk_at "nd"); (case hk => walk_at "k"); (case hv => walk_at "v"); (case hu => walk_at "vs"); (case hl => decide); intro _ _)
  | with_reducible refine w_gsub ?_
  | with_reducible refine w_setD ?_
  | with_reducible refine w_disp ?_
  | ((with_reducible refine' w_newP ?hs ?_); (case hs => assumption); intro _ _ _)
  | with_reducible refine w_pcons ?_
  | with_reducible refine w_pnil ?_)

local macro_rules | `(tactic| walk_at "s") => `(tactic| first
  | with_reducible refine w_nget ?_
  | with_reducible refine w_nin ?_
  | with_reducible refine w_nnot ?_
  | with_reducible refine w_nput ?_
  | with_reducible refine w_ndel ?_
  | with_reducible refine w_npop ?_
  | ((with_reducible refine' w_nnew ?hs ?_); (case hs => assumption); intro _ _ _))

/-! ## rows of ways -/
def WayAt (H : Hp) (v : V) (es : List E2) : Prop := ∃ (q : Addr) (zs : List V), v = .ref q ∧ H q = some (.lst zs) ∧ Row (EndAt H) zs es
theorem WayAt.same {H H' : Hp} (e : Same H H') {v : V} {es : List E2} (h : WayAt H v es) : WayAt H' v es := by
  obtain ⟨q, zs, h1, h2, h3⟩ := h
  exact ⟨q, zs, h1, e _ _ h2, h3.mono fun _ _ => EndAt.mono fun _ _ => e _ _⟩
def spWs (m : List Lk → Int → List (List E2)) : Sp := fun vs H Q _ => ∃ (r : Addr) (us : List V) (ls : List Lk) (to : Int), vs = [.ref r, .int to] ∧ H r = some (.lst us) ∧ LkL H us ls ∧ us.length ≤ 1000 ∧ Gd ls ∧ ∀ l ys B H', Same H B → Hs B [(l, .lst ys)] H' → Row (WayAt B) ys (m ls to) → Q (.ref l) H'
section
variable {P : Program} [IsP P] {w : World} {K : PySem.W.Frag} {mg : Str → Option Value} {base : Heap} {a : Ad}
theorem ok_ways_by_tree (T : Txt w K mg a) : FnOk P w K mg base CX0 3 a.ways_by_tree a.fd_ways_by_tree ["links", "to"] (spWs waysM) := by
  have G_tree := ok_tree (P := P) (w := w) (base := base) T
  have G_way := ok_way (P := P) (w := w) (base := base) T
  refine T.fn_ways_by_tree.ok sc_ways_by_tree (fun vs H Q E h => ?_) (fun cdv A outer s H vs Q E hr h => ?_)
  · obtain ⟨_, _, _, _, rfl, _⟩ := h
    rfl
  · obtain ⟨r, us, ls, to, rfl, hr0, hL, hz, gd, k⟩ := h
    have hu := hu_of hr
    refine ⟨_, (pss_cons (ps_set (i := 2) sc_ways_by_tree.nd rfl (Or.inl rfl) (pe_call G_tree (hr.mono (by first | decide | omega)) rfl T.mg_tree T.kp_tree T.bi_tree .nil pass0 (pa_cons (pv 0) pa_nil)))
  (pss_one (ps_ret (pe_ifExp (PW.pt (pw_or (pt_cmpR op_eq (pv 1) (pe_glob (v := .int 1) rfl (Exists.choose_spec T.mg_ROOT) ⟨_, rfl⟩) (nomark _)) (pw_or1 (pt_cmp (pc_din hu (pv 1) (pv 2)))))) (pe_lst (pa_cons (pe_call G_way (hr.mono (by first | decide | omega)) rfl T.mg_way T.kp_way T.bi_way .nil pass0 (pa_cons (pv 2) (pa_cons (pv 1) pa_nil))) pa_nil)) (pe_lst pa_nil))))), ?_⟩
    have ti := tree_ti ls
    walk_at "ss"
    refine ⟨r, us, ls, rfl, hr0, hL, hz, gd, fun d kvs H1 hs1 hP => ?_⟩
    have hvm : (valV kvs (Sum.inl to)).isSome = decide (to ∈ (treeM ls).2.map (·.1)) := valV_mem hP.keys
    have hrow : to ∈ (treeM ls).1 ↔ to = 1 ∨ to ∈ (treeM ls).2.map (·.1) := by
      rw [ti.hd, List.mem_cons]
    have fin : to ∈ (treeM ls).1 → ∀ l ys H2, Hs H1 [(l, .lst ys)] H2 → Row (EndAt H1) ys (wayM (treeM ls).2 to) → ∀ l2 H3, Hs H1 [(l2, .lst [.ref l]), (l, .lst ys)] H3 → Q (.ref l2) H3 := fun hm l ys H2 hs2 hrw l2 H3 hs3 => by
      obtain ⟨B2, sB2, hl2, hs5⟩ := frz_hs (hs3.m1)
      refine k l2 _ B2 H3 (hs1.same.trans sB2) hs5 ?_
      have e : waysM ls to = [wayM (treeM ls).2 to] := if_pos hm
      rw [e]
      exact Row.cons ⟨l, ys, rfl, hl2, hrw.mono fun _ _ => EndAt.mono fun _ _ => sB2 _ _⟩ Row.nil
    have hin : to ∈ (treeM ls).1 → spW [.ref d, .int to] H1 (fun v H2 => tNil [] H2 fun xs H3 => NewL Q (v :: xs) H3) E0 := fun hm => ⟨d, kvs, ls, treeM ls, to, rfl, hs1.g0, hP, ti, gd, hm, fun l ys H2 hs2 hrw => w_nil (w_newL hs2 (Nat.le_of_lt (szl (show 1 ≤ 1000000 by decide))) fun l2 H3 hs3 => fin hm l ys H2 hs2 hrw l2 H3 hs3)⟩
    have hnone : to ∉ (treeM ls).1 → waysM ls to = [] := fun hm => if_neg hm
    walk_at "ss"
    by_cases h1 : to = 1
    · rw [decide_eq_true h1]
      refine iteT ?_
      walk_at "ss"
      exact hin (hrow.mpr (.inl h1))
    · rw [decide_eq_false h1]
      refine iteF ?_
      walk_at "ss"
      rw [hvm]
      by_cases h2 : to ∈ (treeM ls).2.map (·.1)
      · rw [decide_eq_true h2]
        refine iteT ?_
        walk_at "ss"
        exact hin (hrow.mpr (.inr h2))
      · rw [decide_eq_false h2]
        refine iteF ?_
        walk_at "ss"
        rename_i l2 H3 hs3
        refine k l2 [] H H3 (Same.refl _) (hs3.sel [0]) ?_
        rw [hnone fun z => (hrow.mp z).elim h1 h2]
        exact Row.nil
end
local macro_rules | `(tactic| walk_at "v") => `(tactic| first | exact v0 | exact v1 | exact v2 | exact v3 | exact v4 | exact v5 | exact v6 | exact v7 | exact v8)
local macro_rules | `(tactic| walk_at "vs") => `(tactic| first | exact st0 | exact st1 | exact st2 | exact st3 | exact st4 | exact st5 | exact st6 | exact st7 | exact st8)
local macro_rules | `(tactic| walk_at "s") => `(tactic| first
  | with_reducible refine w_dget ?_
  | ((with_reducible refine' w_dgetZ ?h ?nd ?hk ?hv ?_); (case h => walk_at "g"); (case nd => walk_at "nd"); (case hk => walk_at "k"); (case hv => walk_at "v"))
  | ((with_reducible refine' w_dputZ ?hs ?h ?nd ?hk ?hv ?hu ?hl ?_); (case hs => assumption); (case h => walk_at "p"); (case nd => walk_at "nd"); (case hk => walk_at "k"); (case hv => walk_at "v"); (case hu => walk_at "vs"); (case hl => decide); intro _ _)
  | with_reducible refine w_gsub ?_
  | with_reducible refine w_setD ?_
  | with_reducible refine w_disp ?_
  | ((with_reducible refine' w_newP ?hs ?_); (case hs => assumption); intro _ _ _)
  | with_reducible refine w_pcons ?_
  | with_reducible refine w_pnil ?_)

local macro_rules | `(tactic| walk_at "s") => `(tactic| first
  | with_reducible refine w_nget ?_
  | with_reducible refine w_nin ?_
  | with_reducible refine w_nnot ?_
  | with_reducible refine w_nput ?_
  | with_reducible refine w_ndel ?_
  | with_reducible refine w_npop ?_
  | ((with_reducible refine' w_nnew ?hs ?_); (case hs => assumption); intro _ _ _))

theorem w_niL {K : PySem.W.Frag} {H : Hp} {Q : VK} {r t : Addr} {us : List V} {ls : List Lk} {l : Lk} (hr : H r = some (.lst us)) (hL : LkL H us ls) (hk : NK H (lkK l) (.ref t)) (k : Q (.bl (decide (l ∉ ls))) H) : rInDL K true (.ref t) (.ref r) H Q := by
  have h2 : Im K H (.ref t) (lkK l).data := hk.im
  refine ⟨(lkK l).data, ls.map fun l => (lkK l).data, h2.dp, .lst (SqL.of hr) hL.ima.dp, ?_, shp_list lk_ok, ?_⟩
  · rw [lk_data]
    simp [SeqAt.shaped, PyData.canLay0, PyData.canLayAll0, PyData.depth, PyData.depthAll]
  · have e : ((ls.map fun l => (lkK l).data).any fun z => PyData.eqv z (lkK l).data) = decide (l ∈ ls) := by
      rw [List.any_map]
      have e2 : ((fun z => PyData.eqv z (lkK l).data) ∘ fun l => (lkK l).data) = fun m => decide (m = l) := funext fun m => eqv_link
      rw [e2]
      by_cases hm : l ∈ ls
      · rw [decide_eq_true hm]
        exact List.any_eq_true.mpr ⟨l, hm, decide_eq_true rfl⟩
      · rw [decide_eq_false hm]
        cases q : ls.any fun m => decide (m = l) with
        | false => rfl
        | true =>
          obtain ⟨m, h3, h4⟩ := List.any_eq_true.mp q
          rw [of_decide_eq_true h4] at h3
          exact absurd h3 hm
    rw [e]
    have e3 : (!decide (l ∈ ls)) = decide (l ∉ ls) := by rw [← decide_not]
    show Q (.bl (if true then !decide (l ∈ ls) else decide (l ∈ ls))) H
    rw [if_pos rfl, e3]
    exact k
/-! ## two ways -/
theorem lk_at {H : Hp} {t p q : Addr} {x y : E2} (h : H t = some (.tup (if ltE x y = true then [.ref p, .ref q] else [.ref q, .ref p]))) (hp : H p = some (endO x)) (hq : H q = some (endO y)) : NK H (lkK (lkM x y)) (.ref t) := by
  unfold lkM
  by_cases hl : ltE' x y
  · rw [if_pos (ltE_iff.mpr hl)] at h
    rw [if_pos hl]
    exact nk_mk (l := (x, y)) h hp hq
  · rw [if_neg fun z => hl (ltE_iff.mp z)] at h
    rw [if_neg hl]
    exact nk_mk (l := (y, x)) h hq hp
theorem lkL_row {H : Hp} : ∀ {us : List V} {ls : List Lk}, Row (fun v l => ∃ a, v = V.ref a ∧ NK H (lkK l) (.ref a)) us ls → LkL H us ls
  | [], [], _ => .nil
  | [], _ :: _, h => by cases h.1
  | _ :: _, [], h => by cases h.1
  | u :: us, l :: ls, h => .cons (h.2 0 u l rfl rfl) (lkL_row ⟨Nat.succ.inj h.1, fun i y z h1 h2 => h.2 (i + 1) y z (by simpa using h1) (by simpa using h2)⟩)
section
variable {P : Program} [IsP P] {w : World} {K : PySem.W.Frag} {mg : Str → Option Value} {base : Heap} {a : Ad}
theorem ok_two_ways (T : Txt w K mg a) : FnOk P w K mg base CX0 4 a.two_ways a.fd_two_ways ["links", "to"] (spWs twoM) := by
  have G_ways_by_tree := ok_ways_by_tree (P := P) (w := w) (base := base) T
  have G_link_of := ok_link_of (P := P) (w := w) (base := base) T
  have G_peer := ok_peer (P := P) (w := w) (base := base) T
  refine T.fn_two_ways.ok sc_two_ways (fun vs H Q E h => ?_) (fun cdv A outer s H vs Q E hr h => ?_)
  · obtain ⟨_, _, _, _, rfl, _⟩ := h
    rfl
  · obtain ⟨r, us, ls, to, rfl, hr0, hL, hz, gd, k⟩ := h
    refine ⟨_, (pss_cons (ps_set (i := 2) sc_two_ways.nd rfl (Or.inl rfl) (pe_call G_ways_by_tree (hr.mono (by first | decide | omega)) rfl T.mg_ways_by_tree T.kp_ways_by_tree T.bi_ways_by_tree .nil pass0 (pa_cons (pv 0) (pa_cons (pv 1) pa_nil))))
  (pss_cons (ps_if (pt_not (pt_truthK (K := K) (pv 2)))
  (pss_one (ps_ret (pe_lst pa_nil)))
  pss_nil)
  (pss_cons (ps_set (i := 3) sc_two_ways.nd rfl (Or.inr rfl) (pe_lc (own := [("end", 4)]) (g := (gName 4)) (tt := tYes) rfl sc_two_ways.nd (pi_listK (K := K) (pe_ix (ix_listK (K := K)) (pv 2) pe_int (fun _ _ => rfl))) (blkOk_by (own := [("end", 4)]) (N := N_two_ways) (sc := defScope s_two_ways) (by decide +kernel)) (fun _ _ _ _ _ => by exact (pg_name (i := 4) sc_two_ways.nd rfl (Or.inl rfl))) (fun _ _ _ _ _ => pts_nil) (fun _ _ _ _ _ => by exact (pe_call G_link_of (hr.mono (by first | decide | omega)) rfl T.mg_link_of T.kp_link_of T.bi_link_of .nil pass0 (pa_cons (pv 4) (pa_cons (pe_call G_peer (hr.mono (by first | decide | omega)) rfl T.mg_peer T.kp_peer T.bi_peer .nil pass0 (pa_cons (pv 0) (pa_cons (pv 4) pa_nil))) pa_nil))))))
  (pss_one (ps_ret (pe_op op_cat (pv 2) (pe_call G_ways_by_tree (hr.mono (by first | decide | omega)) rfl T.mg_ways_by_tree T.kp_ways_by_tree T.bi_ways_by_tree .nil pass0 (pa_cons (pe_lc (own := [("link", 5)]) (g := (gName 5)) rfl sc_two_ways.nd (pi_listK (K := K) (pv 0)) (blkOk_by (own := [("link", 5)]) (N := N_two_ways) (sc := defScope s_two_ways) (by decide +kernel)) (fun _ _ _ _ _ => by exact (pg_name (i := 5) sc_two_ways.nd rfl (Or.inl rfl))) (fun _ _ _ _ _ => by exact pts_one (pt_cmpR (op_niDL (K := K) (r65 hr)) (pv 5) (pv 3) (by rfl))) (fun _ _ _ _ _ => by exact (pv 5))) (pa_cons (pv 1) pa_nil))))))))), ?_⟩
    walk_at "ss"
    refine ⟨r, us, ls, to, rfl, hr0, hL, hz, gd, fun fl ys B1 H1 sB1 hs1 hW => ?_⟩
    by_cases hm : to ∈ (treeM ls).1
    · have e1 : waysM ls to = [wayM (treeM ls).2 to] := if_pos hm
      rw [e1] at hW
      obtain ⟨v, rfl⟩ : ∃ v, ys = [v] := by
        match ys, hW.1 with
        | [v], _ => exact ⟨v, rfl⟩
      obtain ⟨q, zs, rfl, hq, hzs⟩ := hW.2 0 v _ rfl rfl
      have hq1 := hs1.old hq
      have hrB := sB1 _ _ hr0
      have hLB := hL.same sB1
      have hpe := way_peers (ls := ls) (to := to)
      have hz9 : zs.length ≤ 9 := by
        rw [hzs.1]
        exact wayN_len _ _ _
      have e2 : twoM ls to = [wayM (treeM ls).2 to] ++ waysM (restM ls (wayM (treeM ls).2 to)) to := if_pos hm
      rw [e2] at k
      generalize wayM (treeM ls).2 to = es at hzs hpe hW k
      walk_at "ss"
      refine w_truL (SqL.of hs1.g0) ?_
      refine iteF ?_
      walk_at "ss"
      refine w_lcS ?_
      walk_at "ss"
      refine w_lcRow (fun H v l => ∃ a, v = V.ref a ∧ NK H (lkK l) (.ref a)) (fun H1 H2 v l e ⟨a, h1, h2⟩ => ⟨a, h1, h2.mono e⟩) (SqL.of hq1) (by omega) (goneM ls es) (by unfold goneM; rw [List.length_map]; exact hzs.1) (fun Q q => q) (fun _ => rfl) (fun j u l H3 Q' hu hl s3 hqq => ?_) fun gl gacc H3 hs3 hr3 => ?_
      · obtain ⟨e, hej, q2, rfl, hq2⟩ := hzs.get hu
        obtain ⟨o, ho⟩ := hpe e (List.mem_of_getElem? hej)
        have hpo : pe ls e = o := by unfold pe; rw [ho]; rfl
        unfold goneM at hl
        rw [List.getElem?_map, hej] at hl
        cases hl
        replace hqq : ∀ v H4, Same H3 H4 → (∃ a, v = V.ref a ∧ NK H4 (lkK (lkM e o)) (.ref a)) → Q' v H4 := by
          rw [← hpo]
          exact hqq
        have s13 := hs1.same.trans s3
        walk_at "ss"
        refine ⟨r, q2, us, ls, e, rfl, s13 _ _ hrB, hLB.same s13, s13 _ _ hq2, fun v hv => ?_⟩
        rw [ho] at hv
        obtain ⟨v, rfl, hv⟩ := hv
        walk_at "ss"
        exact ⟨q2, v, e, o, rfl, s13 _ _ hq2, hv, fun t H4 hs4 => hqq _ _ hs4.same ⟨t, rfl, lk_at hs4.g0 (hs4.old (s13 _ _ hq2)) (hs4.old hv)⟩⟩
      · have hg := lkL_row hr3
        have hs4 : Hs B1 [(gl, .lst gacc), (fl, .lst [.ref q])] H3 := hs1.add hs3
        walk_at "ss"
        refine w_lcF (fun l => decide (l ∉ goneM ls es)) (SqL.of (hs4.old hrB)) (hLB.same hs4.same) hz (fun Q q => ⟨_, rfl, q⟩) (fun _ => rfl) (fun _ => rfl) (fun t l H4 hl hk sm R hR => ?_) fun D acc H4 hs5 hacc => ?_
        · walk_at "ss"
          refine w_niL (sm _ _ hs4.g0) (hg.same sm) (hk.mono fun _ _ => sm _ _) ?_
          exact ⟨_, rfl, hR _ (Same.refl _)⟩
        · rw [rest_eq gd hpe] at hacc
          have hg4 : LkL H4 acc (restM ls es) := hacc.same hs5.same
          have haz : acc.length ≤ 1000 := by
            rw [LkL.len hacc]
            refine Nat.le_trans (List.length_filter_le _ _) ?_
            rw [← LkL.len hL]
            exact hz
          walk_at "ss"
          refine ⟨D, acc, restM ls es, to, rfl, hs5.g0, hg4, haz, gd.rest es, fun l2 ys2 B2 H5 sB2 hs6 hW2 => ?_⟩
          have hfl : B2 fl = some (.lst [.ref q]) := sB2 _ _ (hs5.old hs4.g1)
          have s12 : Same B1 B2 := (hs4.same.trans hs5.same).trans sB2
          have hyz : ys2.length ≤ 1 := by
            rw [hW2.1]
            unfold waysM
            split <;> simp
          refine w_cat hs6 (hs6.old hfl) hs6.g0 (Nat.le_of_lt (szl (by simp; omega))) fun l H6 hs7 => ?_
          walk_at "ss"
          refine k l _ B2 H6 (sB1.trans s12) (hs7.sel [0]) ?_
          exact Row.cons (WayAt.same s12 ⟨q, zs, rfl, hq, hzs⟩) hW2
    · have e1 : waysM ls to = [] := if_neg hm
      rw [e1] at hW
      obtain rfl : ys = [] := by
        cases ys with
        | nil => rfl
        | cons _ _ => cases hW.1
      walk_at "ss"
      refine w_truL (SqL.of hs1.g0) ?_
      refine iteT ?_
      walk_at "ss"
      rename_i l2 H2 hs2
      have e2 : twoM ls to = [] := if_neg hm
      rw [e2] at k
      exact k l2 [] B1 H2 sB1 (hs2.sel [0]) Row.nil
end
local macro_rules | `(tactic| walk_at "v") => `(tactic| first | exact v0 | exact v1 | exact v2 | exact v3 | exact v4 | exact v5 | exact v6 | exact v7 | exact v8)
local macro_rules | `(tactic| walk_at "vs") => `(tactic| first | exact st0 | exact st1 | exact st2 | exact st3 | exact st4 | exact st5 | exact st6 | exact st7 | exact st8)
local macro_rules | `(tactic| walk_at "s") => `(tactic| first
  | with_reducible refine w_dget ?_
  | ((with_reducible refine' w_dgetZ ?h ?nd ?hk ?hv ?_); (case h => walk_at "g"); (case nd => walk_at "nd"); (case hk => walk_at "k"); (case hv => walk_at "v"))
  | ((with_reducible refine' w_dputZ ?hs ?h ?nd ?hk ?hv ?hu ?hl ?_); (case hs => assumption); (case h => walk_at "p"); (case nd => walk_at "nd"); (case hk => walk_at "k"); (case hv => walk_at "v"); (case hu => walk_at "vs"); (case hl => decide); intro _ _)
  | with_reducible refine w_gsub ?_
  | with_reducible refine w_setD ?_
  | with_reducible refine w_disp ?_
  | ((with_reducible refine' w_newP ?hs ?_); (case hs => assumption); intro _ _ _)
  | with_reducible refine w_pcons ?_
  | with_reducible refine w_pnil ?_)

local macro_rules | `(tactic| walk_at "s") => `(tactic| first
  | with_reducible refine w_nget ?_
  | with_reducible refine w_nin ?_
  | with_reducible refine w_nnot ?_
  | with_reducible refine w_nput ?_
  | with_reducible refine w_ndel ?_
  | with_reducible refine w_npop ?_
  | ((with_reducible refine' w_nnew ?hs ?_); (case hs => assumption); intro _ _ _))

/-! ## graphs -/
def GrAt (H : Hp) (v : V) (cnt : Int) (ls : List Lk) : Prop := ∃ (p lr : Addr) (us : List V), v = .ref p ∧ H p = some (.tup [.str "graph", .int cnt, .ref lr]) ∧ H lr = some (.lst us) ∧ LkL H us ls ∧ ls.length ≤ 100
theorem GrAt.same {H H' : Hp} (s : Same H H') {v : V} {cnt : Int} {ls : List Lk} (h : GrAt H v cnt ls) : GrAt H' v cnt ls := by
  obtain ⟨p, lr, us, h1, h2, h3, h4, h5⟩ := h
  exact ⟨p, lr, us, h1, s _ _ h2, s _ _ h3, h4.same s, h5⟩
structure GoodP (cnt : Int) (ls : List Lk) : Prop where
  cnt1 : 1 ≤ cnt ∧ cnt ≤ 8
  rng : ∀ l ∈ ls, isEnd cnt l.1 = true ∧ isEnd cnt l.2 = true ∧ l.1.1 < l.2.1
  nd : (flatE ls).Nodup
  srtd : ls = srt ls
theorem eqv_links : ∀ ls ms : List Lk, PyData.eqvAll (ls.map fun l => (lkK l).data) (ms.map fun l => (lkK l).data) = decide (ls = ms)
  | [], [] => by simp [PyData.eqvAll]
  | [], y :: ms => by simp [PyData.eqvAll]
  | x :: ls, [] => by simp [PyData.eqvAll]
  | x :: ls, y :: ms => by
    have ih := eqv_links ls ms
    rw [List.map_cons, List.map_cons]
    have e : PyData.eqvAll ((lkK x).data :: ls.map fun l => (lkK l).data) ((lkK y).data :: ms.map fun l => (lkK l).data) = (PyData.eqv (lkK x).data (lkK y).data && PyData.eqvAll (ls.map fun l => (lkK l).data) (ms.map fun l => (lkK l).data)) := by simp only [PyData.eqvAll]
    rw [e, ih, eqv_link]
    by_cases h1 : x = y
    · by_cases h2 : ls = ms
      · simp [h1, h2]
      · simp [h1, h2]
    · simp [h1]
theorem w_eqLk {K : PySem.W.Frag} {H : Hp} {Q : VK} {p q : Addr} {us ws : List V} {ls ms : List Lk} (hp : H p = some (.lst us)) (hq : H q = some (.lst ws)) (h1 : LkL H us ls) (h2 : LkL H ws ms) (k : Q (.bl (decide (ls = ms))) H) : rEqD K (.ref p) (.ref q) H Q := by
  refine w_eqD (.lst (SqL.of hp) h1.ima.dp) (.lst (SqL.of hq) h2.ima.dp) (shp_list lk_ok) (shp_list lk_ok) ?_
  have e : PyData.eqv (.list (ls.map fun l => (lkK l).data)) (.list (ms.map fun l => (lkK l).data)) = PyData.eqvAll (ls.map fun l => (lkK l).data) (ms.map fun l => (lkK l).data) := by simp only [PyData.eqv]
  rw [e, eqv_links]
  exact k
theorem w_sortL {K : PySem.W.Frag} {B H : Hp} {L : List (Addr × HO)} {Q : VK} {a : Addr} {us : List V} {ls : List Lk} (hs : Hs B L H) (h : SqL K H a us) (hL : LkL H us ls)
    (q : ∀ p ys H', ys.length = us.length → Hs B ((p, .lst ys) :: L) H' → LkL H' ys (srt ls) → Q (.ref p) H') : rSortN K (some 2) [some 2] [.ref a] H Q := by
  refine ⟨a, us, itK H, rfl, h, fun x hx => ?_, fun ys p h1 h2 hp => ?_⟩
  · obtain ⟨i, hi⟩ := List.mem_iff_getElem?.mp hx
    obtain ⟨t, l, rfl, hl, hk⟩ := LkL.get hL hi
    have e := itK_eq hk
    rw [e]
    exact ⟨⟨t, rfl⟩, hk, rfl⟩
  · obtain ⟨ms, h3, h4⟩ := paired_perm h2.perm hL
    have e : ms = srt ls := srt_uniq h3 (srtd_links h4 h1)
    subst e
    exact q p ys _ h2.perm.length_eq (hs.new hp) (LkL.mono (fun b xs e => by rw [upd_ne (ne_of_none e hp)]; exact e) h4)
theorem flat_take {ls : List Lk} {i : Nat} {l : Lk} (h : ls[i]? = some l) : flatE (ls.take (i + 1)) = flatE (ls.take i) ++ [l.1, l.2] := by
  unfold flatE
  rw [List.take_add_one, h, List.flatMap_append]
  rfl
theorem flat_len (ls : List Lk) : (flatE ls).length = 2 * ls.length := by
  unfold flatE
  induction ls with
  | nil => rfl
  | cons l ls ih =>
    rw [List.flatMap_cons, List.length_append, ih, List.length_cons]
    simp
    omega
theorem mem_take1 {ls : List Lk} {i : Nat} {l : Lk} (h : ls[i]? = some l) {p : Lk → Prop} (h1 : ∀ x ∈ ls.take i, p x) (h2 : p l) : ∀ x ∈ ls.take (i + 1), p x := fun x hx => by
  rw [List.take_add_one, h] at hx
  rcases List.mem_append.mp hx with hx | hx
  · exact h1 x hx
  · rw [Option.toList_some, List.mem_singleton] at hx
    rw [hx]
    exact h2
theorem nodup_len {α : Type} [DecidableEq α] : ∀ {xs L : List α}, L.Nodup → (∀ x, x ∈ L ↔ x ∈ xs) → (xs.length = L.length ↔ xs.Nodup) := fun {xs L} nd hm => by
  constructor
  · intro h
    have h1 : ∀ (k : Nat) (xs L : List α), L.length = k → L.Nodup → (∀ x, x ∈ L → x ∈ xs) → xs.length = k → xs.Nodup := fun k => by
      induction k with
      | zero =>
        intro xs L _ _ _ h
        rw [List.eq_nil_of_length_eq_zero h]
        exact List.Pairwise.nil
      | succ k ih =>
        intro xs L hl nd hm hx
        cases L with
        | nil => cases hl
        | cons y L =>
          have nd' := List.nodup_cons.mp nd
          have hy := hm y List.mem_cons_self
          have p := List.perm_cons_erase hy
          have h2 : (xs.erase y).Nodup := by
            refine ih (xs.erase y) L (by simpa using hl) nd'.2 (fun z hz => ?_) ?_
            · have hzy : z ≠ y := fun e => nd'.1 (e ▸ hz)
              exact (List.mem_erase_of_ne hzy).mpr (hm z (List.mem_cons_of_mem _ hz))
            · rw [List.length_erase_of_mem hy, hx]
              rfl
          by_cases hin : y ∈ xs.erase y
          · -- then the rest would hold L and y, in k places
            exfalso
            have h3 : ∀ z ∈ y :: L, z ∈ xs.erase y := fun z hz => by
              rcases List.mem_cons.mp hz with rfl | hz
              · exact hin
              · have hzy : z ≠ y := fun e => nd'.1 (e ▸ hz)
                exact (List.mem_erase_of_ne hzy).mpr (hm z (List.mem_cons_of_mem _ hz))
            have := nd.length_le_of_subset h3
            rw [List.length_erase_of_mem hy, hx, hl] at this
            omega
          · exact p.nodup_iff.mpr (List.nodup_cons.mpr ⟨hin, h2⟩)
    exact h1 L.length xs L rfl nd (fun x hx => (hm x).mp hx) h
  · intro h
    exact Nat.le_antisymm (h.length_le_of_subset fun x hx => (hm x).mpr hx) (nd.length_le_of_subset fun x hx => (hm x).mp hx)
local macro_rules | `(tactic| walk_at "v") => `(tactic| first | exact v0 | exact v1 | exact v2 | exact v3 | exact v4 | exact v5 | exact v6 | exact v7 | exact v8)
local macro_rules | `(tactic| walk_at "vs") => `(tactic| first | exact st0 | exact st1 | exact st2 | exact st3 | exact st4 | exact st5 | exact st6 | exact st7 | exact st8)
local macro_rules | `(tactic| walk_at "s") => `(tactic| first
  | with_reducible refine w_dget ?_
  | ((with_reducible refine' w_dgetZ ?h ?nd ?hk ?hv ?_); (case h => walk_at "g"); (case nd => walk_at "nd"); (case hk => walk_at "k"); (case hv => walk_at "v"))
  | ((with_reducible refine' w_dputZ ?hs ?h ?nd ?hk ?hv ?hu ?hl ?_); (case hs => assumption); (case h => walk_at "p"); (case nd => walk_at "nd"); (case hk => walk_at "k"); (case hv => walk_at "v"); (case hu => walk_at "vs"); (case hl => decide); intro _ _)
  | with_reducible refine w_gsub ?_
  | with_reducible refine w_setD ?_
  | with_reducible refine w_disp ?_
  | ((with_reducible refine' w_newP ?hs ?_); (case hs => assumption); intro _ _ _)
  | with_reducible refine w_pcons ?_
  | with_reducible refine w_pnil ?_)

local macro_rules | `(tactic| walk_at "s") => `(tactic| first
  | with_reducible refine w_nget ?_
  | with_reducible refine w_nin ?_
  | with_reducible refine w_nnot ?_
  | with_reducible refine w_nput ?_
  | with_reducible refine w_ndel ?_
  | with_reducible refine w_npop ?_
  | ((with_reducible refine' w_nnew ?hs ?_); (case hs => assumption); intro _ _ _))

def prI (e : E2) : List Int := [e.1, e.2]
theorem prI_inj {x y : E2} (h : prI x = prI y) : x = y := by
  unfold prI at h
  injection h with h1 h2
  injection h2 with h2 _
  exact Prod.ext h1 h2
theorem row_ks {K : PySem.W.Frag} {H : Hp} : ∀ {us : List V} {fs : List E2}, Row (EndAt H) us fs → ∃ ks : List (Addr × List Int), us = ks.map (fun p => V.ref p.1) ∧ ks.map (·.2) = fs.map prI ∧ ∀ p ∈ ks, SqT K H p.1 (p.2.map V.int)
  | [], [], _ => ⟨[], rfl, rfl, fun _ z => nomatch z⟩
  | [], _ :: _, h => by cases h.1
  | _ :: _, [], h => by cases h.1
  | u :: us, f :: fs, h => by
    obtain ⟨ks, h1, h2, h3⟩ := row_ks (K := K) (us := us) (fs := fs) ⟨Nat.succ.inj h.1, fun i y z h1 h2 => h.2 (i + 1) y z (by simpa using h1) (by simpa using h2)⟩
    obtain ⟨q, rfl, hq⟩ := h.2 0 u f rfl rfl
    refine ⟨(q, prI f) :: ks, by rw [List.map_cons, h1], by rw [List.map_cons, List.map_cons, h2], fun p hp => ?_⟩
    rcases List.mem_cons.mp hp with rfl | hp
    · exact SqT.of hq
    · exact h3 p hp
theorem nodup_pr {fs : List E2} : (fs.map prI).Nodup ↔ fs.Nodup := by
  unfold List.Nodup
  rw [List.pairwise_map]
  exact ⟨fun h => h.imp fun {x y} hxy e => hxy (congrArg prI e), fun h => h.imp fun {x y} hxy e => hxy (prI_inj e)⟩
def sp_check : Sp := fun vs H Q _ => ∃ (v : V) (cnt : Int) (ls : List Lk), vs = [v] ∧ GrAt H v cnt ls ∧ ls.length ≤ 30 ∧ ∀ b H', Same H H' → (b = true ↔ GoodP cnt ls) → Q (.bl b) H'
section
variable {P : Program} [IsP P] {w : World} {K : PySem.W.Frag} {mg : Str → Option Value} {base : Heap} {a : Ad}
theorem ok_check_graph (T : Txt w K mg a) : FnOk P w K mg base CX0 2 a.check_graph a.fd_check_graph ["graph"] sp_check := by
  have G_is_end := ok_is_end (P := P) (w := w) (base := base) T
  refine T.fn_check_graph.ok sc_check_graph (fun vs H Q E h => ?_) (fun cdv A outer s H vs Q E hr h => ?_)
  · obtain ⟨_, _, _, rfl, _⟩ := h
    rfl
  · obtain ⟨_, cnt, ls, rfl, ⟨g, lr, us, rfl, hg, hl, hL, _⟩, hz, k⟩ := h
    refine ⟨_, (pss_cons (ps_asg (pv 0) (pg_tupK (K := K) rfl (pgs_cons (pg_name (i := 1) sc_check_graph.nd rfl (Or.inl rfl)) (pgs_cons (pg_name (i := 2) sc_check_graph.nd rfl (Or.inl rfl)) (pgs_cons (pg_name (i := 3) sc_check_graph.nd rfl (Or.inl rfl)) pgs_nil)))))
  (pss_cons (ps_if (pt_not (pt_chain op_le op_le pe_int (pv 2) (pe_glob (v := .int 8) rfl (Exists.choose_spec T.mg_MOST_SWITCHES) ⟨_, rfl⟩)))
  (pss_one (ps_ret pe_bl))
  pss_nil)
  (pss_cons (ps_set (i := 4) sc_check_graph.nd rfl (Or.inl rfl) (pe_lst pa_nil))
  (pss_cons (ps_for PassesOwn.never rfl (pi_listK (K := K) (pv 3)) (pg_tupK (K := K) rfl (pgs_cons (pg_name (i := 5) sc_check_graph.nd rfl (Or.inl rfl)) (pgs_cons (pg_name (i := 6) sc_check_graph.nd rfl (Or.inl rfl)) pgs_nil)))
  (pss_cons (ps_if (PW.pt (pw_or (pt_not (pt_val (pe_call G_is_end (hr.mono (by first | decide | omega)) rfl T.mg_is_end T.kp_is_end T.bi_is_end .nil pass0 (pa_cons (pv 2) (pa_cons (pv 5) pa_nil))))) (pw_or1 (pt_not (pt_val (pe_call G_is_end (hr.mono (by first | decide | omega)) rfl T.mg_is_end T.kp_is_end T.bi_is_end .nil pass0 (pa_cons (pv 2) (pa_cons (pv 6) pa_nil))))))))
  (pss_one (ps_ret pe_bl))
  pss_nil)
  (pss_cons (ps_if (pt_cmpR op_ge (pe_ix (ix_tupK (K := K)) (pv 5) pe_int (fun _ _ => rfl)) (pe_ix (ix_tupK (K := K)) (pv 6) pe_int (fun _ _ => rfl)) (nomark _))
  (pss_one (ps_ret pe_bl))
  pss_nil)
  (pss_one (ps_expr (pe_bmK (K := K) PySem.F.plainAttrs_list PySem.F.slot_list_extend PySem.F.type_list_extend mt_extend (pv 4) (pa_cons (pe_lst (pa_cons (pv 5) (pa_cons (pv 6) pa_nil))) pa_nil)))))))
  (pss_one (ps_ret (pe_and (pe_cmpR (op_eqDK (K := K) hr.units) (pv 3) (pe_callB (cr_sortN (K := K) (c := some 2) (sh := [some 2]) (r64 hr)) (by rfl) T.mg_sorted (by decide +kernel) (pa_cons (pv 3) pa_nil)) (nomark _)) (pe_one (pe_cmpR op_eq (pe_callB (call_lenK (K := K)) (by rfl) T.mg_len PySem.boot_len (pa_cons (pv 4) pa_nil)) (pe_lenSetT (K := K) rfl (r64 hr) (by rfl) T.mg_len (by rfl) T.mg_set (pv 4)) (nomark _)))))))))), ?_⟩
    have bad : ∀ H', Same H H' → ¬ GoodP cnt ls → Q (.bl false) H' := fun H' s n => k false H' s ⟨(fun z => nomatch z), fun z => absurd z n⟩
    have hs := Hs.start H
    walk_at "ss"
    refine ifd (fun h1 => ?_) (fun h1 => ?_)
    · walk_at "ss"
      by_cases h8 : cnt ≤ 8
      · rw [decide_eq_true h8]
        refine iteF ?_
        walk_at "ss"
        rename_i el H1 hs1
        clear hs
        refine w_forL (SqL.of (hs1.old hl)) (fun i σ H' => ∃ (eus : List V) (v5 v6 : Option V), σ = [some (.ref g), some (.str "graph"), some (.int cnt), some (.ref lr), some (.ref el), v5, v6] ∧ Hs H [(el, .lst eus)] H' ∧ Row (EndAt H) eus (flatE (ls.take i)) ∧ ∀ l ∈ ls.take i, isEnd cnt l.1 = true ∧ isEnd cnt l.2 = true ∧ l.1.1 < l.2.1)
          (fun Q q => ⟨_, rfl, q⟩) ⟨[], _, _, rfl, hs1, Row.nil, fun _ z => nomatch z⟩ (fun i σ H' _ ⟨_, _, _, _, hs, _⟩ => SqL.of (hs.old hl)) ?_ ?_
        · clear hs1 H1
          rintro i y σ H1 hi ⟨eus, v5, v6, rfl, hs1, hrow, hall⟩
          obtain ⟨t, l, rfl, hli, hk⟩ := LkL.get hL hi
          obtain ⟨p, q, ht, hp, hq⟩ := nk_link hk
          have ht1 := hs1.old ht
          have hp1 : H1 p = some (.tup [.int l.1.1, .int l.1.2]) := hs1.old hp
          have hq1 : H1 q = some (.tup [.int l.2.1, .int l.2.2]) := hs1.old hq
          have hlm := List.mem_of_getElem? hli
          have hez : eus.length ≤ 60 := by
            rw [hrow.1, flat_len, List.length_take]
            omega
          walk_at "ss"
          refine ⟨p, cnt, l.1, rfl, hp1, ?_⟩
          cases c1 : isEnd cnt l.1 with
          | false =>
            refine ⟨_, rfl, iteT ?_⟩
            walk_at "ss"
            exact bad _ hs1.same fun z => by
              have := (z.rng l hlm).1
              rw [c1] at this
              cases this
          | true =>
            refine ⟨_, rfl, iteF ?_⟩
            walk_at "ss"
            refine ⟨q, cnt, l.2, rfl, hq1, ?_⟩
            cases c2 : isEnd cnt l.2 with
            | false =>
              refine ⟨_, rfl, iteT ?_⟩
              walk_at "ss"
              exact bad _ hs1.same fun z => by
                have := (z.rng l hlm).2.1
                rw [c2] at this
                cases this
            | true =>
              refine ⟨_, rfl, iteF ?_⟩
              walk_at "ss"
              refine ifd (fun h3 => ?_) (fun h3 => ?_)
              · walk_at "ss"
                exact bad _ hs1.same fun z => by
                  have := (z.rng l hlm).2.2
                  omega
              · walk_at "ss"
                rename_i tl H2 hs2
                refine w_ext2 hs2 (by simp; omega) fun H3 hs3 => ?_
                walk_at "ss"
                refine ⟨_, _, _, rfl, hs3, ?_, mem_take1 hli hall ⟨c1, c2, by omega⟩⟩
                rw [flat_take hli]
                exact hrow.app (Row.cons ⟨p, rfl, hp⟩ (Row.cons ⟨q, rfl, hq⟩ Row.nil))
        · clear hs1 H1
          rintro σ H1 ⟨eus, v5, v6, rfl, hs1, hrow, hall⟩
          rw [LkL.len hL, List.take_length] at hrow hall
          walk_at "ss"
          refine w_sortL hs1 (SqL.of (hs1.old hl)) (hL.same hs1.same) fun sl ys H2 _ hs2 hL2 => ?_
          walk_at "ss"
          refine w_eqLk (hs2.old hl) hs2.g0 (hL.same hs2.same) hL2 ?_
          refine ⟨_, rfl, ?_⟩
          by_cases hsr : ls = srt ls
          · rw [decide_eq_true hsr]
            refine iteT ?_
            have hez : eus.length ≤ 60 := by
              rw [hrow.1, flat_len]
              omega
            obtain ⟨ks, k1, k2, k3⟩ := row_ks (K := K) (hrow.mono fun _ _ => EndAt.mono hs2.tups)
            walk_at "ss"
            refine ⟨_, rfl, el, ks, rfl, ?_, fun p hp => ?_, ?_, fun L nd hm => ?_⟩
            · rw [← k1]
              exact SqL.of hs2.g1
            · exact k3 p hp
            · have := congrArg List.length k1
              rw [List.length_map] at this
              omega
            · walk_at "ss"
              refine k _ _ hs2.same ?_
              rw [decide_eq_true_iff]
              have e1 : (eus.length : Int) = (L.length : Int) ↔ (flatE ls).Nodup := by
                have h3 := nodup_len (xs := ks.map (·.2)) nd hm
                have h4 := congrArg List.length k1
                rw [List.length_map] at h3 h4
                rw [k2, nodup_pr] at h3
                rw [← h3]
                omega
              rw [e1]
              exact ⟨fun z => ⟨⟨h1, h8⟩, hall, z, hsr⟩, fun z => z.nd⟩
          · rw [decide_eq_false hsr]
            refine iteF ?_
            exact bad _ hs2.same fun z => hsr z.srtd
      · rw [decide_eq_false h8]
        refine iteT ?_
        walk_at "ss"
        exact bad _ (Same.refl _) fun z => h8 z.cnt1.2
    · walk_at "ss"
      exact bad _ (Same.refl _) fun z => h1 z.cnt1.1
end
local macro_rules | `(tactic| walk_at "v") => `(tactic| first | exact v0 | exact v1 | exact v2 | exact v3 | exact v4 | exact v5 | exact v6 | exact v7 | exact v8)
local macro_rules | `(tactic| walk_at "vs") => `(tactic| first | exact st0 | exact st1 | exact st2 | exact st3 | exact st4 | exact st5 | exact st6 | exact st7 | exact st8)
local macro_rules | `(tactic| walk_at "s") => `(tactic| first
  | with_reducible refine w_dget ?_
  | ((with_reducible refine' w_dgetZ ?h ?nd ?hk ?hv ?_); (case h => walk_at "g"); (case nd => walk_at "nd"); (case hk => walk_at "k"); (case hv => walk_at "v"))
  | ((with_reducible refine' w_dputZ ?hs ?h ?nd ?hk ?hv ?hu ?hl ?_); (case hs => assumption); (case h => walk_at "p"); (case nd => walk_at "nd"); (case hk => walk_at "k"); (case hv => walk_at "v"); (case hu => walk_at "vs"); (case hl => decide); intro _ _)
  | with_reducible refine w_gsub ?_
  | with_reducible refine w_setD ?_
  | with_reducible refine w_disp ?_
  | ((with_reducible refine' w_newP ?hs ?_); (case hs => assumption); intro _ _ _)
  | with_reducible refine w_pcons ?_
  | with_reducible refine w_pnil ?_)

local macro_rules | `(tactic| walk_at "s") => `(tactic| first
  | with_reducible refine w_nget ?_
  | with_reducible refine w_nin ?_
  | with_reducible refine w_nnot ?_
  | with_reducible refine w_nput ?_
  | with_reducible refine w_ndel ?_
  | with_reducible refine w_npop ?_
  | ((with_reducible refine' w_nnew ?hs ?_); (case hs => assumption); intro _ _ _))

theorem eqv_ends {fs : List E2} {e : E2} : ((fs.map fun x => PyData.tuple [.int x.1, .int x.2]).any fun z => PyData.eqv z (.tuple [.int e.1, .int e.2])) = decide (e ∈ fs) := by
  rw [List.any_map]
  have e2 : ((fun z => PyData.eqv z (.tuple [.int e.1, .int e.2])) ∘ fun x : E2 => PyData.tuple [.int x.1, .int x.2]) = fun m => decide (m = e) := funext fun m => eqv_end
  rw [e2]
  by_cases hm : e ∈ fs
  · rw [decide_eq_true hm]
    exact List.any_eq_true.mpr ⟨e, hm, decide_eq_true rfl⟩
  · rw [decide_eq_false hm]
    cases q : fs.any fun m => decide (m = e) with
    | false => rfl
    | true =>
      obtain ⟨m, h3, h4⟩ := List.any_eq_true.mp q
      rw [of_decide_eq_true h4] at h3
      exact absurd h3 hm
theorem end_ok {fs : List E2} : ∀ d ∈ fs.map (fun x => PyData.tuple [.int x.1, .int x.2]), d.canLay0 = true ∧ d.depth ≤ 60 := fun d hd => by
  obtain ⟨x, _, rfl⟩ := List.mem_map.mp hd
  constructor
  · simp [PyData.canLay0, PyData.canLayAll0]
  · simp [PyData.depth, PyData.depthAll]
theorem ends_dp {K : PySem.W.Frag} {H : Hp} {r : Addr} {us : List V} {fs : List E2} (hr : H r = some (.lst us)) (hL : Row (EndAt H) us fs) : Dp K H (.ref r) (.list (fs.map fun x => PyData.tuple [.int x.1, .int x.2])) :=
  .lst (SqL.of hr) (hL.dpAll (d := fun x => PyData.tuple [.int x.1, .int x.2]) fun u x ⟨q, h1, h2⟩ => by
    rw [h1]
    exact dp_end h2)
theorem w_inEs {K : PySem.W.Frag} {H : Hp} {Q : VK} {neg : Bool} {r t : Addr} {us : List V} {fs : List E2} {e : E2} (hr : H r = some (.lst us)) (hL : Row (EndAt H) us fs) (he : H t = some (endO e)) (k : Q (.bl (if neg then !decide (e ∈ fs) else decide (e ∈ fs))) H) : rInDL K neg (.ref t) (.ref r) H Q := by
  refine ⟨_, _, dp_end he, ends_dp hr hL, shp_end e, shp_list end_ok, ?_⟩
  rw [eqv_ends]
  exact k
theorem flat_pre {ls : List Lk} {i : Nat} {l : Lk} (h : ls[i]? = some l) (k : Nat) : (flatE (ls.take i) ++ [l.1, l.2].take k) <+: flatE ls := by
  have e1 : flatE ls = flatE (ls.take (i + 1)) ++ flatE (ls.drop (i + 1)) := by
    unfold flatE
    rw [← List.flatMap_append, List.take_append_drop]
  rw [e1, flat_take h, List.append_assoc]
  refine List.prefix_append_right_inj _ |>.mpr ?_
  exact (List.take_prefix _ _).trans (List.prefix_append _ _)
theorem nd_snoc {α : Type} {xs : List α} {x : α} : (xs ++ [x]).Nodup ↔ xs.Nodup ∧ x ∉ xs := by
  rw [List.nodup_append]
  constructor
  · rintro ⟨h1, _, h2⟩
    exact ⟨h1, fun z => h2 x z x (by simp) rfl⟩
  · rintro ⟨h1, h2⟩
    exact ⟨h1, by simp, fun a ha b hb e => h2 (by rw [List.mem_singleton.mp hb] at e; exact e ▸ ha)⟩
section
variable {P : Program} [IsP P] {w : World} {K : PySem.W.Frag} {mg : Str → Option Value} {base : Heap} {a : Ad}
theorem ok__law_good (T : Txt w K mg a) : FnOk P w K mg base CX0 1 a._law_good a.fd__law_good ["graph"] sp_check := by
  refine T.fn__law_good.ok sc__law_good (fun vs H Q E h => ?_) (fun cdv A outer s H vs Q E hr h => ?_)
  · obtain ⟨_, _, _, rfl, _⟩ := h
    rfl
  · obtain ⟨_, cnt, ls, rfl, ⟨g, lr, us, rfl, hg, hl, hL, _⟩, hz, k⟩ := h
    refine ⟨_, (pss_cons (ps_asg (pv 0) (pg_tupK (K := K) rfl (pgs_cons (pg_name (i := 1) sc__law_good.nd rfl (Or.inl rfl)) (pgs_cons (pg_name (i := 2) sc__law_good.nd rfl (Or.inl rfl)) (pgs_cons (pg_name (i := 3) sc__law_good.nd rfl (Or.inl rfl)) pgs_nil)))))
  (pss_cons (ps_set (i := 4) sc__law_good.nd rfl (Or.inl rfl) (pe_lst pa_nil))
  (pss_cons (ps_for PassesOwn.never rfl (pi_listK (K := K) (pv 3)) (pg_tupK (K := K) rfl (pgs_cons (pg_name (i := 5) sc__law_good.nd rfl (Or.inl rfl)) (pgs_cons (pg_name (i := 6) sc__law_good.nd rfl (Or.inl rfl)) pgs_nil)))
  (pss_cons (ps_for PassesOwn.never rfl (pi_tupK (K := K) (pe_tup (pa_cons (pv 5) (pa_cons (pv 6) pa_nil)))) (pg_name (i := 7) sc__law_good.nd rfl (Or.inl rfl))
  (pss_cons (ps_if (PW.pt (pw_or (pt_cmpR (op_inDL (K := K) (r65 hr)) (pv 7) (pv 4) (by rfl)) (pw_or (pt_not (pt_chain op_le op_le pe_int (pe_ix (ix_tupK (K := K)) (pv 7) pe_int (fun _ _ => rfl)) (pv 2))) (pw_or1 (pt_not (pt_chain op_le op_le pe_int (pe_ix (ix_tupK (K := K)) (pv 7) pe_int (fun _ _ => rfl)) pe_int))))))
  (pss_one (ps_ret pe_bl))
  pss_nil)
  (pss_one (ps_expr (pe_bmK (K := K) PySem.F.plainAttrs_list PySem.F.slot_list_append PySem.F.type_list_append mt_append (pv 4) (pa_cons (pv 7) pa_nil))))))
  (pss_one (ps_if (PW.pt (pw_or (pt_cmpR op_eq (pe_ix (ix_tupK (K := K)) (pv 5) pe_int (fun _ _ => rfl)) (pe_ix (ix_tupK (K := K)) (pv 6) pe_int (fun _ _ => rfl)) (nomark _)) (pw_or1 (pt_cmpR (op_gtT (r64 hr)) (pv 5) (pv 6) (nomark _)))))
  (pss_one (ps_ret pe_bl))
  pss_nil))))
  (pss_one (ps_ret (pe_and (pe_chain op_le op_le pe_int (pv 2) pe_int) (pe_one (pe_cmpR (op_eqDK (K := K) hr.units) (pv 3) (pe_callB (cr_sortN (K := K) (c := some 2) (sh := [some 2]) (r64 hr)) (by rfl) T.mg_sorted (by decide +kernel) (pa_cons (pv 3) pa_nil)) (nomark _))))))))), ?_⟩
    have bad : ∀ H', Same H H' → ¬ GoodP cnt ls → Q (.bl false) H' := fun H' s n => k false H' s ⟨(fun z => nomatch z), fun z => absurd z n⟩
    have hs := Hs.start H
    walk_at "ss"
    rename_i el H1 hs1
    clear hs
    refine w_forL (SqL.of (hs1.old hl)) (fun i σ H' => ∃ (eus : List V) (v5 v6 v7 : Option V), σ = [some (.ref g), some (.str "graph"), some (.int cnt), some (.ref lr), some (.ref el), v5, v6, v7] ∧ Hs H [(el, .lst eus)] H' ∧ Row (EndAt H) eus (flatE (ls.take i)) ∧ (flatE (ls.take i)).Nodup ∧ ∀ l ∈ ls.take i, isEnd cnt l.1 = true ∧ isEnd cnt l.2 = true ∧ l.1.1 < l.2.1)
      (fun Q q => ⟨_, rfl, q⟩) ⟨[], _, _, _, rfl, hs1, Row.nil, List.Pairwise.nil, fun _ z => nomatch z⟩ (fun i σ H' _ ⟨_, _, _, _, _, hs, _⟩ => SqL.of (hs.old hl)) ?_ ?_
    · clear hs1 H1
      rintro i y σ H1 hi ⟨eus, v5, v6, v7, rfl, hs1, hrow, hnd, hall⟩
      obtain ⟨t, l, rfl, hli, hk⟩ := LkL.get hL hi
      obtain ⟨p, q, ht, hp, hq⟩ := nk_link hk
      have ht1 := hs1.old ht
      have hlm := List.mem_of_getElem? hli
      walk_at "ss"
      refine w_forTF ?_
      walk_at "ss"
      rename_i tt H2 hs2
      refine w_tupR (SqT.of hs2.g0) ?_
      refine for_tupR (fun m σ H' => ∃ (eus : List V) (v7 : Option V), σ = [some (.ref g), some (.str "graph"), some (.int cnt), some (.ref lr), some (.ref el), some (.ref p), some (.ref q), v7] ∧ Hs H [(tt, .tup [.ref p, .ref q]), (el, .lst eus)] H' ∧ Row (EndAt H) eus (flatE (ls.take i) ++ [l.1, l.2].take m) ∧ (flatE (ls.take i) ++ [l.1, l.2].take m).Nodup ∧ ∀ e ∈ [l.1, l.2].take m, isEnd cnt e = true)
        ⟨eus, v7, rfl, hs2, by simpa using hrow, by simpa using hnd, fun _ z => nomatch z⟩ (fun k σ H' _ ⟨_, _, _, hs, _⟩ => SqT.of hs.g0) ?_ ?_
      · clear hs2 ht1 hs1 hrow hnd eus v7
        rintro m x σ H3 hx ⟨eus, v7, rfl, hs3, hrow, hnd, hend⟩
        obtain ⟨te, e, rfl, hem, hte⟩ : ∃ (te : Addr) (e : E2), x = .ref te ∧ [l.1, l.2][m]? = some e ∧ H te = some (endO e) := by
          match m, hx with
          | 0, hx =>
            cases hx
            exact ⟨p, l.1, rfl, rfl, hp⟩
          | 1, hx =>
            cases hx
            exact ⟨q, l.2, rfl, rfl, hq⟩
          | m + 2, hx => simp at hx
        have estep : flatE (ls.take i) ++ [l.1, l.2].take (m + 1) = (flatE (ls.take i) ++ [l.1, l.2].take m) ++ [e] := by
          rw [List.take_add_one, hem, List.append_assoc]
          rfl
        have hpre := flat_pre hli (m + 1)
        rw [estep] at hpre
        have hm2 : m < 2 := (List.getElem?_eq_some_iff.mp hem).1
        have hez : eus.length ≤ 62 := by
          rw [hrow.1, List.length_append, flat_len, List.length_take]
          have := List.length_take_le m [l.1, l.2]
          omega
        rw [estep]
        have hend' : isEnd cnt e = true → ∀ e' ∈ [l.1, l.2].take (m + 1), isEnd cnt e' = true := fun h e' he' => by
          rw [List.take_add_one, hem] at he'
          rcases List.mem_append.mp he' with he' | he'
          · exact hend e' he'
          · rw [Option.toList_some, List.mem_singleton] at he'
            rw [he']
            exact h
        have hbadE : isEnd cnt e = false → ¬ GoodP cnt ls := fun h z => by
          have : isEnd cnt e = true := by
            match m, hem with
            | 0, hem =>
              cases hem
              exact (z.rng l hlm).1
            | 1, hem =>
              cases hem
              exact (z.rng l hlm).2.1
            | m + 2, hem => simp at hem
          rw [h] at this
          cases this
        generalize flatE (ls.take i) ++ [l.1, l.2].take m = fs at hrow hnd hpre hez estep ⊢
        have hte3 : H3 te = some (.tup [.int e.1, .int e.2]) := hs3.old hte
        walk_at "ss"
        refine w_inEs hs3.g1 (hrow.mono fun _ _ => EndAt.mono hs3.tups) hte3 ?_
        refine ⟨_, rfl, ?_⟩
        show if decide (e ∈ fs) = true then _ else _
        by_cases h1 : e ∈ fs
        · rw [decide_eq_true h1]
          refine iteT ?_
          walk_at "ss"
          exact bad _ hs3.same fun z => by
            have := z.nd.sublist hpre.sublist
            exact (nd_snoc.mp this).2 h1
        · rw [decide_eq_false h1]
          refine iteF ?_
          walk_at "ss"
          have hbad : ¬ ((1 ≤ e.1 ∧ e.1 ≤ cnt) ∧ 1 ≤ e.2 ∧ e.2 ≤ 6) → Q (.bl false) H3 := fun n => bad _ hs3.same (hbadE (by
            cases hc : isEnd cnt e with
            | false => rfl
            | true => exact absurd (isEnd_iff.mp hc) n))
          refine ifd (fun a1 => ?_) (fun a1 => ?_)
          · walk_at "ss"
            by_cases a2 : e.1 ≤ cnt
            · rw [decide_eq_true a2, Bool.not_true]
              refine iteF ?_
              walk_at "ss"
              refine ifd (fun b1 => ?_) (fun b1 => ?_)
              · walk_at "ss"
                by_cases b2 : e.2 ≤ 6
                · rw [decide_eq_true b2, Bool.not_true]
                  refine iteF ?_
                  have hz1 : eus.length < sizeLine := szl (by omega)
                  walk_at "ss"
                  rename_i H4 hs4
                  exact ⟨_, _, rfl, hs4, hrow.snoc ⟨te, rfl, hte⟩, nd_snoc.mpr ⟨hnd, h1⟩, hend' (isEnd_iff.mpr ⟨⟨a1, a2⟩, b1, b2⟩)⟩
                · rw [decide_eq_false b2, Bool.not_false]
                  refine iteT ?_
                  walk_at "ss"
                  exact hbad fun z => b2 z.2.2
              · walk_at "ss"
                exact hbad fun z => b1 z.2.1
            · rw [decide_eq_false a2, Bool.not_false]
              refine iteT ?_
              walk_at "ss"
              exact hbad fun z => a2 z.1.2
          · walk_at "ss"
            exact hbad fun z => a1 z.1.1
      · clear hs2 ht1 hs1 hrow hnd eus v7
        rintro σ H3 ⟨eus, v7, rfl, hs3, hrow, hnd, hend⟩
        have e2 : [l.1, l.2].take [V.ref p, V.ref q].length = [l.1, l.2] := rfl
        rw [e2] at hrow hnd hend
        have hp3 : H3 p = some (.tup [.int l.1.1, .int l.1.2]) := hs3.old hp
        have hq3 : H3 q = some (.tup [.int l.2.1, .int l.2.2]) := hs3.old hq
        walk_at "ss"
        refine ifd (fun h1 => ?_) (fun h1 => ?_)
        · walk_at "ss"
          exact bad _ hs3.same fun z => by
            have := (z.rng l hlm).2.2
            omega
        · walk_at "ss"
          refine w_gtT (ns := [l.1.1, l.1.2]) (ms := [l.2.1, l.2.2]) hp3 hq3 rfl ?_
          refine ⟨_, rfl, ?_⟩
          have e3 : lexI [l.2.1, l.2.2] [l.1.1, l.1.2] = decide (l.2.1 < l.1.1) := lexI_ne (x := l.2) (y := l.1) (Ne.symm h1)
          rw [e3]
          refine ifd (fun h2 => ?_) (fun h2 => ?_)
          · walk_at "ss"
            exact bad _ hs3.same fun z => by
              have := (z.rng l hlm).2.2
              omega
          · walk_at "ss"
            refine ⟨eus, _, _, _, rfl, hs3.sel [1], ?_, ?_, mem_take1 hli hall ⟨hend _ (by simp), hend _ (by simp), by omega⟩⟩
            · rw [flat_take hli]
              exact hrow
            · rw [flat_take hli]
              exact hnd
    · clear hs1 H1
      rintro σ H1 ⟨eus, v5, v6, v7, rfl, hs1, hrow, hnd, hall⟩
      rw [LkL.len hL, List.take_length] at hnd hall
      walk_at "ss"
      refine ifd (fun h1 => ?_) (fun h1 => ?_)
      · walk_at "ss"
        by_cases h8 : cnt ≤ 8
        · rw [decide_eq_true h8]
          refine iteT ?_
          walk_at "ss"
          refine w_sortL hs1 (SqL.of (hs1.old hl)) (hL.same hs1.same) fun sl ys H2 _ hs2 hL2 => ?_
          walk_at "ss"
          refine w_eqLk (hs2.old hl) hs2.g0 (hL.same hs2.same) hL2 ?_
          refine k _ _ hs2.same ?_
          rw [decide_eq_true_iff]
          exact ⟨fun z => ⟨⟨h1, h8⟩, hall, hnd, z⟩, fun z => z.srtd⟩
        · rw [decide_eq_false h8]
          refine iteF ?_
          exact bad _ hs1.same fun z => h8 z.cnt1.2
      · refine ⟨_, rfl, iteF ?_⟩
        exact bad _ hs1.same fun z => h1 z.cnt1.1
end
local macro_rules | `(tactic| walk_at "v") => `(tactic| first | exact v0 | exact v1 | exact v2 | exact v3 | exact v4 | exact v5 | exact v6 | exact v7 | exact v8)
local macro_rules | `(tactic| walk_at "vs") => `(tactic| first | exact st0 | exact st1 | exact st2 | exact st3 | exact st4 | exact st5 | exact st6 | exact st7 | exact st8)
local macro_rules | `(tactic| walk_at "s") => `(tactic| first
  | with_reducible refine w_dget ?_
  | ((with_reducible refine' w_dgetZ ?h ?nd ?hk ?hv ?_); (case h => walk_at "g"); (case nd => walk_at "nd"); (case hk => walk_at "k"); (case hv => walk_at "v"))
  | ((with_reducible refine' w_dputZ ?hs ?h ?nd ?hk ?hv ?hu ?hl ?_); (case hs => assumption); (case h => walk_at "p"); (case nd => walk_at "nd"); (case hk => walk_at "k"); (case hv => walk_at "v"); (case hu => walk_at "vs"); (case hl => decide); intro _ _)
  | with_reducible refine w_gsub ?_
  | with_reducible refine w_setD ?_
  | with_reducible refine w_disp ?_
  | ((with_reducible refine' w_newP ?hs ?_); (case hs => assumption); intro _ _ _)
  | with_reducible refine w_pcons ?_
  | with_reducible refine w_pnil ?_)

local macro_rules | `(tactic| walk_at "s") => `(tactic| first
  | with_reducible refine w_nget ?_
  | with_reducible refine w_nin ?_
  | with_reducible refine w_nnot ?_
  | with_reducible refine w_nput ?_
  | with_reducible refine w_ndel ?_
  | with_reducible refine w_npop ?_
  | ((with_reducible refine' w_nnew ?hs ?_); (case hs => assumption); intro _ _ _))

/-! ## graphs that are drawn -/
theorem Gd.add {ls : List Lk} (g : Gd ls) {l : Lk} (h1 : isEnd 6 l.1 = true) (h2 : isEnd 6 l.2 = true) (h3 : l.1.1 < l.2.1) (n1 : l.1 ∉ flatE ls) (n2 : l.2 ∉ flatE ls) : Gd (ls ++ [l]) := by
  have mem : ∀ x ∈ ls ++ [l], x ∈ ls ∨ x = l := fun x hx => by
    rcases List.mem_append.mp hx with hx | hx
    · exact .inl hx
    · exact .inr (List.mem_singleton.mp hx)
  refine ⟨fun x hx => ?_, fun x hx => ?_, ?_⟩
  · rcases mem x hx with hx | rfl
    · exact g.rng x hx
    · exact ⟨h1, h2⟩
  · rcases mem x hx with hx | rfl
    · exact g.dif x hx
    · exact h3
  · have e : flatE (ls ++ [l]) = flatE ls ++ [l.1, l.2] := by
      unfold flatE
      rw [List.flatMap_append]
      rfl
    rw [e]
    have hne : l.1 ≠ l.2 := fun z => by rw [z] at h3; omega
    refine List.nodup_append.mpr ⟨g.nd, by simp [hne], fun a ha b hb e => ?_⟩
    subst e
    simp at hb
    rcases hb with rfl | rfl
    · exact n1 ha
    · exact n2 ha
theorem Gd.perm {ls ms : List Lk} (g : Gd ls) (p : ms.Perm ls) : Gd ms :=
  ⟨fun l hl => g.rng l (p.mem_iff.mp hl), fun l hl => g.dif l (p.mem_iff.mp hl), (p.flatMap_right _).nodup_iff.mpr g.nd⟩
theorem Gd.nil : Gd [] := ⟨(fun _ z => nomatch z), (fun _ z => nomatch z), List.Pairwise.nil⟩
section
variable {x y : E2} {H : Hp} {Q : VK}
theorem w_minT {p q : Addr} (h1 : H p = some (endO x)) (h2 : H q = some (endO y)) (k : Q (.ref (if lexI [y.1, y.2] [x.1, x.2] = true then q else p)) H) : rMinT false [.ref p, .ref q] H Q := ⟨p, q, [x.1, x.2], [y.1, y.2], rfl, h1, h2, rfl, k⟩
theorem w_maxT {p q : Addr} (h1 : H p = some (endO x)) (h2 : H q = some (endO y)) (k : Q (.ref (if lexI [x.1, x.2] [y.1, y.2] = true then q else p)) H) : rMinT true [.ref p, .ref q] H Q := ⟨p, q, [x.1, x.2], [y.1, y.2], rfl, h1, h2, rfl, k⟩
theorem nk_minmax {t p q : Addr} (ht : H t = some (.tup [.ref (if lexI [y.1, y.2] [x.1, x.2] = true then q else p), .ref (if lexI [x.1, x.2] [y.1, y.2] = true then q else p)])) (h1 : H p = some (endO x)) (h2 : H q = some (endO y)) (h0 : x.1 ≠ y.1) : NK H (lkK (mkL x y)) (.ref t) := by
  unfold mkL
  rw [lexI_ne h0, lexI_ne (fun z => h0 z.symm)] at ht
  rw [lexI_ne h0]
  by_cases hc : x.1 < y.1
  · rw [if_neg (by rw [decide_eq_true_eq]; omega), if_pos (decide_eq_true hc)] at ht
    rw [if_pos (decide_eq_true hc)]
    exact nk_mk ht h1 h2
  · rw [if_pos (by rw [decide_eq_true_eq]; omega), if_neg (by rw [decide_eq_true_eq]; exact hc)] at ht
    rw [if_neg (by rw [decide_eq_true_eq]; exact hc)]
    exact nk_mk ht h2 h1
theorem gd_mkL {ls : List Lk} (g : Gd ls) (hx : isEnd 6 x = true) (hy : isEnd 6 y = true) (h0 : x.1 ≠ y.1) (n1 : x ∉ flatE ls) (n2 : y ∉ flatE ls) : Gd (ls ++ [mkL x y]) := by
  unfold mkL
  rw [lexI_ne h0]
  by_cases hc : x.1 < y.1
  · rw [if_pos (decide_eq_true hc)]
    exact g.add hx hy hc n1 n2
  · rw [if_neg (by rw [decide_eq_true_eq]; exact hc)]
    exact g.add hy hx (by show y.1 < x.1; omega) n2 n1
theorem flat_mkL {ls : List Lk} {e : E2} (h : e ∈ flatE (ls ++ [mkL x y])) : e ∈ flatE ls ∨ e = x ∨ e = y := by
  obtain ⟨l, hl, h⟩ := mem_flatE.mp h
  rcases List.mem_append.mp hl with hl | hl
  · exact .inl (mem_flatE.mpr ⟨l, hl, h⟩)
  · rw [List.mem_singleton.mp hl] at h
    unfold mkL at h
    split at h
    · rcases h with h | h
      · exact .inr (.inl h.symm)
      · exact .inr (.inr h.symm)
    · rcases h with h | h
      · exact .inr (.inr h.symm)
      · exact .inr (.inl h.symm)
end
section
variable {P : Program} [IsP P] {w : World} {K : PySem.W.Frag} {mg : Str → Option Value} {base : Heap} {a : Ad}
def GrG (H : Hp) (v : V) : Prop := ∃ cnt ls, GrAt H v cnt ls ∧ 1 ≤ cnt ∧ cnt ≤ 6 ∧ Gd ls ∧ ls.length ≤ 12
def sp__law_graph : Sp := fun vs H Q _ => ∃ (B : Hp) (s c : Addr) (m : Int) (cells : List Int), vs = [.ref s, .int 6] ∧ Hs B [(s, sto c m), (c, clo cells)] H ∧ Good m cells ∧
  ∀ B2 v m' cells' H', Same B B2 → Hs B2 [(s, sto c m'), (c, clo cells')] H' → Good m' cells' → GrG B2 v → Q v H'
theorem ok__law_graph (T : Txt w K mg a) : FnOk P w K mg base CX0 2 a._law_graph a.fd__law_graph ["state", "most"] sp__law_graph := by
  have G__law_draw := ok__law_draw (P := P) (w := w) (base := base) T
  refine T.fn__law_graph.ok sc__law_graph (fun vs H Q E h => ?_) (fun cdv A outer s H vs Q E hr h => ?_)
  · obtain ⟨_, _, _, _, _, rfl, _⟩ := h
    rfl
  · obtain ⟨B, s, c, m, cells, rfl, hs, g, k⟩ := h
    refine ⟨_, (pss_cons (ps_set (i := 2) sc__law_graph.nd rfl (Or.inl rfl) (pe_op op_add pe_int (pe_call G__law_draw (hr.mono (by first | decide | omega)) rfl T.mg__law_draw T.kp__law_draw T.bi__law_draw .nil pass0 (pa_cons (pv 0) (pa_cons (pv 1) pa_nil)))))
  (pss_cons (ps_set (i := 3) sc__law_graph.nd rfl (Or.inl rfl) (pe_lst pa_nil))
  (pss_cons (ps_set (i := 4) sc__law_graph.nd rfl (Or.inl rfl) (pe_nnew (w := w)))
  (pss_cons (ps_for PassesOwn.never rfl (pi_range1 rfl T.mg_range (pa_cons (pe_call G__law_draw (hr.mono (by first | decide | omega)) rfl T.mg__law_draw T.kp__law_draw T.bi__law_draw .nil pass0 (pa_cons (pv 0) (pa_cons (pe_op op_mul pe_int (pv 2)) pa_nil))) pa_nil)) (pg_name (i := 5) sc__law_graph.nd rfl (Or.inl rfl))
  (pss_cons (ps_set (i := 6) sc__law_graph.nd rfl (Or.inl rfl) (pe_tup (pa_cons (pe_op op_add pe_int (pe_call G__law_draw (hr.mono (by first | decide | omega)) rfl T.mg__law_draw T.kp__law_draw T.bi__law_draw .nil pass0 (pa_cons (pv 0) (pa_cons (pv 2) pa_nil)))) (pa_cons (pe_op op_add pe_int (pe_call G__law_draw (hr.mono (by first | decide | omega)) rfl T.mg__law_draw T.kp__law_draw T.bi__law_draw .nil pass0 (pa_cons (pv 0) (pa_cons pe_int pa_nil)))) pa_nil))))
  (pss_cons (ps_set (i := 7) sc__law_graph.nd rfl (Or.inl rfl) (pe_tup (pa_cons (pe_op op_add pe_int (pe_call G__law_draw (hr.mono (by first | decide | omega)) rfl T.mg__law_draw T.kp__law_draw T.bi__law_draw .nil pass0 (pa_cons (pv 0) (pa_cons (pv 2) pa_nil)))) (pa_cons (pe_op op_add pe_int (pe_call G__law_draw (hr.mono (by first | decide | omega)) rfl T.mg__law_draw T.kp__law_draw T.bi__law_draw .nil pass0 (pa_cons (pv 0) (pa_cons pe_int pa_nil)))) pa_nil))))
  (pss_one (ps_if (PW.pt (pw_and (pt_cmpR op_ne (pe_ix (ix_tupK (K := K)) (pv 6) pe_int (fun _ _ => rfl)) (pe_ix (ix_tupK (K := K)) (pv 7) pe_int (fun _ _ => rfl)) (nomark _)) (pw_and (pt_cmp (pc_nnot (w := w) (r64 hr) (pv 6) (pv 4))) (pw_and1 (pt_cmp (pc_nnot (w := w) (r64 hr) (pv 7) (pv 4)))))))
  (pss_cons (ps_nput (w := w) (r64 hr) (pv 4) (pv 6) pe_bl rfl)
  (pss_cons (ps_nput (w := w) (r64 hr) (pv 4) (pv 7) pe_bl rfl)
  (pss_one (ps_expr (pe_bmK (K := K) PySem.F.plainAttrs_list PySem.F.slot_list_append PySem.F.type_list_append mt_append (pv 3) (pa_cons (pe_tup (pa_cons (pe_callB (call_minT rfl (r64 hr)) (by rfl) T.mg_min (by decide +kernel) (pa_cons (pv 6) (pa_cons (pv 7) pa_nil))) (pa_cons (pe_callB (call_maxT rfl (r64 hr)) (by rfl) T.mg_max (by decide +kernel) (pa_cons (pv 6) (pa_cons (pv 7) pa_nil))) pa_nil))) pa_nil))))))
  pss_nil)))))
  (pss_one (ps_ret (pe_tup (pa_cons pe_str (pa_cons (pv 2) (pa_cons (pe_callB (cr_sortN (K := K) (c := some 2) (sh := [some 2]) (r64 hr)) (by rfl) T.mg_sorted (by decide +kernel) (pa_cons (pv 3) pa_nil)) pa_nil)))))))))), ?_⟩
    walk_at "ss"
    refine w_draw hs g (by omega) fun d m1 c1 H1 hs1 g1 _ hd => ?_
    obtain ⟨d0, d1⟩ := hd (by omega)
    clear hs g
    walk_at "ss"
    rename_i ll H2 hsA ud H3 hs3
    clear hs1 hsA
    have hs5 : Hs B [(s, sto c m1), (c, clo c1), (ll, .lst []), (ud, DN w ud [])] H3 := hs3.sel [2, 3, 1, 0]
    clear hs3
    refine w_for1 ?_
    walk_at "ss"
    refine w_draw hs5 g1 (by omega) fun n m2 c2 H4 hs6 g2 _ hn => ?_
    obtain ⟨n0, n1⟩ := hn (by omega)
    clear hs5 g1
    walk_at "ss"
    refine w_forR (n := n) (by omega) (fun i σ' H' => ∃ (B2 : Hp) (m : Int) (cells : List Int) (us : List V) (ls : List Lk) (es : List Ent) (M : GM) (v5 v6 v7 : Option V),
        σ' = [some (.ref s), some (.int 6), some (.int (1 + d)), some (.ref ll), some (.ref ud), v5, v6, v7] ∧ Same B B2 ∧ Hs B2 [(s, sto c m), (c, clo cells), (ll, .lst us), (ud, DN w ud es)] H' ∧ Good m cells ∧ LkL B2 us ls ∧ Gd ls ∧ ls.length ≤ i ∧ EntG B2 es M ∧ M.length ≤ 2 * i ∧ ∀ e ∈ flatE ls, endK e ∈ M.map (·.1))
      (fun Q' q => q) (by omega) ⟨B, m2, c2, [], [], [], [], none, none, none, rfl, Same.refl _, hs6, g2, .nil, Gd.nil, Nat.le_refl _, EntG.nil, Nat.le_refl _, fun _ z => nomatch z⟩ ?_ ?_
    · clear hs6 g2
      clear m1 c1 m2 c2 m cells
      rintro i σ' H4 hi ⟨B2, m, cells, us, ls, es, M, v5, v6, v7, rfl, sm, hs1, g1, hL, gd, hlen, heM, hMz, hk⟩
      have hi12 : (i : Int) < 12 := by omega
      walk_at "ss"
      refine w_draw hs1 g1 (by omega) fun a1 m2 c2 H5 hs2 g2 _ ha => ?_
      obtain ⟨a1a, a1b⟩ := ha (by omega)
      clear hs1 g1
      walk_at "ss"
      refine w_draw hs2 g2 (by omega) fun b1 m3 c3 H6 hs3 g3 _ hb => ?_
      obtain ⟨b1a, b1b⟩ := hb (by omega)
      clear hs2 g2
      walk_at "ss"
      rename_i t1 H7 hs4
      clear hs3
      obtain ⟨B3, sm3, ht1, hs5⟩ := frz_hs hs4
      clear hs4
      refine w_draw hs5 g3 (by omega) fun a2 m4 c4 H8 hs6 g4 _ ha => ?_
      obtain ⟨a2a, a2b⟩ := ha (by omega)
      clear hs5 g3
      walk_at "ss"
      refine w_draw hs6 g4 (by omega) fun b2 m5 c5 H9 hs7 g5 _ hb => ?_
      obtain ⟨b2a, b2b⟩ := hb (by omega)
      clear hs6 g4
      walk_at "ss"
      rename_i t2 H10 hs8
      clear hs7
      obtain ⟨B4, sm4, ht2, hs9⟩ := frz_hs hs8
      clear hs8
      have ht1' := sm4 _ _ ht1
      have sm04 := sm3.trans sm4
      have hL4 := hL.same sm04
      have heM4 := heM.same sm04
      have h1a : H10 t1 = some (.tup [.int (1 + a1), .int (1 + b1)]) := hs9.old ht1'
      have h2a : H10 t2 = some (.tup [.int (1 + a2), .int (1 + b2)]) := hs9.old ht2
      have k1 : KAt B4 t1 (endK (1 + a1, 1 + b1)) := kat_end (x := (1 + a1, 1 + b1)) ht1'
      have k2 : KAt B4 t2 (endK (1 + a2, 1 + b2)) := kat_end (x := (1 + a2, 1 + b2)) ht2
      have e1 : isEnd 6 (1 + a1, 1 + b1) = true := isEnd_iff.mpr ⟨⟨by show 1 ≤ 1 + a1; omega, by show 1 + a1 ≤ 6; omega⟩, by show 1 ≤ 1 + b1; omega, by show 1 + b1 ≤ 6; omega⟩
      have e2 : isEnd 6 (1 + a2, 1 + b2) = true := isEnd_iff.mpr ⟨⟨by show 1 ≤ 1 + a2; omega, by show 1 + a2 ≤ 6; omega⟩, by show 1 ≤ 1 + b2; omega, by show 1 + b2 ≤ 6; omega⟩
      have keep : ∀ v6 v7, ∃ (B2 : Hp) (m : Int) (cells : List Int) (us : List V) (ls : List Lk) (es : List Ent) (M : GM) (w5 w6 w7 : Option V),
        [some (.ref s), some (.int 6), some (.int (1 + d)), some (.ref ll), some (.ref ud), some (V.int (i : Int)), v6, v7] = [some (.ref s), some (.int 6), some (.int (1 + d)), some (.ref ll), some (.ref ud), w5, w6, w7] ∧ Same B B2 ∧ Hs B2 [(s, sto c m), (c, clo cells), (ll, .lst us), (ud, DN w ud es)] H10 ∧ Good m cells ∧ LkL B2 us ls ∧ Gd ls ∧ ls.length ≤ i + 1 ∧ EntG B2 es M ∧ M.length ≤ 2 * (i + 1) ∧ ∀ e ∈ flatE ls, endK e ∈ M.map (·.1) :=
        fun v6 v7 => ⟨B4, m5, c5, us, ls, es, M, _, v6, v7, rfl, sm.trans sm04, hs9, g5, hL4, gd, by omega, heM4, by omega, hk⟩
      have kin : ∀ {e : E2}, (valG M (endK e)).isSome = false → e ∉ flatE ls := fun {e} h z => by
        have := valG_some.mpr (hk e z)
        rw [h] at this
        cases this
      walk_at "ss"
      by_cases h0 : 1 + a1 = 1 + a2
      · rw [decide_eq_true h0, Bool.not_true]
        refine iteF (iteF ?_)
        walk_at "ss"
        exact keep _ _
      · rw [decide_eq_false h0, Bool.not_false]
        refine iteT ?_
        walk_at "ss"
        refine wg_in hs9 hs9.g3 heM4 (k1.same hs9.same) ?_
        cases hv1 : (valG M (endK (1 + a1, 1 + b1))).isSome with
        | true =>
          refine ⟨_, rfl, iteF (iteF ?_)⟩
          walk_at "ss"
          exact keep _ _
        | false =>
          refine ⟨_, rfl, iteT ?_⟩
          walk_at "ss"
          refine wg_in hs9 hs9.g3 heM4 (k2.same hs9.same) ?_
          cases hv2 : (valG M (endK (1 + a2, 1 + b2))).isSome with
          | true =>
            refine ⟨_, rfl, iteF ?_⟩
            walk_at "ss"
            exact keep _ _
          | false =>
            refine ⟨_, rfl, iteT ?_⟩
            walk_at "ss"
            refine wg_put hs9 (.there (.there (.there .here))) heM4 k1 (by omega) fun H11 hs10 heM5 => ?_
            have z1 := putG_len (M := M) (k := endK (1 + a1, 1 + b1)) (v := .bl true)
            have y1 := putG_keys M (endK (1 + a1, 1 + b1)) (.bl true)
            rw [hv1, if_neg (by decide)] at y1
            have hv2' : (valG (putG M (endK (1 + a1, 1 + b1)) (.bl true)) (endK (1 + a2, 1 + b2))).isSome = false := by
              rw [valG_put, if_neg]
              · exact hv2
              · intro z
                have := congrArg kE z
                rw [kE_endK, kE_endK] at this
                exact h0 (congrArg Prod.fst this).symm
            generalize putG M (endK (1 + a1, 1 + b1)) (.bl true) = M1 at heM5 z1 y1 hv2'
            walk_at "ss"
            refine wg_put hs10 (.there (.there (.there .here))) heM5 k2 (by omega) fun H12 hs11 heM6 => ?_
            have z2 := putG_len (M := M1) (k := endK (1 + a2, 1 + b2)) (v := .bl true)
            have y2 := putG_keys M1 (endK (1 + a2, 1 + b2)) (.bl true)
            rw [hv2', if_neg (by decide)] at y2
            generalize putG M1 (endK (1 + a2, 1 + b2)) (.bl true) = M2 at heM6 z2 y2
            clear hs9 hs10
            have h1b : H12 t1 = some (endO (1 + a1, 1 + b1)) := hs11.old ht1'
            have h2b : H12 t2 = some (endO (1 + a2, 1 + b2)) := hs11.old ht2
            have huz : (us.length : Int) ≤ 12 := by
              rw [LkL.len hL]
              omega
            walk_at "ss"
            refine w_minT h1b h2b ?_
            walk_at "ss"
            refine w_maxT h1b h2b ?_
            walk_at "ss"
            rename_i t3 H13 _ H14 hs12
            clear hs11
            obtain ⟨B5, sm5, ht3, hs13⟩ := frz_hs hs12
            have hL5 := (hL4.same sm5).snoc (a := t3) (nk_minmax (x := (1 + a1, 1 + b1)) (y := (1 + a2, 1 + b2)) ht3 (sm5 _ _ ht1') (sm5 _ _ ht2) h0)
            refine ⟨B5, m5, c5, _, _, _, M2, _, _, _, rfl, sm.trans (sm04.trans sm5), hs13, g5, hL5, gd_mkL gd e1 e2 h0 (kin hv1) (kin hv2), by rw [List.length_append]; show ls.length + 1 ≤ i + 1; omega, heM6.same sm5, by omega, fun e he => ?_⟩
            rw [y2, y1]
            rcases flat_mkL he with h | rfl | rfl
            · exact List.mem_append_left _ (List.mem_append_left _ (hk e h))
            · exact List.mem_append_left _ (List.mem_append_right _ (List.mem_singleton.mpr rfl))
            · exact List.mem_append_right _ (List.mem_singleton.mpr rfl)
    · clear hs6 g2
      clear m1 c1 m2 c2 m cells
      rintro σ' H4 ⟨B2, m, cells, us, ls, es, M, v5, v6, v7, rfl, sm, hs1, g1, hL, gd, hlen, heM, hMz, hk⟩
      walk_at "ss"
      refine w_sortL hs1 (SqL.of hs1.g2) (hL.same hs1.same) fun p ys H6 _ hs2 hL2 => ?_
      obtain ⟨B3, sm3, hs2a, tb⟩ := hs2.ground rfl
      have hL3 := LkL.mono tb hL2
      clear hs1 hs2
      walk_at "ss"
      rename_i t H7 hs3
      obtain ⟨B4, sm4, ht, hs4⟩ := frz_hs hs3
      obtain ⟨B5, sm5, hp, hs5⟩ := frz_hs hs4
      have hsz : (srt ls).length = ls.length := (srt_perm ls).length_eq
      refine k B5 _ m cells H7 (sm.trans (sm3.trans (sm4.trans sm5))) (hs5.sel [0, 1]) g1 ⟨1 + d, srt ls, ⟨t, p, ys, rfl, sm5 _ _ ht, hp, hL3.same (sm4.trans sm5), by omega⟩, by omega, by omega, gd.perm (srt_perm ls), by omega⟩
end
local macro_rules | `(tactic| walk_at "v") => `(tactic| first | exact v0 | exact v1 | exact v2 | exact v3 | exact v4 | exact v5 | exact v6 | exact v7 | exact v8)
local macro_rules | `(tactic| walk_at "vs") => `(tactic| first | exact st0 | exact st1 | exact st2 | exact st3 | exact st4 | exact st5 | exact st6 | exact st7 | exact st8)
local macro_rules | `(tactic| walk_at "s") => `(tactic| first
  | with_reducible refine w_dget ?_
  | ((with_reducible refine' w_dgetZ ?h ?nd ?hk ?hv ?_); (case h => walk_at "g"); (case nd => walk_at "nd"); (case hk => walk_at "k"); (case hv => walk_at "v"))
  | ((with_reducible refine' w_dputZ ?hs ?h ?nd ?hk ?hv ?hu ?hl ?_); (case hs => assumption); (case h => walk_at "p"); (case nd => walk_at "nd"); (case hk => walk_at "k"); (case hv => walk_at "v"); (case hu => walk_at "vs"); (case hl => decide); intro _ _)
  | with_reducible refine w_gsub ?_
  | with_reducible refine w_setD ?_
  | with_reducible refine w_disp ?_
  | ((with_reducible refine' w_newP ?hs ?_); (case hs => assumption); intro _ _ _)
  | with_reducible refine w_pcons ?_
  | with_reducible refine w_pnil ?_)

local macro_rules | `(tactic| walk_at "s") => `(tactic| first
  | with_reducible refine w_nget ?_
  | with_reducible refine w_nin ?_
  | with_reducible refine w_nnot ?_
  | with_reducible refine w_nput ?_
  | with_reducible refine w_ndel ?_
  | with_reducible refine w_npop ?_
  | ((with_reducible refine' w_nnew ?hs ?_); (case hs => assumption); intro _ _ _))

theorem lkL_rev {H : Hp} : ∀ {us : List V} {ls : List Lk}, LkL H us ls → LkL H us.reverse ls.reverse
  | _, _, .nil => .nil
  | _, _, .cons h t => by
    rw [List.reverse_cons, List.reverse_cons]
    exact (lkL_rev t).app (.cons h .nil)
section
variable {P : Program} [IsP P] {w : World} {K : PySem.W.Frag} {mg : Str → Option Value} {base : Heap} {a : Ad}
/-! ## graphs with a fault -/
def sp__law_faulty : Sp := fun vs H Q _ => ∃ (B : Hp) (s c : Addr) (m : Int) (cells : List Int) (v : V) (cnt : Int) (ls : List Lk), vs = [.ref s, v] ∧ Hs B [(s, sto c m), (c, clo cells)] H ∧ Good m cells ∧ GrAt B v cnt ls ∧ ls.length ≤ 12 ∧
  ∀ B2 v m' cells' H', Same B B2 → Hs B2 [(s, sto c m'), (c, clo cells')] H' → Good m' cells' → (∃ cnt ls, GrAt B2 v cnt ls ∧ ls.length ≤ 13) → Q v H'
theorem ok__law_faulty (T : Txt w K mg a) : FnOk P w K mg base CX0 3 a._law_faulty a.fd__law_faulty ["state", "graph"] sp__law_faulty := by
  have G__law_draw := ok__law_draw (P := P) (w := w) (base := base) T
  have G__law_pick := ok__law_pick (P := P) (w := w) (base := base) T
  refine T.fn__law_faulty.ok sc__law_faulty (fun vs H Q E h => ?_) (fun cdv A outer s H vs Q E hr h => ?_)
  · obtain ⟨_, _, _, _, _, _, _, _, rfl, _⟩ := h
    rfl
  · obtain ⟨B, s, c, m, cells, _, cnt, ls, rfl, hs, g, ⟨gp, lr, us, rfl, hg, hl, hL, _⟩, hlz, k⟩ := h
    refine ⟨_, (pss_cons (ps_asg (pv 1) (pg_tupK (K := K) rfl (pgs_cons (pg_name (i := 2) sc__law_faulty.nd rfl (Or.inl rfl)) (pgs_cons (pg_name (i := 3) sc__law_faulty.nd rfl (Or.inl rfl)) (pgs_cons (pg_name (i := 4) sc__law_faulty.nd rfl (Or.inl rfl)) pgs_nil)))))
  (pss_cons (ps_set (i := 5) sc__law_faulty.nd rfl (Or.inl rfl) (pe_call G__law_draw (hr.mono (by first | decide | omega)) rfl T.mg__law_draw T.kp__law_draw T.bi__law_draw .nil pass0 (pa_cons (pv 0) (pa_cons pe_int pa_nil))))
  (pss_cons (ps_if (PW.pt (pw_or (pt_cmpR op_eq (pv 5) pe_int (nomark _)) (pw_or1 (pt_cmpR op_eq (pe_callB (call_lenK (K := K)) (by rfl) T.mg_len PySem.boot_len (pa_cons (pv 4) pa_nil)) pe_int (nomark _)))))
  (pss_one (ps_ret (pe_tup (pa_cons (pv 2) (pa_cons (pe_call G__law_pick (hr.mono (by first | decide | omega)) rfl T.mg__law_pick T.kp__law_pick T.bi__law_pick .nil pass0 (pa_cons (pv 0) (pa_cons (pe_lst (pa_cons pe_int (pa_cons pe_int (pa_cons pe_int (pa_cons (pe_op op_sub (pv 3) pe_int) pa_nil))))) pa_nil))) (pa_cons (pv 4) pa_nil))))))
  pss_nil)
  (pss_cons (ps_asg (pe_call G__law_pick (hr.mono (by first | decide | omega)) rfl T.mg__law_pick T.kp__law_pick T.bi__law_pick .nil pass0 (pa_cons (pv 0) (pa_cons (pv 4) pa_nil))) (pg_tupK (K := K) rfl (pgs_cons (pg_name (i := 6) sc__law_faulty.nd rfl (Or.inl rfl)) (pgs_cons (pg_name (i := 7) sc__law_faulty.nd rfl (Or.inl rfl)) pgs_nil))))
  (pss_cons (ps_set (i := 8) sc__law_faulty.nd rfl (Or.inl rfl) (pe_call G__law_pick (hr.mono (by first | decide | omega)) rfl T.mg__law_pick T.kp__law_pick T.bi__law_pick .nil pass0 (pa_cons (pv 0) (pa_cons (pe_lst (pa_cons (pe_tup (pa_cons (pv 6) (pa_cons (pv 7) pa_nil))) (pa_cons (pe_tup (pa_cons (pv 7) (pa_cons (pv 6) pa_nil))) (pa_cons (pe_tup (pa_cons (pv 6) (pa_cons (pe_tup (pa_cons (pe_ix (ix_tupK (K := K)) (pv 6) pe_int (fun _ _ => rfl)) (pa_cons pe_int pa_nil))) pa_nil))) (pa_cons (pe_tup (pa_cons (pe_tup (pa_cons pe_int (pa_cons pe_int pa_nil))) (pa_cons (pv 6) pa_nil))) (pa_cons (pe_tup (pa_cons (pv 6) (pa_cons (pe_tup (pa_cons (pe_ix (ix_tupK (K := K)) (pv 7) pe_int (fun _ _ => rfl)) (pa_cons pe_int pa_nil))) pa_nil))) (pa_cons (pe_tup (pa_cons (pv 7) (pa_cons (pe_tup (pa_cons pe_int (pa_cons pe_int pa_nil))) pa_nil))) pa_nil))))))) pa_nil))))
  (pss_one (ps_ret (pe_tup (pa_cons (pv 2) (pa_cons (pv 3) (pa_cons (pe_call G__law_pick (hr.mono (by first | decide | omega)) rfl T.mg__law_pick T.kp__law_pick T.bi__law_pick .nil pass0 (pa_cons (pv 0) (pa_cons (pe_lst (pa_cons (pe_op op_cat (pv 4) (pe_lst (pa_cons (pv 8) pa_nil))) (pa_cons (pe_callB (cr_sortN (K := K) (c := some 2) (sh := [some 2]) (r64 hr)) (by rfl) T.mg_sorted (by decide +kernel) (pa_cons (pe_op op_cat (pv 4) (pe_lst (pa_cons (pv 8) pa_nil))) pa_nil)) (pa_cons (pe_revLK (K := K) (pv 4)) pa_nil)))) pa_nil))) pa_nil))))))))))), ?_⟩
    have huz : us.length ≤ 12 := by
      rw [LkL.len hL]
      exact hlz
    have hg0 := hs.old hg
    walk_at "ss"
    refine w_draw hs g (by omega) fun d m1 c1 H1 hs1 g1 _ _ => ?_
    clear hs g hg0
    have hl1 := hs1.old hl
    walk_at "ss"
    refine ifd (fun h1 => ?_) (fun h1 => ?_)
    · walk_at "ss"
      rename_i rp H2 hs2
      refine w_pick hs2 g1 (fun z => by cases z) (by simp) fun x m2 c2 H3 hx hs3 g2 => ?_
      obtain ⟨n, rfl⟩ : ∃ n : Int, x = .int n := by
        simp only [List.mem_cons, List.not_mem_nil, or_false] at hx
        rcases hx with rfl | rfl | rfl | rfl
        · exact ⟨_, rfl⟩
        · exact ⟨_, rfl⟩
        · exact ⟨_, rfl⟩
        · exact ⟨_, rfl⟩
      walk_at "ss"
      rename_i tp H4 hs4
      obtain ⟨B2, sB2, htp, hs5⟩ := frz_hs hs4
      exact k B2 _ m2 c2 H4 sB2 hs5 g2 ⟨n, ls, ⟨tp, lr, us, rfl, htp, sB2 _ _ hl, hL.same sB2, by omega⟩, by omega⟩
    · walk_at "ss"
      refine ifd (fun h2 => ?_) (fun h2 => ?_)
      · walk_at "ss"
        rename_i rp H2 hs2
        refine w_pick hs2 g1 (fun z => by cases z) (by simp) fun x m2 c2 H3 hx hs3 g2 => ?_
        obtain ⟨n, rfl⟩ : ∃ n : Int, x = .int n := by
          simp only [List.mem_cons, List.not_mem_nil, or_false] at hx
          rcases hx with rfl | rfl | rfl | rfl
          · exact ⟨_, rfl⟩
          · exact ⟨_, rfl⟩
          · exact ⟨_, rfl⟩
          · exact ⟨_, rfl⟩
        walk_at "ss"
        rename_i tp H4 hs4
        obtain ⟨B2, sB2, htp, hs5⟩ := frz_hs hs4
        exact k B2 _ m2 c2 H4 sB2 hs5 g2 ⟨n, ls, ⟨tp, lr, us, rfl, htp, sB2 _ _ hl, hL.same sB2, by omega⟩, by omega⟩
      · walk_at "ss"
        have hne : us ≠ [] := fun z => h2 (by rw [z]; rfl)
        refine w_spS us hs1 g1 ⟨lr, rfl, hl, hne, by omega⟩ (fun _ _ _ _ h => h) fun B2 x m2 c2 H2 sB2 hs2 g2 hx => ?_
        clear hs1 g1 hl1
        obtain ⟨i, hi⟩ := List.mem_iff_getElem?.mp hx
        obtain ⟨t, l, rfl, hli, hnk⟩ := LkL.get hL hi
        obtain ⟨p, q, ht, hp, hq⟩ := nk_link hnk
        have ht2 : H2 t = some (.tup [.ref p, .ref q]) := hs2.old (sB2 _ _ ht)
        have hp2 : B2 p = some (.tup [.int l.1.1, .int l.1.2]) := sB2 _ _ hp
        have hq2 : B2 q = some (.tup [.int l.2.1, .int l.2.2]) := sB2 _ _ hq
        walk_at "ss"
        rename_i t1 _ _ t2 _ _ u3 _ _ t3 _ _ u4 _ _ t4 _ _ u5 _ _ t5 _ _ u6 _ _ t6 _ _ rw0 H3 hs3
        obtain ⟨B3, sB3, hs4, al⟩ := Hs.rest [(rw0, .lst [V.ref t1, V.ref t2, V.ref t3, V.ref t4, V.ref t5, V.ref t6]), (s, sto c m2), (c, clo c2)] (hs3.sel [0, 11, 12, 1, 2, 3, 4, 5, 6, 7, 8, 9, 10])
        have a1 : B3 t6 = some (.tup [.ref q, .ref u6]) := al (t6, _) (by simp)
        have a2 : B3 u6 = some (.tup [.int 8, .int 1]) := al (u6, _) (by simp)
        have a3 : B3 t5 = some (.tup [.ref p, .ref u5]) := al (t5, _) (by simp)
        have a4 : B3 u5 = some (.tup [.int l.2.1, .int 7]) := al (u5, _) (by simp)
        have a5 : B3 t4 = some (.tup [.ref u4, .ref p]) := al (t4, _) (by simp)
        have a6 : B3 u4 = some (.tup [.int 0, .int 1]) := al (u4, _) (by simp)
        have a7 : B3 t3 = some (.tup [.ref p, .ref u3]) := al (t3, _) (by simp)
        have a8 : B3 u3 = some (.tup [.int l.1.1, .int 6]) := al (u3, _) (by simp)
        have a9 : B3 t2 = some (.tup [.ref q, .ref p]) := al (t2, _) (by simp)
        have a10 : B3 t1 = some (.tup [.ref p, .ref q]) := al (t1, _) (by simp)
        have hp3 := sB3 _ _ hp2
        have hq3 := sB3 _ _ hq2
        clear al hs3
        refine w_pick hs4 g2 (fun z => by cases z) (by simp) fun x m3 c3 H4 hx hs5 g3 => ?_
        obtain ⟨tx, lx, rfl, hkx⟩ : ∃ (tx : Addr) (lx : Lk), x = .ref tx ∧ NK B3 (lkK lx) (.ref tx) := by
          simp only [List.mem_cons, List.not_mem_nil, or_false] at hx
          rcases hx with rfl | rfl | rfl | rfl | rfl | rfl
          · exact ⟨t1, (l.1, l.2), rfl, nk_mk a10 hp3 hq3⟩
          · exact ⟨t2, (l.2, l.1), rfl, nk_mk a9 hq3 hp3⟩
          · exact ⟨t3, (l.1, (l.1.1, 6)), rfl, nk_mk a7 hp3 a8⟩
          · exact ⟨t4, ((0, 1), l.1), rfl, nk_mk a5 a6 hp3⟩
          · exact ⟨t5, (l.1, (l.2.1, 7)), rfl, nk_mk a3 hp3 a4⟩
          · exact ⟨t6, (l.2, (8, 1)), rfl, nk_mk a1 hq3 a2⟩
        have s03 := sB2.trans sB3
        have hl3 := s03 _ _ hl
        have hL3 := (hL.same s03).snoc hkx
        clear a1 a2 a3 a4 a5 a6 a7 a8 a9 a10 hp3 hq3 hs4 hs2 ht2
        have hl4 := hs5.old hl3
        walk_at "ss"
        rename_i p1 _ _ c1 _ _ p2 _ _ c4 H5 hs6
        refine w_sortL hs6 (SqL.of hs6.g0) (hL3.same hs6.same) fun sl ys H6 hysz hs7 hL7 => ?_
        obtain ⟨B4, sB4, hs8, tb⟩ := hs7.ground rfl
        replace hL7 := LkL.mono tb hL7
        clear hs7 hs6 tb
        have hl5 := hs8.old (sB4 _ _ hl3)
        walk_at "ss"
        refine w_revL ?_
        walk_at "ss"
        refine w_revR hs8 (SqL.of hl5) fun rl H7 hs9 => ?_
        clear hs8 hl5
        walk_at "ss"
        rename_i rw1 H8 hs10
        obtain ⟨B5, sB5, hs11, al⟩ := Hs.rest [(rw1, .lst [V.ref c1, V.ref sl, V.ref rl]), (s, sto c m3), (c, clo c3)] (hs10.sel [0, 7, 8, 1, 2, 5])
        have b1 : B5 rl = some (.lst us.reverse) := al (rl, _) (by simp)
        have b2 : B5 sl = some (.lst ys) := al (sl, _) (by simp)
        have b3 : B5 c1 = some (.lst (us ++ [V.ref tx])) := al (c1, _) (by simp)
        have s05 := s03.trans (sB4.trans sB5)
        clear al hs10 hs9
        refine w_pick hs11 g3 (fun z => by cases z) (by simp) fun x m4 c5 H9 hx hs12 g4 => ?_
        obtain ⟨lr2, us2, ls2, rfl, hlr2, hL2, hz2⟩ : ∃ (lr2 : Addr) (us2 : List V) (ls2 : List Lk), x = .ref lr2 ∧ B5 lr2 = some (.lst us2) ∧ LkL B5 us2 ls2 ∧ ls2.length ≤ 13 := by
          simp only [List.mem_cons, List.not_mem_nil, or_false] at hx
          rcases hx with rfl | rfl | rfl
          · exact ⟨c1, _, _, rfl, b3, hL3.same (sB4.trans sB5), by simp; omega⟩
          · refine ⟨sl, _, _, rfl, b2, hL7.same sB5, ?_⟩
            have := (srt_perm (ls ++ [lx])).length_eq
            rw [List.length_append, List.length_singleton] at this
            omega
          · exact ⟨rl, _, _, rfl, b1, lkL_rev (hL.same s05), by simp; omega⟩
        walk_at "ss"
        rename_i tp H10 hs13
        obtain ⟨B6, sB6, htp, hs14⟩ := frz_hs hs13
        exact k B6 _ m4 c5 H10 (s05.trans sB6) hs14 g4 ⟨cnt, ls2, ⟨tp, lr2, us2, rfl, htp, sB6 _ _ hlr2, hL2.same sB6, by omega⟩, hz2⟩
end
local macro_rules | `(tactic| walk_at "v") => `(tactic| first | exact v0 | exact v1 | exact v2 | exact v3 | exact v4 | exact v5 | exact v6 | exact v7 | exact v8)
local macro_rules | `(tactic| walk_at "vs") => `(tactic| first | exact st0 | exact st1 | exact st2 | exact st3 | exact st4 | exact st5 | exact st6 | exact st7 | exact st8)
local macro_rules | `(tactic| walk_at "s") => `(tactic| first
  | with_reducible refine w_dget ?_
  | ((with_reducible refine' w_dgetZ ?h ?nd ?hk ?hv ?_); (case h => walk_at "g"); (case nd => walk_at "nd"); (case hk => walk_at "k"); (case hv => walk_at "v"))
  | ((with_reducible refine' w_dputZ ?hs ?h ?nd ?hk ?hv ?hu ?hl ?_); (case hs => assumption); (case h => walk_at "p"); (case nd => walk_at "nd"); (case hk => walk_at "k"); (case hv => walk_at "v"); (case hu => walk_at "vs"); (case hl => decide); intro _ _)
  | with_reducible refine w_gsub ?_
  | with_reducible refine w_setD ?_
  | with_reducible refine w_disp ?_
  | ((with_reducible refine' w_newP ?hs ?_); (case hs => assumption); intro _ _ _)
  | with_reducible refine w_pcons ?_
  | with_reducible refine w_pnil ?_)

local macro_rules | `(tactic| walk_at "s") => `(tactic| first
  | with_reducible refine w_nget ?_
  | with_reducible refine w_nin ?_
  | with_reducible refine w_nnot ?_
  | with_reducible refine w_nput ?_
  | with_reducible refine w_ndel ?_
  | with_reducible refine w_npop ?_
  | ((with_reducible refine' w_nnew ?hs ?_); (case hs => assumption); intro _ _ _))

/-! ## data of what is compared -/
def endD (x : E2) : PyData := .tuple [.int x.1, .int x.2]
def optD : Option E2 → PyData
  | none => .none
  | some e => endD e
def wayD (es : List E2) : PyData := .list (es.map endD)
def waysD (ws : List (List E2)) : PyData := .list (ws.map wayD)
theorem opt_dp {K : PySem.W.Frag} {H : Hp} {v : V} : ∀ {o : Option E2}, OptE H v o → Dp K H v (optD o)
  | none, h => by
    obtain rfl : v = .non := h
    exact .non
  | some e, ⟨q, h1, h2⟩ => by
    subst h1
    exact dp_end h2
theorem opt_shp : ∀ o : Option E2, SeqAt.shaped (optD o) = true
  | none => rfl
  | some e => shp_end e
theorem way_dp {K : PySem.W.Frag} {H : Hp} {v : V} {es : List E2} (h : WayAt H v es) : Dp K H v (wayD es) := by
  obtain ⟨q, zs, rfl, h1, h2⟩ := h
  exact ends_dp h1 h2
theorem ways_dp {K : PySem.W.Frag} {H : Hp} {l : Addr} {ys : List V} {ws : List (List E2)} (hl : H l = some (.lst ys)) (h : Row (WayAt H) ys ws) : Dp K H (.ref l) (waysD ws) :=
  .lst (SqL.of hl) (h.dpAll (d := wayD) fun _ _ z => way_dp z)
theorem way_ok (es : List E2) : (wayD es).canLay0 = true ∧ (wayD es).depth ≤ 60 := by
  unfold wayD
  have h1 : PyData.canLayAll0 (es.map endD) = true := by
    induction es with
    | nil => rfl
    | cons e es ih =>
      rw [List.map_cons]
      simp only [PyData.canLayAll0, ih, Bool.and_true]
      simp [endD, PyData.canLay0, PyData.canLayAll0]
  have h2 : PyData.depthAll (es.map endD) ≤ 1 := by
    induction es with
    | nil => exact Nat.zero_le _
    | cons e es ih =>
      have ih := ih (by
        rw [List.map_cons] at h1
        simp only [PyData.canLayAll0, Bool.and_eq_true] at h1
        exact h1.2)
      rw [List.map_cons]
      simp only [PyData.depthAll]
      have : (endD e).depth ≤ 1 := by simp [endD, PyData.depth, PyData.depthAll]
      omega
  constructor
  · simp only [PyData.canLay0, h1]
  · simp only [PyData.depth]
    omega
theorem way_shp (es : List E2) : SeqAt.shaped (wayD es) = true := shp_list (ds := es.map endD) fun d hd => by
  obtain ⟨e, _, rfl⟩ := List.mem_map.mp hd
  constructor
  · simp [endD, PyData.canLay0, PyData.canLayAll0]
  · simp [endD, PyData.depth, PyData.depthAll]
theorem ways_shp (ws : List (List E2)) : SeqAt.shaped (waysD ws) = true := shp_list (ds := ws.map wayD) fun d hd => by
  obtain ⟨e, _, rfl⟩ := List.mem_map.mp hd
  exact way_ok e
theorem ints_ok (ns : List Int) : ∀ d ∈ ns.map PyData.int, d.canLay0 = true ∧ d.depth ≤ 60 := fun d hd => by
  obtain ⟨n, _, rfl⟩ := List.mem_map.mp hd
  exact ⟨rfl, by simp [PyData.depth]⟩
theorem w_neInts {K : PySem.W.Frag} {H : Hp} {Q : VK} {p q : Addr} {ns : List Int} (hp : H p = some (.lst (ns.map V.int))) (hq : H q = some (.lst (ns.map V.int))) (k : Q (.bl false) H) : rNeD K (.ref p) (.ref q) H Q :=
  w_neL hp hq (im_ints ns) (im_ints ns) (ints_ok ns) k
theorem par_eq {K : PySem.W.Frag} {H : Hp} {k1 k2 : List (Key × V)} {ls : List Lk} {st : TSt} (ti : TI ls st) (h1 : ParL H k1 st.2) (h2 : ParL H k2 st.2) : ∀ p ∈ k1, ∃ u d, valV k2 p.1 = some u ∧ Dp K H p.2 d ∧ Dp K H u d ∧ SeqAt.shaped d = true := by
  have key : ∀ {k1 : List (Key × V)} {par : Par}, ParL H k1 par → ∀ p ∈ k1, ∃ x ∈ par, p.1 = Sum.inl x.1 ∧ EndAt H p.2 x.2 := fun {k1 par} h => by
    induction h with
    | nil => exact fun _ z => nomatch z
    | cons h _ ih =>
      intro p hp
      rcases List.mem_cons.mp hp with rfl | hp
      · exact ⟨_, List.mem_cons_self .., h⟩
      · obtain ⟨x, h1, h2⟩ := ih p hp
        exact ⟨x, List.mem_cons_of_mem _ h1, h2⟩
  intro p hp
  obtain ⟨x, hx, e1, q, e2, hq⟩ := key h1 p hp
  have hg : getP st.2 x.1 = some x.2 := ti.get.mpr hx
  rcases h2.get (n := x.1) with ⟨h3, _⟩ | ⟨e', v, h3, h4, q2, rfl, hq2⟩
  · rw [hg] at h3
    cases h3
  · rw [hg] at h3
    cases h3
    exact ⟨_, endD x.2, by rw [e1]; exact h4, by rw [e2]; exact dp_end hq, dp_end hq2, shp_end _⟩
theorem sh_link {l : Lk} (h : isEnd 6 l.1 = true ∧ isEnd 6 l.2 = true) : Sh 2 10 (lkK l).data := by
  have a := isEnd_iff.mp h.1
  have b := isEnd_iff.mp h.2
  have e : ∀ x y : Int, 1 ≤ x ∧ x ≤ 6 → 1 ≤ y ∧ y ≤ 6 → Sh 1 2 (.tuple [.int x, .int y]) := fun x y hx hy => by
    have h1 := Sh.ints (ns := [x, y]) fun z hz => by
      simp at hz
      rcases hz with rfl | rfl
      · exact ⟨by omega, by omega⟩
      · exact ⟨by omega, by omega⟩
    exact h1
  rw [lk_data]
  exact (Sh.tup (ShA.cons (e _ _ a.1 a.2) (ShA.cons (e _ _ b.1 b.2) (ShA.nil (b := 0))))).mono (by decide) (by decide)
def linksD (ls : List Lk) : PyData := .list (ls.map fun l => (lkK l).data)
theorem links_shows {ls : List Lk} (g : Gd ls) (hl : ls.length ≤ 12) : Shows (linksD ls) := by
  have := Sh.lst (ShA.all (D := 2) (b := 10) (xs := ls.map fun l => (lkK l).data) fun d hd => by
    obtain ⟨l, hl, rfl⟩ := List.mem_map.mp hd
    exact sh_link (g.rng l hl))
  rw [List.length_map] at this
  exact ⟨this.lay, Nat.le_trans this.dep (by decide), this.sho, Nat.le_trans this.blk (by omega), this.lvs⟩
theorem links_dp {K : PySem.W.Frag} {H : Hp} {l : Addr} {us : List V} {ls : List Lk} (hl : H l = some (.lst us)) (hL : LkL H us ls) : Dp K H (.ref l) (linksD ls) := .lst (SqL.of hl) hL.ima.dp
theorem link_shp (l : Lk) : SeqAt.shaped (lkK l).data = true := by
  rw [lk_data]
  simp [SeqAt.shaped, PyData.canLay0, PyData.canLayAll0, PyData.depth, PyData.depthAll]
local macro_rules | `(tactic| walk_at "v") => `(tactic| first | exact v0 | exact v1 | exact v2 | exact v3 | exact v4 | exact v5 | exact v6 | exact v7 | exact v8)
local macro_rules | `(tactic| walk_at "vs") => `(tactic| first | exact st0 | exact st1 | exact st2 | exact st3 | exact st4 | exact st5 | exact st6 | exact st7 | exact st8)
local macro_rules | `(tactic| walk_at "s") => `(tactic| first
  | with_reducible refine w_dget ?_
  | ((with_reducible refine' w_dgetZ ?h ?nd ?hk ?hv ?_); (case h => walk_at "g"); (case nd => walk_at "nd"); (case hk => walk_at "k"); (case hv => walk_at "v"))
  | ((with_reducible refine' w_dputZ ?hs ?h ?nd ?hk ?hv ?hu ?hl ?_); (case hs => assumption); (case h => walk_at "p"); (case nd => walk_at "nd"); (case hk => walk_at "k"); (case hv => walk_at "v"); (case hu => walk_at "vs"); (case hl => decide); intro _ _)
  | with_reducible refine w_gsub ?_
  | with_reducible refine w_setD ?_
  | with_reducible refine w_disp ?_
  | ((with_reducible refine' w_newP ?hs ?_); (case hs => assumption); intro _ _ _)
  | with_reducible refine w_pcons ?_
  | with_reducible refine w_pnil ?_)

local macro_rules | `(tactic| walk_at "s") => `(tactic| first
  | with_reducible refine w_nget ?_
  | with_reducible refine w_nin ?_
  | with_reducible refine w_nnot ?_
  | with_reducible refine w_nput ?_
  | with_reducible refine w_ndel ?_
  | with_reducible refine w_npop ?_
  | ((with_reducible refine' w_nnew ?hs ?_); (case hs => assumption); intro _ _ _))

theorem w_inI0 {K : PySem.W.Frag} {H : Hp} {Q : VK} {n : Int} {ns : List Int} {p : Addr} (h : SqL K H p (ns.map V.int)) (q : Q (.bl (decide (n ∈ ns))) H) : rIn K false (.int n) (.ref p) H Q := w_inIs h q
section
variable {P : Program} [IsP P] {w : World} {K : PySem.W.Frag} {mg : Str → Option Value} {base : Heap} {a : Ad}
def sp_law (K : PySem.W.Frag) : Sp := fun vs H Q _ => ∃ (x : Addr) (ns : List Int), vs = [.ref x] ∧ SqL K H x (ns.map V.int) ∧ ns.length ≤ 63 ∧ ∀ H', Q (.bl true) H'
theorem ok_law (T : Txt w K mg a) : LawRun P w K mg base 14 a.law a.fd_law ["script"] (sp_law K) := by
  have G__law_state := ok__law_state (P := P) (w := w) (base := base) T
  have G__law_graph := ok__law_graph (P := P) (w := w) (base := base) T
  have G__law_faulty := ok__law_faulty (P := P) (w := w) (base := base) T
  have G_check_graph := ok_check_graph (P := P) (w := w) (base := base) T
  have G__law_good := ok__law_good (P := P) (w := w) (base := base) T
  have G__law_tree := ok__law_tree (P := P) (w := w) (base := base) T
  have G_tree := ok_tree (P := P) (w := w) (base := base) T
  have G__law_near := ok__law_near (P := P) (w := w) (base := base) T
  have G_reached := ok_reached (P := P) (w := w) (base := base) T
  have G_peer := ok_peer (P := P) (w := w) (base := base) T
  have G__law_peer := ok__law_peer (P := P) (w := w) (base := base) T
  have G_is_end := ok_is_end (P := P) (w := w) (base := base) T
  have G__law_way := ok__law_way (P := P) (w := w) (base := base) T
  have G_way := ok_way (P := P) (w := w) (base := base) T
  have G_below := ok_below (P := P) (w := w) (base := base) T
  have G__law_below := ok__law_below (P := P) (w := w) (base := base) T
  have G_two_ways := ok_two_ways (P := P) (w := w) (base := base) T
  have G_link_of := ok_link_of (P := P) (w := w) (base := base) T
  refine law_run (k := 13) T.fn_law sc_law (fun vs H Q E h => ?_) (fun cdv s H vs Q E hr h => ?_)
  · obtain ⟨_, _, rfl, _⟩ := h
    rfl
  · obtain ⟨x, ns, rfl, hx, hl0, k⟩ := h
    have hu := hu_of hr
    refine ⟨_, (pss_cons (ps_set (i := 1) sc_law.nd rfl (Or.inl rfl) (pe_call G__law_state (hr.mono (by first | decide | omega)) rfl T.mg__law_state T.kp__law_state T.bi__law_state .nil pass0 (pa_cons (pv 0) pa_nil)))
  (pss_cons (ps_set (i := 2) sc_law.nd rfl (Or.inl rfl) (pe_call G__law_graph (hr.mono (by first | decide | omega)) rfl T.mg__law_graph T.kp__law_graph T.bi__law_graph .nil pass0 (pa_cons (pv 1) (pa_cons pe_int pa_nil))))
  (pss_cons (ps_set (i := 3) sc_law.nd rfl (Or.inl rfl) (pe_call G__law_faulty (hr.mono (by first | decide | omega)) rfl T.mg__law_faulty T.kp__law_faulty T.bi__law_faulty .nil pass0 (pa_cons (pv 1) (pa_cons (pv 2) pa_nil))))
  (pss_cons (ps_for PassesOwn.never rfl (pi_tupK (K := K) (pe_tup (pa_cons (pv 2) (pa_cons (pv 3) pa_nil)))) (pg_name (i := 4) sc_law.nd rfl (Or.inl rfl))
  (pss_cons (ps_set (i := 5) sc_law.nd rfl (Or.inl rfl) (pe_call G_check_graph (hr.mono (by first | decide | omega)) rfl T.mg_check_graph T.kp_check_graph T.bi_check_graph .nil pass0 (pa_cons (pv 4) pa_nil)))
  (pss_one (ps_if (PW.pt (pw_or (pt_not (pt_val (pe_callB (call_isiK (K := K)) (by rfl) T.mg_isinstance (by decide +kernel) (pa_cons (pv 5) (pa_cons (pe_bltn (v := .ty "bool") (by rfl) T.mg_bool (by decide +kernel) rfl) pa_nil))))) (pw_or1 (pt_cmpR op_ne (pv 5) (pe_call G__law_good (hr.mono (by first | decide | omega)) rfl T.mg__law_good T.kp__law_good T.bi__law_good .nil pass0 (pa_cons (pv 4) pa_nil)) (nomark _)))))
  (pss_one (ps_ret pe_bl))
  pss_nil))))
  (pss_cons (ps_asg (pe_tup (pa_cons (pe_ix (ix_tupK (K := K)) (pv 2) pe_int (fun _ _ => rfl)) (pa_cons (pe_ix (ix_tupK (K := K)) (pv 2) pe_int (fun _ _ => rfl)) pa_nil))) (pg_tupK (K := K) rfl (pgs_cons (pg_name (i := 6) sc_law.nd rfl (Or.inl rfl)) (pgs_cons (pg_name (i := 7) sc_law.nd rfl (Or.inr rfl)) pgs_nil))))
  (pss_cons (ps_set (i := 8) sc_law.nd rfl (Or.inl rfl) (pe_callB (call_reprDK (K := K) rfl hr.units) (by rfl) T.mg_repr (by decide +kernel) (pa_cons (pv 7) pa_nil)))
  (pss_cons (ps_set (i := 9) sc_law.nd rfl (Or.inl rfl) (pe_call G__law_tree (hr.mono (by first | decide | omega)) rfl T.mg__law_tree T.kp__law_tree T.bi__law_tree .nil pass0 (pa_cons (pv 7) pa_nil)))
  (pss_cons (ps_if (pt_cmpR (op_neDD (K := K) (r65 hr)) (pe_call G_tree (hr.mono (by first | decide | omega)) rfl T.mg_tree T.kp_tree T.bi_tree .nil pass0 (pa_cons (pv 7) pa_nil)) (pv 9) (nomark _))
  (pss_one (ps_ret pe_bl))
  pss_nil)
  (pss_cons (ps_for PassesOwn.never rfl (pi_range2 rfl T.mg_range (pa_cons pe_int (pa_cons (pe_op op_add (pv 6) pe_int) pa_nil))) (pg_name (i := 10) sc_law.nd rfl (Or.inl rfl))
  (pss_cons (ps_set (i := 11) sc_law.nd rfl (Or.inl rfl) (pe_call G__law_near (hr.mono (by first | decide | omega)) rfl T.mg__law_near T.kp__law_near T.bi__law_near .nil pass0 (pa_cons (pv 7) (pa_cons (pv 10) pa_nil))))
  (pss_cons (ps_if (PW.pt (pw_or (pt_cmpR (op_neDK (K := K) hr.units) (pe_call G_reached (hr.mono (by first | decide | omega)) rfl T.mg_reached T.kp_reached T.bi_reached .nil pass0 (pa_cons (pv 7) (pa_cons (pv 10) pa_nil))) (pv 11) (nomark _)) (pw_or1 (pt_cmpR op_ne (pe_or (pe_cmp (pc_din hu (pv 10) (pv 9)) rfl) (pe_one (pe_cmpR op_eq (pv 10) pe_int (nomark _)))) (pe_cmpR (op_inK (K := K)) pe_int (pv 11) (by rfl)) (nomark _)))))
  (pss_one (ps_ret pe_bl))
  pss_nil)
  (pss_cons (ps_for PassesOwn.never rfl (pi_range2 rfl T.mg_range (pa_cons pe_int (pa_cons pe_int pa_nil))) (pg_name (i := 12) sc_law.nd rfl (Or.inl rfl))
  (pss_one (ps_if (PW.pt (pw_or (pt_cmpR (op_neDK (K := K) hr.units) (pe_call G_peer (hr.mono (by first | decide | omega)) rfl T.mg_peer T.kp_peer T.bi_peer .nil pass0 (pa_cons (pv 7) (pa_cons (pe_tup (pa_cons (pv 10) (pa_cons (pv 12) pa_nil))) pa_nil))) (pe_call G__law_peer (hr.mono (by first | decide | omega)) rfl T.mg__law_peer T.kp__law_peer T.bi__law_peer .nil pass0 (pa_cons (pv 7) (pa_cons (pe_tup (pa_cons (pv 10) (pa_cons (pv 12) pa_nil))) pa_nil))) (nomark _)) (pw_or1 (pt_not (pt_val (pe_call G_is_end (hr.mono (by first | decide | omega)) rfl T.mg_is_end T.kp_is_end T.bi_is_end .nil pass0 (pa_cons (pv 6) (pa_cons (pe_tup (pa_cons (pv 10) (pa_cons (pv 12) pa_nil))) pa_nil))))))))
  (pss_one (ps_ret pe_bl))
  pss_nil)))
  (pss_one (ps_if (PW.pt (pw_or (pt_cmpR op_eq (pv 10) pe_int (nomark _)) (pw_or1 (pt_cmp (pc_din hu (pv 10) (pv 9))))))
  (pss_cons (ps_set (i := 13) sc_law.nd rfl (Or.inl rfl) (pe_call G__law_way (hr.mono (by first | decide | omega)) rfl T.mg__law_way T.kp__law_way T.bi__law_way .nil pass0 (pa_cons (pv 9) (pa_cons (pv 10) pa_nil))))
  (pss_cons (ps_if (PW.pt (pw_or (pt_cmpR (op_neDK (K := K) hr.units) (pe_call G_way (hr.mono (by first | decide | omega)) rfl T.mg_way T.kp_way T.bi_way .nil pass0 (pa_cons (pv 9) (pa_cons (pv 10) pa_nil))) (pv 13) (nomark _)) (pw_or1 (pt_cmpR (op_neDK (K := K) hr.units) (pe_call G_below (hr.mono (by first | decide | omega)) rfl T.mg_below T.kp_below T.bi_below .nil pass0 (pa_cons (pv 9) (pa_cons (pv 10) pa_nil))) (pe_call G__law_below (hr.mono (by first | decide | omega)) rfl T.mg__law_below T.kp__law_below T.bi__law_below .nil pass0 (pa_cons (pv 9) (pa_cons (pv 10) pa_nil))) (nomark _)))))
  (pss_one (ps_ret pe_bl))
  pss_nil)
  (pss_cons (ps_set (i := 14) sc_law.nd rfl (Or.inr rfl) (pe_op op_cat (pe_lc (own := [("end", 17)]) (g := (gName 17)) (tt := tYes) rfl sc_law.nd (pi_listK (K := K) (pv 13)) (blkOk_by (own := [("end", 17)]) (N := N_law) (sc := defScope s_law) (by decide +kernel)) (fun _ _ _ _ _ => by exact (pg_name (i := 17) sc_law.nd rfl (Or.inl rfl))) (fun _ _ _ _ _ => pts_nil) (fun _ _ _ _ _ => by exact (pv 17))) (pe_lc (own := [("end", 17)]) (g := (gName 17)) (tt := tYes) rfl sc_law.nd (pi_listK (K := K) (pv 13)) (blkOk_by (own := [("end", 17)]) (N := N_law) (sc := defScope s_law) (by decide +kernel)) (fun _ _ _ _ _ => by exact (pg_name (i := 17) sc_law.nd rfl (Or.inl rfl))) (fun _ _ _ _ _ => pts_nil) (fun _ _ _ _ _ => by exact (pe_call G__law_peer (hr.mono (by first | decide | omega)) rfl T.mg__law_peer T.kp__law_peer T.bi__law_peer .nil pass0 (pa_cons (pv 7) (pa_cons (pv 17) pa_nil)))))))
  (pss_cons (ps_set (i := 15) sc_law.nd rfl (Or.inl rfl) (pe_call G__law_tree (hr.mono (by first | decide | omega)) rfl T.mg__law_tree T.kp__law_tree T.bi__law_tree .nil pass0 (pa_cons (pe_lc (own := [("link", 18)]) (g := (gName 18)) rfl sc_law.nd (pi_listK (K := K) (pv 7)) (blkOk_by (own := [("link", 18)]) (N := N_law) (sc := defScope s_law) (by decide +kernel)) (fun _ _ _ _ _ => by exact (pg_name (i := 18) sc_law.nd rfl (Or.inl rfl))) (fun _ _ _ _ _ => by exact pts_one (pt_cmpR (op_niDL (K := K) (r65 hr)) (pe_ix (ix_tupK (K := K)) (pv 18) pe_int (fun _ _ => rfl)) (pv 14) (by rfl))) (fun _ _ _ _ _ => by exact (pv 18))) pa_nil)))
  (pss_cons (ps_set (i := 16) sc_law.nd rfl (Or.inl rfl) (pe_lst (pa_cons (pv 13) pa_nil)))
  (C8.pss_cut (ps_if (PW.pt (pw_or (pt_cmpR op_eq (pv 10) pe_int (nomark _)) (pw_or1 (pt_cmp (pc_din hu (pv 10) (pv 15))))))
  (pss_one (ps_set (i := 16) sc_law.nd rfl (Or.inl rfl) (pe_lst (pa_cons (pv 13) (pa_cons (pe_call G__law_way (hr.mono (by first | decide | omega)) rfl T.mg__law_way T.kp__law_way T.bi__law_way .nil pass0 (pa_cons (pv 15) (pa_cons (pv 10) pa_nil))) pa_nil)))))
  pss_nil)
  (pss_one (ps_if (pt_cmpR (op_neDK (K := K) hr.units) (pe_call G_two_ways (hr.mono (by first | decide | omega)) rfl T.mg_two_ways T.kp_two_ways T.bi_two_ways .nil pass0 (pa_cons (pv 7) (pa_cons (pv 10) pa_nil))) (pv 16) (nomark _))
  (pss_one (ps_ret pe_bl))
  pss_nil))))))))
  (pss_one (ps_if (pt_cmpR (op_neDK (K := K) hr.units) (pe_call G_two_ways (hr.mono (by first | decide | omega)) rfl T.mg_two_ways T.kp_two_ways T.bi_two_ways .nil pass0 (pa_cons (pv 7) (pa_cons (pv 10) pa_nil))) (pe_lst pa_nil) (nomark _))
  (pss_one (ps_ret pe_bl))
  pss_nil))))))))
  (pss_cons (ps_if (PW.pt (pw_or (pt_cmpR (op_neDK (K := K) hr.units) (pe_call G_link_of (hr.mono (by first | decide | omega)) rfl T.mg_link_of T.kp_link_of T.bi_link_of .nil pass0 (pa_cons (pe_tup (pa_cons pe_int (pa_cons pe_int pa_nil))) (pa_cons (pe_tup (pa_cons pe_int (pa_cons pe_int pa_nil))) pa_nil))) (pe_tup (pa_cons (pe_tup (pa_cons pe_int (pa_cons pe_int pa_nil))) (pa_cons (pe_tup (pa_cons pe_int (pa_cons pe_int pa_nil))) pa_nil))) (nomark _)) (pw_or (pt_val (pe_call G_is_end (hr.mono (by first | decide | omega)) rfl T.mg_is_end T.kp_is_end T.bi_is_end .nil pass0 (pa_cons (pv 6) (pa_cons (pe_tup (pa_cons (pe_op op_add (pv 6) pe_int) (pa_cons pe_int pa_nil))) pa_nil)))) (pw_or (pt_val (pe_call G_is_end (hr.mono (by first | decide | omega)) rfl T.mg_is_end T.kp_is_end T.bi_is_end .nil pass0 (pa_cons (pv 6) (pa_cons (pe_tup (pa_cons pe_int (pa_cons pe_int pa_nil))) pa_nil)))) (pw_or1 (pt_val (pe_call G_is_end (hr.mono (by first | decide | omega)) rfl T.mg_is_end T.kp_is_end T.bi_is_end .nil pass0 (pa_cons (pv 6) (pa_cons (pe_tup (pa_cons pe_int (pa_cons pe_int pa_nil))) pa_nil)))))))))
  (pss_one (ps_ret pe_bl))
  pss_nil)
  (pss_one (ps_ret (pe_cmpR op_eq (pe_callB (call_reprDK (K := K) rfl hr.units) (by rfl) T.mg_repr (by decide +kernel) (pa_cons (pv 7) pa_nil)) (pv 8) (nomark _)))))))))))))), ?_⟩
    walk_at "ss"
    refine ⟨x, ns, rfl, hx, by omega, fun st c m cells H1 hs1 g => ?_⟩
    walk_at "ss"
    refine ⟨_, st, c, m, cells, rfl, hs1, g, fun B1 gv m1 c1 H2 sm1 hs2 g1 hgr => ?_⟩
    obtain ⟨cnt, ls, hgr, cn1, cn6, gd, hlz⟩ := hgr
    clear hs1 g
    walk_at "ss"
    refine ⟨B1, st, c, m1, c1, gv, cnt, ls, rfl, hs2, g1, hgr, hlz, fun B2 ov m2 c2 H3 sm2 hs3 g2 hot => ?_⟩
    obtain ⟨cnt2, ls2, hot, hlz2⟩ := hot
    clear hs2 g1
    replace hgr := (hgr.same sm2).same hs3.same
    replace hot := hot.same hs3.same
    clear g2 sm2 sm1
    clear hs3
    have hs := Hs.start H3
    walk_at "ss"
    refine w_forTF ?_
    walk_at "ss"
    rename_i tp H4 hs4
    clear hs
    refine w_tupR (SqT.of hs4.g0) ?_
    refine for_tupR (fun k σ H' => ∃ (v4 v5 : Option V), σ = [some (.ref x), some (.ref st), some gv, some ov, v4, v5, none, none, none, none, none, none, none, none, none, none, none, none, none] ∧ Hs H3 [(tp, .tup [gv, ov])] H') ⟨_, _, rfl, hs4⟩ (fun k σ H' _ ⟨_, _, _, hs⟩ => SqT.of hs.g0) ?_ ?_
    · clear hs4 H4
      rintro k v σ H4 hk ⟨v4, v5, rfl, hs4⟩
      obtain ⟨cn, lk, hgk, hlk⟩ : ∃ cn lk, GrAt H3 v cn lk ∧ lk.length ≤ 30 := by
        match k, hk with
        | 0, hk =>
          cases hk
          exact ⟨cnt, ls, hgr, by omega⟩
        | 1, hk =>
          cases hk
          exact ⟨cnt2, ls2, hot, by omega⟩
        | k + 2, hk => simp at hk
      walk_at "ss"
      refine ⟨v, cn, lk, rfl, hgk.same hs4.same, hlk, fun b1 H5 s5 hb1 => ?_⟩
      have hs5 := hs4.keep s5
      walk_at "ss"
      refine iteF ?_
      walk_at "ss"
      refine ⟨v, cn, lk, rfl, hgk.same hs5.same, hlk, fun b2 H6 s6 hb2 => ?_⟩
      have hs6 := hs5.keep s6
      have eb : b1 = b2 := Bool.eq_iff_iff.mpr (hb1.trans hb2.symm)
      subst eb
      walk_at "ss"
      rw [decide_eq_true rfl]
      refine iteF ?_
      walk_at "ss"
      exact ⟨_, _, rfl, hs6⟩
    · clear hs4 H4
      rintro σ H4 ⟨v4, v5, rfl, hs4⟩
      obtain ⟨gp, lr, us, rfl, hg, hl, hL, _⟩ := hgr
      have hg4 := hs4.old hg
      have hl4 := hs4.old hl
      have hL4 := hL.same hs4.same
      have hzu : us.length ≤ 12 := by
        rw [LkL.len hL]
        exact hlz
      clear hs4 hg hl hL hot
      have hs := Hs.start H4
      walk_at "ss"
      rename_i tq H5 hs5
      have hl5 := hs5.old hl4
      have hL5 := hL4.same hs5.same
      have hsh := links_shows gd hlz
      clear hs hl4 hL4 hg4 hs5
      refine ⟨lr, linksD ls, rfl, links_dp hl5 hL5, hsh, ?_⟩
      walk_at "ss"
      refine ⟨lr, us, ls, rfl, hl5, hL5, by omega, gd, fun pd kvs H6 hs6 hP => ?_⟩
      have hl6 := hs6.old hl5
      have hL6 := hL5.same hs6.same
      walk_at "ss"
      refine ⟨lr, us, ls, rfl, hl6, hL6, by omega, gd, fun pd2 kvs2 H7 hs7 hP2 => ?_⟩
      have ti := tree_ti ls
      have hl7 := hs7.old hl6
      have hL7 := hL6.same hs7.same
      have hpd := hs7.old hs6.g0
      have hP7 := hP.same hs7.same
      walk_at "ss"
      refine ⟨pd2, pd, kvs2, kvs, rfl, rfl, hs7.g0, hpd, by rw [hP2.len, hP7.len], par_eq ti hP2 hP7, ?_⟩
      refine ⟨_, rfl, iteF ?_⟩
      walk_at "ss"
      clear hP2 hP hs7 hs6 hl6 hL6 hl5 hL5
      generalize hkept : (linksD ls).shown = kept
      refine w_forR2 (lo := 1) (hi := cnt + 1) ⟨by decide, by decide, by omega, by omega⟩ (fun i σ' H' => ∃ (v10 v11 v12 v13 v14 v15 v16 v17 v18 : Option V), σ' = [some (.ref x), some (.ref st), some (.ref gp), some ov, v4, v5, some (.int cnt), some (.ref lr), some (.str kept), some (.ref pd), v10, v11, v12, v13, v14, v15, v16, v17, v18] ∧ Same H7 H')
        (fun Q' q => ?_) ⟨_, _, _, _, _, _, _, _, _, rfl, Same.refl _⟩ ?_ ?_
      · walk_at "ss"
        exact q
      · rintro i σ' H8 hi ⟨v10, v11, v12, v13, v14, v15, v16, v17, v18, rfl, s8⟩
        have hsw : 1 ≤ 1 + (i : Int) ∧ 1 + (i : Int) ≤ 6 := ⟨by omega, by omega⟩
        have hcn : 1 + (i : Int) ≤ cnt := by omega
        generalize 1 + (i : Int) = sw at hsw hcn ⊢
        clear hi
        have hl8 := s8 _ _ hl7
        have hL8 := hL7.same s8
        walk_at "ss"
        refine ⟨lr, us, ls, sw, rfl, hl8, hL8, gd, hsw, fun nl ys H9 hs9 hn1 => ?_⟩
        have hl9 := hs9.old hl8
        have hL9 := hL8.same hs9.same
        walk_at "ss"
        refine ⟨lr, us, ls, sw, rfl, hl9, hL9, gd, hsw, fun rl zs H10 hs10 hn2 => ?_⟩
        obtain rfl := near_uniq hn2 hn1
        have hnl := hs10.old hs9.g0
        have s10 : Same H7 H10 := (s8.trans hs9.same).trans hs10.same
        have hpd10 := s10 _ _ hpd
        have hvm : (valV kvs (Sum.inl sw)).isSome = decide (sw ∈ (treeM ls).2.map (·.1)) := valV_mem hP7.keys
        have hrow : sw ∈ (treeM ls).1 ↔ sw = 1 ∨ sw ∈ (treeM ls).2.map (·.1) := by
          rw [ti.hd, List.mem_cons]
        have hone : sw ∈ (treeM ls).1 ↔ 1 ∈ zs := by
          rw [tree_rch gd, hn2.2]
          exact ⟨Rch.symm, Rch.symm⟩
        walk_at "ss"
        refine w_neInts hs10.g0 hnl ?_
        refine ⟨_, rfl, iteF ?_⟩
        walk_at "ss"
        rw [hvm]
        clear hs9 hs10 hn1 hl9 hL9
        refine' join (fun hA => ?_) ?_
        rotate_left
        · by_cases hk : sw ∈ (treeM ls).2.map (·.1)
          · have h1 : 1 ∈ zs := hone.mp (hrow.mpr (.inr hk))
            rw [decide_eq_true hk]
            refine iteT ?_
            walk_at "ss"
            refine w_inI0 (SqL.of hnl) ?_
            rw [decide_eq_true h1]
            walk_at "ss"
            refine iteF ?_
            walk_at "ss"
            exact hA
          · rw [decide_eq_false hk]
            refine iteF ?_
            walk_at "ss"
            refine w_inI0 (SqL.of hnl) ?_
            by_cases h1 : sw = 1
            · rw [decide_eq_true h1, decide_eq_true (hone.mp (hrow.mpr (.inl h1)))]
              walk_at "ss"
              refine iteF ?_
              walk_at "ss"
              exact hA
            · rw [decide_eq_false h1, decide_eq_false (fun z => (hrow.mp (hone.mpr z)).elim h1 hk)]
              walk_at "ss"
              refine iteF ?_
              walk_at "ss"
              exact hA
        · refine w_forR2 (lo := 1) (hi := 7) ⟨by decide, by decide, by decide, by decide⟩ (fun j σ' H' => ∃ (v12 v13 v14 v15 v16 v17 v18 : Option V), σ' = [some (.ref x), some (.ref st), some (.ref gp), some ov, v4, v5, some (.int cnt), some (.ref lr), some (.str kept), some (.ref pd), some (.int sw), some (.ref nl), v12, v13, v14, v15, v16, v17, v18] ∧ Same H7 H')
            (fun Q' q => ?_) ⟨_, _, _, _, _, _, _, rfl, s10⟩ ?_ ?_
          · walk_at "ss"
            exact q
          · clear hpd10 hnl s10 hl8 hL8 s8
            rintro j σ' H11 hj ⟨v12, v13, v14, v15, v16, v17, v18, rfl, s11⟩
            have hp6 : 1 ≤ 1 + (j : Int) ∧ 1 + (j : Int) ≤ 6 := ⟨by omega, by omega⟩
            generalize 1 + (j : Int) = po at hp6 ⊢
            clear hj
            have hs := Hs.start H11
            walk_at "ss"
            rename_i t1 H12 hs12
            have s12 := s11.trans hs12.same
            refine ⟨lr, t1, us, ls, (sw, po), rfl, s12 _ _ hl7, hL7.same s12, hs12.g0, fun v1 hv1 => ?_⟩
            clear hs hs12
            have hs := Hs.start H12
            walk_at "ss"
            rename_i t2 H13 hs13
            have s13 := s12.trans hs13.same
            refine ⟨lr, t2, us, ls, (sw, po), rfl, s13 _ _ hl7, hL7.same s13, hs13.g0, fun v2 H14 s14 hv2 => ?_⟩
            have hd1 := OptE.same (hs13.same.trans s14) hv1
            have hd2 := OptE.same s14 hv2
            clear hs hs13
            have hs := Hs.start H14
            walk_at "ss"
            refine w_neRefl (opt_dp hd1) (opt_dp hd2) (opt_shp _) ?_
            refine ⟨_, rfl, iteF ?_⟩
            walk_at "ss"
            rename_i t3 H15 hs15
            refine ⟨t3, cnt, (sw, po), rfl, hs15.g0, ?_⟩
            have he : isEnd cnt (sw, po) = true := isEnd_iff.mpr ⟨⟨hsw.1, hcn⟩, hp6⟩
            rw [he]
            refine ⟨_, rfl, iteF ?_⟩
            walk_at "ss"
            exact ⟨_, _, _, _, _, _, _, rfl, (s13.trans s14).trans hs15.same⟩
          · clear hpd10 hnl s10 hl8 hL8 s8
            rintro σ' H11 ⟨v12, v13, v14, v15, v16, v17, v18, rfl, s11⟩
            have hpd11 := s11 _ _ hpd
            have hP11 := hP7.same s11
            have hl11 := s11 _ _ hl7
            have hL11 := hL7.same s11
            by_cases hm : sw ∈ (treeM ls).1
            · refine' join (fun hA => ?_) ?_
              rotate_left
              · walk_at "ss"
                by_cases h1 : sw = 1
                · rw [decide_eq_true h1]
                  refine iteT (iteT ?_)
                  exact hA
                · rw [decide_eq_false h1]
                  refine iteF ?_
                  walk_at "ss"
                  rw [hvm, decide_eq_true ((hrow.mp hm).resolve_left h1)]
                  refine iteT ?_
                  exact hA
              · walk_at "ss"
                refine ⟨pd, kvs, ls, treeM ls, sw, rfl, hpd11, hP11, ti, gd, hm, fun el eys H12 hs12 he => ?_⟩
                have hpe := way_peers (ls := ls) (to := sw)
                have e2 : twoM ls sw = [wayM (treeM ls).2 sw] ++ waysM (restM ls (wayM (treeM ls).2 sw)) sw := if_pos hm
                have hz9 : eys.length ≤ 9 := by
                  rw [he.1]
                  exact wayN_len _ _ _
                walk_at "ss"
                refine ⟨pd, kvs, ls, treeM ls, sw, rfl, hs12.old hpd11, hP11.same hs12.same, ti, gd, hm, fun wl wys H13 hs13 hw => ?_⟩
                have s1113 := hs12.same.trans hs13.same
                have hd1 := ends_dp (K := K) hs13.g0 (hw.mono fun _ _ => EndAt.mono fun _ _ => hs13.same _ _)
                have hd2 := ends_dp (K := K) (hs13.old hs12.g0) (he.mono fun _ _ => EndAt.mono fun _ _ => s1113 _ _)
                walk_at "ss"
                refine w_neRefl hd1 hd2 (way_shp _) ?_
                refine ⟨_, rfl, iteF ?_⟩
                walk_at "ss"
                refine ⟨pd, kvs, ls, treeM ls, sw, rfl, s1113 _ _ hpd11, hP11.same s1113, ti, gd, hm, fun bl bys H14 hs14 hb => ?_⟩
                have s1114 := s1113.trans hs14.same
                walk_at "ss"
                refine ⟨pd, kvs, ls, treeM ls, sw, rfl, s1114 _ _ hpd11, hP11.same s1114, ti, gd, hm, fun cl cys H15 hs15 hc => ?_⟩
                obtain rfl := below_uniq hb hc
                have s1115 := s1114.trans hs15.same
                walk_at "ss"
                refine w_neInts (hs15.old hs14.g0) hs15.g0 ?_
                refine ⟨_, rfl, iteF ?_⟩
                have hel := hs15.old (hs14.old (hs13.old hs12.g0))
                have he15 : Row (EndAt H15) eys (wayM (treeM ls).2 sw) := he.mono fun _ _ => EndAt.mono fun _ _ => s1115 _ _
                have s15 := s11.trans s1115
                have hl15 := s15 _ _ hl7
                have hL15 := hL7.same s15
                clear hs12 hs13 hs14 hs15 hb hc hd1 hd2 s1115 s1114 s1113 he hw s11 hpd11 hP11 hl11 hL11
                generalize wayM (treeM ls).2 sw = es at hpe e2 he15
                walk_at "ss"
                refine w_lcRow EndAt (fun _ _ _ _ e z => z.mono e) (SqL.of hel) (by omega) es he15.1 (fun Q q => ⟨_, rfl, q⟩) (fun _ => rfl) (fun i u e H' Q' hu hei s' hq => ?_) fun a1 acc1 H16 hs16 hr16 => ?_
                · walk_at "ss"
                  exact hq _ _ (Same.refl _) ((he15.2 i u e hu hei).mono fun _ _ => s' _ _)
                walk_at "ss"
                refine w_lcRow EndAt (fun _ _ _ _ e z => z.mono e) (SqL.of (hs16.old hel)) (by omega) (es.map (pe ls)) (by rw [List.length_map]; exact he15.1) (fun Q q => ⟨_, rfl, q⟩) (fun _ => rfl) (fun i u o H' Q' hu hoi s' hq => ?_) fun a2 acc2 H17 hs17 hr17 => ?_
                · obtain ⟨e, hei, q, rfl, hqq⟩ := he15.get hu
                  obtain ⟨o', ho'⟩ := hpe e (List.mem_of_getElem? hei)
                  have hpo : pe ls e = o' := by unfold pe; rw [ho']; rfl
                  rw [List.getElem?_map, hei] at hoi
                  cases hoi
                  have s'' := hs16.same.trans s'
                  walk_at "ss"
                  refine ⟨lr, q, us, ls, e, rfl, s'' _ _ hl15, hL15.same s'', s'' _ _ hqq, fun v H'' s3 hv => hq v H'' s3 ?_⟩
                  rw [ho'] at hv
                  rw [hpo]
                  exact EndAt.mono (fun _ _ => s3 _ _) hv
                have hs18 := hs16.add hs17
                have hz1 := hr16.1
                have hz2 := hr17.1
                rw [List.length_map] at hz2
                have hz3 := he15.1
                refine w_cat (Hs.start H17) hs18.g1 hs18.g0 (Nat.le_of_lt (szl (by omega))) fun ul H18 hs19 => ?_
                have hr18 : Row (EndAt H18) (acc1 ++ acc2) (usedM ls es) :=
                  (hr16.mono fun _ _ => EndAt.mono fun _ _ z => hs19.old (hs17.old z)).app (hr17.mono fun _ _ => EndAt.mono fun _ _ z => hs19.old z)
                have hul := hs19.g0
                have s1518 := hs18.same.trans hs19.same
                have hl18 := s1518 _ _ hl15
                have hL18 := hL15.same s1518
                have s18 := s15.trans s1518
                have hel18 := s1518 _ _ hel
                have he18 : Row (EndAt H18) eys es := he15.mono fun _ _ => EndAt.mono fun _ _ => s1518 _ _
                clear hs16 hs17 hs18 hs19 hr16 hr17 s1518 hl15 hL15 hel he15 s15
                walk_at "ss"
                refine w_lcF (fun l => decide (l.1 ∉ usedM ls es)) (SqL.of hl18) hL18 (by omega) (fun Q q => ⟨_, rfl, q⟩) (fun _ => rfl) (fun _ => rfl) (fun t l H' hlm hk sm R hR => ?_) fun D acc H19 hs19 hacc => ?_
                · obtain ⟨p, q, ht, hp, hq⟩ := nk_link hk
                  have ht' := sm _ _ ht
                  walk_at "ss"
                  refine w_inEs (sm _ _ hul) (hr18.mono fun _ _ => EndAt.mono fun _ _ => sm _ _) (sm _ _ hp) ?_
                  refine ⟨_, rfl, ?_⟩
                  have e5 : (if true = true then !decide (l.1 ∈ usedM ls es) else decide (l.1 ∈ usedM ls es)) = decide (l.1 ∉ usedM ls es) := by
                    rw [if_pos rfl, decide_not]
                  rw [e5]
                  exact hR _ (Same.refl _)
                have hrestz : acc.length ≤ 1000 := by
                  rw [LkL.len hacc]
                  refine Nat.le_trans (List.length_filter_le _ _) ?_
                  omega
                walk_at "ss"
                refine ⟨D, acc, restM ls es, rfl, hs19.g0, LkL.same hs19.same hacc, hrestz, gd.rest es, fun rd rkvs H20 hs20 hR => ?_⟩
                have ti2 := tree_ti (restM ls es)
                have gd2 := gd.rest es
                have s1820 := hs19.same.trans hs20.same
                have hrd := hs20.g0
                have hel20 := s1820 _ _ hel18
                have he20 : Row (EndAt H20) eys es := he18.mono fun _ _ => EndAt.mono fun _ _ => s1820 _ _
                have s20 := s18.trans s1820
                clear hs19 hs20 s1820 hul hr18 hl18 hL18 hel18 he18 s18
                have hs := Hs.start H20
                walk_at "ss"
                rename_i du H21 hs21
                have s21 := s20.trans hs21.same
                have hel21 := hs21.old hel20
                have he21 : Row (EndAt H21) eys es := he20.mono fun _ _ => EndAt.mono fun _ _ => hs21.same _ _
                have hrd21 := hs21.old hrd
                have hR21 := ParL.same hs21.same hR
                have hdu := hs21.g0
                clear hs hs21 hel20 he20 hrd hR s20
                refine w_cut (fun σ' H' => ∃ (du : Addr) (dys : List V) (v17 v18 : Option V), σ' = [some (.ref x), some (.ref st), some (.ref gp), some ov, v4, v5, some (.int cnt), some (.ref lr), some (.str kept), some (.ref pd), some (.int sw), some (.ref nl), v12, some (.ref el), some (.ref ul), some (.ref rd), some (.ref du), v17, v18] ∧ Same H7 H' ∧ H' du = some (.lst dys) ∧ Row (WayAt H') dys (twoM ls sw)) ?_ ?_
                · have hvr : (valV rkvs (Sum.inl sw)).isSome = decide (sw ∈ (treeM (restM ls es)).2.map (·.1)) := valV_mem hR21.keys
                  have hrow2 : sw ∈ (treeM (restM ls es)).1 ↔ sw = 1 ∨ sw ∈ (treeM (restM ls es)).2.map (·.1) := by
                    rw [ti2.hd, List.mem_cons]
                  by_cases hm2 : sw ∈ (treeM (restM ls es)).1
                  · refine' join (fun hA => ?_) ?_
                    rotate_left
                    · walk_at "ss"
                      by_cases h1 : sw = 1
                      · rw [decide_eq_true h1]
                        refine iteT (iteT ?_)
                        exact hA
                      · rw [decide_eq_false h1]
                        refine iteF ?_
                        walk_at "ss"
                        rw [hvr, decide_eq_true ((hrow2.mp hm2).resolve_left h1)]
                        refine iteT ?_
                        exact hA
                    · walk_at "ss"
                      refine ⟨rd, rkvs, restM ls es, treeM (restM ls es), sw, rfl, hrd21, hR21, ti2, gd2, hm2, fun el2 eys2 H22 hs22 he22 => ?_⟩
                      have hs := Hs.start H22
                      walk_at "ss"
                      rename_i du2 H23 hs23
                      refine ⟨du2, _, _, _, rfl, (s21.trans hs22.same).trans hs23.same, hs23.g0, ?_⟩
                      have e3 : waysM (restM ls es) sw = [wayM (treeM (restM ls es)).2 sw] := if_pos hm2
                      rw [e2, e3]
                      exact Row.cons ⟨el, eys, rfl, hs23.old (hs22.old hel21), he21.mono fun _ _ => EndAt.mono fun _ _ z => hs23.old (hs22.old z)⟩ (Row.cons ⟨el2, eys2, rfl, hs23.old hs22.g0, he22.mono fun _ _ => EndAt.mono fun _ _ z => hs23.old (hs22.old z)⟩ Row.nil)
                  · have h1 : sw ≠ 1 := fun z => hm2 (hrow2.mpr (.inl z))
                    have h2 : sw ∉ (treeM (restM ls es)).2.map (·.1) := fun z => hm2 (hrow2.mpr (.inr z))
                    walk_at "ss"
                    rw [decide_eq_false h1]
                    refine iteF ?_
                    walk_at "ss"
                    rw [hvr, decide_eq_false h2]
                    refine iteF ?_
                    walk_at "ss"
                    refine ⟨du, _, _, _, rfl, s21, hdu, ?_⟩
                    have e3 : waysM (restM ls es) sw = [] := if_neg hm2
                    rw [e2, e3]
                    exact Row.cons ⟨el, eys, rfl, hel21, he21⟩ Row.nil
                · rintro σ' H22 ⟨du3, dys, v17', v18', rfl, s22, hdu3, hrow3⟩
                  walk_at "ss"
                  refine ⟨lr, us, ls, sw, rfl, s22 _ _ hl7, hL7.same s22, by omega, gd, fun tl tys B H23 sB hs23 hT => ?_⟩
                  have s2223 := sB.trans hs23.same
                  walk_at "ss"
                  refine w_neRefl (ways_dp hs23.g0 (hT.mono fun _ _ => WayAt.same hs23.same)) (ways_dp (s2223 _ _ hdu3) (hrow3.mono fun _ _ => WayAt.same s2223)) (ways_shp _) ?_
                  refine ⟨_, rfl, iteF ?_⟩
                  walk_at "ss"
                  exact ⟨_, _, _, _, _, _, _, _, _, rfl, s22.trans s2223⟩
            · have h1 : sw ≠ 1 := fun z => hm (hrow.mpr (.inl z))
              have h2 : sw ∉ (treeM ls).2.map (·.1) := fun z => hm (hrow.mpr (.inr z))
              have e2 : twoM ls sw = [] := if_neg hm
              walk_at "ss"
              rw [decide_eq_false h1]
              refine iteF ?_
              walk_at "ss"
              rw [hvm, decide_eq_false h2]
              refine iteF ?_
              walk_at "ss"
              refine ⟨lr, us, ls, sw, rfl, hl11, hL11, by omega, gd, fun tl tys B H12 sB hs12 hT => ?_⟩
              rw [e2] at hT
              obtain rfl : tys = [] := List.eq_nil_of_length_eq_zero hT.1
              have hs := Hs.start H12
              walk_at "ss"
              rename_i nl2 H13 hs13
              refine w_neRefl (d := .list []) (.lst (SqL.of (hs13.old hs12.g0)) .nil) (.lst (SqL.of hs13.g0) .nil) rfl ?_
              refine ⟨_, rfl, iteF ?_⟩
              walk_at "ss"
              exact ⟨_, _, _, _, _, _, _, _, _, rfl, ((s11.trans sB).trans hs12.same).trans hs13.same⟩
      · rintro σ' H8 ⟨v10, v11, v12, v13, v14, v15, v16, v17, v18, rfl, s8⟩
        have hl8 := s8 _ _ hl7
        have hL8 := hL7.same s8
        have hs := Hs.start H8
        walk_at "ss"
        rename_i p1 H9 _ p2 H10 hs10
        refine ⟨p1, p2, (2, 1), (1, 5), rfl, hs10.g1, hs10.g0, fun tl H11 hs11 => ?_⟩
        have hlt : ltE (2, 1) (1, 5) = false := by decide
        rw [hlt, if_neg (by decide)] at hs11
        have hk1 : NK H11 (lkK ((1, 5), (2, 1))) (.ref tl) := nk_mk hs11.g0 (hs11.old hs10.g0) (hs11.old hs10.g1)
        have s11 := hs10.same.trans hs11.same
        clear hs hs10 hs11
        have hs := Hs.start H11
        walk_at "ss"
        rename_i q1 H12 _ q2 H13 _ tk H14 hs14
        have hk2 : NK H14 (lkK ((1, 5), (2, 1))) (.ref tk) := nk_mk hs14.g0 hs14.g2 hs14.g1
        have hk3 : NK H14 (lkK ((1, 5), (2, 1))) (.ref tl) := hk1.mono fun _ _ => hs14.same _ _
        refine w_neRefl hk3.im.dp hk2.im.dp (link_shp _) ?_
        refine ⟨_, rfl, iteF ?_⟩
        have s14 := s11.trans hs14.same
        clear hs hs14
        have hs := Hs.start H14
        walk_at "ss"
        rename_i u1 H15 hs15
        refine ⟨u1, cnt, (cnt + 1, 1), rfl, hs15.g0, ?_⟩
        have f1 : isEnd cnt (cnt + 1, 1) = false := by
          cases q : isEnd cnt (cnt + 1, 1) with
          | false => rfl
          | true =>
            have := (isEnd_iff.mp q).1.2
            have : cnt + 1 ≤ cnt := this
            omega
        rw [f1]
        refine ⟨_, rfl, iteF ?_⟩
        walk_at "ss"
        rename_i u2 H16 hs16
        refine ⟨u2, cnt, (1, 0), rfl, hs16.g0, ?_⟩
        have f2 : isEnd cnt (1, 0) = false := by
          cases q : isEnd cnt (1, 0) with
          | false => rfl
          | true =>
            have := (isEnd_iff.mp q).2.1
            have : (1 : Int) ≤ 0 := this
            omega
        rw [f2]
        refine ⟨_, rfl, iteF ?_⟩
        walk_at "ss"
        rename_i u3 H17 hs17
        refine ⟨u3, cnt, (1, 7), rfl, hs17.g0, ?_⟩
        have f3 : isEnd cnt (1, 7) = false := by
          cases q : isEnd cnt (1, 7) with
          | false => rfl
          | true =>
            have := (isEnd_iff.mp q).2.2
            have : (7 : Int) ≤ 6 := this
            omega
        rw [f3]
        refine ⟨_, rfl, iteF ?_⟩
        have s17 := s14.trans hs17.same
        walk_at "ss"
        refine ⟨lr, linksD ls, rfl, links_dp (s17 _ _ hl8) (hL8.same s17), hsh, ?_⟩
        rw [hkept]
        walk_at "ss"
        rw [decide_eq_true rfl]
        exact k _
end
theorem all_mk {l : PySem.W.OpenLaw} {w : World} {K : PySem.W.Frag} {h : Heap} {mg : Str → Option Value} {fa : Addr} (hl : l.prog = PySem.Challenge.pw_hangbridge_k04_graphs_and_ways) (X : K.In h) (G : h.Ns mainGlobals mg) (hfa : mg "law" = some (.ref fa))
    {A_is_end A_link_of A_check_graph A_peer A_reached A_ends_at A_tree A_way A_below A_ways_by_tree A_two_ways A__law_state A__law_draw A__law_pick A__law_graph A__law_peer A__law_tree A__law_way A__law_near A__law_good A__law_faulty A__law_below A_law : Addr} {od_is_end an_is_end od_link_of an_link_of od_check_graph an_check_graph od_peer an_peer od_reached an_reached od_ends_at an_ends_at od_tree an_tree od_way an_way od_below an_below od_ways_by_tree an_ways_by_tree od_two_ways an_two_ways od__law_state an__law_state od__law_draw an__law_draw od__law_pick an__law_pick od__law_graph an__law_graph od__law_peer an__law_peer od__law_tree an__law_tree od__law_way an__law_way od__law_near an__law_near od__law_good an__law_good od__law_faulty an__law_faulty od__law_below an__law_below od_law an_law : Option Addr} {sl_is_end sl_link_of sl_check_graph sl_peer sl_reached sl_ends_at sl_tree sl_way sl_below sl_ways_by_tree sl_two_ways sl__law_state sl__law_draw sl__law_pick sl__law_graph sl__law_peer sl__law_tree sl__law_way sl__law_near sl__law_good sl__law_faulty sl__law_below sl_law : Array (Option Value)} {oc_is_end kV_is_end dc_is_end pm_is_end cd_is_end ct_is_end oc_link_of kV_link_of dc_link_of pm_link_of cd_link_of ct_link_of oc_check_graph kV_check_graph dc_check_graph pm_check_graph cd_check_graph ct_check_graph oc_peer kV_peer dc_peer pm_peer cd_peer ct_peer oc_reached kV_reached dc_reached pm_reached cd_reached ct_reached oc_ends_at kV_ends_at dc_ends_at pm_ends_at cd_ends_at ct_ends_at oc_tree kV_tree dc_tree pm_tree cd_tree ct_tree oc_way kV_way dc_way pm_way cd_way ct_way oc_below kV_below dc_below pm_below cd_below ct_below oc_ways_by_tree kV_ways_by_tree dc_ways_by_tree pm_ways_by_tree cd_ways_by_tree ct_ways_by_tree oc_two_ways kV_two_ways dc_two_ways pm_two_ways cd_two_ways ct_two_ways oc__law_state kV__law_state dc__law_state pm__law_state cd__law_state ct__law_state oc__law_draw kV__law_draw dc__law_draw pm__law_draw cd__law_draw ct__law_draw oc__law_pick kV__law_pick dc__law_pick pm__law_pick cd__law_pick ct__law_pick oc__law_graph kV__law_graph dc__law_graph pm__law_graph cd__law_graph ct__law_graph oc__law_peer kV__law_peer dc__law_peer pm__law_peer cd__law_peer ct__law_peer oc__law_tree kV__law_tree dc__law_tree pm__law_tree cd__law_tree ct__law_tree oc__law_way kV__law_way dc__law_way pm__law_way cd__law_way ct__law_way oc__law_near kV__law_near dc__law_near pm__law_near cd__law_near ct__law_near oc__law_good kV__law_good dc__law_good pm__law_good cd__law_good ct__law_good oc__law_faulty kV__law_faulty dc__law_faulty pm__law_faulty cd__law_faulty ct__law_faulty oc__law_below kV__law_below dc__law_below pm__law_below cd__law_below ct__law_below oc_law kV_law dc_law pm_law cd_law ct_law : Value} {tk_MOST_SWITCHES tk_MOST_PORT tk_ROOT : Tok} 
        (h_ais_end : PySem.W.nsIn K mainGlobals "is_end" = some (some (.ref A_is_end)))
    (h_lis_end : K.lookup A_is_end = some ⟨oc_is_end, od_is_end, .func (PySem.W.fnOf "is_end" "is_end" (defArgs s_is_end) (defBody s_is_end) (defScope s_is_end) .none kV_is_end dc_is_end pm_is_end an_is_end cd_is_end ct_is_end), sl_is_end⟩)
    (h_cdis_end : PySem.W.codeIn K cd_is_end "is_end" = true)
    (h_kis_end : PySem.W.keepIn K (.ref A_is_end) = true)
    (h_alink_of : PySem.W.nsIn K mainGlobals "link_of" = some (some (.ref A_link_of)))
    (h_llink_of : K.lookup A_link_of = some ⟨oc_link_of, od_link_of, .func (PySem.W.fnOf "link_of" "link_of" (defArgs s_link_of) (defBody s_link_of) (defScope s_link_of) .none kV_link_of dc_link_of pm_link_of an_link_of cd_link_of ct_link_of), sl_link_of⟩)
    (h_cdlink_of : PySem.W.codeIn K cd_link_of "link_of" = true)
    (h_klink_of : PySem.W.keepIn K (.ref A_link_of) = true)
    (h_acheck_graph : PySem.W.nsIn K mainGlobals "check_graph" = some (some (.ref A_check_graph)))
    (h_lcheck_graph : K.lookup A_check_graph = some ⟨oc_check_graph, od_check_graph, .func (PySem.W.fnOf "check_graph" "check_graph" (defArgs s_check_graph) (defBody s_check_graph) (defScope s_check_graph) .none kV_check_graph dc_check_graph pm_check_graph an_check_graph cd_check_graph ct_check_graph), sl_check_graph⟩)
    (h_cdcheck_graph : PySem.W.codeIn K cd_check_graph "check_graph" = true)
    (h_kcheck_graph : PySem.W.keepIn K (.ref A_check_graph) = true)
    (h_apeer : PySem.W.nsIn K mainGlobals "peer" = some (some (.ref A_peer)))
    (h_lpeer : K.lookup A_peer = some ⟨oc_peer, od_peer, .func (PySem.W.fnOf "peer" "peer" (defArgs s_peer) (defBody s_peer) (defScope s_peer) .none kV_peer dc_peer pm_peer an_peer cd_peer ct_peer), sl_peer⟩)
    (h_cdpeer : PySem.W.codeIn K cd_peer "peer" = true)
    (h_kpeer : PySem.W.keepIn K (.ref A_peer) = true)
    (h_areached : PySem.W.nsIn K mainGlobals "reached" = some (some (.ref A_reached)))
    (h_lreached : K.lookup A_reached = some ⟨oc_reached, od_reached, .func (PySem.W.fnOf "reached" "reached" (defArgs s_reached) (defBody s_reached) (defScope s_reached) .none kV_reached dc_reached pm_reached an_reached cd_reached ct_reached), sl_reached⟩)
    (h_cdreached : PySem.W.codeIn K cd_reached "reached" = true)
    (h_kreached : PySem.W.keepIn K (.ref A_reached) = true)
    (h_aends_at : PySem.W.nsIn K mainGlobals "ends_at" = some (some (.ref A_ends_at)))
    (h_lends_at : K.lookup A_ends_at = some ⟨oc_ends_at, od_ends_at, .func (PySem.W.fnOf "ends_at" "ends_at" (defArgs s_ends_at) (defBody s_ends_at) (defScope s_ends_at) .none kV_ends_at dc_ends_at pm_ends_at an_ends_at cd_ends_at ct_ends_at), sl_ends_at⟩)
    (h_cdends_at : PySem.W.codeIn K cd_ends_at "ends_at" = true)
    (h_kends_at : PySem.W.keepIn K (.ref A_ends_at) = true)
    (h_atree : PySem.W.nsIn K mainGlobals "tree" = some (some (.ref A_tree)))
    (h_ltree : K.lookup A_tree = some ⟨oc_tree, od_tree, .func (PySem.W.fnOf "tree" "tree" (defArgs s_tree) (defBody s_tree) (defScope s_tree) .none kV_tree dc_tree pm_tree an_tree cd_tree ct_tree), sl_tree⟩)
    (h_cdtree : PySem.W.codeIn K cd_tree "tree" = true)
    (h_ktree : PySem.W.keepIn K (.ref A_tree) = true)
    (h_away : PySem.W.nsIn K mainGlobals "way" = some (some (.ref A_way)))
    (h_lway : K.lookup A_way = some ⟨oc_way, od_way, .func (PySem.W.fnOf "way" "way" (defArgs s_way) (defBody s_way) (defScope s_way) .none kV_way dc_way pm_way an_way cd_way ct_way), sl_way⟩)
    (h_cdway : PySem.W.codeIn K cd_way "way" = true)
    (h_kway : PySem.W.keepIn K (.ref A_way) = true)
    (h_abelow : PySem.W.nsIn K mainGlobals "below" = some (some (.ref A_below)))
    (h_lbelow : K.lookup A_below = some ⟨oc_below, od_below, .func (PySem.W.fnOf "below" "below" (defArgs s_below) (defBody s_below) (defScope s_below) .none kV_below dc_below pm_below an_below cd_below ct_below), sl_below⟩)
    (h_cdbelow : PySem.W.codeIn K cd_below "below" = true)
    (h_kbelow : PySem.W.keepIn K (.ref A_below) = true)
    (h_aways_by_tree : PySem.W.nsIn K mainGlobals "ways_by_tree" = some (some (.ref A_ways_by_tree)))
    (h_lways_by_tree : K.lookup A_ways_by_tree = some ⟨oc_ways_by_tree, od_ways_by_tree, .func (PySem.W.fnOf "ways_by_tree" "ways_by_tree" (defArgs s_ways_by_tree) (defBody s_ways_by_tree) (defScope s_ways_by_tree) .none kV_ways_by_tree dc_ways_by_tree pm_ways_by_tree an_ways_by_tree cd_ways_by_tree ct_ways_by_tree), sl_ways_by_tree⟩)
    (h_cdways_by_tree : PySem.W.codeIn K cd_ways_by_tree "ways_by_tree" = true)
    (h_kways_by_tree : PySem.W.keepIn K (.ref A_ways_by_tree) = true)
    (h_atwo_ways : PySem.W.nsIn K mainGlobals "two_ways" = some (some (.ref A_two_ways)))
    (h_ltwo_ways : K.lookup A_two_ways = some ⟨oc_two_ways, od_two_ways, .func (PySem.W.fnOf "two_ways" "two_ways" (defArgs s_two_ways) (defBody s_two_ways) (defScope s_two_ways) .none kV_two_ways dc_two_ways pm_two_ways an_two_ways cd_two_ways ct_two_ways), sl_two_ways⟩)
    (h_cdtwo_ways : PySem.W.codeIn K cd_two_ways "two_ways" = true)
    (h_ktwo_ways : PySem.W.keepIn K (.ref A_two_ways) = true)
    (h_a_law_state : PySem.W.nsIn K mainGlobals "_law_state" = some (some (.ref A__law_state)))
    (h_l_law_state : K.lookup A__law_state = some ⟨oc__law_state, od__law_state, .func (PySem.W.fnOf "_law_state" "_law_state" (defArgs s__law_state) (defBody s__law_state) (defScope s__law_state) .none kV__law_state dc__law_state pm__law_state an__law_state cd__law_state ct__law_state), sl__law_state⟩)
    (h_cd_law_state : PySem.W.codeIn K cd__law_state "_law_state" = true)
    (h_k_law_state : PySem.W.keepIn K (.ref A__law_state) = true)
    (h_a_law_draw : PySem.W.nsIn K mainGlobals "_law_draw" = some (some (.ref A__law_draw)))
    (h_l_law_draw : K.lookup A__law_draw = some ⟨oc__law_draw, od__law_draw, .func (PySem.W.fnOf "_law_draw" "_law_draw" (defArgs s__law_draw) (defBody s__law_draw) (defScope s__law_draw) .none kV__law_draw dc__law_draw pm__law_draw an__law_draw cd__law_draw ct__law_draw), sl__law_draw⟩)
    (h_cd_law_draw : PySem.W.codeIn K cd__law_draw "_law_draw" = true)
    (h_k_law_draw : PySem.W.keepIn K (.ref A__law_draw) = true)
    (h_a_law_pick : PySem.W.nsIn K mainGlobals "_law_pick" = some (some (.ref A__law_pick)))
    (h_l_law_pick : K.lookup A__law_pick = some ⟨oc__law_pick, od__law_pick, .func (PySem.W.fnOf "_law_pick" "_law_pick" (defArgs s__law_pick) (defBody s__law_pick) (defScope s__law_pick) .none kV__law_pick dc__law_pick pm__law_pick an__law_pick cd__law_pick ct__law_pick), sl__law_pick⟩)
    (h_cd_law_pick : PySem.W.codeIn K cd__law_pick "_law_pick" = true)
    (h_k_law_pick : PySem.W.keepIn K (.ref A__law_pick) = true)
    (h_a_law_graph : PySem.W.nsIn K mainGlobals "_law_graph" = some (some (.ref A__law_graph)))
    (h_l_law_graph : K.lookup A__law_graph = some ⟨oc__law_graph, od__law_graph, .func (PySem.W.fnOf "_law_graph" "_law_graph" (defArgs s__law_graph) (defBody s__law_graph) (defScope s__law_graph) .none kV__law_graph dc__law_graph pm__law_graph an__law_graph cd__law_graph ct__law_graph), sl__law_graph⟩)
    (h_cd_law_graph : PySem.W.codeIn K cd__law_graph "_law_graph" = true)
    (h_k_law_graph : PySem.W.keepIn K (.ref A__law_graph) = true)
    (h_a_law_peer : PySem.W.nsIn K mainGlobals "_law_peer" = some (some (.ref A__law_peer)))
    (h_l_law_peer : K.lookup A__law_peer = some ⟨oc__law_peer, od__law_peer, .func (PySem.W.fnOf "_law_peer" "_law_peer" (defArgs s__law_peer) (defBody s__law_peer) (defScope s__law_peer) .none kV__law_peer dc__law_peer pm__law_peer an__law_peer cd__law_peer ct__law_peer), sl__law_peer⟩)
    (h_cd_law_peer : PySem.W.codeIn K cd__law_peer "_law_peer" = true)
    (h_k_law_peer : PySem.W.keepIn K (.ref A__law_peer) = true)
    (h_a_law_tree : PySem.W.nsIn K mainGlobals "_law_tree" = some (some (.ref A__law_tree)))
    (h_l_law_tree : K.lookup A__law_tree = some ⟨oc__law_tree, od__law_tree, .func (PySem.W.fnOf "_law_tree" "_law_tree" (defArgs s__law_tree) (defBody s__law_tree) (defScope s__law_tree) .none kV__law_tree dc__law_tree pm__law_tree an__law_tree cd__law_tree ct__law_tree), sl__law_tree⟩)
    (h_cd_law_tree : PySem.W.codeIn K cd__law_tree "_law_tree" = true)
    (h_k_law_tree : PySem.W.keepIn K (.ref A__law_tree) = true)
    (h_a_law_way : PySem.W.nsIn K mainGlobals "_law_way" = some (some (.ref A__law_way)))
    (h_l_law_way : K.lookup A__law_way = some ⟨oc__law_way, od__law_way, .func (PySem.W.fnOf "_law_way" "_law_way" (defArgs s__law_way) (defBody s__law_way) (defScope s__law_way) .none kV__law_way dc__law_way pm__law_way an__law_way cd__law_way ct__law_way), sl__law_way⟩)
    (h_cd_law_way : PySem.W.codeIn K cd__law_way "_law_way" = true)
    (h_k_law_way : PySem.W.keepIn K (.ref A__law_way) = true)
    (h_a_law_near : PySem.W.nsIn K mainGlobals "_law_near" = some (some (.ref A__law_near)))
    (h_l_law_near : K.lookup A__law_near = some ⟨oc__law_near, od__law_near, .func (PySem.W.fnOf "_law_near" "_law_near" (defArgs s__law_near) (defBody s__law_near) (defScope s__law_near) .none kV__law_near dc__law_near pm__law_near an__law_near cd__law_near ct__law_near), sl__law_near⟩)
    (h_cd_law_near : PySem.W.codeIn K cd__law_near "_law_near" = true)
    (h_k_law_near : PySem.W.keepIn K (.ref A__law_near) = true)
    (h_a_law_good : PySem.W.nsIn K mainGlobals "_law_good" = some (some (.ref A__law_good)))
    (h_l_law_good : K.lookup A__law_good = some ⟨oc__law_good, od__law_good, .func (PySem.W.fnOf "_law_good" "_law_good" (defArgs s__law_good) (defBody s__law_good) (defScope s__law_good) .none kV__law_good dc__law_good pm__law_good an__law_good cd__law_good ct__law_good), sl__law_good⟩)
    (h_cd_law_good : PySem.W.codeIn K cd__law_good "_law_good" = true)
    (h_k_law_good : PySem.W.keepIn K (.ref A__law_good) = true)
    (h_a_law_faulty : PySem.W.nsIn K mainGlobals "_law_faulty" = some (some (.ref A__law_faulty)))
    (h_l_law_faulty : K.lookup A__law_faulty = some ⟨oc__law_faulty, od__law_faulty, .func (PySem.W.fnOf "_law_faulty" "_law_faulty" (defArgs s__law_faulty) (defBody s__law_faulty) (defScope s__law_faulty) .none kV__law_faulty dc__law_faulty pm__law_faulty an__law_faulty cd__law_faulty ct__law_faulty), sl__law_faulty⟩)
    (h_cd_law_faulty : PySem.W.codeIn K cd__law_faulty "_law_faulty" = true)
    (h_k_law_faulty : PySem.W.keepIn K (.ref A__law_faulty) = true)
    (h_a_law_below : PySem.W.nsIn K mainGlobals "_law_below" = some (some (.ref A__law_below)))
    (h_l_law_below : K.lookup A__law_below = some ⟨oc__law_below, od__law_below, .func (PySem.W.fnOf "_law_below" "_law_below" (defArgs s__law_below) (defBody s__law_below) (defScope s__law_below) .none kV__law_below dc__law_below pm__law_below an__law_below cd__law_below ct__law_below), sl__law_below⟩)
    (h_cd_law_below : PySem.W.codeIn K cd__law_below "_law_below" = true)
    (h_k_law_below : PySem.W.keepIn K (.ref A__law_below) = true)
    (h_alaw : PySem.W.nsIn K mainGlobals "law" = some (some (.ref A_law)))
    (h_llaw : K.lookup A_law = some ⟨oc_law, od_law, .func (PySem.W.fnOf "law" "law" (defArgs s_law) (defBody s_law) (defScope s_law) .none kV_law dc_law pm_law an_law cd_law ct_law), sl_law⟩)
    (h_cdlaw : PySem.W.codeIn K cd_law "law" = true)
    (h_klaw : PySem.W.keepIn K (.ref A_law) = true)
    (h_gMOST_SWITCHES : PySem.W.nsIn K mainGlobals "MOST_SWITCHES" = some (some (.int 8 tk_MOST_SWITCHES)))
    (h_gMOST_PORT : PySem.W.nsIn K mainGlobals "MOST_PORT" = some (some (.int 6 tk_MOST_PORT)))
    (h_gROOT : PySem.W.nsIn K mainGlobals "ROOT" = some (some (.int 1 tk_ROOT)))
    (h_bsorted : PySem.W.nsIn K mainGlobals "sorted" = some none)
    (h_blen : PySem.W.nsIn K mainGlobals "len" = some none)
    (h_bset : PySem.W.nsIn K mainGlobals "set" = some none)
    (h_babs : PySem.W.nsIn K mainGlobals "abs" = some none)
    (h_bint : PySem.W.nsIn K mainGlobals "int" = some none)
    (h_brange : PySem.W.nsIn K mainGlobals "range" = some none)
    (h_bmax : PySem.W.nsIn K mainGlobals "max" = some none)
    (h_bmin : PySem.W.nsIn K mainGlobals "min" = some none)
    (h_blist : PySem.W.nsIn K mainGlobals "list" = some none)
    (h_brepr : PySem.W.nsIn K mainGlobals "repr" = some none)
    (h_bisinstance : PySem.W.nsIn K mainGlobals "isinstance" = some none)
    (h_bbool : PySem.W.nsIn K mainGlobals "bool" = some none) :
    ∃ fd : FuncData, (∀ (s : Shared) (v : Value), BindsTo s fd ⟨[v], []⟩ [("script", v)]) ∧ ∀ base : Heap, K.In base → base.Ns mainGlobals mg → LawRun l.prog w K mg base 14 fa fd ["script"] (sp_law K) := by
  haveI : IsP l.prog := ⟨hl⟩
  have e := hfa.symm.trans (PySem.W.mg_of X G h_alaw)
  have e2 : fa = A_law := Value.ref.inj (Option.some.inj e)
  rw [e2]
  have T : Txt w K mg ⟨A_is_end, (PySem.W.fnOf "is_end" "is_end" (defArgs s_is_end) (defBody s_is_end) (defScope s_is_end) .none kV_is_end dc_is_end pm_is_end an_is_end cd_is_end ct_is_end), A_link_of, (PySem.W.fnOf "link_of" "link_of" (defArgs s_link_of) (defBody s_link_of) (defScope s_link_of) .none kV_link_of dc_link_of pm_link_of an_link_of cd_link_of ct_link_of), A_check_graph, (PySem.W.fnOf "check_graph" "check_graph" (defArgs s_check_graph) (defBody s_check_graph) (defScope s_check_graph) .none kV_check_graph dc_check_graph pm_check_graph an_check_graph cd_check_graph ct_check_graph), A_peer, (PySem.W.fnOf "peer" "peer" (defArgs s_peer) (defBody s_peer) (defScope s_peer) .none kV_peer dc_peer pm_peer an_peer cd_peer ct_peer), A_reached, (PySem.W.fnOf "reached" "reached" (defArgs s_reached) (defBody s_reached) (defScope s_reached) .none kV_reached dc_reached pm_reached an_reached cd_reached ct_reached), A_ends_at, (PySem.W.fnOf "ends_at" "ends_at" (defArgs s_ends_at) (defBody s_ends_at) (defScope s_ends_at) .none kV_ends_at dc_ends_at pm_ends_at an_ends_at cd_ends_at ct_ends_at), A_tree, (PySem.W.fnOf "tree" "tree" (defArgs s_tree) (defBody s_tree) (defScope s_tree) .none kV_tree dc_tree pm_tree an_tree cd_tree ct_tree), A_way, (PySem.W.fnOf "way" "way" (defArgs s_way) (defBody s_way) (defScope s_way) .none kV_way dc_way pm_way an_way cd_way ct_way), A_below, (PySem.W.fnOf "below" "below" (defArgs s_below) (defBody s_below) (defScope s_below) .none kV_below dc_below pm_below an_below cd_below ct_below), A_ways_by_tree, (PySem.W.fnOf "ways_by_tree" "ways_by_tree" (defArgs s_ways_by_tree) (defBody s_ways_by_tree) (defScope s_ways_by_tree) .none kV_ways_by_tree dc_ways_by_tree pm_ways_by_tree an_ways_by_tree cd_ways_by_tree ct_ways_by_tree), A_two_ways, (PySem.W.fnOf "two_ways" "two_ways" (defArgs s_two_ways) (defBody s_two_ways) (defScope s_two_ways) .none kV_two_ways dc_two_ways pm_two_ways an_two_ways cd_two_ways ct_two_ways), A__law_state, (PySem.W.fnOf "_law_state" "_law_state" (defArgs s__law_state) (defBody s__law_state) (defScope s__law_state) .none kV__law_state dc__law_state pm__law_state an__law_state cd__law_state ct__law_state), A__law_draw, (PySem.W.fnOf "_law_draw" "_law_draw" (defArgs s__law_draw) (defBody s__law_draw) (defScope s__law_draw) .none kV__law_draw dc__law_draw pm__law_draw an__law_draw cd__law_draw ct__law_draw), A__law_pick, (PySem.W.fnOf "_law_pick" "_law_pick" (defArgs s__law_pick) (defBody s__law_pick) (defScope s__law_pick) .none kV__law_pick dc__law_pick pm__law_pick an__law_pick cd__law_pick ct__law_pick), A__law_graph, (PySem.W.fnOf "_law_graph" "_law_graph" (defArgs s__law_graph) (defBody s__law_graph) (defScope s__law_graph) .none kV__law_graph dc__law_graph pm__law_graph an__law_graph cd__law_graph ct__law_graph), A__law_peer, (PySem.W.fnOf "_law_peer" "_law_peer" (defArgs s__law_peer) (defBody s__law_peer) (defScope s__law_peer) .none kV__law_peer dc__law_peer pm__law_peer an__law_peer cd__law_peer ct__law_peer), A__law_tree, (PySem.W.fnOf "_law_tree" "_law_tree" (defArgs s__law_tree) (defBody s__law_tree) (defScope s__law_tree) .none kV__law_tree dc__law_tree pm__law_tree an__law_tree cd__law_tree ct__law_tree), A__law_way, (PySem.W.fnOf "_law_way" "_law_way" (defArgs s__law_way) (defBody s__law_way) (defScope s__law_way) .none kV__law_way dc__law_way pm__law_way an__law_way cd__law_way ct__law_way), A__law_near, (PySem.W.fnOf "_law_near" "_law_near" (defArgs s__law_near) (defBody s__law_near) (defScope s__law_near) .none kV__law_near dc__law_near pm__law_near an__law_near cd__law_near ct__law_near), A__law_good, (PySem.W.fnOf "_law_good" "_law_good" (defArgs s__law_good) (defBody s__law_good) (defScope s__law_good) .none kV__law_good dc__law_good pm__law_good an__law_good cd__law_good ct__law_good), A__law_faulty, (PySem.W.fnOf "_law_faulty" "_law_faulty" (defArgs s__law_faulty) (defBody s__law_faulty) (defScope s__law_faulty) .none kV__law_faulty dc__law_faulty pm__law_faulty an__law_faulty cd__law_faulty ct__law_faulty), A__law_below, (PySem.W.fnOf "_law_below" "_law_below" (defArgs s__law_below) (defBody s__law_below) (defScope s__law_below) .none kV__law_below dc__law_below pm__law_below an__law_below cd__law_below ct__law_below), A_law, (PySem.W.fnOf "law" "law" (defArgs s_law) (defBody s_law) (defScope s_law) .none kV_law dc_law pm_law an_law cd_law ct_law)⟩ := {
    fn_is_end := fun_mk (st := s_is_end) h_lis_end h_cdis_end h_kis_end
    bi_is_end := (fun_mk (st := s_is_end) h_lis_end h_cdis_end h_kis_end).binds (ps := ["count", "end"]) fun _ _ _ _ _ _ us hl => match us, hl with | [_, _], _ => rfl
    mg_is_end := PySem.W.mg_of X G h_ais_end
    kp_is_end := h_kis_end
    fn_link_of := fun_mk (st := s_link_of) h_llink_of h_cdlink_of h_klink_of
    bi_link_of := (fun_mk (st := s_link_of) h_llink_of h_cdlink_of h_klink_of).binds (ps := ["one", "other"]) fun _ _ _ _ _ _ us hl => match us, hl with | [_, _], _ => rfl
    mg_link_of := PySem.W.mg_of X G h_alink_of
    kp_link_of := h_klink_of
    fn_check_graph := fun_mk (st := s_check_graph) h_lcheck_graph h_cdcheck_graph h_kcheck_graph
    bi_check_graph := (fun_mk (st := s_check_graph) h_lcheck_graph h_cdcheck_graph h_kcheck_graph).binds (ps := ["graph"]) fun _ _ _ _ _ _ us hl => match us, hl with | [_], _ => rfl
    mg_check_graph := PySem.W.mg_of X G h_acheck_graph
    kp_check_graph := h_kcheck_graph
    fn_peer := fun_mk (st := s_peer) h_lpeer h_cdpeer h_kpeer
    bi_peer := (fun_mk (st := s_peer) h_lpeer h_cdpeer h_kpeer).binds (ps := ["links", "end"]) fun _ _ _ _ _ _ us hl => match us, hl with | [_, _], _ => rfl
    mg_peer := PySem.W.mg_of X G h_apeer
    kp_peer := h_kpeer
    fn_reached := fun_mk (st := s_reached) h_lreached h_cdreached h_kreached
    bi_reached := (fun_mk (st := s_reached) h_lreached h_cdreached h_kreached).binds (ps := ["links", "switch"]) fun _ _ _ _ _ _ us hl => match us, hl with | [_, _], _ => rfl
    mg_reached := PySem.W.mg_of X G h_areached
    kp_reached := h_kreached
    fn_ends_at := fun_mk (st := s_ends_at) h_lends_at h_cdends_at h_kends_at
    bi_ends_at := (fun_mk (st := s_ends_at) h_lends_at h_cdends_at h_kends_at).binds (ps := ["links", "switch"]) fun _ _ _ _ _ _ us hl => match us, hl with | [_, _], _ => rfl
    mg_ends_at := PySem.W.mg_of X G h_aends_at
    kp_ends_at := h_kends_at
    fn_tree := fun_mk (st := s_tree) h_ltree h_cdtree h_ktree
    bi_tree := (fun_mk (st := s_tree) h_ltree h_cdtree h_ktree).binds (ps := ["links"]) fun _ _ _ _ _ _ us hl => match us, hl with | [_], _ => rfl
    mg_tree := PySem.W.mg_of X G h_atree
    kp_tree := h_ktree
    fn_way := fun_mk (st := s_way) h_lway h_cdway h_kway
    bi_way := (fun_mk (st := s_way) h_lway h_cdway h_kway).binds (ps := ["parents", "to"]) fun _ _ _ _ _ _ us hl => match us, hl with | [_, _], _ => rfl
    mg_way := PySem.W.mg_of X G h_away
    kp_way := h_kway
    fn_below := fun_mk (st := s_below) h_lbelow h_cdbelow h_kbelow
    bi_below := (fun_mk (st := s_below) h_lbelow h_cdbelow h_kbelow).binds (ps := ["parents", "switch"]) fun _ _ _ _ _ _ us hl => match us, hl with | [_, _], _ => rfl
    mg_below := PySem.W.mg_of X G h_abelow
    kp_below := h_kbelow
    fn_ways_by_tree := fun_mk (st := s_ways_by_tree) h_lways_by_tree h_cdways_by_tree h_kways_by_tree
    bi_ways_by_tree := (fun_mk (st := s_ways_by_tree) h_lways_by_tree h_cdways_by_tree h_kways_by_tree).binds (ps := ["links", "to"]) fun _ _ _ _ _ _ us hl => match us, hl with | [_, _], _ => rfl
    mg_ways_by_tree := PySem.W.mg_of X G h_aways_by_tree
    kp_ways_by_tree := h_kways_by_tree
    fn_two_ways := fun_mk (st := s_two_ways) h_ltwo_ways h_cdtwo_ways h_ktwo_ways
    bi_two_ways := (fun_mk (st := s_two_ways) h_ltwo_ways h_cdtwo_ways h_ktwo_ways).binds (ps := ["links", "to"]) fun _ _ _ _ _ _ us hl => match us, hl with | [_, _], _ => rfl
    mg_two_ways := PySem.W.mg_of X G h_atwo_ways
    kp_two_ways := h_ktwo_ways
    fn__law_state := fun_mk (st := s__law_state) h_l_law_state h_cd_law_state h_k_law_state
    bi__law_state := (fun_mk (st := s__law_state) h_l_law_state h_cd_law_state h_k_law_state).binds (ps := ["script"]) fun _ _ _ _ _ _ us hl => match us, hl with | [_], _ => rfl
    mg__law_state := PySem.W.mg_of X G h_a_law_state
    kp__law_state := h_k_law_state
    fn__law_draw := fun_mk (st := s__law_draw) h_l_law_draw h_cd_law_draw h_k_law_draw
    bi__law_draw := (fun_mk (st := s__law_draw) h_l_law_draw h_cd_law_draw h_k_law_draw).binds (ps := ["state", "many"]) fun _ _ _ _ _ _ us hl => match us, hl with | [_, _], _ => rfl
    mg__law_draw := PySem.W.mg_of X G h_a_law_draw
    kp__law_draw := h_k_law_draw
    fn__law_pick := fun_mk (st := s__law_pick) h_l_law_pick h_cd_law_pick h_k_law_pick
    bi__law_pick := (fun_mk (st := s__law_pick) h_l_law_pick h_cd_law_pick h_k_law_pick).binds (ps := ["state", "row"]) fun _ _ _ _ _ _ us hl => match us, hl with | [_, _], _ => rfl
    mg__law_pick := PySem.W.mg_of X G h_a_law_pick
    kp__law_pick := h_k_law_pick
    fn__law_graph := fun_mk (st := s__law_graph) h_l_law_graph h_cd_law_graph h_k_law_graph
    bi__law_graph := (fun_mk (st := s__law_graph) h_l_law_graph h_cd_law_graph h_k_law_graph).binds (ps := ["state", "most"]) fun _ _ _ _ _ _ us hl => match us, hl with | [_, _], _ => rfl
    mg__law_graph := PySem.W.mg_of X G h_a_law_graph
    kp__law_graph := h_k_law_graph
    fn__law_peer := fun_mk (st := s__law_peer) h_l_law_peer h_cd_law_peer h_k_law_peer
    bi__law_peer := (fun_mk (st := s__law_peer) h_l_law_peer h_cd_law_peer h_k_law_peer).binds (ps := ["links", "end"]) fun _ _ _ _ _ _ us hl => match us, hl with | [_, _], _ => rfl
    mg__law_peer := PySem.W.mg_of X G h_a_law_peer
    kp__law_peer := h_k_law_peer
    fn__law_tree := fun_mk (st := s__law_tree) h_l_law_tree h_cd_law_tree h_k_law_tree
    bi__law_tree := (fun_mk (st := s__law_tree) h_l_law_tree h_cd_law_tree h_k_law_tree).binds (ps := ["links"]) fun _ _ _ _ _ _ us hl => match us, hl with | [_], _ => rfl
    mg__law_tree := PySem.W.mg_of X G h_a_law_tree
    kp__law_tree := h_k_law_tree
    fn__law_way := fun_mk (st := s__law_way) h_l_law_way h_cd_law_way h_k_law_way
    bi__law_way := (fun_mk (st := s__law_way) h_l_law_way h_cd_law_way h_k_law_way).binds (ps := ["parents", "to"]) fun _ _ _ _ _ _ us hl => match us, hl with | [_, _], _ => rfl
    mg__law_way := PySem.W.mg_of X G h_a_law_way
    kp__law_way := h_k_law_way
    fn__law_near := fun_mk (st := s__law_near) h_l_law_near h_cd_law_near h_k_law_near
    bi__law_near := (fun_mk (st := s__law_near) h_l_law_near h_cd_law_near h_k_law_near).binds (ps := ["links", "switch"]) fun _ _ _ _ _ _ us hl => match us, hl with | [_, _], _ => rfl
    mg__law_near := PySem.W.mg_of X G h_a_law_near
    kp__law_near := h_k_law_near
    fn__law_good := fun_mk (st := s__law_good) h_l_law_good h_cd_law_good h_k_law_good
    bi__law_good := (fun_mk (st := s__law_good) h_l_law_good h_cd_law_good h_k_law_good).binds (ps := ["graph"]) fun _ _ _ _ _ _ us hl => match us, hl with | [_], _ => rfl
    mg__law_good := PySem.W.mg_of X G h_a_law_good
    kp__law_good := h_k_law_good
    fn__law_faulty := fun_mk (st := s__law_faulty) h_l_law_faulty h_cd_law_faulty h_k_law_faulty
    bi__law_faulty := (fun_mk (st := s__law_faulty) h_l_law_faulty h_cd_law_faulty h_k_law_faulty).binds (ps := ["state", "graph"]) fun _ _ _ _ _ _ us hl => match us, hl with | [_, _], _ => rfl
    mg__law_faulty := PySem.W.mg_of X G h_a_law_faulty
    kp__law_faulty := h_k_law_faulty
    fn__law_below := fun_mk (st := s__law_below) h_l_law_below h_cd_law_below h_k_law_below
    bi__law_below := (fun_mk (st := s__law_below) h_l_law_below h_cd_law_below h_k_law_below).binds (ps := ["parents", "switch"]) fun _ _ _ _ _ _ us hl => match us, hl with | [_, _], _ => rfl
    mg__law_below := PySem.W.mg_of X G h_a_law_below
    kp__law_below := h_k_law_below
    fn_law := fun_mk (st := s_law) h_llaw h_cdlaw h_klaw
    bi_law := (fun_mk (st := s_law) h_llaw h_cdlaw h_klaw).binds (ps := ["script"]) fun _ _ _ _ _ _ us hl => match us, hl with | [_], _ => rfl
    mg_law := PySem.W.mg_of X G h_alaw
    kp_law := h_klaw
    mg_MOST_SWITCHES := ⟨_, PySem.W.mg_of X G h_gMOST_SWITCHES⟩
    mg_MOST_PORT := ⟨_, PySem.W.mg_of X G h_gMOST_PORT⟩
    mg_ROOT := ⟨_, PySem.W.mg_of X G h_gROOT⟩
    mg_sorted := PySem.W.mg_none_of X G h_bsorted
    mg_len := PySem.W.mg_none_of X G h_blen
    mg_set := PySem.W.mg_none_of X G h_bset
    mg_abs := PySem.W.mg_none_of X G h_babs
    mg_int := PySem.W.mg_none_of X G h_bint
    mg_range := PySem.W.mg_none_of X G h_brange
    mg_max := PySem.W.mg_none_of X G h_bmax
    mg_min := PySem.W.mg_none_of X G h_bmin
    mg_list := PySem.W.mg_none_of X G h_blist
    mg_repr := PySem.W.mg_none_of X G h_brepr
    mg_isinstance := PySem.W.mg_none_of X G h_bisinstance
    mg_bool := PySem.W.mg_none_of X G h_bbool }
  exact ⟨_, fun s v => .of_eq rfl, fun base _ _ => ok_law T⟩
theorem walk {l : PySem.W.OpenLaw} {q : Program} {loose : List Str} {XP : (Str → Option Value) → Heap → Prop} {YP : World → Heap → Prop} {d : DefRec} {K : Params → PySem.W.Frag} (hn : l.most = some 63) (hdf : d.params.defaults = [])
    (hY : ∀ (w : World) (h : Heap), YP w h → (K w.params).In h)
    (F : ∀ (w : World) (mg : Str → Option Value) (fa : Addr) (h : Heap), (K w.params).In h → h.Ns mainGlobals mg → mg d.name = some (.ref fa) →
      ∃ fd : FuncData, (∀ (s : Shared) (u : Value), BindsTo s fd ⟨[u], []⟩ [("script", u)]) ∧ ∀ base : Heap, (K w.params).In base → base.Ns mainGlobals mg → LawRun l.prog w (K w.params) mg base 14 fa fd ["script"] (sp_law (K w.params))) :
    PySem.W.WalkO q loose XP YP l.row.toRowW d [] (fun f vs => PySem.call f vs) :=
  walk_run (n := 63) (k := 14) (x := "script") (sp := fun w => sp_law (K w.params)) hn (by decide) hdf ⟨rfl, by decide, by decide⟩ hY F (fun _ _ a ns hl _ hS => ⟨a, ns, rfl, hS, hl, fun _ => rfl⟩)
end K04

open PySem PySem.W PyProof.Rows in
set_option maxRecDepth 100000 in
set_option maxHeartbeats 0 in
theorem PySem.Challenge.cw_hangbridge_k04_graphs_and_ways_holds : PySem.Challenge.rw_hangbridge_k04_graphs_and_ways.Holds := by
  w_on; o_law; k_head; (case hw => w_witness2)
  k_fill
  refine K04.walk (l := PySem.Challenge.rw_hangbridge_k04_graphs_and_ways) rfl rfl (fun w h Y => PySem.W.kIn_of Y) ?F
  case F =>
    intro w mg fa h KX G hmg
    refine' K04.all_mk (l := PySem.Challenge.rw_hangbridge_k04_graphs_and_ways) rfl KX G hmg ?h_ais_end ?h_lis_end ?h_cdis_end ?h_kis_end ?h_alink_of ?h_llink_of ?h_cdlink_of ?h_klink_of ?h_acheck_graph ?h_lcheck_graph ?h_cdcheck_graph ?h_kcheck_graph ?h_apeer ?h_lpeer ?h_cdpeer ?h_kpeer ?h_areached ?h_lreached ?h_cdreached ?h_kreached ?h_aends_at ?h_lends_at ?h_cdends_at ?h_kends_at ?h_atree ?h_ltree ?h_cdtree ?h_ktree ?h_away ?h_lway ?h_cdway ?h_kway ?h_abelow ?h_lbelow ?h_cdbelow ?h_kbelow ?h_aways_by_tree ?h_lways_by_tree ?h_cdways_by_tree ?h_kways_by_tree ?h_atwo_ways ?h_ltwo_ways ?h_cdtwo_ways ?h_ktwo_ways ?h_a_law_state ?h_l_law_state ?h_cd_law_state ?h_k_law_state ?h_a_law_draw ?h_l_law_draw ?h_cd_law_draw ?h_k_law_draw ?h_a_law_pick ?h_l_law_pick ?h_cd_law_pick ?h_k_law_pick ?h_a_law_graph ?h_l_law_graph ?h_cd_law_graph ?h_k_law_graph ?h_a_law_peer ?h_l_law_peer ?h_cd_law_peer ?h_k_law_peer ?h_a_law_tree ?h_l_law_tree ?h_cd_law_tree ?h_k_law_tree ?h_a_law_way ?h_l_law_way ?h_cd_law_way ?h_k_law_way ?h_a_law_near ?h_l_law_near ?h_cd_law_near ?h_k_law_near ?h_a_law_good ?h_l_law_good ?h_cd_law_good ?h_k_law_good ?h_a_law_faulty ?h_l_law_faulty ?h_cd_law_faulty ?h_k_law_faulty ?h_a_law_below ?h_l_law_below ?h_cd_law_below ?h_k_law_below ?h_alaw ?h_llaw ?h_cdlaw ?h_klaw ?h_gMOST_SWITCHES ?h_gMOST_PORT ?h_gROOT ?h_bsorted ?h_blen ?h_bset ?h_babs ?h_bint ?h_brange ?h_bmax ?h_bmin ?h_blist ?h_brepr ?h_bisinstance ?h_bbool
    (case h_ais_end => k_is)
    (case h_lis_end => k_is)
    (case h_cdis_end => k_is)
    (case h_kis_end => k_is)
    (case h_alink_of => k_is)
    (case h_llink_of => k_is)
    (case h_cdlink_of => k_is)
    (case h_klink_of => k_is)
    (case h_acheck_graph => k_is)
    (case h_lcheck_graph => k_is)
    (case h_cdcheck_graph => k_is)
    (case h_kcheck_graph => k_is)
    (case h_apeer => k_is)
    (case h_lpeer => k_is)
    (case h_cdpeer => k_is)
    (case h_kpeer => k_is)
    (case h_areached => k_is)
    (case h_lreached => k_is)
    (case h_cdreached => k_is)
    (case h_kreached => k_is)
    (case h_aends_at => k_is)
    (case h_lends_at => k_is)
    (case h_cdends_at => k_is)
    (case h_kends_at => k_is)
    (case h_atree => k_is)
    (case h_ltree => k_is)
    (case h_cdtree => k_is)
    (case h_ktree => k_is)
    (case h_away => k_is)
    (case h_lway => k_is)
    (case h_cdway => k_is)
    (case h_kway => k_is)
    (case h_abelow => k_is)
    (case h_lbelow => k_is)
    (case h_cdbelow => k_is)
    (case h_kbelow => k_is)
    (case h_aways_by_tree => k_is)
    (case h_lways_by_tree => k_is)
    (case h_cdways_by_tree => k_is)
    (case h_kways_by_tree => k_is)
    (case h_atwo_ways => k_is)
    (case h_ltwo_ways => k_is)
    (case h_cdtwo_ways => k_is)
    (case h_ktwo_ways => k_is)
    (case h_a_law_state => k_is)
    (case h_l_law_state => k_is)
    (case h_cd_law_state => k_is)
    (case h_k_law_state => k_is)
    (case h_a_law_draw => k_is)
    (case h_l_law_draw => k_is)
    (case h_cd_law_draw => k_is)
    (case h_k_law_draw => k_is)
    (case h_a_law_pick => k_is)
    (case h_l_law_pick => k_is)
    (case h_cd_law_pick => k_is)
    (case h_k_law_pick => k_is)
    (case h_a_law_graph => k_is)
    (case h_l_law_graph => k_is)
    (case h_cd_law_graph => k_is)
    (case h_k_law_graph => k_is)
    (case h_a_law_peer => k_is)
    (case h_l_law_peer => k_is)
    (case h_cd_law_peer => k_is)
    (case h_k_law_peer => k_is)
    (case h_a_law_tree => k_is)
    (case h_l_law_tree => k_is)
    (case h_cd_law_tree => k_is)
    (case h_k_law_tree => k_is)
    (case h_a_law_way => k_is)
    (case h_l_law_way => k_is)
    (case h_cd_law_way => k_is)
    (case h_k_law_way => k_is)
    (case h_a_law_near => k_is)
    (case h_l_law_near => k_is)
    (case h_cd_law_near => k_is)
    (case h_k_law_near => k_is)
    (case h_a_law_good => k_is)
    (case h_l_law_good => k_is)
    (case h_cd_law_good => k_is)
    (case h_k_law_good => k_is)
    (case h_a_law_faulty => k_is)
    (case h_l_law_faulty => k_is)
    (case h_cd_law_faulty => k_is)
    (case h_k_law_faulty => k_is)
    (case h_a_law_below => k_is)
    (case h_l_law_below => k_is)
    (case h_cd_law_below => k_is)
    (case h_k_law_below => k_is)
    (case h_alaw => k_is)
    (case h_llaw => k_is)
    (case h_cdlaw => k_is)
    (case h_klaw => k_is)
    (case h_gMOST_SWITCHES => k_is)
    (case h_gMOST_PORT => k_is)
    (case h_gROOT => k_is)
    (case h_bsorted => k_is)
    (case h_blen => k_is)
    (case h_bset => k_is)
    (case h_babs => k_is)
    (case h_bint => k_is)
    (case h_brange => k_is)
    (case h_bmax => k_is)
    (case h_bmin => k_is)
    (case h_blist => k_is)
    (case h_brepr => k_is)
    (case h_bisinstance => k_is)
    (case h_bbool => k_is)
