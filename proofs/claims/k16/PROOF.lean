import PyProof.Rows.All
import Wide.All
import OpenK.AllK
import Wide.FinOn
import HandS.ForMost
import HandS.Flow
import HandS.More
import HandS.IsInst
import HandS.Wide
import HandS.Style
import HandS.FStr
import HandS.Exc
import HandS.ExcInit
import HandS.ExcOwn
import HandS.ExcField
import HandS.ExcIs
import HandS.ClsMeth
import HandS.Codes
import HandS.TryOnly
import HandS.WordsExc
import KE.KExcIs
import KE.KIsAll
import HandS.Small
import KE.KeyNested
import KE.KDictKeyed
import HandS.SortOrd
import HandS.SortRule
import HandS.Dict
import HandS.Iter
import HandS.Conv
import HandS.Deep
import KE.DataMinMax
import KE.SortData
import HandS.TupSets
import HandS.SetBool
import HandS.Zip
import HandS.Star
import HandS.SetKeys
import HandS.DictComp
import HandS.SortInts
import PyProof.ReprRoads
import PyProof.ReprLen
import PyProof.ReprBulk
import HandS.TupAny
import HandS.List
import PySem.Challenge.RW_hangbridge_k16_events_are_judged
set_option Elab.async false
set_option maxRecDepth 100000
set_option maxHeartbeats 4000000
/-! A heap as what stood and what is our own; steps of readings over it. -/
namespace Hb
open PySem L2

/-- B stood and is kept; L are our own objects, each once -/
structure Hs (B : Hp) (L : List (Addr × HO)) (H : Hp) : Prop where
  same : Same B H
  nd : (L.map (·.1)).Nodup
  out : ∀ e ∈ L, B e.1 = none
  at_ : ∀ e ∈ L, H e.1 = some e.2

section
variable {B H H' : Hp} {L R A : List (Addr × HO)} {p l : Addr} {o o' : HO} {i : Nat}
theorem Hs.start (H : Hp) : Hs H [] H := ⟨Same.refl H, List.nodup_nil, (fun _ h => nomatch h), (fun _ h => nomatch h)⟩
theorem Hs.of_same (h : Same B H) : Hs B [] H := ⟨h, List.nodup_nil, (fun _ h => nomatch h), (fun _ h => nomatch h)⟩
theorem Hs.get (hs : Hs B L H) (h : L[i]? = some (p, o)) : H p = some o := hs.at_ (p, o) (List.mem_of_getElem? h)
theorem Hs.mem (hs : Hs B L H) (h : (p, o) ∈ L) : H p = some o := hs.at_ (p, o) h
theorem Hs.g0 (hs : Hs B ((p, o) :: L) H) : H p = some o := hs.get (i := 0) rfl
theorem Hs.g1 {x} (hs : Hs B (x :: (p, o) :: L) H) : H p = some o := hs.get (i := 1) rfl
theorem Hs.g2 {x y} (hs : Hs B (x :: y :: (p, o) :: L) H) : H p = some o := hs.get (i := 2) rfl
theorem Hs.g3 {x y z} (hs : Hs B (x :: y :: z :: (p, o) :: L) H) : H p = some o := hs.get (i := 3) rfl
theorem Hs.g4 {x y z w} (hs : Hs B (x :: y :: z :: w :: (p, o) :: L) H) : H p = some o := hs.get (i := 4) rfl
theorem Hs.g5 {x y z w v} (hs : Hs B (x :: y :: z :: w :: v :: (p, o) :: L) H) : H p = some o := hs.get (i := 5) rfl
theorem Hs.g6 {x y z w v u} (hs : Hs B (x :: y :: z :: w :: v :: u :: (p, o) :: L) H) : H p = some o := hs.get (i := 6) rfl
theorem Hs.g7 {x y z w v u t} (hs : Hs B (x :: y :: z :: w :: v :: u :: t :: (p, o) :: L) H) : H p = some o := hs.get (i := 7) rfl
theorem Hs.g8 {x y z w v u t s} (hs : Hs B (x :: y :: z :: w :: v :: u :: t :: s :: (p, o) :: L) H) : H p = some o := hs.get (i := 8) rfl
theorem Hs.g9 {x y z w v u t s r} (hs : Hs B (x :: y :: z :: w :: v :: u :: t :: s :: r :: (p, o) :: L) H) : H p = some o := hs.get (i := 9) rfl
theorem Hs.g10 {x y z w v u t s r q} (hs : Hs B (x :: y :: z :: w :: v :: u :: t :: s :: r :: q :: (p, o) :: L) H) : H p = some o := hs.get (i := 10) rfl
theorem Hs.g11 {x y z w v u t s r q n} (hs : Hs B (x :: y :: z :: w :: v :: u :: t :: s :: r :: q :: n :: (p, o) :: L) H) : H p = some o := hs.get (i := 11) rfl
theorem Hs.g12 {x y z w v u t s r q n m} (hs : Hs B (x :: y :: z :: w :: v :: u :: t :: s :: r :: q :: n :: m :: (p, o) :: L) H) : H p = some o := hs.get (i := 12) rfl
theorem Hs.g13 {x y z w v u t s r q n m k} (hs : Hs B (x :: y :: z :: w :: v :: u :: t :: s :: r :: q :: n :: m :: k :: (p, o) :: L) H) : H p = some o := hs.get (i := 13) rfl
theorem Hs.g14 {x y z w v u t s r q n m k j} (hs : Hs B (x :: y :: z :: w :: v :: u :: t :: s :: r :: q :: n :: m :: k :: j :: (p, o) :: L) H) : H p = some o := hs.get (i := 14) rfl
theorem Hs.g15 {x y z w v u t s r q n m k j h} (hs : Hs B (x :: y :: z :: w :: v :: u :: t :: s :: r :: q :: n :: m :: k :: j :: h :: (p, o) :: L) H) : H p = some o := hs.get (i := 15) rfl
theorem Hs.sql {K : PySem.W.Frag} {xs : List V} (hs : Hs B L H) (h : SqL K B p xs) : SqL K H p xs := hs.same.seq h
theorem Hs.old (hs : Hs B L H) (h : B p = some o) : H p = some o := hs.same _ _ h
theorem Hs.fresh (hs : Hs B L H) (h : H p = none) : p ∉ L.map (·.1) := fun m => by
  obtain ⟨e, he, rfl⟩ := List.mem_map.mp m
  rw [hs.at_ e he] at h
  cases h
/-- a new object -/
theorem Hs.new (hs : Hs B L H) (h : H p = none) : Hs B ((p, o) :: L) (upd H p o) := by
  have hf := hs.fresh h
  refine ⟨fun b u e => ?_, ?_, fun e he => ?_, fun e he => ?_⟩
  · rw [upd_ne (ne_of_none (hs.same b u e) h)]
    exact hs.same b u e
  · rw [List.map_cons, List.nodup_cons]
    exact ⟨hf, hs.nd⟩
  · rcases List.mem_cons.mp he with rfl | he
    · exact hs.same.free h
    · exact hs.out e he
  · rcases List.mem_cons.mp he with rfl | he
    · exact upd_same
    · rw [upd_ne (ne_of_none (hs.at_ e he) h)]
      exact hs.at_ e he
theorem set_fst : ∀ {L : List (Addr × HO)} {i : Nat} {p : Addr} {o o' : HO}, L[i]? = some (p, o) → (L.set i (p, o')).map (·.1) = L.map (·.1)
  | [], _, _, _, _, h => by simp at h
  | x :: L, 0, p, o, o', h => by
    have e : x = (p, o) := by simpa using h
    subst e
    rfl
  | x :: L, i + 1, p, o, o', h => by
    have := set_fst (L := L) (i := i) (o' := o') (by simpa using h)
    show _ :: ((L.set i (p, o')).map (·.1)) = _ :: L.map (·.1)
    rw [this]
theorem nd_only : ∀ {L : List (Addr × HO)} {e : Addr × HO} {i : Nat} {p : Addr} {o o' : HO}, (L.map (·.1)).Nodup → L[i]? = some (p, o) → e ∈ L.set i (p, o') → e = (p, o') ∨ (e ∈ L ∧ e.1 ≠ p)
  | [], _, _, _, _, _, _, h, _ => by simp at h
  | x :: L, e, 0, p, o, o', nd, h, m => by
    have ex : x = (p, o) := by simpa using h
    subst ex
    rcases List.mem_cons.mp m with rfl | m
    · exact .inl rfl
    · refine .inr ⟨List.mem_cons_of_mem _ m, fun q => ?_⟩
      rw [List.map_cons, List.nodup_cons] at nd
      exact nd.1 (List.mem_map.mpr ⟨e, m, q⟩)
  | x :: L, e, i + 1, p, o, o', nd, h, m => by
    rw [List.map_cons, List.nodup_cons] at nd
    have h' : L[i]? = some (p, o) := by simpa using h
    rcases List.mem_cons.mp m with rfl | m
    · refine .inr ⟨List.mem_cons_self, fun q => ?_⟩
      exact nd.1 (List.mem_map.mpr ⟨(p, o), List.mem_of_getElem? h', q.symm⟩)
    · rcases nd_only nd.2 h' m with r | ⟨r, q⟩
      · exact .inl r
      · exact .inr ⟨List.mem_cons_of_mem _ r, q⟩
/-- a store to one's own object -/
theorem Hs.put (hs : Hs B L H) (h : L[i]? = some (p, o)) : Hs B (L.set i (p, o')) (upd H p o') := by
  have hp : B p = none := hs.out (p, o) (List.mem_of_getElem? h)
  refine ⟨fun b u e => ?_, ?_, fun e he => ?_, fun e he => ?_⟩
  · have n : b ≠ p := fun q => by
      rw [q, hp] at e
      cases e
    rw [upd_ne n]
    exact hs.same b u e
  · rw [set_fst h]
    exact hs.nd
  · rcases nd_only hs.nd h he with rfl | ⟨m, _⟩
    · exact hp
    · exact hs.out e m
  · rcases nd_only hs.nd h he with rfl | ⟨m, q⟩
    · exact upd_same
    · rw [upd_ne q]
      exact hs.at_ e m
theorem Hs.p0 (o' : HO) (hs : Hs B ((p, o) :: L) H) : Hs B ((p, o') :: L) (upd H p o') := hs.put (i := 0) rfl
theorem Hs.p1 (o' : HO) {x} (hs : Hs B (x :: (p, o) :: L) H) : Hs B (x :: (p, o') :: L) (upd H p o') := hs.put (i := 1) rfl
theorem Hs.p2 (o' : HO) {x y} (hs : Hs B (x :: y :: (p, o) :: L) H) : Hs B (x :: y :: (p, o') :: L) (upd H p o') := hs.put (i := 2) rfl
theorem Hs.p3 (o' : HO) {x y z} (hs : Hs B (x :: y :: z :: (p, o) :: L) H) : Hs B (x :: y :: z :: (p, o') :: L) (upd H p o') := hs.put (i := 3) rfl
theorem Hs.p4 (o' : HO) {x y z w} (hs : Hs B (x :: y :: z :: w :: (p, o) :: L) H) : Hs B (x :: y :: z :: w :: (p, o') :: L) (upd H p o') := hs.put (i := 4) rfl
theorem Hs.p5 (o' : HO) {x y z w v} (hs : Hs B (x :: y :: z :: w :: v :: (p, o) :: L) H) : Hs B (x :: y :: z :: w :: v :: (p, o') :: L) (upd H p o') := hs.put (i := 5) rfl
theorem Hs.p6 (o' : HO) {x y z w v u} (hs : Hs B (x :: y :: z :: w :: v :: u :: (p, o) :: L) H) : Hs B (x :: y :: z :: w :: v :: u :: (p, o') :: L) (upd H p o') := hs.put (i := 6) rfl
theorem Hs.p7 (o' : HO) {x y z w v u t} (hs : Hs B (x :: y :: z :: w :: v :: u :: t :: (p, o) :: L) H) : Hs B (x :: y :: z :: w :: v :: u :: t :: (p, o') :: L) (upd H p o') := hs.put (i := 7) rfl
/-- L with o' in the place of o at p -/
inductive Put : List (Addr × HO) → Addr → HO → HO → List (Addr × HO) → Prop
  | here {p : Addr} {o o' : HO} {L : List (Addr × HO)} : Put ((p, o) :: L) p o o' ((p, o') :: L)
  | there {p : Addr} {o o' : HO} {x : Addr × HO} {L L' : List (Addr × HO)} : Put L p o o' L' → Put (x :: L) p o o' (x :: L')
theorem Put.ix {L' : List (Addr × HO)} (h : Put L p o o' L') : ∃ i : Nat, L[i]? = some (p, o) ∧ L' = L.set i (p, o') := by
  induction h with
  | here => exact ⟨0, rfl, rfl⟩
  | there _ ih =>
    obtain ⟨i, h1, h2⟩ := ih
    exact ⟨i + 1, by simpa using h1, by rw [h2]; rfl⟩
theorem Hs.puts {L' : List (Addr × HO)} (hs : Hs B L H) (h : Put L p o o' L') : Hs B L' (upd H p o') := by
  obtain ⟨i, h1, rfl⟩ := h.ix
  exact hs.put h1
theorem Hs.gets {L' : List (Addr × HO)} (hs : Hs B L H) (h : Put L p o o' L') : H p = some o := by
  obtain ⟨i, h1, _⟩ := h.ix
  exact hs.get h1
/-- any part of our own, in any order -/
theorem Hs.sub (hs : Hs B L H) (h : R.Sublist L) : Hs B R H :=
  ⟨hs.same, hs.nd.sublist (h.map _), fun e he => hs.out e (h.subset he), fun e he => hs.at_ e (h.subset he)⟩
theorem Hs.perm (hs : Hs B L H) (h : R.Perm L) : Hs B R H :=
  ⟨hs.same, (h.map (·.1)).nodup_iff.mpr hs.nd, fun e he => hs.out e (h.subset he), fun e he => hs.at_ e (h.subset he)⟩
theorem Hs.tl {x} (hs : Hs B (x :: L) H) : Hs B L H := hs.sub (List.sublist_cons_self _ _)
/-- the i-th ahead -/
theorem up_perm : ∀ {L : List (Addr × HO)} {i : Nat} {x : Addr × HO}, L[i]? = some x → (x :: L.eraseIdx i).Perm L
  | [], _, _, h => by simp at h
  | y :: L, 0, x, h => by
    have e : y = x := by simpa using h
    subst e
    exact .refl _
  | y :: L, i + 1, x, h => (List.Perm.swap y x _).trans ((up_perm (L := L) (i := i) (by simpa using h)).cons y)
theorem Hs.up (i : Nat) (hs : Hs B L H) {x} (h : L[i]? = some x := by rfl) : Hs B (x :: L.eraseIdx i) H := by
  exact hs.perm (up_perm h)
theorem Hs.del (i : Nat) (hs : Hs B L H) : Hs B (L.eraseIdx i) H := hs.sub (List.eraseIdx_sublist _ _)
theorem Hs.m1 {a b} (hs : Hs B (a :: b :: L) H) : Hs B (b :: a :: L) H := hs.up 1
theorem Hs.m2 {a b c} (hs : Hs B (a :: b :: c :: L) H) : Hs B (c :: a :: b :: L) H := hs.up 2
theorem Hs.m3 {a b c d} (hs : Hs B (a :: b :: c :: d :: L) H) : Hs B (d :: a :: b :: c :: L) H := hs.up 3
theorem Hs.m4 {a b c d e} (hs : Hs B (a :: b :: c :: d :: e :: L) H) : Hs B (e :: a :: b :: c :: d :: L) H := hs.up 4
theorem Hs.m5 {a b c d e f} (hs : Hs B (a :: b :: c :: d :: e :: f :: L) H) : Hs B (f :: a :: b :: c :: d :: e :: L) H := hs.up 5
theorem Hs.m6 {a b c d e f g} (hs : Hs B (a :: b :: c :: d :: e :: f :: g :: L) H) : Hs B (g :: a :: b :: c :: d :: e :: f :: L) H := hs.up 6
theorem Hs.m7 {a b c d e f g h} (hs : Hs B (a :: b :: c :: d :: e :: f :: g :: h :: L) H) : Hs B (h :: a :: b :: c :: d :: e :: f :: g :: L) H := hs.up 7
theorem Hs.d1 {a b} (hs : Hs B (a :: b :: L) H) : Hs B (a :: L) H := hs.del 1
theorem Hs.d2 {a b c} (hs : Hs B (a :: b :: c :: L) H) : Hs B (a :: b :: L) H := hs.del 2
theorem Hs.d3 {a b c d} (hs : Hs B (a :: b :: c :: d :: L) H) : Hs B (a :: b :: c :: L) H := hs.del 3
theorem Hs.d4 {a b c d e} (hs : Hs B (a :: b :: c :: d :: e :: L) H) : Hs B (a :: b :: c :: d :: L) H := hs.del 4
theorem Hs.d5 {a b c d e f} (hs : Hs B (a :: b :: c :: d :: e :: f :: L) H) : Hs B (a :: b :: c :: d :: e :: L) H := hs.del 5
theorem Hs.d6 {a b c d e f g} (hs : Hs B (a :: b :: c :: d :: e :: f :: g :: L) H) : Hs B (a :: b :: c :: d :: e :: f :: L) H := hs.del 6
theorem sel_mem {idx : List Nat} {e : Addr × HO} (h : e ∈ idx.filterMap (fun i => L[i]?)) : ∃ i ∈ idx, L[i]? = some e := by
  obtain ⟨i, hi, e⟩ := List.mem_filterMap.mp h
  exact ⟨i, hi, e⟩
theorem sel_nd (nd : (L.map (·.1)).Nodup) : ∀ {idx : List Nat}, idx.Nodup → ((idx.filterMap (fun i => L[i]?)).map (·.1)).Nodup
  | [], _ => List.nodup_nil
  | i :: idx, h => by
    rw [List.nodup_cons] at h
    rw [List.filterMap_cons]
    cases e : L[i]? with
    | none => exact sel_nd nd h.2
    | some x =>
      rw [List.map_cons, List.nodup_cons]
      refine ⟨fun m => ?_, sel_nd nd h.2⟩
      obtain ⟨y, hy, q⟩ := List.mem_map.mp m
      obtain ⟨j, hj, ej⟩ := sel_mem hy
      have a : (L.map (·.1))[i]? = some x.1 := by rw [List.getElem?_map, e]; rfl
      have b : (L.map (·.1))[j]? = some x.1 := by rw [List.getElem?_map, ej]; exact congrArg some q
      rw [nd_ix nd a b] at h
      exact h.1 hj
/-- some of our own, by places -/
theorem Hs.sel (hs : Hs B L H) (idx : List Nat) (h : idx.Nodup := by decide) : Hs B (idx.filterMap (fun i => L[i]?)) H :=
  ⟨hs.same, sel_nd hs.nd h, fun e he => by
    obtain ⟨i, _, q⟩ := sel_mem he
    exact hs.out e (List.mem_of_getElem? q), fun e he => by
    obtain ⟨i, _, q⟩ := sel_mem he
    exact hs.at_ e (List.mem_of_getElem? q)⟩
/-- a callee that owns A; what else is ours stands for it -/
def around (A : List (Addr × HO)) (H : Hp) : Hp := fun a => if a ∈ A.map (·.1) then none else H a
theorem around_out {a : Addr} (h : a ∉ A.map (·.1)) : around A H a = H a := if_neg h
theorem Hs.frame (A : List (Addr × HO)) (hs : Hs B (A ++ R) H) : Same B (around A H) ∧ Hs (around A H) A H ∧ ∀ A' H', Hs (around A H) A' H' → Hs B (A' ++ R) H' := by
  have nd := hs.nd
  rw [List.map_append, List.nodup_append] at nd
  obtain ⟨n1, n2, n3⟩ := nd
  have sb : Same B (around A H) := fun b u e => by
    rw [around_out fun m => ?_]
    · exact hs.same b u e
    · obtain ⟨z, hz, rfl⟩ := List.mem_map.mp m
      rw [hs.out z (List.mem_append_left _ hz)] at e
      cases e
  refine ⟨sb, ⟨fun b u e => ?_, n1, fun e he => if_pos (List.mem_map.mpr ⟨e, he, rfl⟩), fun e he => hs.at_ e (List.mem_append_left _ he)⟩, fun A' H' h => ?_⟩
  · unfold around at e
    split at e
    · cases e
    · exact e
  · have fr : ∀ e ∈ R, around A H e.1 = some e.2 := fun e he => by
      rw [around_out fun m => n3 _ m _ (List.mem_map.mpr ⟨e, he, rfl⟩) rfl]
      exact hs.at_ e (List.mem_append_right _ he)
    refine ⟨fun b u e => h.same b u (sb b u e), ?_, fun e he => ?_, fun e he => ?_⟩
    · rw [List.map_append, List.nodup_append]
      refine ⟨h.nd, n2, fun a ha b hb q => ?_⟩
      subst q
      obtain ⟨x, hx, rfl⟩ := List.mem_map.mp ha
      obtain ⟨y, hy, q⟩ := List.mem_map.mp hb
      have h1 := h.out x hx
      have h2 := fr y hy
      rw [q, h1] at h2
      cases h2
    · rcases List.mem_append.mp he with he | he
      · exact sb.free (h.out e he)
      · exact hs.out e (List.mem_append_right _ he)
    · rcases List.mem_append.mp he with he | he
      · exact h.at_ e he
      · exact h.same _ _ (fr e he)
theorem Hs.frame1 {x} (hs : Hs B (x :: R) H) : ∃ B', Same B B' ∧ Hs B' [x] H ∧ ∀ A' H', Hs B' A' H' → Hs B (A' ++ R) H' := ⟨_, hs.frame [x]⟩
theorem Hs.frame2 {x y} (hs : Hs B (x :: y :: R) H) : ∃ B', Same B B' ∧ Hs B' [x, y] H ∧ ∀ A' H', Hs B' A' H' → Hs B (A' ++ R) H' := ⟨_, hs.frame [x, y]⟩
theorem Hs.frame3 {x y z} (hs : Hs B (x :: y :: z :: R) H) : ∃ B', Same B B' ∧ Hs B' [x, y, z] H ∧ ∀ A' H', Hs B' A' H' → Hs B (A' ++ R) H' := ⟨_, hs.frame [x, y, z]⟩
theorem Hs.frame4 {x y z w} (hs : Hs B (x :: y :: z :: w :: R) H) : ∃ B', Same B B' ∧ Hs B' [x, y, z, w] H ∧ ∀ A' H', Hs B' A' H' → Hs B (A' ++ R) H' := ⟨_, hs.frame [x, y, z, w]⟩
theorem Hs.frame5 {x y z w v} (hs : Hs B (x :: y :: z :: w :: v :: R) H) : ∃ B', Same B B' ∧ Hs B' [x, y, z, w, v] H ∧ ∀ A' H', Hs B' A' H' → Hs B (A' ++ R) H' := ⟨_, hs.frame [x, y, z, w, v]⟩
theorem Hs.frame6 {x y z w v u} (hs : Hs B (x :: y :: z :: w :: v :: u :: R) H) : ∃ B', Same B B' ∧ Hs B' [x, y, z, w, v, u] H ∧ ∀ A' H', Hs B' A' H' → Hs B (A' ++ R) H' := ⟨_, hs.frame [x, y, z, w, v, u]⟩
/-- a callee that only makes objects -/
theorem Hs.add {N : List (Addr × HO)} (hs : Hs B L H) (h : Hs H N H') : Hs B (N ++ L) H' := by
  refine ⟨fun b u e => h.same b u (hs.same b u e), ?_, fun e he => ?_, fun e he => ?_⟩
  · rw [List.map_append, List.nodup_append]
    refine ⟨h.nd, hs.nd, fun a ha b hb q => ?_⟩
    subst q
    obtain ⟨x, hx, rfl⟩ := List.mem_map.mp ha
    obtain ⟨y, hy, q⟩ := List.mem_map.mp hb
    have h1 := h.out x hx
    have h2 := hs.at_ y hy
    rw [q, h1] at h2
    cases h2
  · rcases List.mem_append.mp he with he | he
    · exact hs.same.free (h.out e he)
    · exact hs.out e he
  · rcases List.mem_append.mp he with he | he
    · exact h.at_ e he
    · exact h.same _ _ (hs.at_ e he)
/-- a new object that nobody changes any more: it stands -/
theorem Hs.freeze (hs : Hs B ((p, o) :: L) H) : Same B (upd B p o) ∧ Hs (upd B p o) L H := by
  have hp := hs.out (p, o) List.mem_cons_self
  have nd := hs.nd
  rw [List.map_cons, List.nodup_cons] at nd
  refine ⟨fun b u e => ?_, ⟨fun b u e => ?_, nd.2, fun e he => ?_, fun e he => hs.at_ e (List.mem_cons_of_mem _ he)⟩⟩
  · rw [upd_ne (ne_of_none e hp)]
    exact e
  · unfold upd at e
    split at e
    · next q =>
      subst q
      cases e
      exact hs.g0
    · exact hs.same b u e
  · have n : e.1 ≠ p := fun q => nd.1 (by rw [← q]; exact List.mem_map.mpr ⟨e, he, rfl⟩)
    rw [upd_ne n]
    exact hs.out e (List.mem_cons_of_mem _ he)
end

/-! ### steps: a reading's head, what is left -/
section
variable {K : PySem.W.Frag} {σ : St} {H : Hp} {Q : VK} {D : Ends} {ta tb tc te tv to ti : TE} {t u tr : TS} {c d : TT} {r r' : R2} {g : TG} {i : Nat} {v x y : V} {E : XK} {ts : TA} {f m : Str} {p : Addr}
theorem w_var (h : σ[i]? = some (some v)) (q : Q v H) : tVar i σ H Q := ⟨v, h, q⟩
theorem w_c (q : Q v H) : tC v σ H Q := q
theorem w_seq (q : t { D with nx := u D } σ H) : tSeq t u D σ H := q
theorem w_next (q : D.nx σ H) : tNext D σ H := q
theorem w_brk (q : D.bk σ H) : tBreak D σ H := q
theorem w_cont (q : D.ct σ H) : tCont D σ H := q
theorem w_drop (q : te σ H fun _ H1 => D.nx σ H1) : tDrop te D σ H := q
theorem w_ret (q : te σ H D.rt) : tRet te D σ H := q
theorem w_retN (q : D.rt .non H) : tRetN D σ H := q
theorem w_asg (q : te σ H fun x H1 => g x σ H1 D.nx) : tAsg te g D σ H := q
theorem w_name {Q : St → Hp → Prop} (q : Q (σ.set i (some v)) H) : gName i v σ H Q := q
theorem w_if (q : c σ H fun b H1 => if b = true then t D σ H1 else u D σ H1) : tIfS c t u D σ H := q
theorem w_test {Q : Bool → Hp → Prop} (q : te σ H fun x H1 => ∃ k, x = .bl k ∧ Q k H1) : tTest te σ H Q := q
theorem w_B {Q : Bool → Hp → Prop} (q : te σ H fun x H1 => ∃ k, x = .bl k ∧ Q k H1) : tB te σ H Q := q
theorem w_exb {b : Bool} {P : Bool → Prop} (q : P b) : ∃ k, V.bl b = .bl k ∧ P k := ⟨b, rfl, q⟩
theorem w_not {Q : Bool → Hp → Prop} (q : c σ H fun b H1 => Q (!b) H1) : tNot c σ H Q := q
theorem w_and {Q : Bool → Hp → Prop} (q : c σ H fun b H1 => if b = true then d σ H1 Q else Q false H1) : tAnd c d σ H Q := q
theorem w_or {Q : Bool → Hp → Prop} (q : c σ H fun b H1 => if b = true then Q true H1 else d σ H1 Q) : tOr c d σ H Q := q
theorem w_andV (q : ta σ H fun x H1 => ∃ k, x = .bl k ∧ if k = true then tb σ H1 Q else Q (.bl false) H1) : tAndV ta tb σ H Q := q
theorem w_orV (q : ta σ H fun x H1 => ∃ k, x = .bl k ∧ if k = true then Q (.bl true) H1 else tb σ H1 Q) : tOrV ta tb σ H Q := q
theorem w_notV (q : ta σ H fun x H1 => ∃ k, x = .bl k ∧ Q (.bl (!k)) H1) : tNotV ta σ H Q := q
theorem w_ifE (q : c σ H fun b H1 => if b = true then ta σ H1 Q else tb σ H1 Q) : tIf c ta tb σ H Q := q
theorem w_op (q : ta σ H fun x H1 => tb σ H1 fun y H2 => r x y H2 Q) : tOp r ta tb σ H Q := q
theorem w_un {r : V → Hp → VK → Prop} (q : ta σ H fun x H1 => r x H1 Q) : tUn r ta σ H Q := q
theorem w_chain (q : ta σ H fun x H1 => tb σ H1 fun y H2 => r x y H2 fun z H3 => ∃ k, z = .bl k ∧ if k = true then tc σ H3 fun w H4 => r' y w H4 Q else Q (.bl false) H3) : tChain r r' ta tb tc σ H Q := q
theorem w_I0 {g : Int → Int → V} {a b : Int} (q : Q (g a b) H) : rI0 g (.int a) (.int b) H Q := ⟨a, b, rfl, rfl, q⟩
theorem w_I {C : Int → Int → Prop} {g : Int → Int → V} {a b : Int} (h : C a b) (q : Q (g a b) H) : rI C g (.int a) (.int b) H Q := ⟨a, b, rfl, rfl, h, q⟩
theorem w_U {g : Int → V} {a : Int} (q : Q (g a) H) : rU g (.int a) H Q := ⟨a, rfl, q⟩
theorem w_eqI {a b : Int} (q : Q (.bl (decide (a = b))) H) : rEq (.int a) (.int b) H Q := ⟨rfl, by
  have e : decide (V.int a = V.int b) = decide (a = b) := by
    rw [dec_int]
    by_cases h : a = b
    · rw [decide_eq_true h]
      exact beq_iff_eq.mpr h
    · rw [decide_eq_false h]
      exact beq_eq_false_iff_ne.mpr h
  rw [e]
  exact q⟩
theorem w_neI {a b : Int} (q : Q (.bl (!decide (a = b))) H) : rNe (.int a) (.int b) H Q := ⟨rfl, by
  have e : decide (V.int a = V.int b) = decide (a = b) := by
    rw [dec_int]
    by_cases h : a = b
    · rw [decide_eq_true h]
      exact beq_iff_eq.mpr h
    · rw [decide_eq_false h]
      exact beq_eq_false_iff_ne.mpr h
  rw [e]
  exact q⟩
theorem w_eq (h : scal x y = true) (q : Q (.bl (decide (x = y))) H) : rEq x y H Q := ⟨h, q⟩
theorem w_ne (h : scal x y = true) (q : Q (.bl (!decide (x = y))) H) : rNe x y H Q := ⟨h, q⟩
theorem w_ixL {xs : List V} {j : Int} (h : SqL K H p xs) (a : atI xs j = some v) (q : Q v H) : rIxL K (.ref p) (.int j) H Q := ⟨p, xs, j, v, rfl, rfl, h, a, q⟩
theorem w_ixT {xs : List V} {j : Int} (h : SqT K H p xs) (a : atI xs j = some v) (q : Q v H) : rIxT K (.ref p) (.int j) H Q := ⟨p, xs, j, v, rfl, rfl, h, a, q⟩
theorem at0 {x : V} {xs : List V} : atI (x :: xs) 0 = some x := at_of (j := 0) rfl rfl
theorem at1 {x y : V} {xs : List V} : atI (x :: y :: xs) 1 = some y := at_of (j := 1) rfl rfl
theorem at2 {x y z : V} {xs : List V} : atI (x :: y :: z :: xs) 2 = some z := at_of (j := 2) rfl rfl
theorem at3 {x y z u : V} {xs : List V} : atI (x :: y :: z :: u :: xs) 3 = some u := at_of (j := 3) rfl rfl
/-- a field's value -/
def Fl (K : PySem.W.Frag) (f : Str) (x : V) (H : Hp) (Q : VK) : Prop := ∃ a C dx fs v, x = .ref a ∧ H a = some (.ins C dx fs) ∧ Cls K C ∧ NoAttr K C f ∧ fs.lookup f = some v ∧ Q v H
theorem w_fld (q : ta σ H fun x H1 => Fl K f x H1 Q) : tFld K ta f σ H Q := q
theorem w_fl {C dx : Addr} {fs : List (Str × V)} (h : H p = some (.ins C dx fs)) (hc : Cls K C) (hn : NoAttr K C f) (hl : fs.lookup f = some v) (q : Q v H) : Fl K f (.ref p) H Q := ⟨p, C, dx, fs, v, rfl, h, hc, hn, hl, q⟩
/-- a field's store -/
def Fs (K : PySem.W.Frag) (f : Str) (y x : V) (H : Hp) (R : Hp → Prop) : Prop := ∃ a C dx fs, x = .ref a ∧ H a = some (.ins C dx fs) ∧ Cls K C ∧ NoAttr K C f ∧ fs.length < 1000 ∧ R (upd H a (.ins C dx (putF f y fs)))
theorem w_sfld (q : tv σ H fun y H1 => ta σ H1 fun x H2 => Fs K f y x H2 (D.nx σ)) : sFld K ta tv f D σ H := q
theorem w_fs {R : Hp → Prop} {C dx : Addr} {fs : List (Str × V)} (h : H p = some (.ins C dx fs)) (hc : Cls K C) (hn : NoAttr K C f) (hl : fs.length < 1000) (q : R (upd H p (.ins C dx (putF f y fs)))) : Fs K f y (.ref p) H R := ⟨p, C, dx, fs, rfl, h, hc, hn, hl, q⟩
theorem lk0 {k : Str} {v : V} {r : List (Str × V)} : ((k, v) :: r).lookup k = some v := by simp [List.lookup]
theorem lk1 {k k' : Str} {v w : V} {r : List (Str × V)} (h : ¬ k = k') (q : r.lookup k = some w) : ((k', v) :: r).lookup k = some w := by
  have e : (k == k') = false := beq_eq_false_iff_ne.mpr h
  show (match k == k' with | true => some v | false => List.lookup k r) = some w
  rw [e]
  exact q
theorem lkn {k k' : Str} {v : V} {r : List (Str × V)} (h : ¬ k = k') (q : r.lookup k = none) : ((k', v) :: r).lookup k = none := by
  have e : (k == k') = false := beq_eq_false_iff_ne.mpr h
  show (match k == k' with | true => some v | false => List.lookup k r) = none
  rw [e]
  exact q
theorem lke {k : Str} : ([] : List (Str × V)).lookup k = none := rfl
theorem pu0 {k : Str} {v w : V} {r : List (Str × V)} : putF k w ((k, v) :: r) = (k, w) :: r := by
  show (if k = k then _ else _) = _
  rw [if_pos rfl]
theorem pu1 {k k' : Str} {v w : V} {r : List (Str × V)} (h : ¬ k' = k) : putF k w ((k', v) :: r) = (k', v) :: putF k w r := by
  show (if k' = k then _ else _) = _
  rw [if_neg h]
theorem pu2 {k k' : Str} {v w : V} {r r' : List (Str × V)} (h : ¬ k' = k) (q : putF k w r = r') : putF k w ((k', v) :: r) = (k', v) :: r' := by
  rw [pu1 h, q]
theorem pue {k : Str} {w : V} : putF k w [] = [(k, w)] := rfl
theorem w_yes {Q : Bool → Hp → Prop} (q : Q true H) : tYes σ H Q := q
theorem w_nil {Q : List V → Hp → Prop} (q : Q [] H) : tNil σ H Q := q
theorem w_cons {Q : List V → Hp → Prop} (q : ta σ H fun x H1 => ts σ H1 fun xs H2 => Q (x :: xs) H2) : tCons ta ts σ H Q := q
theorem w_cb {r : List V → Hp → VK → Prop} (q : ts σ H fun vs H1 => r vs H1 Q) : tCB r ts σ H Q := q
theorem w_call {sp : Sp} {dvs : List V} (q : ts σ H fun vs H1 => sp (vs ++ dvs) H1 Q E) : tCall sp dvs E ts σ H Q := q
/-- a new instance -/
def Mkr (C : Addr) (sp : Sp) (vs : List V) (E : XK) (Q : VK) (H : Hp) : Prop := ∀ x dx, H x = none → H dx = none → dx ≠ x → sp (.ref x :: vs) (upd (upd H dx (.own x)) x (.ins C dx [])) (fun v H2 => v = .non ∧ Q (.ref x) H2) E
theorem w_make {C : Addr} {sp : Sp} {dvs : List V} (q : ts σ H fun vs H1 => Mkr C sp (vs ++ dvs) E Q H1) : tMake C sp dvs E ts σ H Q := q
theorem w_mkr {C : Addr} {sp : Sp} {vs : List V} {B : Hp} {L : List (Addr × HO)} (hs : Hs B L H) (q : ∀ x dx H', Hs B ((x, .ins C dx []) :: L) H' → sp (.ref x :: vs) H' (fun v H2 => v = .non ∧ Q (.ref x) H2) E) : Mkr C sp vs E Q H := fun x dx hx hd ne =>
  q x dx _ ((hs.new hd).new (p := x) (by rw [upd_ne ne.symm]; exact hx)).d1
/-- an own method's receiver -/
def Rc (m : Str) (C : Addr) (x : V) (H : Hp) (R : Prop) : Prop := ∃ a dx fs, x = .ref a ∧ H a = some (.ins C dx fs) ∧ fs.lookup m = none ∧ R
theorem w_meth {C : Addr} {sp : Sp} {dvs : List V} (q : ta σ H fun x H1 => Rc m C x H1 (ts σ H1 fun vs H2 => sp (x :: (vs ++ dvs)) H2 Q E)) : tMeth C m sp dvs E ta ts σ H Q := by
  revert q
  unfold tMeth Rc
  exact id
theorem w_rc {C dx : Addr} {fs : List (Str × V)} {R : Prop} (h : H p = some (.ins C dx fs)) (hl : fs.lookup m = none) (q : R) : Rc m C (.ref p) H R := ⟨p, dx, fs, rfl, h, hl, q⟩
theorem w_bm {T : String} {r : V → List V → Hp → VK → Prop} (q : to σ H fun x H1 => tyV K T x H1 ∧ ts σ H1 fun xs H2 => r x xs H2 Q) : tBM K T r to ts σ H Q := q
theorem w_bm0 {T : String} {r : V → List V → Hp → VK → Prop} (q : to σ H fun x H1 => tyV K T x H1 ∧ r x [] H1 Q) : tBM0 K T r to σ H Q := q
theorem w_tyL {xs : List V} {R : Prop} (h : SqL K H p xs) (q : R) : tyV K "list" (.ref p) H ∧ R := ⟨.inl ⟨rfl, _, h⟩, q⟩
theorem w_tyS {s : Str} {R : Prop} (q : R) : tyV K "str" (.str s) H ∧ R := ⟨rfl, q⟩
/-- a new list, a new tuple -/
def NewL (Q : VK) (xs : List V) (H : Hp) : Prop := xs.length ≤ sizeLine ∧ ∀ p, H p = none → Q (.ref p) (upd H p (.lst xs))
def NewT (Q : VK) (xs : List V) (H : Hp) : Prop := xs.length ≤ sizeLine ∧ ∀ p, H p = none → Q (.ref p) (upd H p (.tup xs))
theorem w_tup (q : ts σ H fun xs H1 => NewT Q xs H1) : tTup ts σ H Q := q
theorem w_lst (q : ts σ H fun xs H1 => NewL Q xs H1) : tLst ts σ H Q := q
theorem w_new {B : Hp} {L : List (Addr × HO)} {o : HO} (hs : Hs B L H) (q : ∀ p H', Hs B ((p, o) :: L) H' → Q (.ref p) H') : ∀ p, H p = none → Q (.ref p) (upd H p o) := fun p hp => q p _ (hs.new hp)
theorem w_newL {B : Hp} {L : List (Addr × HO)} {xs : List V} (hs : Hs B L H) (hl : xs.length ≤ sizeLine) (q : ∀ p H', Hs B ((p, .lst xs) :: L) H' → Q (.ref p) H') : NewL Q xs H := ⟨hl, w_new hs q⟩
theorem w_newT {B : Hp} {L : List (Addr × HO)} {xs : List V} (hs : Hs B L H) (hl : xs.length ≤ sizeLine) (q : ∀ p H', Hs B ((p, .tup xs) :: L) H' → Q (.ref p) H') : NewT Q xs H := ⟨hl, w_new hs q⟩
theorem w_sl {r : V → Option Int → Option Int → Hp → VK → Prop} {tl th : TO} (q : te σ H fun x H1 => tl σ H1 fun l H2 => th σ H2 fun u H3 => r x l u H3 Q) : tSl r te tl th σ H Q := q
theorem w_noPart {Q : Option Int → Hp → Prop} (q : Q none H) : tNoPart σ H Q := q
theorem w_part {Q : Option Int → Hp → Prop} (q : te σ H fun x H1 => ∃ i, x = .int i ∧ Q (some i) H1) : tPart te σ H Q := q
theorem w_exi {b : Int} {P : Int → Prop} (q : P b) : ∃ k, V.int b = .int k ∧ P k := ⟨b, rfl, q⟩
theorem w_slL {B : Hp} {L : List (Addr × HO)} {xs : List V} {lo hi : Option Int} (hs : Hs B L H) (h : SqL K H p xs) (q : ∀ l H', Hs B ((l, .lst (cutV xs lo hi)) :: L) H' → Q (.ref l) H') : rSlL K (.ref p) lo hi H Q := ⟨p, xs, rfl, h, w_new hs q⟩
theorem w_cat {B : Hp} {L : List (Addr × HO)} {a b : Addr} {xs ys : List V} (hs : Hs B L H) (ha : H a = some (.lst xs)) (hb : H b = some (.lst ys)) (hl : xs.length + ys.length ≤ sizeLine) (q : ∀ l H', Hs B ((l, .lst (xs ++ ys)) :: L) H' → Q (.ref l) H') : rCat (.ref a) (.ref b) H Q :=
  ⟨a, b, xs, ys, rfl, rfl, ha, hb, hl, w_new hs q⟩
/-! #### calls of built-ins -/
def rLen (K : PySem.W.Frag) : List V → Hp → VK → Prop := fun xs H Q => ∃ p ys, xs = [.ref p] ∧ (SqL K H p ys ∨ SqT K H p ys) ∧ Q (.int ys.length) H
theorem call_lenQ {X : Cx} : CallR X (.builtin "len") (rLen X.K) := call_len_seq
theorem w_len {xs : List V} (h : SqL K H p xs) (q : Q (.int xs.length) H) : rLen K [.ref p] H Q := ⟨p, xs, rfl, .inl h, q⟩
theorem w_lenT {xs : List V} (h : SqT K H p xs) (q : Q (.int xs.length) H) : rLen K [.ref p] H Q := ⟨p, xs, rfl, .inr h, q⟩
def rAbs : List V → Hp → VK → Prop := fun xs H Q => ∃ i, xs = [.int i] ∧ Q (.int (if i < 0 then -i else i)) H
theorem call_absQ {X : Cx} : CallR X (.builtin "abs") rAbs := call_abs
theorem w_abs {a : Int} (q : Q (.int (if a < 0 then -a else a)) H) : rAbs [.int a] H Q := ⟨a, rfl, q⟩
def rInt : List V → Hp → VK → Prop := fun xs H Q => (∃ i, xs = [.int i] ∧ Q (.int i) H) ∨ ∃ k, xs = [.bl k] ∧ Q (.int (if k then 1 else 0)) H
theorem call_intQ {X : Cx} : CallR X (.type "int") rInt := call_int1
theorem w_int {a : Int} (q : Q (.int a) H) : rInt [.int a] H Q := .inl ⟨a, rfl, q⟩
theorem w_intB {b : Bool} (q : Q (.int (if b then 1 else 0)) H) : rInt [.bl b] H Q := .inr ⟨b, rfl, q⟩
def rStr : List V → Hp → VK → Prop := fun xs H Q => ∃ i, xs = [.int i] ∧ i.natAbs.log2 < 1920 ∧ Q (.str (toString i)) H
theorem call_strQ {X : Cx} : CallR X (.type "str") rStr := call_str_int
theorem w_str {a : Int} (h : a.natAbs < 2 ^ 64) (q : Q (.str (toString a)) H) : rStr [.int a] H Q := ⟨a, rfl, Nat.lt_of_lt_of_le (PySem.Flt.log2_lt_of (by decide) h) (by decide), q⟩
def rAddS : R2 := fun x y H Q => ∃ i j, x = .str i ∧ y = .str j ∧ i.length + j.length ≤ sizeLine ∧ Q (.str (i ++ j)) H
theorem op_addS {X : Cx} : OpR X (binaryOp .Add) rAddS := op_add_str
theorem w_addS {a b : Str} (h : a.length + b.length ≤ sizeLine) (q : Q (.str (a ++ b)) H) : rAddS (.str a) (.str b) H Q := ⟨a, b, rfl, rfl, h, q⟩
/-! #### methods of lists -/
section
variable {B : Hp} {L L' : List (Addr × HO)} {l : Addr} {xs : List V}
theorem w_app (hs : Hs B L H) (h : Put L l (.lst xs) (.lst (xs ++ [y])) L') (hl : xs.length < sizeLine) (q : ∀ H', Hs B L' H' → Q .non H') : rAppend (.ref l) [y] H Q := ⟨l, xs, y, rfl, rfl, hs.gets h, hl, q _ (hs.puts h)⟩
theorem w_clear (hs : Hs B L H) (h : Put L l (.lst xs) (.lst []) L') (q : ∀ H', Hs B L' H' → Q .non H') : rClear (.ref l) [] H Q := ⟨l, xs, rfl, rfl, hs.gets h, q _ (hs.puts h)⟩
theorem six_nat {n k : Nat} {j : Int} (e : j = (k : Int)) (h : k < n) : seqIndex? j n = some k := by
  subst e
  unfold seqIndex?
  have h1 : ¬ (k : Int) < 0 := by omega
  have h2 : (k : Int) < (n : Int) := by omega
  simp only [if_neg h1]
  simp [h2]
theorem w_popAt {k : Nat} {j : Int} (hs : Hs B L H) (h : Put L l (.lst xs) (.lst (xs.eraseIdx k)) L') (e : j = (k : Int)) (hk : xs[k]? = some y) (hz : xs.length ≤ sizeLine) (q : ∀ H', Hs B L' H' → Q y H') : rPopAt (.ref l) [.int j] H Q := by
  have hk' := (List.getElem?_eq_some_iff.mp hk).1
  have h63 := line63
  refine ⟨l, xs, j, k, y, rfl, rfl, hs.gets h, by omega, ?_, six_nat e hk', hk, q _ (hs.puts h)⟩
  have : xs.length < 2 ^ 63 := Nat.lt_of_le_of_lt hz h63
  omega
def rInsert : V → List V → Hp → VK → Prop := fun x vs H Q => ∃ (l : Addr) (xs : List V) (i : Int) (y : V), x = .ref l ∧ vs = [.int i, y] ∧ H l = some (.lst xs) ∧ xs.length < sizeLine ∧ 0 ≤ i ∧ i < 2 ^ 63 ∧ Q .non (upd H l (.lst (xs.take i.toNat ++ [y] ++ xs.drop i.toNat)))
theorem mt_insertQ {X : Cx} : MtR X "list.insert" rInsert := mt_insert
theorem w_insert0 (hs : Hs B L H) (h : Put L l (.lst xs) (.lst (y :: xs)) L') (hl : xs.length < sizeLine) (q : ∀ H', Hs B L' H' → Q .non H') : rInsert (.ref l) [.int 0, y] H Q :=
  ⟨l, xs, 0, y, rfl, rfl, hs.gets h, hl, by decide, by decide, q _ (hs.puts h)⟩
def rDelL (x y : V) (H : Hp) (R : Hp → Prop) : Prop := ∃ (l : Addr) (xs : List V) (i : Int) (k : Nat), x = .ref l ∧ y = .int i ∧ H l = some (.lst xs) ∧ -(2 ^ 63) ≤ i ∧ i < 2 ^ 63 ∧ seqIndex? i xs.length = some k ∧ R (upd H l (.lst (xs.eraseIdx k)))
theorem w_delL0 (q : to σ H fun x H1 => ti σ H1 fun y H2 => rDelL x y H2 (D.nx σ)) : tDelL to ti D σ H := q
theorem w_delL {k : Nat} {j : Int} {R : Hp → Prop} (hs : Hs B L H) (h : Put L l (.lst xs) (.lst (xs.eraseIdx k)) L') (e : j = (k : Int)) (hk : k < xs.length) (hz : xs.length ≤ sizeLine) (q : ∀ H', Hs B L' H' → R H') : rDelL (.ref l) (.int j) H R := by
  have h63 := line63
  refine ⟨l, xs, j, k, rfl, rfl, hs.gets h, by omega, ?_, six_nat e hk, q _ (hs.puts h)⟩
  have : xs.length < 2 ^ 63 := Nat.lt_of_le_of_lt hz h63
  omega
theorem w_setL {k : Nat} {j : Int} {R : Hp → Prop} (hs : Hs B L H) (h : Put L l (.lst xs) (.lst (xs.set k y)) L') (e : j = (k : Int)) (hk : k < xs.length) (q : ∀ H', Hs B L' H' → R H') : rSetL (.ref l) (.int j) y H R := by
  refine ⟨l, xs, j, k, rfl, rfl, hs.gets h, ?_, q _ (hs.puts h)⟩
  subst e
  unfold ixN
  rw [if_pos (by omega), if_pos (by omega)]
  simp
/-- a field's store -/
theorem w_fsP {R : Hp → Prop} {C dx : Addr} {fs gs : List (Str × V)} (hs : Hs B L H) (h : Put L p (.ins C dx fs) (.ins C dx gs) L') (hc : Cls K C) (hn : NoAttr K C f) (hl : fs.length < 1000) (hg : putF f y fs = gs) (q : ∀ H', Hs B L' H' → R H') : Fs K f y (.ref p) H R := by
  subst hg
  exact w_fs (hs.gets h) hc hn hl (q _ (hs.puts h))
/-! #### loops -/
theorem w_forL {tl : TE} {a : Addr} {tb : TS} (hx : SqL K H a xs) (Pv : Nat → St → Hp → Prop) (htl : ∀ Q : VK, Q (.ref a) H → tl σ H Q) (h0 : Pv 0 σ H) (hl : ∀ i σ H, i ≤ xs.length → Pv i σ H → SqL K H a xs)
    (hs : ∀ i x σ H, xs[i]? = some x → Pv i σ H → g x σ H fun σ2 H2 => tb { D with nx := Pv (i + 1), ct := Pv (i + 1), bk := D.nx } σ2 H2) (hd : ∀ σ H, Pv xs.length σ H → D.nx σ H) : tFor (iList K tl) g tb D σ H :=
  htl _ ⟨a, rfl, ⟨xs, hx⟩, for_list Pv h0 hl hs hd⟩
theorem w_forR {ta : TA} {tb : TS} {n : Int} (hn : n < 2 ^ 62) (Pv : Nat → St → Hp → Prop) (hta : ∀ Q : List V → Hp → Prop, Q [.int n] H → ta σ H Q) (hm : -(2 ^ 62) ≤ n) (h0 : Pv 0 σ H)
    (hs : ∀ (i : Nat) σ H, (i : Int) < n → Pv i σ H → g (.int (i : Int)) σ H fun σ2 H2 => tb { D with nx := Pv (i + 1), ct := Pv (i + 1), bk := D.nx } σ2 H2) (hd : ∀ σ H, Pv n.toNat σ H → D.nx σ H) : tFor (iRng1 ta) g tb D σ H :=
  hta _ ⟨n, rfl, hm, hn, for_range (lo := 0) (n := n.toNat) Pv h0 (fun i σ' H' hi p => by
    have e0 : (0 : Int) + (i : Int) = (i : Int) := Int.zero_add _
    rw [e0]
    exact hs i σ' H' (by omega) p) hd⟩
/-- [e for x in xs] over a list -/
theorem w_lc {tl : TE} {a : Addr} {vs : List Nat} {tt : TT} (hx : SqL K H a xs) (Pv : Addr → Nat → Hp → Prop) (htl : ∀ Q : VK, Q (.ref a) H → tl σ H Q) (h0 : ∀ D, H D = none → Pv D 0 (upd H D (.lst []))) (hl : ∀ D i H, i ≤ xs.length → Pv D i H → SqL K H a xs)
    (hs : ∀ D i x H, xs[i]? = some x → Pv D i H → g x (wipe σ vs) H fun σ2 H2 => wipe σ2 vs = wipe σ vs ∧ tt σ2 H2 fun b H3 =>
      if b = true then te σ2 H3 fun y H4 => ∃ acc, H4 D = some (.lst acc) ∧ acc.length < sizeLine ∧ Pv D (i + 1) (upd H4 D (.lst (acc ++ [y]))) else Pv D (i + 1) H3) (hd : ∀ D H, Pv D xs.length H → Q (.ref D) H) : tLc (iList K tl) g tt te vs σ H Q :=
  htl _ ⟨a, rfl, ⟨xs, hx⟩, fun D hD => lc_list (Pv D) (h0 D hD) (hl D) (hs D) (hd D)⟩
end
theorem w_sub {R : St → Hp → Prop} {tset : TSet} (q : to σ H fun o H1 => ti σ H1 fun i H2 => tset o i v H2 fun H3 => R σ H3) : gSub to ti tset v σ H R := q
/-- a while's body, at the measure m -/
def LpB (W : Nat → St → Hp → Prop) (m : Nat) (D : Ends) (tb : TS) (σ : St) (H1 : Hp) : Prop := ∃ N : St → Hp → Prop, (∀ σ' H', N σ' H' → ∃ m', m' < m ∧ W m' σ' H') ∧ tb { D with nx := N, ct := N, bk := D.nx } σ H1
theorem w_while {c : TT} {tb : TS} {D : Ends} {σ : St} {H : Hp} (W : Nat → St → Hp → Prop) (m : Nat) (h0 : W m σ H)
    (hs : ∀ m σ H, W m σ H → c σ H fun b H1 => if b = true then LpB W m D tb σ H1 else D.nx σ H1) : tWhile c tb D σ H := ⟨W, ⟨m, h0⟩, hs⟩
theorem w_lpb {W : Nat → St → Hp → Prop} {m : Nat} {D : Ends} {tb : TS} {σ : St} {H : Hp} (q : tb { D with nx := fun σ' H' => ∃ m', m' < m ∧ W m' σ' H', ct := fun σ' H' => ∃ m', m' < m ∧ W m' σ' H', bk := D.nx } σ H) : LpB W m D tb σ H := ⟨_, fun _ _ h => h, q⟩
end
theorem ifd {p A B : Prop} [Decidable p] (h1 : p → A) (h2 : ¬ p → B) : if decide p = true then A else B := by
  by_cases h : p
  · rw [decide_eq_true h]
    exact iteT (h1 h)
  · rw [decide_eq_false h]
    exact iteF (h2 h)
theorem ifn {p A B : Prop} [Decidable p] (h1 : ¬ p → A) (h2 : p → B) : if (!decide p) = true then A else B := by
  by_cases h : p
  · rw [decide_eq_true h]
    exact iteF (h2 h)
  · rw [decide_eq_false h]
    exact iteT (h1 h)
theorem ifb {b : Bool} {A B : Prop} (h1 : b = true → A) (h2 : b = false → B) : if b = true then A else B := by
  cases b with
  | true => exact iteT (h1 rfl)
  | false => exact iteF (h2 rfl)
theorem eraseIdx_map {α β : Type} (f : α → β) : ∀ (l : List α) (k : Nat), (l.map f).eraseIdx k = (l.eraseIdx k).map f
  | [], _ => rfl
  | _ :: _, 0 => rfl
  | x :: l, k + 1 => congrArg (f x :: ·) (eraseIdx_map f l k)
theorem sz {n : Nat} (h : n ≤ 1000000) : n ≤ sizeLine := Nat.le_trans h (by decide)
theorem szl {n : Nat} (h : n ≤ 1000000) : n < sizeLine := Nat.lt_of_le_of_lt h (by decide)
theorem take_min {α : Type} (xs : List α) (n : Nat) : xs.take (min n xs.length) = xs.take n := by
  by_cases h : n ≤ xs.length
  · rw [Nat.min_eq_left h]
  · rw [Nat.min_eq_right (by omega), List.take_length, List.take_of_length_le (by omega)]
theorem drop_min {α : Type} (xs : List α) (n : Nat) : xs.drop (min n xs.length) = xs.drop n := by
  by_cases h : n ≤ xs.length
  · rw [Nat.min_eq_left h]
  · rw [Nat.min_eq_right (by omega), List.drop_length, List.drop_of_length_le (by omega)]
theorem cut_to {xs : List V} {j : Int} (n : Nat) (e : j = (n : Int)) : cutV xs none (some j) = xs.take n := by
  subst e
  unfold cutV
  rw [HT.sIx_none, HT.sIx_nat, List.drop_zero, Nat.sub_zero, take_min]
theorem cut_from {xs : List V} {j : Int} (n : Nat) (e : j = (n : Int)) : cutV xs (some j) none = xs.drop n := by
  subst e
  unfold cutV
  rw [HT.sIx_none, HT.sIx_nat, drop_min, List.take_of_length_le]
  rw [List.length_drop]
  omega
theorem cut_len {xs : List V} {lo hi : Option Int} : (cutV xs lo hi).length ≤ xs.length := by
  unfold cutV
  rw [List.length_take, List.length_drop]
  omega
theorem cut_all {xs : List V} : cutV xs none none = xs := by
  unfold cutV HT.sIx
  simp
/-! ### lists of texts, of ints, as data -/
theorem dpa_str {K : PySem.W.Frag} {H : Hp} : ∀ xs : List Str, DpAll K H (xs.map V.str) (xs.map PyData.str)
  | [] => .nil
  | x :: xs => .cons (.str x) (dpa_str xs)
theorem dpa_int {K : PySem.W.Frag} {H : Hp} : ∀ xs : List Int, DpAll K H (xs.map V.int) (xs.map PyData.int)
  | [] => .nil
  | x :: xs => .cons (.int x) (dpa_int xs)
theorem depth_str : ∀ xs : List Str, PyData.depthAll (xs.map PyData.str) ≤ 1
  | [] => by simp [PyData.depthAll]
  | x :: xs => by
    have := depth_str xs
    simp [PyData.depthAll, PyData.depth] at this ⊢
    omega
theorem lay_str : ∀ xs : List Str, (∀ x ∈ xs, PyData.strOk x = true) → PyData.canLayAll0 (xs.map PyData.str) = true
  | [], _ => by simp [PyData.canLayAll0]
  | x :: xs, h => by
    have h1 := h x List.mem_cons_self
    have h2 := lay_str xs fun y hy => h y (List.mem_cons_of_mem _ hy)
    simp only [List.map_cons, PyData.canLayAll0, PyData.canLay0, h1, h2, Bool.and_self]
theorem shp_str {xs : List Str} (h : ∀ x ∈ xs, PyData.strOk x = true) : SeqAt.shaped (.list (xs.map PyData.str)) = true := by
  have e := depth_str xs
  have l := lay_str xs h
  unfold SeqAt.shaped PyData.canLay0 PyData.depth
  rw [l]
  simp only [Bool.true_and, decide_eq_true_eq]
  omega
theorem w_neS {K : PySem.W.Frag} {H : Hp} {Q : VK} {p q : Addr} {xs : List Str} (h1 : SqL K H p (xs.map V.str)) (h2 : SqL K H q (xs.map V.str)) (hk : ∀ x ∈ xs, PyData.strOk x = true) (k : Q (.bl false) H) : rNeD K (.ref p) (.ref q) H Q :=
  ⟨_, _, .lst h1 (dpa_str xs), .lst h2 (dpa_str xs), shp_str hk, shp_str hk, by
    rw [SeqAt.eqv_refl _ (by have := shp_str hk; unfold SeqAt.shaped at this; exact (Bool.and_eq_true_iff.mp this).1)]
    exact k⟩
theorem w_isi {K : PySem.W.Frag} {H : Hp} {Q : VK} {b : Bool} (k : Q (.bl true) H) : rIsi K [.bl b, .ty "bool"] H Q :=
  ⟨_, _, _, _, true, rfl, .ty "bool", .base (.bl b), kit_ty (by decide +kernel), k⟩
theorem w_neB {a b : Bool} {H : Hp} {Q : VK} (q : Q (.bl (!decide (a = b))) H) : rNe (.bl a) (.bl b) H Q := ⟨rfl, by
  have e : decide (V.bl a = V.bl b) = decide (a = b) := by cases a <;> cases b <;> decide
  rw [e]
  exact q⟩
end Hb

set_option Elab.async false
set_option maxRecDepth 100000
set_option maxHeartbeats 4000000
/-! More steps: dicts, fields changed by an operator, ranges, and an own exception with a field. -/
namespace Hb
open PySem L2 ClX

section
variable {K : PySem.W.Frag} {σ : St} {H : Hp} {Q : VK} {D : Ends} {ta tb td tc te tv ty to ti : TE} {t u tr : TS} {g : TG} {i : Nat} {v x y : V} {E : XK} {ts : TA} {f m : Str} {p : Addr} {B : Hp} {L L' : List (Addr × HO)}
/-! ### dicts with keys that are ints -/
def RDin (x y : V) (H : Hp) (Q : VK) : Prop := ∃ a o, x = .ref a ∧ DGet H a y o ∧ Q (.bl o.isSome) H
def RDni (x y : V) (H : Hp) (Q : VK) : Prop := ∃ a o, x = .ref a ∧ DGet H a y o ∧ Q (.bl (!o.isSome)) H
theorem w_din (q : ty σ H fun y H1 => td σ H1 fun x H2 => RDin x y H2 Q) : tDIn ty td σ H Q := q
theorem w_dni (q : ty σ H fun y H1 => td σ H1 fun x H2 => RDni x y H2 Q) : tDNotIn ty td σ H Q := q
theorem w_dinI {kvs : List (Key × V)} {n : Int} (h : H p = some (.dK kvs)) (q : Q (.bl (valV kvs (Sum.inl n)).isSome) H) : RDin (.ref p) (.int n) H Q := ⟨p, _, rfl, DGet.k (k := Sum.inl n) h, q⟩
theorem w_dniI {kvs : List (Key × V)} {n : Int} (h : H p = some (.dK kvs)) (q : Q (.bl (!(valV kvs (Sum.inl n)).isSome)) H) : RDni (.ref p) (.int n) H Q := ⟨p, _, rfl, DGet.k (k := Sum.inl n) h, q⟩
def RDput (x y v : V) (H : Hp) (R : Hp → Prop) : Prop := ∃ a H4, x = .ref a ∧ DPut H a y v H4 ∧ R H4
theorem w_dput (q : tv σ H fun v H1 => td σ H1 fun x H2 => ty σ H2 fun y H3 => RDput x y v H3 (D.nx σ)) : sDPut td ty tv D σ H := q
theorem w_dputI {kvs : List (Key × V)} {n : Int} {R : Hp → Prop} (hs : Hs B L H) (h : Put L p (.dK kvs) (.dK (putK kvs (Sum.inl n) v)) L') (hl : kvs.length < sizeLine) (q : ∀ H', Hs B L' H' → R H') : RDput (.ref p) (.int n) v H R :=
  ⟨p, _, rfl, DPut.k (k := Sum.inl n) (hs.gets h) hl, q _ (hs.puts h)⟩
def RPopA (x : V) (H : Hp) (R : Addr → Prop) : Prop := ∃ a, x = .ref a ∧ IsD H a ∧ R a
def RPopB (a : Addr) (y : V) (H : Hp) (Q : VK) : Prop := ∃ kvs k v, H a = some (.dK kvs) ∧ y = kV k ∧ valV kvs k = some v ∧ Q v (upd H a (.dK (dropK kvs k)))
theorem w_dpop (q : td σ H fun x H1 => RPopA x H1 fun a => ty σ H1 fun y H2 => RPopB a y H2 Q) : tDPop1 td ty σ H Q := q
theorem w_dpopA {kvs : List (Key × V)} {R : Addr → Prop} (h : H p = some (.dK kvs)) (q : R p) : RPopA (.ref p) H R := ⟨p, rfl, .inl ⟨kvs, .inl h⟩, q⟩
theorem w_dpopB {kvs : List (Key × V)} {n : Int} (hs : Hs B L H) (h : Put L p (.dK kvs) (.dK (dropK kvs (Sum.inl n))) L') (hv : valV kvs (Sum.inl n) = some v) (q : ∀ H', Hs B L' H' → Q v H') : RPopB p (.int n) H Q :=
  ⟨kvs, Sum.inl n, v, hs.gets h, rfl, hv, q _ (hs.puts h)⟩
def NewD (Q : VK) (H : Hp) : Prop := ∀ p, H p = none → Q (.ref p) (upd H p (.dK []))
theorem w_dnew (q : NewD Q H) : tDNewK σ H Q := q
theorem w_newD (hs : Hs B L H) (q : ∀ p H', Hs B ((p, .dK []) :: L) H' → Q (.ref p) H') : NewD Q H := w_new hs q
/-! ### o.f op= e -/
def FA1 (K : PySem.W.Frag) (f : Str) (x : V) (H : Hp) (R : Addr → Addr → V → Prop) : Prop := ∃ a C dx fs v, x = .ref a ∧ H a = some (.ins C dx fs) ∧ Cls K C ∧ NoAttr K C f ∧ fs.lookup f = some v ∧ R a C v
def FA2 (f : Str) (a C : Addr) (z : V) (H : Hp) (R : Hp → Prop) : Prop := ∃ dx' fs', H a = some (.ins C dx' fs') ∧ fs'.length < 1000 ∧ R (upd H a (.ins C dx' (putF f z fs')))
theorem w_faug {rd : V → V → Hp → VK → Prop} (q : ta σ H fun x H1 => FA1 K f x H1 fun a C v => tv σ H1 fun y H2 => rd v y H2 fun z H3 => FA2 f a C z H3 (D.nx σ)) : sFldAug K ta tv rd f D σ H := by
  revert q
  unfold sFldAug FA1 FA2
  exact id
theorem w_fa1 {C dx : Addr} {fs : List (Str × V)} {R : Addr → Addr → V → Prop} (h : H p = some (.ins C dx fs)) (hc : Cls K C) (hn : NoAttr K C f) (hl : fs.lookup f = some v) (q : R p C v) : FA1 K f (.ref p) H R := ⟨p, C, dx, fs, v, rfl, h, hc, hn, hl, q⟩
theorem w_fa2 {R : Hp → Prop} {C dx : Addr} {fs gs : List (Str × V)} (hs : Hs B L H) (h : Put L p (.ins C dx fs) (.ins C dx gs) L') (hl : fs.length < 1000) (hg : putF f v fs = gs) (q : ∀ H', Hs B L' H' → R H') : FA2 f p C v H R := by
  subst hg
  exact ⟨dx, fs, hs.gets h, hl, q _ (hs.puts h)⟩
theorem w_rAdd {a b : Int} (q : Q (.int (a + b)) H) : rAdd (.int a) (.int b) H Q := ⟨a, b, rfl, rfl, q⟩
theorem w_rSub {a b : Int} (q : Q (.int (a - b)) H) : rSub (.int a) (.int b) H Q := ⟨a, b, rfl, rfl, q⟩
/-! ### built-ins -/
def rMax2 : List V → Hp → VK → Prop := fun xs H Q => ∃ i j, xs = [.int i, .int j] ∧ Q (.int (if j > i then j else i)) H
def rMin2 : List V → Hp → VK → Prop := fun xs H Q => ∃ i j, xs = [.int i, .int j] ∧ Q (.int (if j < i then j else i)) H
theorem call_maxQ {X : Cx} (hc : X.calm = true) : CallR X (.builtin "max") rMax2 := call_max2 hc
theorem call_minQ {X : Cx} (hc : X.calm = true) : CallR X (.builtin "min") rMin2 := call_min2 hc
theorem w_max {a b : Int} (q : Q (.int (if b > a then b else a)) H) : rMax2 [.int a, .int b] H Q := ⟨a, b, rfl, q⟩
theorem w_min {a b : Int} (q : Q (.int (if b < a then b else a)) H) : rMin2 [.int a, .int b] H Q := ⟨a, b, rfl, q⟩
def rIsN : R2 := fun x y H Q => y = .non ∧ Q (.bl (decide (x = .non))) H
def rNotN : R2 := fun x y H Q => y = .non ∧ Q (.bl (!decide (x = .non))) H
theorem op_isNQ {X : Cx} : OpR X (compareOp .Is) rIsN := op_isN
theorem op_notNQ {X : Cx} : OpR X (compareOp .IsNot) rNotN := op_notN
theorem w_isN (q : Q (.bl (decide (x = .non))) H) : rIsN x .non H Q := ⟨rfl, q⟩
theorem w_notN (q : Q (.bl (!decide (x = .non))) H) : rNotN x .non H Q := ⟨rfl, q⟩
theorem w_eqD {a b : Addr} {d e : PyData} (h1 : Dp K H (.ref a) d) (h2 : Dp K H (.ref b) e) (s1 : SeqAt.shaped d = true) (s2 : SeqAt.shaped e = true) (q : Q (.bl (PyData.eqv d e)) H) : rEqD K (.ref a) (.ref b) H Q := ⟨d, e, h1, h2, s1, s2, q⟩
/-! ### targets -/
theorem w_gtup {n : Nat} {t : TGs} {xs : List V} {R : St → Hp → Prop} (h : SqT K H p xs) (hl : xs.length = n) (q : t xs σ H R) : gTup K n t (.ref p) σ H R := ⟨p, xs, rfl, h, hl, q⟩
theorem w_gnil {R : St → Hp → Prop} (q : R σ H) : gNil [] σ H R := ⟨rfl, q⟩
theorem w_gcons {t : TG} {u : TGs} {r : List V} {R : St → Hp → Prop} (q : t v σ H fun σ' H' => u r σ' H' R) : gCons t u (v :: r) σ H R := ⟨v, r, rfl, q⟩
theorem w_par3 {j l : Nat} (q : ts σ H fun vs H1 => ∃ u v w, vs = [u, v, w] ∧ D.nx (((σ.set i (some u)).set j (some v)).set l (some w)) H1) : tPar3 i j l ts D σ H := q
theorem w_ex3 {a b c : V} {P : V → V → V → Prop} (q : P a b c) : ∃ u v w, [a, b, c] = [u, v, w] ∧ P u v w := ⟨a, b, c, rfl, q⟩
theorem w_par2 {j : Nat} (q : ts σ H fun vs H1 => ∃ u v, vs = [u, v] ∧ D.nx ((σ.set i (some u)).set j (some v)) H1) : tPar i j ts D σ H := q
theorem w_ex2 {a b : V} {P : V → V → Prop} (q : P a b) : ∃ u v, [a, b] = [u, v] ∧ P u v := ⟨a, b, rfl, q⟩
/-! ### [e for i in range(a, b)] -/
theorem w_lcR {vs : List Nat} {tt : TT} {lo hi : Int} (b1 : -(2 ^ 62) ≤ lo ∧ lo < 2 ^ 62 ∧ -(2 ^ 62) ≤ hi ∧ hi < 2 ^ 62) (Pv : Addr → Nat → Hp → Prop) (hta : ∀ Q : List V → Hp → Prop, Q [.int lo, .int hi] H → ts σ H Q) (h0 : ∀ D, H D = none → Pv D 0 (upd H D (.lst [])))
    (hs : ∀ D (i : Nat) H, lo + (i : Int) < hi → Pv D i H → g (.int (lo + (i : Int))) (wipe σ vs) H fun σ2 H2 => wipe σ2 vs = wipe σ vs ∧ tt σ2 H2 fun b H3 =>
      if b = true then te σ2 H3 fun y H4 => ∃ acc, H4 D = some (.lst acc) ∧ acc.length < sizeLine ∧ Pv D (i + 1) (upd H4 D (.lst (acc ++ [y]))) else Pv D (i + 1) H3) (hd : ∀ D H, Pv D (hi - lo).toNat H → Q (.ref D) H) : tLc (iRng2 ts) g tt te vs σ H Q :=
  hta _ ⟨lo, hi, rfl, b1, fun D hD => lc_range (Pv D) (h0 D hD) (fun i H' hi' p => hs D i H' (by omega) p) (hd D)⟩
theorem w_lcR1 {vs : List Nat} {tt : TT} {hi : Int} (b1 : -(2 ^ 62) ≤ hi ∧ hi < 2 ^ 62) (Pv : Addr → Nat → Hp → Prop) (hta : ∀ Q : List V → Hp → Prop, Q [.int hi] H → ts σ H Q) (h0 : ∀ D, H D = none → Pv D 0 (upd H D (.lst [])))
    (hs : ∀ D (i : Nat) H, (i : Int) < hi → Pv D i H → g (.int (i : Int)) (wipe σ vs) H fun σ2 H2 => wipe σ2 vs = wipe σ vs ∧ tt σ2 H2 fun b H3 =>
      if b = true then te σ2 H3 fun y H4 => ∃ acc, H4 D = some (.lst acc) ∧ acc.length < sizeLine ∧ Pv D (i + 1) (upd H4 D (.lst (acc ++ [y]))) else Pv D (i + 1) H3) (hd : ∀ D H, Pv D hi.toNat H → Q (.ref D) H) : tLc (iRng1 ts) g tt te vs σ H Q :=
  hta _ ⟨hi, rfl, b1.1, b1.2, fun D hD => lc_range (Pv D) (h0 D hD) (fun i H' hi' p => by
    have e0 : (0 : Int) + (i : Int) = (i : Int) := Int.zero_add _
    rw [e0]
    exact hs D i H' (by omega) p) (hd D)⟩
end

/-- a statement, then the rest: what stands between is said once -/
theorem w_cut {σ : St} {H : Hp} {D : Ends} {t u : TS} (Mid : St → Hp → Prop) (h1 : t { D with nx := Mid } σ H) (h2 : ∀ σ' H', Mid σ' H' → u D σ' H') : C8.tCut t u D σ H := ⟨Mid, h1, h2⟩
/-! ### rules whose reading names the written part itself -/
section
variable {X : Cx} {K : PySem.W.Frag}
theorem pe_fldK {e : Expr} {f : Str} {ta : TE} {pos : Pos} (he : PE X e ta) (hb : attributeBase e f X.env (eval e X.env) = eval e X.env := by rfl) (hK : X.K = K := by rfl) : PE X (.Attribute e f pos) (tFld K ta f) := by
  subst hK
  exact pe_fld he hb
theorem ps_fldK {o value : Expr} {f : Str} {ta tv : TE} {pos pos' : Pos} (ha : PE X o ta) (hv : PE X value tv) (hs : swapsWith value (some (.Attribute o f pos')) pos.line X.env = pure false := by rfl) (hK : X.K = K := by rfl) : PS X (.Assign [.Attribute o f pos'] value pos) (sFld K ta tv f) := by
  subst hK
  exact ps_fld ha hv hs
theorem ps_fldaugK {o value : Expr} {f : Str} {ta tv : TE} {pos tpos : Pos} {op : Operator} {rd : V → V → Hp → VK → Prop} (ha : PE X o ta) (hv : PE X value tv) (hop : InOp X op rd) (hK : X.K = K := by rfl) : PS X (.AugAssign (.Attribute o f tpos) op value pos) (sFldAug K ta tv rd f) := by
  subst hK
  exact ps_fldaug ha hv hop
theorem ix_listK (hK : X.K = K := by rfl) : IxR X (rIxL K) := by
  subst hK
  exact ix_list
theorem ix_tupK (hK : X.K = K := by rfl) : IxR X (rIxT K) := by
  subst hK
  exact ix_tup
theorem sl_listK (hK : X.K = K := by rfl) : SlR X (rSlL K) := by
  subst hK
  exact sl_list
theorem sl_tupK (hK : X.K = K := by rfl) : SlR X (rSlT K) := by
  subst hK
  exact sl_tup
theorem call_lenK (hK : X.K = K := by rfl) : CallR X (.builtin "len") (rLen K) := by
  subst hK
  exact call_lenQ
theorem op_eqDK (hu : X.A.units + 64 < cLine) (hK : X.K = K := by rfl) : OpR X (compareOp .Eq) (rEqD K) := by
  subst hK
  exact op_eqD hu
theorem op_neDK (hu : X.A.units + 64 < cLine) (hK : X.K = K := by rfl) : OpR X (compareOp .NotEq) (rNeD K) := by
  subst hK
  exact op_neD hu
theorem op_inK (hK : X.K = K := by rfl) : OpR X (compareOp .In) (rIn K false) := by
  subst hK
  exact op_in_seq
theorem op_niK (hK : X.K = K := by rfl) : OpR X (compareOp .NotIn) (rIn K true) := by
  subst hK
  exact op_notIn_seq
theorem pi_listK {tg l : Expr} {tl : TE} (hl : PE X l tl) (hK : X.K = K := by rfl) : PI X tg l (iList K tl) := by
  subst hK
  exact pi_list hl
theorem pi_tupK {tg l : Expr} {tl : TE} (hl : PE X l tl) (hK : X.K = K := by rfl) : PI X tg l (iTup K tl) := by
  subst hK
  exact pi_tup hl
theorem pg_tupK {es : List Expr} {k : Nat} {t : TGs} {n : Nat} {pos : Pos} (hc : X.calm = true) (h : PGs X es t) (hn : (assignEach es X.env).length = n := by rfl) (hst : (assignEach es X.env).findIdx? (·.1) = none := by rfl) (hK : X.K = K := by rfl) : PG X (.Tuple es k pos) (gTup K n t) := by
  subst hK
  exact pg_tup hc h hn hst
theorem pt_truthK {a : Expr} {ta : TE} (ha : PE X a ta) (he : ∀ whole, isTrue a X.env whole = (do let v ← whole; standAt a.pos; holding [v] (truthy v)) := by intro _; rfl) (hK : X.K = K := by rfl) : PT X a (fun σ H Q => ta σ H fun x H' => ∃ k, TruV K x H' k ∧ Q k H') := by
  subst hK
  exact pt_truth ha he
theorem call_isiK (hK : X.K = K := by rfl) : CallR X (.builtin "isinstance") (rIsi K) := by
  subst hK
  exact call_isi
variable {o e : Expr} {es : List Expr} {to : TE} {t : TA} {name : Str} {apos cpos : Pos} {T id : String} {r : V → List V → Hp → VK → Prop}
theorem pe_bm0K (pa : PlainAttrs T) (slot : Slot T name id) (hty : typeOf (.builtin id) = pure (.type "method_descriptor")) (hm : MtR X id r) (ho : PE X o to)
    (hbase : attributeBase o name X.env (eval o X.env) = eval o X.env := by rfl) (hline : (apos.endLine == cpos.line) = true := by rfl) (hK : X.K = K := by rfl) : PE X (.Call (.Attribute o name apos) [] [] cpos) (tBM0 K T r to) := by
  subst hK
  exact pe_bm0 pa slot hty hm ho hbase hline
theorem pe_bmK (pa : PlainAttrs T) (slot : Slot T name id) (hty : typeOf (.builtin id) = pure (.type "method_descriptor")) (hm : MtR X id r) (ho : PE X o to) (ha : PA X (e :: es) t)
    (hb : attributeBase o name X.env (eval o X.env) = eval o X.env := by rfl)
    (hf : ((backTo cpos (starEach (e :: es) X.env)).all (fun x => !x.1) && (backToKw cpos (keywordEach [] X.env)).all (fun x => x.1.isSome) && decide ((e :: es).length + ([] : List Keyword).length + (if ([] : List Keyword).isEmpty then 0 else 1) < 30)) = true := by rfl)
    (hl : (apos.endLine == cpos.line) = true := by rfl) (h1 : starEach (e :: es) X.env = (false, eval e X.env) :: starEach es X.env := by rfl) (h2 : (backTo cpos (starEach es X.env)).any (·.1) = false := by rfl) (hK : X.K = K := by rfl) :
    PE X (.Call (.Attribute o name apos) (e :: es) [] cpos) (tBM K T r to t) := by
  subst hK
  exact pe_bm pa slot hty hm ho ha hb hf hl h1 h2
end
section
variable {H B : Hp} {L L' : List (Addr × HO)} {l : Addr} {y a b c d e : V} {r : List V} {R : Hp → Prop}
theorem w_set0 (hs : Hs B L H) (h : Put L l (.lst (a :: r)) (.lst (y :: r)) L') (q : ∀ H', Hs B L' H' → R H') : rSetL (.ref l) (.int 0) y H R := w_setL (k := 0) hs h rfl (by simp) q
theorem w_set1 (hs : Hs B L H) (h : Put L l (.lst (a :: b :: r)) (.lst (a :: y :: r)) L') (q : ∀ H', Hs B L' H' → R H') : rSetL (.ref l) (.int 1) y H R := w_setL (k := 1) hs h rfl (by simp) q
theorem w_set2 (hs : Hs B L H) (h : Put L l (.lst (a :: b :: c :: r)) (.lst (a :: b :: y :: r)) L') (q : ∀ H', Hs B L' H' → R H') : rSetL (.ref l) (.int 2) y H R := w_setL (k := 2) hs h rfl (by simp) q
theorem w_set3 (hs : Hs B L H) (h : Put L l (.lst (a :: b :: c :: d :: r)) (.lst (a :: b :: c :: y :: r)) L') (q : ∀ H', Hs B L' H' → R H') : rSetL (.ref l) (.int 3) y H R := w_setL (k := 3) hs h rfl (by simp) q
theorem w_set4 (hs : Hs B L H) (h : Put L l (.lst (a :: b :: c :: d :: e :: r)) (.lst (a :: b :: c :: d :: y :: r)) L') (q : ∀ H', Hs B L' H' → R H') : rSetL (.ref l) (.int 4) y H R := w_setL (k := 4) hs h rfl (by simp) q
end
theorem w_eqB {a b : Bool} {H : Hp} {Q : VK} (q : Q (.bl (decide (a = b))) H) : rEq (.bl a) (.bl b) H Q := ⟨rfl, by
  have e : decide (V.bl a = V.bl b) = decide (a = b) := by cases a <;> cases b <;> decide
  rw [e]
  exact q⟩
/-- arguments that are known -/
def kTA (vs : List V) : TA := fun _ H Q => Q vs H
theorem w_for1 {σ : St} {H : Hp} {D : Ends} {ta : TA} {tb : TS} {g : TG} (q : ta σ H fun vs H1 => tFor (iRng1 (kTA vs)) g tb D σ H1) : tFor (iRng1 ta) g tb D σ H := q
theorem w_for2 {σ : St} {H : Hp} {D : Ends} {ta : TA} {tb : TS} {g : TG} (q : ta σ H fun vs H1 => tFor (iRng2 (kTA vs)) g tb D σ H1) : tFor (iRng2 ta) g tb D σ H := q
/-! ### an own exception -/
section
variable {X : Cx} {C a : Addr}
/-- X.__init__(self, ..) of an own class that has its __init__ from ValueError -/
theorem pe_ownInit {x : Str} {e : Expr} {es : List Expr} {ta : TA} {p1 p2 pos : Pos} {pl : Sem Bool} (hg : Gl X x) (hm : X.mg x = some (.ref C)) (r : CRead X.K C (.type "type")) (cv : PySem.W.findCls X.K (.ref C) (.type "type") "__init__" = some (.val (.builtin "ValueError.__init__"))) (ha : PA X (e :: es) ta)
    (hdb : (x == ("__debug__" : Str)) = false := by decide)
    (hc : eval (.Call (.Attribute (.Name x p1) "__init__" p2) (e :: es) [] pos) X.env = (do
      let ov ← eval (.Name x p1) X.env
      standAt p2.atName
      let (f, first) ← holding [ov] (getMethod ov "__init__" pl)
      callWith pos f first (backTo pos (starEach (e :: es) X.env)) (backToKw pos (keywordEach [] X.env))) := by rfl)
    (he : starEach (e :: es) X.env = (false, eval e X.env) :: starEach es X.env := by rfl) (hpl : (backTo pos (starEach es X.env)).any (·.1) = false := by rfl) :
    PE X (.Call (.Attribute (.Name x p1) "__init__" p2) (e :: es) [] pos) (tVeI X.K ta) := by
  constructor
  intro pins s σ H Q I h
  refine PySem.W.methodCall_KW ?_ hc
  refine ld_glob I hg hm ?_ hdb
  refine PySem.W.method_cls I.kIn r.ga (PySem.W.cls_value I.kIn r.rd cv rfl ?_)
  have fin : ∀ (us : List Value) (s1 : Shared), AP X pins σ (fun vs H1 => ∃ (a C : Addr) (ws : List V), vs = .ref a :: ws ∧ ws.length ≤ 1000 ∧ OexC X.K C ∧ H1 a = some (exo a C none) ∧ Q .non H1) us s1 → wpAny (model X.prog X.w) X.A (call (.builtin "ValueError.__init__") us) (EP X pins σ Q) X.xe s1 := by
    rintro us s1 ⟨vs, H1, I1, r1, a', C', ws, rfl, hw, hT, hE, q1⟩
    match us, r1 with
    | u0 :: ur, .cons r0 rr =>
      cases (show u0 = Value.ref a' from r0)
      have hn : ur.length ≤ sizeLine := by
        rw [← Paired.length rr, sizeLine_eq]
        omega
      exact oinit_ok hT I1 hE hn fun _ J => ⟨.non, _, J, rfl, q1⟩
  exact PyProof.Rows.callWith_method1 (thn (ha.run pos pins _ σ H _ (I.tok _) h) fin) he hpl
/-- o.m(e), what it lets out by the slots -/
def tMethQ (C : Addr) (m : Str) (sp : Sp) (E : St → XK) (ta : TE) (t : TA) : TE := fun σ H Q => ta σ H fun x H1 => ∃ a dx fs, x = .ref a ∧ H1 a = some (.ins C dx fs) ∧ fs.lookup m = none ∧ t σ H1 fun vs H2 => sp (x :: vs) H2 Q (E σ)
theorem pe_methQ {CX : CXT} {k : Nat} {f : Addr} {fd : FuncData} {ps : List Str} {sp : Sp} {E : St → XK} {m : Str} {pos apos : Pos} {e o : Expr} {es : List Expr} {ta : TE} {t : TA} {pl : Sem Bool} (ho : PE X o ta) (c : Cls X.K C) (hm : Meth X.K C m f) (F : FnOk X.prog X.w X.K X.mg X.base CX k f fd ps sp)
    (hr : Room k X.A) (hb : Binds X.K fd ps []) (hx : ∀ σ, PassesAt CX X σ (E σ)) (ha : PA X (e :: es) t) (h1 : starEach (e :: es) X.env = (false, eval e X.env) :: starEach es X.env := by rfl) (h2 : (backTo pos (starEach es X.env)).any (·.1) = false := by rfl)
    (h3 : eval (.Call (.Attribute o m apos) (e :: es) [] pos) X.env = (do
      let ov ← eval o X.env
      standAt apos.atName
      let (f, first) ← holding [ov] (getMethod ov m pl)
      callWith pos f first (backTo pos (starEach (e :: es) X.env)) (backToKw pos (keywordEach [] X.env))) := by rfl) :
    PE X (.Call (.Attribute o m apos) (e :: es) [] pos) (tMethQ C m sp E ta t) := by
  constructor
  intro pins s σ H Q I h
  refine PySem.W.methodCall_KW (pl := pl) (thn (ho.run pins s σ H _ I h) ?_) h3
  rintro u s1 ⟨x, H1, I1, rx, a, dx, fs, rfl, ea, l, q⟩
  cases (show u = Value.ref a from rx)
  refine getmeth_ok I1 ea c hm l (PySem.W.callWith_K (first := [.ref a]) (h₀ := X.base) I.ok.mod.kin hm.kp (thn (ha.run pos pins s1 σ H1 _ I1 q) ?_) h1 h2)
  rintro us s2 ⟨vs, H2, I2, r, q2⟩
  exact ⟨I2.kIn, run_fnS (us := .ref a :: us) (vs := .ref a :: vs) F hr hb (hx σ) I2 (.cons rfl r) q2⟩
/-- what an own exception's class D must have for isinstance -/
structure XcC (K : PySem.W.Frag) (D : Addr) : Prop where
  cl : (PySem.W.clsIn K D).isSome = true
  ga : PySem.W.findIn K (.ref D) "__getattribute__" = some (some (.builtin "BaseException.__getattribute__"))
  gt : PySem.W.findIn K (.ref D) "__getattr__" = some none
  ex : PySem.W.subIn K (.ref D) (.type "BaseException") = some true
  cs : PySem.W.findIn K (.ref D) "__class__" = some (some (.builtin "object.__class__"))
  gd : PySem.W.specialIn K (.builtin "object.__class__") "__get__" = some (some (.builtin "getset_descriptor.__get__"))
  tk : PySem.W.takesIn K (.builtin "object.__class__") = some true
  mo : PySem.W.mroIn K D (.type "object") = some true
theorem kit_own {K : PySem.W.Frag} {D C : Addr} {b : Bool} (n : D ≠ C) (hc : PySem.W.isClsIn K C = true) (ht : PySem.W.typeIn K (.ref C) = some (.type "type")) (h : PySem.W.subIn K (.ref D) (.ref C) = some b) : PySem.W.kitOne K (.ref D) (.ref C) = some b := by
  have e : (Value.ref D == Value.ref C) = false := beq_eq_false_iff_ne.mpr fun q => n (Value.ref.inj q)
  have hc' : (PySem.W.clsIn K C).isSome = true := hc
  unfold PySem.W.kitOne PySem.W.kitCls
  simp [e, hc', ht, h]
theorem kit_ownT {K : PySem.W.Frag} {D C : Addr} (hc : PySem.W.isClsIn K C = true) (ht : PySem.W.typeIn K (.ref C) = some (.type "type")) (h : PySem.W.subIn K (.ref D) (.ref C) = some true) : PySem.W.kitOne K (.ref D) (.ref C) = some true := by
  by_cases e : D = C
  · subst e
    unfold PySem.W.kitOne
    rw [if_pos (beq_self_eq_true _)]
  · exact kit_own e hc ht h
/-- isinstance(e, c) of an exception that the suite holds, with its dict -/
def rIsX (K : PySem.W.Frag) (a : Addr) (cls : Value) (d : Option Addr) : List V → Hp → VK → Prop := fun xs H Q => ∃ (D C dd : Addr) (fs : List (Str × V)) (b : Bool), cls = .ref D ∧ d = some dd ∧ H dd = some (.xd fs) ∧ xs = [.ref a, .ref C] ∧ XcC K D ∧ PySem.W.kitOne K (.ref D) (.ref C) = some b ∧ Q (.bl b) H
theorem call_isX {oe : Obj} {cls : Value} {d : Option Addr} {pn : List (Addr × Obj)} (hz : Zc cls d oe) (hf : ∃ vs, oe.data = .fields vs) : CallR (X.suite a ((a, oe) :: pn)) (.builtin "isinstance") (rIsX X.K a cls d) := by
  rintro pins s σ H xs us Q I r ⟨D, C, dd, fs, b, rfl, rfl, hd, rfl, hD, hk, q⟩
  obtain ⟨u1, u2, rfl, r1, r2⟩ := vals2 r
  cases (show u1 = Value.ref a from r1)
  cases (show u2 = Value.ref C from r2)
  obtain ⟨ha, _⟩ := I.pin (a, oe) (List.mem_append_left _ List.mem_cons_self)
  obtain ⟨vs, hv⟩ := hf
  obtain ⟨mA, hns, _⟩ := (show ObjOk X.prog X.w H s.heap dd (.xd fs) from I.hok dd _ hd)
  obtain ⟨od, ho, _⟩ := lookIn_ns hns
  have J : PySem.W.InstAt s.heap a oe D (some od) := ⟨ha, hz.1, by unfold PySem.W.notCls; rw [hv] <;> rfl, by rw [hz.2]; exact ho⟩
  exact PySem.W.kia_one (PySem.W.kitx_exc hD.cl hD.ga hD.gt hD.ex hD.cs hD.gd hD.tk hD.mo) I.kIn J hk (fun z => nomatch z) fun tk => ⟨.bl b, H, I.kept (t' := tk) fun _ _ z => z, rfl, q⟩
end
section
variable {K : PySem.W.Frag} {σ : St} {H : Hp} {Q : VK} {D : Ends} {te tv to : TE} {ts : TA} {f : Str} {v x y : V} {C a : Addr} {B : Hp} {L L' : List (Addr × HO)}
def RVe (K : PySem.W.Frag) (vs : List V) (H : Hp) (Q : VK) : Prop := ∃ (a C : Addr) (ws : List V), vs = .ref a :: ws ∧ ws.length ≤ 1000 ∧ OexC K C ∧ H a = some (exo a C none) ∧ Q .non H
theorem w_vei (q : ts σ H fun vs H1 => RVe K vs H1 Q) : tVeI K ts σ H Q := q
theorem w_ve {ws : List V} (hl : ws.length ≤ 1000) (hT : OexC K C) (h : H a = some (exo a C none)) (q : Q .non H) : RVe K (.ref a :: ws) H Q := ⟨a, C, ws, rfl, hl, hT, h, q⟩
def ROst (K : PySem.W.Frag) (f : Str) (y x : V) (H : Hp) (R : Hp → Prop) : Prop := ∃ a C : Addr, x = .ref a ∧ OexC K C ∧ PySem.W.findIn K (.ref C) f = some none ∧
  ((H a = some (exo a C none) ∧ ∀ dx, H dx = none → dx ≠ a → R (upd (upd H dx (exd dx [(f, y)])) a (exo a C (some dx)))) ∨
    ∃ (dx : Addr) (fs : List (Str × V)), H a = some (exo a C (some dx)) ∧ H dx = some (exd dx fs) ∧ fs.length ≤ 900 ∧ R (upd H dx (exd dx ((f, y) :: fs))))
theorem w_ost0 (q : te σ H fun y H1 => to σ H1 fun x H2 => ROst K f y x H2 (D.nx σ)) : tOst K f to te D σ H := q
theorem w_ost {R : Hp → Prop} (hs : Hs B ((a, exo a C none) :: L) H) (hT : OexC K C) (hn : PySem.W.findIn K (.ref C) f = some none) (q : ∀ dx H', Hs B ((dx, exd dx [(f, y)]) :: (a, exo a C (some dx)) :: L) H' → R H') : ROst K f y (.ref a) H R :=
  ⟨a, C, rfl, hT, hn, .inl ⟨hs.g0, fun dx hd _ => q dx _ ((hs.new hd).p1 _)⟩⟩
/-- the making of an own exception -/
def MkO (C : Addr) (sp : Sp) (vs dvs : List V) (H1 : Hp) (Q : XK) : Prop := vs.length ≤ 1000 ∧ ∀ a, H1 a = none → sp (.ref a :: (vs ++ dvs)) (upd H1 a (exo a C none))
  (fun v H2 => v = .non ∧ ∃ (d : Addr) (fs : List (Str × V)), H2 a = some (exo a C (some d)) ∧ H2 d = some (exd d fs) ∧ H1 d = none ∧ Q (.ref C) (some d) (upd (del H2 a) d (.xd fs))) (fun _ _ _ => False)
theorem w_mko {sp : Sp} {dvs : List V} {Q : XK} (q : ts σ H fun vs H1 => MkO C sp vs dvs H1 Q) : tMkO C sp dvs ts σ H Q := by
  revert q
  unfold tMkO MkO
  exact id
/-- what an own __init__ with one field promises -/
def spXinit (C : Addr) (f : Str) (ok : V → Prop) : Sp := fun vs H Q _ => ∃ (B : Hp) (e : Addr) (v : V), vs = [.ref e, v] ∧ Hs B [(e, exo e C none)] H ∧ ok v ∧ ∀ dx H', Hs B [(dx, exd dx [(f, v)]), (e, exo e C (some dx))] H' → Q .non H'
theorem w_mkX {ok : V → Prop} {Q : XK} (hs : Hs B L H) (hv : ok v) (q : ∀ d H', Hs B ((d, .xd [(f, v)]) :: L) H' → Q (.ref C) (some d) H') : MkO C (spXinit C f ok) [v] [] H Q := by
  refine ⟨by simp, fun a ha => ?_⟩
  have h1 := hs.new (o := exo a C none) ha
  obtain ⟨_, h2, back⟩ := h1.frame [(a, exo a C none)]
  refine ⟨_, a, v, rfl, h2, hv, fun dx H2 h3 => ⟨rfl, dx, [(f, v)], h3.g1, h3.g0, ?_, ?_⟩⟩
  · have n : dx ≠ a := fun e => by
      have := h3.nd
      rw [e] at this
      simp at this
    have z := h3.out _ List.mem_cons_self
    have nm : dx ∉ [(a, exo a C none)].map (·.1) := by
      simp only [List.map_cons, List.map_nil, List.mem_singleton]
      exact n
    have z2 : upd H a (exo a C none) dx = none := (around_out nm).symm.trans z
    rwa [upd_ne n] at z2
  · have h4 := back _ _ h3
    have nd := h4.nd
    have hda : dx ≠ a := fun e => by
      rw [e] at nd
      simp at nd
    have nL : ∀ e ∈ L, e.1 ≠ dx ∧ e.1 ≠ a := fun e he => by
      simp only [List.cons_append, List.nil_append, List.map_cons, List.nodup_cons, List.mem_cons, not_or] at nd
      refine ⟨fun z => nd.1.2 ?_, fun z => nd.2.1 ?_⟩
      · rw [← z]
        exact List.mem_map.mpr ⟨e, he, rfl⟩
      · rw [← z]
        exact List.mem_map.mpr ⟨e, he, rfl⟩
    have ba : B a = none := hs.same.free ha
    have bd : B dx = none := h4.out _ List.mem_cons_self
    refine q dx _ ⟨fun b o e => ?_, ?_, fun e he => ?_, fun e he => ?_⟩
    · have n1 : b ≠ dx := fun z => by
        rw [z, bd] at e
        cases e
      have n2 : b ≠ a := fun z => by
        rw [z, ba] at e
        cases e
      rw [upd_ne n1, del_ne n2]
      exact h4.same b o e
    · simp only [List.cons_append, List.nil_append, List.map_cons, List.nodup_cons, List.mem_cons, not_or] at nd ⊢
      exact ⟨nd.1.2, nd.2.2⟩
    · rcases List.mem_cons.mp he with rfl | he
      · exact bd
      · exact hs.out e he
    · rcases List.mem_cons.mp he with rfl | he
      · exact upd_same
      · obtain ⟨n1, n2⟩ := nL e he
        rw [upd_ne n1, del_ne n2]
        exact h4.at_ e (List.mem_cons_of_mem _ (List.mem_cons_of_mem _ he))
theorem w_methQ {sp : Sp} {E : St → XK} {m : Str} {ta : TE} (q : ta σ H fun x H1 => Rc m C x H1 (ts σ H1 fun vs H2 => sp (x :: vs) H2 Q (E σ))) : tMethQ C m sp E ta ts σ H Q := by
  revert q
  unfold tMethQ Rc
  exact id
theorem w_isX {d : Addr} {fs : List (Str × V)} {C' : Addr} {b : Bool} (h : H d = some (.xd fs)) (hx : XcC K C) (hk : PySem.W.kitOne K (.ref C) (.ref C') = some b) (q : Q (.bl b) H) : rIsX K a (.ref C) (some d) [.ref a, .ref C'] H Q := ⟨C, C', d, fs, b, rfl, rfl, h, rfl, hx, hk, q⟩
def RXf (a : Addr) (cls : Value) (d : Option Addr) (C : Addr) (f : Str) (x : V) (H : Hp) (Q : VK) : Prop := x = .ref a ∧ cls = .ref C ∧ ∃ (dd : Addr) (fs : List (Str × V)) (v : V), d = some dd ∧ H dd = some (.xd fs) ∧ fs.lookup f = some v ∧ Q v H
theorem w_xf0 {cls : Value} {d : Option Addr} (q : te σ H fun x H1 => RXf a cls d C f x H1 Q) : tXf a cls d C f te σ H Q := q
theorem w_xf {d : Addr} {fs : List (Str × V)} (h : H d = some (.xd fs)) (hl : fs.lookup f = some v) (q : Q v H) : RXf a (.ref C) (some d) C f (.ref a) H Q := ⟨rfl, rfl, d, fs, v, rfl, h, hl, q⟩
theorem w_was {i : Nat} {ts : Addr → Value → Option Addr → TS} {Wout : WX} {d : Addr} (he : PySem.W.exmOne K (.ref C) (.ref C) = some true)
    (q : ∀ e, H e = none → ts e (.ref C) (some d) { nx := fun σ' H' => D.nx (σ'.set i none) H', rt := D.rt, bk := fun σ' H' => D.bk (σ'.set i none) H', ct := fun σ' H' => D.ct (σ'.set i none) H' } (σ.set i (some (.ref e))) H) :
    wAs K (.ref C) i ts Wout D (.ref C) (some d) σ H := ⟨true, he, fun _ e h => q e h, fun z => Bool.noConfusion z⟩
theorem w_eqSt {a b : Str} (q : Q (.bl (decide (a = b))) H) : rEq (.str a) (.str b) H Q := ⟨rfl, by
  have e : decide (V.str a = V.str b) = decide (a = b) := by
    by_cases h : a = b
    · rw [decide_eq_true h, decide_eq_true (congrArg V.str h)]
    · rw [decide_eq_false h, decide_eq_false fun q => h (V.str.inj q)]
  rw [e]
  exact q⟩
/-- texts of an f-string -/
theorem w_js {t : TE} {us : List TE} {acc : Str} {Q : Str → Hp → Prop} (q : t σ H fun x H1 => ∃ y : Str, x = .str y ∧ (acc ++ y).length ≤ sizeLine ∧ tJs us (acc ++ y) σ H1 Q) : tJs (t :: us) acc σ H Q := q
theorem w_js0 {acc : Str} {Q : Str → Hp → Prop} (q : Q acc H) : tJs [] acc σ H Q := q
theorem w_js1 {s acc : Str} {R : Str → Prop} (h : (acc ++ s).length ≤ sizeLine) (q : R s) : ∃ y : Str, V.str s = .str y ∧ (acc ++ y).length ≤ sizeLine ∧ R y := ⟨s, rfl, h, q⟩
def RFmt (x : V) (H : Hp) (Q : VK) : Prop := (∃ y : Str, x = .str y ∧ y.length ≤ sizeLine ∧ Q (.str y) H) ∨ ∃ i : Int, x = .int i ∧ i.natAbs.log2 < 1920 ∧ Q (.str (toString i)) H
theorem w_fmt (q : te σ H fun x H1 => RFmt x H1 Q) : tFmt te σ H Q := q
theorem w_fmtS {s : Str} (h : s.length ≤ sizeLine) (q : Q (.str s) H) : RFmt (.str s) H Q := .inl ⟨s, rfl, h, q⟩
theorem w_fmtI {n : Int} (h : n.natAbs < 2 ^ 64) (q : Q (.str (toString n)) H) : RFmt (.int n) H Q := .inr ⟨n, rfl, Nat.lt_of_lt_of_le (PySem.Flt.log2_lt_of (by decide) h) (by decide), q⟩
def tRaiseX (W : WX) (t : St → Hp → XK → Prop) : TS := fun _ σ H => t σ H fun cls d H' => W cls d σ H'
theorem ps_raiseQ {X : Cx} {W : WX} {e : Expr} {t : St → Hp → XK → Prop} {pos : Pos} (hc : X.calm = true) (tk : Takes X W) (he : PMk X e t) : PS X (.Raise (some e) none pos) (tRaiseX W t) := ps_raise hc tk he
theorem w_raise {W : WX} {t : St → Hp → XK → Prop} (q : t σ H fun cls d H' => W cls d σ H') : tRaiseX W t D σ H := q
end

/-! ### data that nobody changes: scalars and tuples -/
mutual
inductive Im (K : PySem.W.Frag) (H : Hp) : V → PyData → Prop
  | non : Im K H .non .none
  | bl (b : Bool) : Im K H (.bl b) (.bool b)
  | int (i : Int) : Im K H (.int i) (.int i)
  | str (x : Str) : Im K H (.str x) (.str x)
  | tup {a : Addr} {xs : List V} {ds : List PyData} : H a = some (.tup xs) → ImAll K H xs ds → Im K H (.ref a) (.tuple ds)
inductive ImAll (K : PySem.W.Frag) (H : Hp) : List V → List PyData → Prop
  | nil : ImAll K H [] []
  | cons {v : V} {vs : List V} {d : PyData} {ds : List PyData} : Im K H v d → ImAll K H vs ds → ImAll K H (v :: vs) (d :: ds)
end
section
variable {K : PySem.W.Frag} {H H' : Hp}
mutual
theorem Im.dp : ∀ {d : PyData} {v : V}, Im K H v d → Dp K H v d
  | .none, _, h => by cases h; exact .non
  | .bool _, _, h => by cases h; exact .bl _
  | .int _, _, h => by cases h; exact .int _
  | .str _, _, h => by cases h; exact .str _
  | .tuple _, _, h => by
    cases h with
    | tup h1 h2 => exact .tup (SqT.of h1) h2.dp
  | .list _, _, h => nomatch h
  | .dict _, _, h => nomatch h
theorem ImAll.dp : ∀ {ds : List PyData} {vs : List V}, ImAll K H vs ds → DpAll K H vs ds
  | [], _, h => by cases h; exact .nil
  | _ :: _, _, h => by
    cases h with
    | cons h1 h2 => exact .cons h1.dp h2.dp
end
mutual
theorem Im.mono (e : ∀ a xs, H a = some (.tup xs) → H' a = some (.tup xs)) : ∀ {d : PyData} {v : V}, Im K H v d → Im K H' v d
  | .none, _, h => by cases h; exact .non
  | .bool _, _, h => by cases h; exact .bl _
  | .int _, _, h => by cases h; exact .int _
  | .str _, _, h => by cases h; exact .str _
  | .tuple _, _, h => by
    cases h with
    | tup h1 h2 => exact .tup (e _ _ h1) (h2.mono e)
  | .list _, _, h => nomatch h
  | .dict _, _, h => nomatch h
theorem ImAll.mono (e : ∀ a xs, H a = some (.tup xs) → H' a = some (.tup xs)) : ∀ {ds : List PyData} {vs : List V}, ImAll K H vs ds → ImAll K H' vs ds
  | [], _, h => by cases h; exact .nil
  | _ :: _, _, h => by
    cases h with
    | cons h1 h2 => exact .cons (h1.mono e) (h2.mono e)
end
theorem Im.same (e : Same H H') {d : PyData} {v : V} (h : Im K H v d) : Im K H' v d := h.mono fun _ _ => e _ _
theorem ImAll.same (e : Same H H') {ds : List PyData} {vs : List V} (h : ImAll K H vs ds) : ImAll K H' vs ds := h.mono fun _ _ => e _ _
theorem ImAll.snoc {ds : List PyData} {vs : List V} {d : PyData} {v : V} (h : ImAll K H vs ds) (h1 : Im K H v d) : ImAll K H (vs ++ [v]) (ds ++ [d]) := by
  induction vs generalizing ds with
  | nil =>
    cases h
    exact .cons h1 .nil
  | cons w ws ih =>
    cases h with
    | cons a b => exact .cons a (ih b)
theorem ImAll.len : ∀ {ds : List PyData} {vs : List V}, ImAll K H vs ds → vs.length = ds.length
  | [], _, h => by cases h; rfl
  | _ :: _, _, h => by
    cases h with
    | cons _ b => exact congrArg (· + 1) b.len
/-- what is data stays data where a list changes -/
theorem tup_but {p : Addr} {o o' : HO} (h : H p = some o) (n : ∀ xs, o ≠ .tup xs) (a : Addr) (xs : List V) (e : H a = some (.tup xs)) : upd H p o' a = some (.tup xs) := by
  have d : a ≠ p := fun z => by
    rw [z, h] at e
    exact n xs (Option.some.inj e)
  rw [upd_ne d]
  exact e
theorem Hs.base {B B2 : Hp} {L : List (Addr × HO)} (e : Same B B2) (h : Hs B2 L H) : Hs B L H := ⟨e.trans h.same, h.nd, fun x hx => e.free (h.out x hx), h.at_⟩
end
section
variable {K : PySem.W.Frag} {σ : St} {H : Hp} {Q : VK} {te : TE} {ts : TA}
/-- [e for i in range(lo, hi)], each e data that is made anew -/
theorem w_lcI {vs : List Nat} {j : Nat} {lo hi : Int} (b1 : -(2 ^ 62) ≤ lo ∧ lo < 2 ^ 62 ∧ -(2 ^ 62) ≤ hi ∧ hi < 2 ^ 62) (hz : hi - lo ≤ 1000000) (ds : Nat → PyData) (hta : ∀ Q : List V → Hp → Prop, Q [.int lo, .int hi] H → ts σ H Q)
    (hw : ∀ v, wipe ((wipe σ vs).set j (some v)) vs = wipe σ vs)
    (he : ∀ (i : Nat) (H' : Hp) (Q' : VK), lo + (i : Int) < hi → Same H H' → (∀ y H3, Same H' H3 → Im K H3 y (ds i) → Q' y H3) → te ((wipe σ vs).set j (some (.int (lo + (i : Int))))) H' Q')
    (hq : ∀ D acc H', Hs H [(D, .lst acc)] H' → ImAll K H' acc ((List.range (hi - lo).toNat).map ds) → Q (.ref D) H') : tLc (iRng2 ts) (gName j) tYes te vs σ H Q := by
  refine w_lcR b1 (fun D i H' => ∃ acc, Hs H [(D, .lst acc)] H' ∧ ImAll K H' acc ((List.range i).map ds)) hta (fun D hD => ⟨[], (Hs.start H).new hD, .nil⟩) ?_ ?_
  · rintro D i H' hi' ⟨acc, h1, h2⟩
    refine ⟨hw _, ?_⟩
    refine w_yes (iteT ?_)
    refine he i H' _ hi' h1.same fun y H3 s3 hy => ?_
    have hD : H3 D = some (.lst acc) := s3 _ _ h1.g0
    have hl := h2.len
    rw [List.length_map, List.length_range] at hl
    refine ⟨acc, hD, szl (by omega), acc ++ [y], ?_, ?_⟩
    · have h3 : Hs H [(D, .lst acc)] H3 := ⟨h1.same.trans s3, h1.nd, h1.out, fun e he => s3 _ _ (h1.at_ e he)⟩
      exact h3.p0 _
    · rw [List.range_succ, List.map_append]
      exact ((h2.same s3).snoc hy).mono fun a xs => tup_but hD (fun _ z => by cases z) a xs
  · rintro D H' ⟨acc, h1, h2⟩
    exact hq D acc H' h1 h2
theorem w_lcI1 {vs : List Nat} {j : Nat} {hi : Int} (b1 : -(2 ^ 62) ≤ hi ∧ hi < 2 ^ 62) (hz : hi ≤ 1000000) (ds : Nat → PyData) (hta : ∀ Q : List V → Hp → Prop, Q [.int hi] H → ts σ H Q)
    (hw : ∀ v, wipe ((wipe σ vs).set j (some v)) vs = wipe σ vs)
    (he : ∀ (i : Nat) (H' : Hp) (Q' : VK), (i : Int) < hi → Same H H' → (∀ y H3, Same H' H3 → Im K H3 y (ds i) → Q' y H3) → te ((wipe σ vs).set j (some (.int (i : Int)))) H' Q')
    (hq : ∀ D acc H', Hs H [(D, .lst acc)] H' → ImAll K H' acc ((List.range hi.toNat).map ds) → Q (.ref D) H') : tLc (iRng1 ts) (gName j) tYes te vs σ H Q := by
  refine w_lcR1 b1 (fun D i H' => ∃ acc, Hs H [(D, .lst acc)] H' ∧ ImAll K H' acc ((List.range i).map ds)) hta (fun D hD => ⟨[], (Hs.start H).new hD, .nil⟩) ?_ ?_
  · rintro D i H' hi' ⟨acc, h1, h2⟩
    refine ⟨hw _, ?_⟩
    refine w_yes (iteT ?_)
    refine he i H' _ hi' h1.same fun y H3 s3 hy => ?_
    have hD : H3 D = some (.lst acc) := s3 _ _ h1.g0
    have hl := h2.len
    rw [List.length_map, List.length_range] at hl
    refine ⟨acc, hD, szl (by omega), acc ++ [y], ?_, ?_⟩
    · have h3 : Hs H [(D, .lst acc)] H3 := ⟨h1.same.trans s3, h1.nd, h1.out, fun e he => s3 _ _ (h1.at_ e he)⟩
      exact h3.p0 _
    · rw [List.range_succ, List.map_append]
      exact ((h2.same s3).snoc hy).mono fun a xs => tup_but hD (fun _ z => by cases z) a xs
  · rintro D H' ⟨acc, h1, h2⟩
    exact hq D acc H' h1 h2
theorem depth_all {n : Nat} : ∀ ds : List PyData, (∀ d ∈ ds, d.depth ≤ n) → PyData.depthAll ds ≤ n
  | [], _ => by simp [PyData.depthAll]
  | d :: ds, h => by
    have h1 := h d List.mem_cons_self
    have h2 := depth_all ds fun x hx => h x (List.mem_cons_of_mem _ hx)
    simp only [PyData.depthAll]
    omega
theorem lay_all : ∀ ds : List PyData, (∀ d ∈ ds, d.canLay0 = true) → PyData.canLayAll0 ds = true
  | [], _ => by simp [PyData.canLayAll0]
  | d :: ds, h => by
    have h1 := h d List.mem_cons_self
    have h2 := lay_all ds fun x hx => h x (List.mem_cons_of_mem _ hx)
    simp only [PyData.canLayAll0, h1, h2, Bool.and_self]
theorem shp_list {ds : List PyData} (h : ∀ d ∈ ds, d.canLay0 = true ∧ d.depth ≤ 60) : SeqAt.shaped (.list ds) = true := by
  have e := depth_all ds fun d hd => (h d hd).2
  have l := lay_all ds fun d hd => (h d hd).1
  unfold SeqAt.shaped PyData.canLay0 PyData.depth
  rw [l]
  simp only [Bool.true_and, decide_eq_true_eq]
  omega
/-- two lists of like data are equal -/
theorem w_eqL {p q : Addr} {xs ys : List V} {ds : List PyData} (hp : H p = some (.lst xs)) (hq : H q = some (.lst ys)) (h1 : ImAll K H xs ds) (h2 : ImAll K H ys ds) (h : ∀ d ∈ ds, d.canLay0 = true ∧ d.depth ≤ 60) (k : Q (.bl true) H) : rEqD K (.ref p) (.ref q) H Q :=
  ⟨_, _, .lst (SqL.of hp) h1.dp, .lst (SqL.of hq) h2.dp, shp_list h, shp_list h, by
    rw [SeqAt.eqv_refl _ (by have := shp_list h; unfold SeqAt.shaped at this; exact (Bool.and_eq_true_iff.mp this).1)]
    exact k⟩
theorem w_neL {p q : Addr} {xs ys : List V} {ds : List PyData} (hp : H p = some (.lst xs)) (hq : H q = some (.lst ys)) (h1 : ImAll K H xs ds) (h2 : ImAll K H ys ds) (h : ∀ d ∈ ds, d.canLay0 = true ∧ d.depth ≤ 60) (k : Q (.bl false) H) : rNeD K (.ref p) (.ref q) H Q :=
  ⟨_, _, .lst (SqL.of hp) h1.dp, .lst (SqL.of hq) h2.dp, shp_list h, shp_list h, by
    rw [SeqAt.eqv_refl _ (by have := shp_list h; unfold SeqAt.shaped at this; exact (Bool.and_eq_true_iff.mp this).1)]
    exact k⟩
theorem ima_str : ∀ xs : List Str, ImAll K H (xs.map V.str) (xs.map PyData.str)
  | [] => .nil
  | x :: xs => .cons (.str x) (ima_str xs)
end
end Hb

set_option Elab.async false
set_option maxRecDepth 100000
set_option maxHeartbeats 4000000
/-! Still more steps: truth of lists, texts in a tuple, slices of tuples, comprehensions over lists of tuples. -/
namespace Hb
open PySem L2
/-- the truth of a list -/
theorem w_truL {K : PySem.W.Frag} {H : Hp} {p : Addr} {xs : List V} {R : Bool → Prop} (h : SqL K H p xs) (q : R (!xs.isEmpty)) : ∃ k, TruV K (.ref p) H k ∧ R k := ⟨_, .inl ⟨xs, h, rfl⟩, q⟩
/-- a text in a new tuple of texts -/
theorem w_inT {K : PySem.W.Frag} {H : Hp} {Q : VK} {x : V} {p : Addr} {neg : Bool} {xs : List V} (h : SqT K H p xs) (hx : flatV x = true) (hf : xs.all flatV = true) (q : Q (.bl (if neg then !inV x xs else inV x xs)) H) : rIn K neg x (.ref p) H Q := ⟨p, xs, rfl, .inr h, hx, hf, q⟩
/-- a tuple's slice, not the whole -/
theorem w_slT0 {K : PySem.W.Frag} {B H : Hp} {L : List (Addr × HO)} {Q : VK} {p : Addr} {xs : List V} {lo hi : Option Int} (hs : Hs B L H) (h : SqT K H p xs) (hw : ¬ (HT.sIx xs.length 0 lo = 0 ∧ HT.sIx xs.length xs.length hi = xs.length)) (q : ∀ l H', Hs B ((l, .tup (cutV xs lo hi)) :: L) H' → Q (.ref l) H') : rSlT K (.ref p) lo hi H Q := by
  exact ⟨p, xs, rfl, h, hw, w_new hs q⟩
/-- what stands aside of our own objects becomes the ground -/
theorem Hs.rebase {B H : Hp} {L : List (Addr × HO)} (hs : Hs B L H) : Same B (around L H) ∧ Hs (around L H) L H := by
  have h := Hs.frame (R := []) L (by rw [List.append_nil]; exact hs)
  exact ⟨h.1, h.2.1⟩
theorem im_around {K : PySem.W.Frag} {H : Hp} {L : List (Addr × HO)} (nt : ∀ e ∈ L, ∀ xs, H e.1 ≠ some (.tup xs)) {vs : List V} {ds : List PyData} (h : ImAll K H vs ds) : ImAll K (around L H) vs ds :=
  h.mono fun a xs e => by
    rw [around_out fun m => ?_]
    · exact e
    · obtain ⟨z, hz, rfl⟩ := List.mem_map.mp m
      exact nt z hz xs e

theorem w_slT {K : PySem.W.Frag} {B H : Hp} {L : List (Addr × HO)} {Q : VK} {p : Addr} {xs : List V} {j : Int} (n : Nat) (e : j = (n : Int)) (hs : Hs B L H) (h : SqT K H p xs) (h0 : 0 < n) (h1 : n ≤ xs.length) (q : ∀ l H', Hs B ((l, .tup (xs.drop n)) :: L) H' → Q (.ref l) H') : rSlT K (.ref p) (some j) none H Q := by
  refine w_slT0 hs h ?_ fun l H' hs' => ?_
  · subst e
    rw [HT.sIx_nat]
    omega
  · rw [cut_from n e] at hs'
    exact q l H' hs'
section
variable {K : PySem.W.Frag} {σ : St} {H : Hp} {Q : VK} {te : TE} {g : TG}
/-- [e for .. in xs], xs a list of data, each e data that is made anew -/
theorem w_lcD {tl : TE} {a : Addr} {xs : List V} {vs : List Nat} (hx : SqL K H a xs) (hz : xs.length ≤ 1000000) (ds : List PyData) (hl : ds.length = xs.length) (htl : ∀ Q : VK, Q (.ref a) H → tl σ H Q)
    (he : ∀ (i : Nat) (x : V) (d : PyData) (H' : Hp) (Q' : VK), xs[i]? = some x → ds[i]? = some d → Same H H' → (∀ y H3, Same H' H3 → Im K H3 y d → Q' y H3) → g x (wipe σ vs) H' fun σ2 H2 => wipe σ2 vs = wipe σ vs ∧ te σ2 H2 Q')
    (hq : ∀ D acc H', Hs H [(D, .lst acc)] H' → ImAll K H' acc ds → Q (.ref D) H') (gm : ∀ x σ H R R', (∀ σ' H', R σ' H' → R' σ' H') → g x σ H R → g x σ H R') : tLc (iList K tl) g tYes te vs σ H Q := by
  refine w_lc hx (fun D i H' => ∃ acc, Hs H [(D, .lst acc)] H' ∧ ImAll K H' acc (ds.take i)) htl (fun D hD => ⟨[], (Hs.start H).new hD, by rw [List.take_zero]; exact .nil⟩) (fun D i H' _ ⟨_, h, _⟩ => h.same.seq hx) ?_ ?_
  · rintro D i x H' hi ⟨acc, h1, h2⟩
    have hin := (List.getElem?_eq_some_iff.mp hi).1
    have hd : ds[i]? = some ds[i] := List.getElem?_eq_getElem (by omega)
    refine gm _ _ _ _ _ (fun σ' H2 ⟨e1, e2⟩ => ⟨e1, w_yes (iteT e2)⟩) (he i x ds[i] H' _ hi hd h1.same fun y H3 s3 hy => ?_)
    have hD : H3 D = some (.lst acc) := s3 _ _ h1.g0
    have hl2 := h2.len
    rw [List.length_take] at hl2
    refine ⟨acc, hD, szl (by omega), acc ++ [y], ?_, ?_⟩
    · have h3 : Hs H [(D, .lst acc)] H3 := ⟨h1.same.trans s3, h1.nd, h1.out, fun e he => s3 _ _ (h1.at_ e he)⟩
      exact h3.p0 _
    · have e : ds.take (i + 1) = ds.take i ++ [ds[i]] := by
        rw [List.take_succ, hd]
        rfl
      rw [e]
      exact ((h2.same s3).snoc hy).mono fun a xs => tup_but hD (fun _ z => by cases z) a xs
  · rintro D H' ⟨acc, h1, h2⟩
    rw [← hl, List.take_length] at h2
    exact hq D acc H' h1 h2
theorem ImAll.get {H : Hp} : ∀ {xs : List V} {ds : List PyData} {i : Nat} {x : V} {d : PyData}, ImAll K H xs ds → xs[i]? = some x → ds[i]? = some d → Im K H x d
  | _ :: _, _ :: _, 0, x, d, .cons h _, e1, e2 => by
    cases e1
    cases e2
    exact h
  | _ :: _, _ :: _, i + 1, x, d, .cons _ h, e1, e2 => ImAll.get (i := i) h (by simpa using e1) (by simpa using e2)
theorem ImAll.app {H : Hp} : ∀ {xs ys : List V} {ds es : List PyData}, ImAll K H xs ds → ImAll K H ys es → ImAll K H (xs ++ ys) (ds ++ es)
  | [], _, _, _, .nil, h => h
  | _ :: _, _, _, _, .cons a b, h => .cons a (b.app h)
end
end Hb

set_option Elab.async false
set_option maxRecDepth 100000
set_option maxHeartbeats 4000000
/-! Dicts with a fixed row of text keys, as a law's plain models have them; tuples put together. -/
namespace Hb
open PySem L2
/-- a dict whose keys are a fixed row of texts -/
def zipK (ks : List Str) (vs : List V) : List (Key × V) := (ks.map Sum.inr).zip vs
theorem val_zip : ∀ {ks : List Str} {vs : List V} {i : Nat} {k : Str} {v : V}, ks.Nodup → ks[i]? = some k → vs[i]? = some v → valV (zipK ks vs) (Sum.inr k) = some v
  | k0 :: ks, v0 :: vs, 0, k, v, _, hk, hv => by
    cases hk
    cases hv
    show Option.map _ (List.find? _ ((Sum.inr k0, v0) :: zipK ks vs)) = _
    rw [List.find?_cons, decide_eq_true (rfl : (Sum.inr k0 : Key) = Sum.inr k0)]
    rfl
  | k0 :: ks, v0 :: vs, i + 1, k, v, nd, hk, hv => by
    have h1 := List.nodup_cons.mp nd
    have hk' : ks[i]? = some k := by simpa using hk
    have hv' : vs[i]? = some v := by simpa using hv
    have hne : ¬ (Sum.inr k0 : Key) = Sum.inr k := fun e => h1.1 (by cases e; exact List.mem_of_getElem? hk')
    show Option.map _ (List.find? _ ((Sum.inr k0, v0) :: zipK ks vs)) = _
    rw [List.find?_cons, decide_eq_false hne]
    exact val_zip h1.2 hk' hv'
theorem map_zip_out : ∀ {ks : List Str} {vs : List V} {k : Str} {v : V}, k ∉ ks → (zipK ks vs).map (fun kv => if kv.1 = (Sum.inr k : Key) then (kv.1, v) else kv) = zipK ks vs
  | [], _, _, _, _ => rfl
  | _ :: _, [], _, _, _ => rfl
  | k0 :: ks, v0 :: vs, k, v, h => by
    have hne : ¬ (Sum.inr k0 : Key) = Sum.inr k := fun e => h (by cases e; exact List.mem_cons_self)
    show (if (Sum.inr k0 : Key) = Sum.inr k then ((Sum.inr k0 : Key), v) else (Sum.inr k0, v0)) :: (zipK ks vs).map _ = _
    rw [if_neg hne, map_zip_out (fun m => h (List.mem_cons_of_mem _ m))]
    rfl
theorem map_zip : ∀ {ks : List Str} {vs : List V} {i : Nat} {k : Str} {v : V}, ks.Nodup → ks[i]? = some k → i < vs.length → (zipK ks vs).map (fun kv => if kv.1 = (Sum.inr k : Key) then (kv.1, v) else kv) = zipK ks (vs.set i v)
  | k0 :: ks, v0 :: vs, 0, k, v, nd, hk, _ => by
    cases hk
    have h1 := List.nodup_cons.mp nd
    show (if (Sum.inr k0 : Key) = Sum.inr k0 then ((Sum.inr k0 : Key), v) else (Sum.inr k0, v0)) :: (zipK ks vs).map _ = _
    rw [if_pos rfl, map_zip_out h1.1]
    rfl
  | k0 :: ks, v0 :: vs, i + 1, k, v, nd, hk, hl => by
    have h1 := List.nodup_cons.mp nd
    have hk' : ks[i]? = some k := by simpa using hk
    have hne : ¬ (Sum.inr k0 : Key) = Sum.inr k := fun e => h1.1 (by cases e; exact List.mem_of_getElem? hk')
    show (if (Sum.inr k0 : Key) = Sum.inr k then ((Sum.inr k0 : Key), v) else (Sum.inr k0, v0)) :: (zipK ks vs).map _ = _
    rw [if_neg hne, map_zip h1.2 hk' (Nat.lt_of_succ_lt_succ hl)]
    rfl
theorem any_of_val {kvs : List (Key × V)} {k : Key} {v : V} (h : valV kvs k = some v) : (kvs.any fun kv => decide (kv.1 = k)) = true := by
  unfold valV at h
  cases e : kvs.find? (fun kv => decide (kv.1 = k)) with
  | none =>
    rw [e] at h
    cases h
  | some z =>
    have h1 := List.find?_some e
    exact List.any_eq_true.mpr ⟨z, List.mem_of_find?_eq_some e, h1⟩
theorem put_zip {ks : List Str} {vs : List V} {i : Nat} {k : Str} {v u : V} (nd : ks.Nodup) (hk : ks[i]? = some k) (hv : vs[i]? = some u) : putK (zipK ks vs) (Sum.inr k) v = zipK ks (vs.set i v) := by
  unfold putK
  rw [if_pos (any_of_val (val_zip nd hk hv))]
  exact map_zip nd hk (List.getElem?_eq_some_iff.mp hv).1
/-! ### their steps -/
section
variable {σ : St} {H : Hp} {Q : VK} {D : Ends} {td ty tv : TE} {p : Addr} {B : Hp} {L L' : List (Addr × HO)} {ks : List Str} {vs us : List V} {i : Nat} {k : Str} {v u : V}
def RDget (x y : V) (H : Hp) (Q : VK) : Prop := ∃ a v, x = .ref a ∧ DGet H a y (some v) ∧ Q v H
theorem w_dget (q : td σ H fun x H1 => ty σ H1 fun y H2 => RDget x y H2 Q) : tDGet td ty σ H Q := q
theorem w_dgetZ (h : H p = some (.dK (zipK ks vs))) (nd : ks.Nodup) (hk : ks[i]? = some k) (hv : vs[i]? = some v) (q : Q v H) : RDget (.ref p) (.str k) H Q :=
  ⟨p, v, rfl, val_zip nd hk hv ▸ DGet.k (k := Sum.inr k) h, q⟩
theorem w_dgetI {kvs : List (Key × V)} {n : Int} (h : H p = some (.dK kvs)) (hv : valV kvs (Sum.inl n) = some v) (q : Q v H) : RDget (.ref p) (.int n) H Q :=
  ⟨p, v, rfl, hv ▸ DGet.k (k := Sum.inl n) h, q⟩
theorem w_dputZ {R : Hp → Prop} (hs : Hs B L H) (h : Put L p (.dK (zipK ks vs)) (.dK (zipK ks us)) L') (nd : ks.Nodup) (hk : ks[i]? = some k) (hv : vs[i]? = some u) (hu : vs.set i v = us) (hl : ks.length < 1000) (q : ∀ H', Hs B L' H' → R H') : RDput (.ref p) (.str k) v H R := by
  subst hu
  refine ⟨p, _, rfl, DPut.k (k := Sum.inr k) (hs.gets h) ?_, ?_⟩
  · refine szl ?_
    show ((ks.map Sum.inr).zip vs).length ≤ 1000000
    rw [List.length_zip, List.length_map]
    omega
  · rw [put_zip nd hk hv]
    exact q _ (hs.puts h)
/-- the same as a target among others -/
theorem w_gsub {tset : TSet} {R : St → Hp → Prop} (q : td σ H fun o H1 => ty σ H1 fun i H2 => tset o i v H2 fun H3 => R σ H3) : gSub td ty tset v σ H R := q
theorem w_setD {x y : V} {R : Hp → Prop} (q : RDput x y v H R) : rSetD x y v H R := q
end
section
variable {K : PySem.W.Frag}
theorem op_catTK {X : Cx} (hK : X.K = K := by rfl) : OpR X (binaryOp .Add) (rCatT K) := by
  subst hK
  exact op_catT
theorem w_catT {B H : Hp} {L : List (Addr × HO)} {Q : VK} {p r : Addr} {xs ys : List V} (hs : Hs B L H) (h1 : SqT K H p xs) (h2 : SqT K H r ys) (n1 : xs ≠ []) (n2 : ys ≠ []) (hl : xs.length + ys.length ≤ 1000) (q : ∀ l H', Hs B ((l, .tup (xs ++ ys)) :: L) H' → Q (.ref l) H') : rCatT K (.ref p) (.ref r) H Q :=
  ⟨p, r, xs, ys, rfl, rfl, h1, h2, n1, Nat.le_of_lt (szl (by omega)), fun e => absurd e n2, fun _ => w_new hs q⟩
end
section
variable {α : Type} {a b c d e f g h i v : α} {l : List α}
theorem v0 : (a :: l)[0]? = some a := rfl
theorem v1 : (a :: b :: l)[1]? = some b := rfl
theorem v2 : (a :: b :: c :: l)[2]? = some c := rfl
theorem v3 : (a :: b :: c :: d :: l)[3]? = some d := rfl
theorem v4 : (a :: b :: c :: d :: e :: l)[4]? = some e := rfl
theorem v5 : (a :: b :: c :: d :: e :: f :: l)[5]? = some f := rfl
theorem v6 : (a :: b :: c :: d :: e :: f :: g :: l)[6]? = some g := rfl
theorem v7 : (a :: b :: c :: d :: e :: f :: g :: h :: l)[7]? = some h := rfl
theorem v8 : (a :: b :: c :: d :: e :: f :: g :: h :: i :: l)[8]? = some i := rfl
theorem st0 : (a :: l).set 0 v = v :: l := rfl
theorem st1 : (a :: b :: l).set 1 v = a :: v :: l := rfl
theorem st2 : (a :: b :: c :: l).set 2 v = a :: b :: v :: l := rfl
theorem st3 : (a :: b :: c :: d :: l).set 3 v = a :: b :: c :: v :: l := rfl
theorem st4 : (a :: b :: c :: d :: e :: l).set 4 v = a :: b :: c :: d :: v :: l := rfl
theorem st5 : (a :: b :: c :: d :: e :: f :: l).set 5 v = a :: b :: c :: d :: e :: v :: l := rfl
theorem st6 : (a :: b :: c :: d :: e :: f :: g :: l).set 6 v = a :: b :: c :: d :: e :: f :: v :: l := rfl
theorem st7 : (a :: b :: c :: d :: e :: f :: g :: h :: l).set 7 v = a :: b :: c :: d :: e :: f :: g :: v :: l := rfl
theorem st8 : (a :: b :: c :: d :: e :: f :: g :: h :: i :: l).set 8 v = a :: b :: c :: d :: e :: f :: g :: h :: v :: l := rfl
end
/-! ### a dict that is written down -/
theorem merge_zip : ∀ {ks : List Str} {vs : List V} {acc : List (Key × V)}, ks.Nodup → (∀ k ∈ ks, ∀ kv ∈ acc, kv.1 ≠ (Sum.inr k : Key)) → mergeK acc (zipK ks vs) = acc ++ zipK ks vs
  | [], _, acc, _, _ => by
    show acc = acc ++ []
    rw [List.append_nil]
  | _ :: _, [], acc, _, _ => by
    show acc = acc ++ []
    rw [List.append_nil]
  | k :: ks, v :: vs, acc, nd, h => by
    have h1 := List.nodup_cons.mp nd
    have e : putK acc (Sum.inr k) v = acc ++ [(Sum.inr k, v)] := by
      unfold putK
      rw [if_neg]
      intro h2
      obtain ⟨z, hz, h3⟩ := List.any_eq_true.mp h2
      exact h k List.mem_cons_self z hz (of_decide_eq_true h3)
    show mergeK (putK acc (Sum.inr k) v) (zipK ks vs) = acc ++ ((Sum.inr k, v) :: zipK ks vs)
    rw [e, merge_zip h1.2 ?_, List.append_assoc]
    · rfl
    · intro k2 hk2 kv hkv
      rcases List.mem_append.mp hkv with m | m
      · exact h k2 (List.mem_cons_of_mem _ hk2) kv m
      · rw [List.mem_singleton.mp m]
        intro c
        cases c
        exact h1.1 hk2
section
variable {σ : St} {H : Hp} {Q : VK} {B : Hp} {L L' : List (Addr × HO)}
def NewP (trs : List (TE × TE)) (σ : St) (Q : VK) (H : Hp) : Prop := ∀ p, H p = none → tPairs trs σ (upd H p (.dK [])) fun ps H2 => H2 p = some (.dK []) ∧ ∃ kvs : List (Key × V), ps = kvs.map (fun kv => (kV kv.1, kv.2)) ∧ kvs.length ≤ 15 ∧ Q (.ref p) (upd H2 p (.dK (mergeK [] kvs)))
def DispP (p : Addr) (Q : VK) (ps : List (V × V)) (H2 : Hp) : Prop := H2 p = some (.dK []) ∧ ∃ kvs : List (Key × V), ps = kvs.map (fun kv => (kV kv.1, kv.2)) ∧ kvs.length ≤ 15 ∧ Q (.ref p) (upd H2 p (.dK (mergeK [] kvs)))
theorem w_disp {trs : List (TE × TE)} (q : NewP trs σ Q H) : tDisp trs σ H Q := q
theorem w_newP {trs : List (TE × TE)} (hs : Hs B L H) (q : ∀ p H', Hs B ((p, .dK []) :: L) H' → tPairs trs σ H' (DispP p Q)) : NewP trs σ Q H := fun p hp => q p _ (hs.new hp)
theorem w_pcons {tk tv : TE} {trs : List (TE × TE)} {R : List (V × V) → Hp → Prop} (q : tk σ H fun k H1 => tv σ H1 fun v H2 => tPairs trs σ H2 fun ps H3 => R ((k, v) :: ps) H3) : tPairs ((tk, tv) :: trs) σ H R := q
theorem w_pnil {R : List (V × V) → Hp → Prop} (q : R [] H) : tPairs [] σ H R := q
theorem w_dispZ {p : Addr} {ps : List (V × V)} (ks : List Str) (vs : List V) (hs : Hs B L H) (h : Put L p (.dK []) (.dK (zipK ks vs)) L') (nd : ks.Nodup) (hl : ks.length ≤ 15) (hp : ps = (zipK ks vs).map (fun kv => (kV kv.1, kv.2))) (q : ∀ H', Hs B L' H' → Q (.ref p) H') : DispP p Q ps H := by
  refine ⟨hs.gets h, zipK ks vs, hp, ?_, ?_⟩
  · unfold zipK
    rw [List.length_zip, List.length_map]
    omega
  · rw [merge_zip nd (fun _ _ _ z => absurd z List.not_mem_nil)]
    exact q _ (hs.puts h)
end
end Hb

set_option Elab.async false
set_option maxRecDepth 100000
set_option maxHeartbeats 4000000
/-! Dicts whose keys are tuples of any depth; sorted of such keys. -/
namespace Hb
open PySem L2
mutual
/-- the value v in the abstract heap is the key k -/
inductive NK (H : Hp) : NestedKey → V → Prop
  | non : NK H .none .non
  | int (i : Int) : NK H (.num i) (.int i)
  | str (x : Str) : NK H (.text x) (.str x)
  | tup {p : Addr} {vs : List V} {ks : List NestedKey} : H p = some (.tup vs) → NKs H ks vs → NK H (.tup ks) (.ref p)
inductive NKs (H : Hp) : List NestedKey → List V → Prop
  | nil : NKs H [] []
  | cons {k : NestedKey} {v : V} {ks : List NestedKey} {vs : List V} : NK H k v → NKs H ks vs → NKs H (k :: ks) (v :: vs)
end
mutual
theorem NK.mono {H H' : Hp} (e : ∀ p xs, H p = some (.tup xs) → H' p = some (.tup xs)) : ∀ {k : NestedKey} {v : V}, NK H k v → NK H' k v
  | _, _, .non => .non
  | _, _, .int i => .int i
  | _, _, .str x => .str x
  | _, _, .tup h hs => .tup (e _ _ h) (NKs.mono e hs)
theorem NKs.mono {H H' : Hp} (e : ∀ p xs, H p = some (.tup xs) → H' p = some (.tup xs)) : ∀ {ks : List NestedKey} {vs : List V}, NKs H ks vs → NKs H' ks vs
  | _, _, .nil => .nil
  | _, _, .cons h hs => .cons (NK.mono e h) (NKs.mono e hs)
end
theorem NK.same {H H' : Hp} (e : Same H H') {k : NestedKey} {v : V} (h : NK H k v) : NK H' k v := h.mono fun _ _ => e _ _
mutual
theorem NK.inj {H : Hp} : ∀ {k k' : NestedKey} {v : V}, NK H k v → NK H k' v → k = k'
  | _, _, _, .non, h => by cases h; rfl
  | _, _, _, .int i, h => by cases h; rfl
  | _, _, _, .str x, h => by cases h; rfl
  | _, _, _, .tup h1 h2, h => by
    cases h with
    | tup k1 k2 =>
      rw [h1] at k1
      cases k1
      rw [NKs.inj h2 k2]
theorem NKs.inj {H : Hp} : ∀ {ks ks' : List NestedKey} {vs : List V}, NKs H ks vs → NKs H ks' vs → ks = ks'
  | _, _, _, .nil, h => by cases h; rfl
  | _, _, _, .cons h1 h2, h => by
    cases h with
    | cons k1 k2 => rw [NK.inj h1 k1, NKs.inj h2 k2]
end
mutual
theorem NK.im {K : PySem.W.Frag} {H : Hp} : ∀ {k : NestedKey} {v : V}, NK H k v → Im K H v k.data
  | _, _, .non => .non
  | _, _, .int i => .int i
  | _, _, .str x => .str x
  | _, _, .tup h hs => .tup h (NKs.im hs)
theorem NKs.im {K : PySem.W.Frag} {H : Hp} : ∀ {ks : List NestedKey} {vs : List V}, NKs H ks vs → ImAll K H vs (NestedKey.datas ks)
  | _, _, .nil => .nil
  | _, _, .cons h hs => .cons (NK.im h) (NKs.im hs)
end
section
variable {P : Program} {w : World} {H : Hp} {h : Heap}
mutual
theorem NK.is (ok : HOk P w H h) : ∀ {k : NestedKey} {v : V} {u : Value}, NK H k v → RelV v u → NestedIs h k u
  | _, _, _, .non, r => by
    cases (show _ = Value.none from r)
    exact .none
  | _, _, _, .int i, r => by
    obtain ⟨t, rfl⟩ := r
    exact .int i t
  | _, _, _, .str x, r => by
    obtain ⟨t, rfl⟩ := r
    exact .text x t
  | _, _, _, .tup e hs, r => by
    cases (show _ = Value.ref _ from r)
    obtain ⟨_, its, r2, o, ho, hc, n, hd⟩ := ok _ _ e
    exact .tup ho hc hd (NKs.is ok hs r2)
theorem NKs.is (ok : HOk P w H h) : ∀ {ks : List NestedKey} {vs : List V} {us : List Value}, NKs H ks vs → Vals vs us → NestedAll h ks us
  | _, _, _, .nil, r => by cases r; exact .nil
  | _, _, _, .cons h1 h2, r => by
    cases r with
    | cons r1 r2 => exact .cons (NK.is ok h1 r1) (NKs.is ok h2 r2)
end
end
/-- a key, where its tuple stands, what it holds -/
abbrev Ent := NestedKey × Addr × V
def atN (es : List Ent) (k : NestedKey) : Option V := (es.find? fun e => decide (e.1 = k)).map (·.2.2)
def putN (es : List Ent) (k : NestedKey) (b : Addr) (v : V) : List Ent := if (atN es k).isSome then es.map (fun e => if e.1 = k then (e.1, e.2.1, v) else e) else es ++ [(k, b, v)]
def dropN (es : List Ent) (k : NestedKey) : List Ent := es.filter fun e => decide (e.1 ≠ k)
abbrev RelE (p : Ent) (q : NestedKey × Addr × Value) : Prop := p.1 = q.1 ∧ p.2.1 = q.2.1 ∧ RelV p.2.2 q.2.2
abbrev RelEs : List Ent → List (NestedKey × Addr × Value) → Prop := Paired RelE
def entN (w : World) (x : NestedKey × Addr × Value) : DictEntry := ⟨x.1.hash w, .ref x.2.1, x.2.2⟩
def DNx (w : World) (a : Addr) (es : List Ent) (h : Heap) : Prop := es.length ≤ sizeLine ∧ (a == sysModules) = false ∧ ∃ xs, RelEs es xs ∧ ∃ o ds ep, h.get? a = some o ∧ o.ExactDict ∧ o.data = .dict ds ep ∧ ds.toList = xs.map (entN w) ∧ (xs.map (·.1)).Nodup
/-- a dict with such keys -/
abbrev DN (w : World) (a : Addr) (es : List Ent) : HO := .ext (DNx w a es)
/-- its keys stand as they are told -/
def EntsOk (H : Hp) (es : List Ent) : Prop := ∀ e ∈ es, NK H e.1 (.ref e.2.1) ∧ e.1.depth ≤ 8
theorem EntsOk.mono {H H' : Hp} (e : ∀ p xs, H p = some (.tup xs) → H' p = some (.tup xs)) {es : List Ent} (h : EntsOk H es) : EntsOk H' es := fun x hx => ⟨(h x hx).1.mono e, (h x hx).2⟩
theorem EntsOk.same {H H' : Hp} (e : Same H H') {es : List Ent} (h : EntsOk H es) : EntsOk H' es := h.mono fun _ _ => e _ _
theorem EntsOk.nil {H : Hp} : EntsOk H [] := fun _ h => nomatch h
theorem EntsOk.drop {H : Hp} {es : List Ent} {k : NestedKey} (h : EntsOk H es) : EntsOk H (dropN es k) := fun e he => h e (List.mem_filter.mp he).1
theorem EntsOk.put {H : Hp} {es : List Ent} {k : NestedKey} {b : Addr} {v : V} (h : EntsOk H es) (hk : NK H k (.ref b)) (hd : k.depth ≤ 8) : EntsOk H (putN es k b v) := fun e he => by
  unfold putN at he
  split at he
  · obtain ⟨y, hy, rfl⟩ := List.mem_map.mp he
    by_cases hc : y.1 = k
    · rw [if_pos hc]
      exact h y hy
    · rw [if_neg hc]
      exact h y hy
  · rcases List.mem_append.mp he with m | m
    · exact h e m
    · rw [List.mem_singleton.mp m]
      exact ⟨hk, hd⟩
theorem RelEs.at {es : List Ent} {xs : List (NestedKey × Addr × Value)} (r : RelEs es xs) (k : NestedKey) : RelO (atN es k) ((atKey xs k).map (·.2)) := by
  induction r with
  | nil => exact trivial
  | @cons p q ps qs h _ ih =>
    obtain ⟨h1, h2, h3⟩ := h
    unfold atN atKey at ih ⊢
    rw [List.find?_cons, List.find?_cons, ← h1]
    by_cases hc : p.1 = k
    · rw [decide_eq_true hc]
      exact h3
    · rw [decide_eq_false hc]
      exact ih
theorem RelEs.keys {es : List Ent} {xs : List (NestedKey × Addr × Value)} (r : RelEs es xs) : xs.map (·.1) = es.map (·.1) := by
  induction r with
  | nil => rfl
  | cons h _ ih => rw [List.map_cons, List.map_cons, ih, h.1]
theorem RelEs.some {es : List Ent} {xs : List (NestedKey × Addr × Value)} (r : RelEs es xs) (k : NestedKey) : (atN es k).isSome = (atKey xs k).isSome := by
  have q := (r.at k).isSome_eq
  rw [Option.isSome_map] at q
  exact q
theorem relEs_map {k : NestedKey} {v : V} {u : Value} (hv : RelV v u) : ∀ {es : List Ent} {xs : List (NestedKey × Addr × Value)}, RelEs es xs → RelEs (es.map (fun e => if e.1 = k then (e.1, e.2.1, v) else e)) (xs.map (putAt k u))
  | _, _, .nil => .nil
  | p :: ps, q :: qs, .cons h t => by
    refine .cons ?_ (relEs_map hv t)
    show RelE (if p.1 = k then (p.1, p.2.1, v) else p) (if q.1 = k then (q.1, q.2.1, u) else q)
    rw [← h.1]
    by_cases hc : p.1 = k
    · rw [if_pos hc, if_pos hc]
      exact ⟨rfl, h.2.1, hv⟩
    · rw [if_neg hc, if_neg hc]
      exact h
theorem relEs_snoc {p : Ent} {q : NestedKey × Addr × Value} (h : RelE p q) : ∀ {es : List Ent} {xs : List (NestedKey × Addr × Value)}, RelEs es xs → RelEs (es ++ [p]) (xs ++ [q])
  | _, _, .nil => .cons h .nil
  | _, _, .cons r t => .cons r (relEs_snoc h t)
theorem RelEs.put {es : List Ent} {xs : List (NestedKey × Addr × Value)} (r : RelEs es xs) (k : NestedKey) (b : Addr) {v : V} {u : Value} (hv : RelV v u) : RelEs (putN es k b v) (storedH xs k b u) := by
  unfold putN storedH
  rw [r.some k]
  cases (atKey xs k).isSome with
  | true =>
    rw [if_pos rfl, if_pos rfl]
    exact relEs_map hv r
  | false =>
    rw [if_neg Bool.false_ne_true, if_neg Bool.false_ne_true]
    exact relEs_snoc ⟨rfl, rfl, hv⟩ r
theorem RelEs.drop {es : List Ent} {xs : List (NestedKey × Addr × Value)} (r : RelEs es xs) (k : NestedKey) : RelEs (dropN es k) (withoutH xs k) := by
  unfold dropN withoutH
  induction r with
  | nil => exact .nil
  | @cons p q ps qs h _ ih =>
    rw [List.filter_cons, List.filter_cons, ← h.1]
    by_cases hc : p.1 = k
    · have e : decide (p.1 ≠ k) = false := decide_eq_false (fun z => z hc)
      rw [e]
      exact ih
    · have e : decide (p.1 ≠ k) = true := decide_eq_true hc
      rw [e]
      exact .cons h ih
theorem RelEs.len {es : List Ent} {xs : List (NestedKey × Addr × Value)} (r : RelEs es xs) : es.length = xs.length := Paired.length r
theorem putN_len {es : List Ent} {k : NestedKey} {b : Addr} {v : V} : (putN es k b v).length ≤ es.length + 1 := by
  unfold putN
  split
  · rw [List.length_map]
    omega
  · rw [List.length_append, List.length_singleton]
    exact Nat.le_refl _
theorem dropN_len {es : List Ent} {k : NestedKey} : (dropN es k).length ≤ es.length := List.length_filter_le _ _
section
variable {P : Program} {w : World} {H : Hp} {h : Heap} {a : Addr} {es : List Ent}
theorem dn_of (ok : HOk P w H h) (e : H a = some (DN w a es)) (hk : EntsOk H es) : es.length ≤ sizeLine ∧ (a == sysModules) = false ∧ ∃ xs, RelEs es xs ∧ h.DictOfH (nestedKind P w) a xs := by
  obtain ⟨⟨z, y, xs, r, o, ds, ep, h1, h2, h3, h4, h5⟩, _, _⟩ := (show ObjOk P w H h a (DN w a es) from ok _ _ e)
  refine ⟨z, y, xs, r, o, ds, ep, h1, h2, h3, h4, ?_, h5⟩
  have all : ∀ {l : List Ent} {m : List (NestedKey × Addr × Value)}, EntsOk H l → RelEs l m → ∀ x ∈ m, (nestedKind P w).is h x.1 x.2.1 := by
    intro l m hl r
    induction r with
    | nil => exact fun _ hx => nomatch hx
    | @cons p q ps qs hpq _ ih =>
      intro x hx
      rcases List.mem_cons.mp hx with rfl | hx
      · obtain ⟨k1, k2⟩ := hl p List.mem_cons_self
        rw [← hpq.1, ← hpq.2.1]
        exact ⟨k1.is ok rfl, k2⟩
      · exact ih (fun e he => hl e (List.mem_cons_of_mem _ he)) x hx
  exact all hk r
theorem dn_obj {H' : Hp} {h' : Heap} {xs : List (NestedKey × Addr × Value)} (z : es.length ≤ sizeLine) (y : (a == sysModules) = false) (r : RelEs es xs) (dd : h'.DictOfH (nestedKind P w) a xs) : ObjOk P w H' h' a (DN w a es) := by
  obtain ⟨o, ds, ep, h1, h2, h3, h4, _, h5⟩ := dd
  refine ⟨⟨z, y, xs, r, o, ds, ep, h1, h2, h3, h4, h5⟩, ⟨o, h1⟩, fun g1 g2 ⟨z, y, xs, r, o, ds, ep, h1, h2⟩ hg => ⟨z, y, xs, r, o, ds, ep, hg _ h1, h2⟩⟩
theorem dn_empty (h : Heap) (hb : sysModules < h.objs.size) : ObjOk P w H (h.push { cls := .type "dict", data := .dict #[] }) h.objs.size (DN w h.objs.size []) :=
  dn_obj (Nat.zero_le _) (beq_eq_false_iff_ne.mpr (Ne.symm (Nat.ne_of_lt hb))) .nil (Heap.DictOfH.new h)
end
/-- the parts of what is asked of such a dict -/
structure AtN (w : World) (H : Hp) (x y : V) (a b : Addr) (es : List Ent) (k : NestedKey) : Prop where
  ex : x = .ref a
  ey : y = .ref b
  ha : H a = some (DN w a es)
  he : EntsOk H es
  hk : NK H k (.ref b)
  hd : k.depth ≤ 8
def rNGet (w : World) (x y : V) (H : Hp) (Q : VK) : Prop := ∃ a b es k v, AtN w H x y a b es k ∧ atN es k = some v ∧ Q v H
def rNIn (w : World) (x y : V) (H : Hp) (Q : Bool → Prop) : Prop := ∃ a b es k, AtN w H x y a b es k ∧ Q (atN es k).isSome
def rNPut (w : World) (x y v : V) (H : Hp) (Q : Hp → Prop) : Prop := ∃ a b es k, AtN w H x y a b es k ∧ es.length < sizeLine ∧ Q (upd H a (DN w a (putN es k b v)))
def rNDel (w : World) (x y : V) (H : Hp) (Q : V → Hp → Prop) : Prop := ∃ a b es k v, AtN w H x y a b es k ∧ atN es k = some v ∧ Q v (upd H a (DN w a (dropN es k)))
def tNGet (w : World) (td ty : TE) : TE := fun σ H Q => td σ H fun x H1 => ty σ H1 fun y H2 => rNGet w x y H2 Q
def tNIn (w : World) (ty td : TE) : TE := fun σ H Q => ty σ H fun y H1 => td σ H1 fun x H2 => rNIn w x y H2 fun b => Q (.bl b) H2
def tNNot (w : World) (ty td : TE) : TE := fun σ H Q => ty σ H fun y H1 => td σ H1 fun x H2 => rNIn w x y H2 fun b => Q (.bl (!b)) H2
def sNPut (w : World) (td ty tv : TE) : TS := fun D σ H => tv σ H fun v H1 => td σ H1 fun x H2 => ty σ H2 fun y H3 => rNPut w x y v H3 fun H4 => D.nx σ H4
def sNDel (w : World) (td ty : TE) : TS := fun D σ H => td σ H fun x H1 => ty σ H1 fun y H2 => rNDel w x y H2 fun _ H3 => D.nx σ H3
def tNNew (w : World) : TE := fun _ H Q => ∀ p, H p = none → Q (.ref p) (upd H p (DN w p []))
def tNPop (w : World) (td ty : TE) : TE := fun σ H Q => td σ H fun x H1 => (∃ a es, x = .ref a ∧ H1 a = some (DN w a es)) ∧ ty σ H1 fun y H2 => rNDel w x y H2 Q
section
variable {X : Cx} {w : World} {o i value : Expr} {pos pos' tpos : Pos} {td ty tv : TE}
theorem AtN.dn {H : Hp} {x y : V} {a b : Addr} {es : List Ent} {k : NestedKey} {pins : List (Addr × Obj)} {σ : St} {s : Shared} (I : Inv X pins σ H s) (hw : X.w = w) (g : AtN w H x y a b es k) : es.length ≤ sizeLine ∧ (a == sysModules) = false ∧ ∃ xs, RelEs es xs ∧ s.heap.DictOfH (nestedKind X.prog X.w) a xs ∧ (nestedKind X.prog X.w).is s.heap k b := by
  subst hw
  obtain ⟨z, hd, xs, r, dd⟩ := dn_of I.hok g.ha g.he
  exact ⟨z, hd, xs, r, dd, g.hk.is I.hok rfl, g.hd⟩
theorem n_room {A : Around} (hu : A.units + 64 < cLine) {P : Program} {w : World} : (nestedKind P w).room A.in1 := by
  show A.in1.units + 8 < cLine
  have e : A.in1.units = A.units + 1 := rfl
  omega
theorem pe_ndget (hu : X.A.units + 64 < cLine) (ho : PE X o td) (hi : PE X i ty) (hs : NoSl i) (hw : X.w = w := by rfl) : PE X (.Subscript o i pos) (tNGet w td ty) := by
  refine ⟨fun pins s σ H Q I h => ?_⟩
  refine subD_of PySem.F.slot_dict_getitem.lookup hs (thn (ho.run pins s σ H _ I h) fun u s1 ⟨x, H1, I1, rx, q1⟩ => thn (hi.run pins s1 σ H1 _ I1 q1) fun iv s2 ⟨y, H2, I2, ry, a, b, es, k, v, g, hv, q2⟩ => ?_)
  obtain ⟨z, hd, xs, r, dd, hk⟩ := g.dn I2 hw
  cases g.ex
  cases g.ey
  obtain rfl : u = Value.ref a := rx
  obtain rfl : iv = Value.ref b := ry
  obtain ⟨w', hw', rw'⟩ := RelO.some_of (v := v) (o := (atKey xs k).map (·.2)) (by rw [← hv]; exact r.at k)
  obtain ⟨p, hp, hp2⟩ := Option.map_eq_some_iff.mp hw'
  refine ⟨dd.typeIs, wpAny_getItem_heap (n_room hu) hk dd hp ?_⟩
  rw [hp2]
  exact ⟨v, H2, I2.tok _, rw', q2⟩
theorem pc_nin (hu : X.A.units + 64 < cLine) (hi : PE X i ty) (ho : PE X o td) (hw : X.w = w := by rfl) : PC X .In i o (tNIn w ty td) := by
  refine ⟨fun pins s σ H Q I h => ?_⟩
  refine thn (hi.run pins s σ H _ I h) fun iv s1 ⟨y, H1, I1, ry, q1⟩ => thn (ho.run pins s1 σ H1 _ I1 q1) fun u s2 ⟨x, H2, I2, rx, a, b, es, k, g, q2⟩ => ?_
  obtain ⟨z, hd, xs, r, dd, hk⟩ := g.dn I2 hw
  cases g.ex
  cases g.ey
  obtain rfl : u = Value.ref a := rx
  obtain rfl : iv = Value.ref b := ry
  refine wpAny_in_heap (n_room hu) hk hd dd ?_
  rw [← r.some k]
  exact ⟨.bl _, H2, I2.tok _, rfl, q2⟩
theorem pc_nnot (hu : X.A.units + 64 < cLine) (hi : PE X i ty) (ho : PE X o td) (hw : X.w = w := by rfl) : PC X .NotIn i o (tNNot w ty td) := by
  refine ⟨fun pins s σ H Q I h => ?_⟩
  refine thn (hi.run pins s σ H _ I h) fun iv s1 ⟨y, H1, I1, ry, q1⟩ => thn (ho.run pins s1 σ H1 _ I1 q1) fun u s2 ⟨x, H2, I2, rx, a, b, es, k, g, q2⟩ => ?_
  obtain ⟨z, hd, xs, r, dd, hk⟩ := g.dn I2 hw
  cases g.ex
  cases g.ey
  obtain rfl : u = Value.ref a := rx
  obtain rfl : iv = Value.ref b := ry
  refine PyProof.Rows.wpAny_notIn_heap (n_room hu) hk hd dd ?_
  rw [← r.some k]
  exact ⟨.bl _, H2, I2.tok _, rfl, q2⟩
theorem ps_nput (hu : X.A.units + 64 < cLine) (ho : PE X o td) (hi : PE X i ty) (hv : PE X value tv) (hs : swapsWith value (some (.Subscript o i pos')) pos.line X.env = pure false) (hw : X.w = w := by rfl) :
    PS X (.Assign [.Subscript o i pos'] value pos) (sNPut w td ty tv) := by
  refine ⟨fun pins s σ H D I h => ?_⟩
  refine wpAny_Assign_Subscript (thn (hv.run pins s σ H _ I h) fun r s1 ⟨v, H1, I1, rv, q1⟩ => thn (ho.run pins s1 σ H1 _ I1 q1) fun u s2 ⟨x, H2, I2, rx, q2⟩ => thn (hi.run pins s2 σ H2 _ I2 q2) fun iv s3 ⟨y, H3, I3, ry, a, b, es, k, g, hl, q3⟩ => ?_) hs
  obtain ⟨z, hd, xs, rr, dd, hk⟩ := g.dn I3 hw
  subst hw
  cases g.ex
  cases g.ey
  obtain rfl : u = Value.ref a := rx
  obtain rfl : iv = Value.ref b := ry
  have hz : xs.length ≤ sizeLine := by rw [← rr.len]; exact z
  have hl2 : (putN es k b v).length ≤ sizeLine := Nat.le_trans putN_len hl
  refine wpAny_setItem_heap (hsz := hz) (n_room hu) hk dd fun h' dd' hs => ⟨σ, _, ?_, q3⟩
  have he : ∃ q, h'.get? a = some q := let ⟨q, _, _, hq, _⟩ := dd'; ⟨q, hq⟩
  exact d_write I3 (by rw [g.ha]; exact True.intro) hs he (dn_obj hl2 hd (rr.put k b rv) dd')
theorem ps_ndel (hu : X.A.units + 64 < cLine) (ho : PE X o td) (hi : PE X i ty) (hw : X.w = w := by rfl) : PS X (.Delete [.Subscript o i tpos] pos) (sNDel w td ty) := by
  refine ⟨fun pins s σ H D I h => ?_⟩
  refine wpAny_Delete (wpAny_deleteEach_cons (wpAny_delete_Subscript (thn (ho.run pins s σ H _ I h) fun u s1 ⟨x, H1, I1, rx, q1⟩ => thn (hi.run pins s1 σ H1 _ I1 q1) fun iv s2 ⟨y, H2, I2, ry, a, b, es, k, v, g, hv, q2⟩ => ?_)))
  obtain ⟨z, hd, xs, rr, dd, hk⟩ := g.dn I2 hw
  subst hw
  cases g.ex
  cases g.ey
  obtain rfl : u = Value.ref a := rx
  obtain rfl : iv = Value.ref b := ry
  have hz : xs.length ≤ sizeLine := by rw [← rr.len]; exact z
  obtain ⟨w', hw', rw'⟩ := RelO.some_of (v := v) (o := (atKey xs k).map (·.2)) (by rw [← hv]; exact rr.at k)
  obtain ⟨p, hp, hp2⟩ := Option.map_eq_some_iff.mp hw'
  refine wpAny_delItem_heap (hsz := hz) (n_room hu) hk hd dd hp fun h' dd' hs => wpAny_deleteEach_nil ⟨σ, _, ?_, q2⟩
  have he : ∃ q, h'.get? a = some q := let ⟨q, _, _, hq, _⟩ := dd'; ⟨q, hq⟩
  exact d_write I2 (by rw [g.ha]; exact True.intro) hs he (dn_obj (Nat.le_trans dropN_len z) hd (rr.drop k) dd')
theorem dn_type {H : Hp} {a : Addr} {es : List Ent} {pins : List (Addr × Obj)} {σ : St} {s : Shared} (I : Inv X pins σ H s) (e : H a = some (DN w a es)) : s.TypeIs (.ref a) "dict" ∧ ∀ b, Value.ref a = .ref b → ∃ ob, s.heap.get? b = some ob ∧ ob.dict = none := by
  obtain ⟨⟨z, y, xs, r, o, ds, ep, h1, h2, h3, h4, h5⟩, _, _⟩ := (show ObjOk X.prog X.w H s.heap a (DN w a es) from I.hok _ _ e)
  exact ⟨⟨o, h1, h2.1⟩, fun b q => by
    cases q
    exact ⟨o, h1, h2.2.1⟩⟩
theorem pe_npop {e : Expr} {apos cpos : Pos} (hu : X.A.units + 64 < cLine) (ho : PE X o td) (he : PE X e ty) (m : M1 X o "pop" apos e cpos) (hw : X.w = w := by rfl) : PE X (.Call (.Attribute o "pop" apos) [e] [] cpos) (tNPop w td ty) := by
  refine ⟨fun pins s σ H Q I h => ?_⟩
  refine wpAny_Call_method m.base m.few m.line PySem.F.plainAttrs_dict PySem.F.slot_dict_pop PySem.F.type_dict_pop (thn (ho.run pins s σ H _ I h) fun u s1 ⟨x, H1, I1, rx, ⟨a0, es0, ex, ea⟩, q1⟩ => ?_)
  cases ex
  obtain rfl : u = Value.ref a0 := rx
  obtain ⟨t1, t2⟩ := dn_type I1 ea
  refine ⟨t1, t2, ?_⟩
  rw [m.trees]
  refine Calls.callWith_builtin rfl (Calls.evalArgs_plain (Calls.spliced_cons (thn (he.run pins s1 σ H1 _ I1 q1) fun iv s2 ⟨y, H2, I2, ry, a, b, es, k, v, g, hv, q2⟩ => Calls.spliced_nil ?_)))
  obtain ⟨z, hd, xs, rr, dd, hk⟩ := g.dn I2 hw
  subst hw
  cases g.ex
  cases g.ey
  obtain rfl : iv = Value.ref b := ry
  have hz : xs.length ≤ sizeLine := by rw [← rr.len]; exact z
  obtain ⟨w', hw', rw'⟩ := RelO.some_of (v := v) (o := (atKey xs k).map (·.2)) (by rw [← hv]; exact rr.at k)
  obtain ⟨p, hp, hp2⟩ := Option.map_eq_some_iff.mp hw'
  refine call_pop_heap (hsz := hz) (.inl rfl) (PySem.F.args_dict_pop_2 _ _) (n_room hu) hk hd dd hp fun h' dd' hs => ?_
  have he : ∃ q, h'.get? a0 = some q := let ⟨q, _, _, hq, _⟩ := dd'; ⟨q, hq⟩
  rw [hp2]
  exact ⟨v, _, d_write I2 (by rw [g.ha]; exact True.intro) hs he (dn_obj (Nat.le_trans dropN_len z) hd (rr.drop k) dd'), rw', q2⟩
theorem pe_nnew (hw : X.w = w := by rfl) : PE X (.Dict [] [] pos) (tNNew w) := ⟨fun pins s σ H Q I h => by
  subst hw
  exact wpAny_Dict_empty ⟨.ref s.heap.objs.size, _, I.laid (a := s.heap.objs.size) (o := DN X.w s.heap.objs.size []) (t' := s.toks) (fun _ _ q => Heap.get?_push_of_some _ q) (Nat.le_refl _) (dn_empty s.heap I.big), rfl, h _ (I.hok.fresh (Nat.le_refl _))⟩⟩
end
end Hb

set_option Elab.async false
set_option maxRecDepth 100000
set_option maxHeartbeats 4000000
/-! sorted(..) of tuples of ints and of tuples of ints. -/
namespace Hb
open PySem L2 PyProof.Rows
/-! ### the order of rows of ints -/
abbrev lexI (x y : List Int) : Bool := HT.lexLt x y
theorem lexI_cons {x y : Int} {xs ys : List Int} : lexI (x :: xs) (y :: ys) = if x = y then lexI xs ys else decide (x < y) := rfl
theorem lexI_self : ∀ x : List Int, lexI x x = false
  | [] => rfl
  | x :: xs => by rw [lexI_cons, if_pos rfl]; exact lexI_self xs
theorem lexI_asym : ∀ x y : List Int, lexI x y = true → lexI y x = false
  | [], [], h => nomatch h
  | [], _ :: _, _ => rfl
  | _ :: _, [], h => nomatch h
  | x :: xs, y :: ys, h => by
    rw [lexI_cons] at h ⊢
    by_cases e : x = y
    · rw [if_pos e] at h
      rw [if_pos e.symm]
      exact lexI_asym xs ys h
    · rw [if_neg e] at h
      rw [if_neg (fun q => e q.symm)]
      have := of_decide_eq_true h
      exact decide_eq_false (by omega)
theorem lexI_tr : ∀ x y z : List Int, lexI y x = false → lexI z y = false → lexI z x = false
  | [], [], _, _, h => h
  | [], _ :: _, _, h1, _ => by
    rename_i z _
    cases z with
    | nil => rfl
    | cons z zs => rfl
  | _ :: _, [], _, h1, _ => nomatch h1
  | x :: xs, y :: ys, [], h1, h2 => nomatch h2
  | x :: xs, y :: ys, z :: zs, h1, h2 => by
    rw [lexI_cons] at h1 h2 ⊢
    by_cases e1 : y = x
    · subst e1
      rw [if_pos rfl] at h1
      by_cases e2 : z = y
      · subst e2
        rw [if_pos rfl] at h2
        rw [if_pos rfl]
        exact lexI_tr xs ys zs h1 h2
      · rw [if_neg e2] at h2 ⊢
        exact h2
    · rw [if_neg e1] at h1
      have g1 := of_decide_eq_false h1
      by_cases e2 : z = y
      · subst e2
        rw [if_neg e1]
        exact h1
      · rw [if_neg e2] at h2
        have g2 := of_decide_eq_false h2
        rw [if_neg (by omega)]
        exact decide_eq_false (by omega)
theorem lexI_total : ∀ x y : List Int, lexI x y = false → lexI y x = false → x = y
  | [], [], _, _ => rfl
  | [], _ :: _, h, _ => nomatch h
  | _ :: _, [], _, h => nomatch h
  | x :: xs, y :: ys, h1, h2 => by
    rw [lexI_cons] at h1 h2
    by_cases e : x = y
    · subst e
      rw [if_pos rfl] at h1 h2
      rw [lexI_total xs ys h1 h2]
    · rw [if_neg e] at h1
      rw [if_neg (fun q => e q.symm)] at h2
      have g1 := of_decide_eq_false h1
      have g2 := of_decide_eq_false h2
      omega
theorem lexI_app : ∀ {x y r t : List Int}, x.length = y.length → lexI (x ++ r) (y ++ t) = if x = y then lexI r t else lexI x y
  | [], [], r, t, _ => by rw [if_pos rfl]; rfl
  | x :: xs, y :: ys, r, t, h => by
    have h' : xs.length = ys.length := by simpa using h
    show lexI (x :: (xs ++ r)) (y :: (ys ++ t)) = _
    rw [lexI_cons, lexI_cons]
    by_cases e : x = y
    · subst e
      rw [if_pos rfl, if_pos rfl, lexI_app h']
      by_cases e2 : xs = ys
      · rw [if_pos e2, if_pos (by rw [e2])]
      · rw [if_neg e2, if_neg (fun q => e2 (List.cons.inj q).2)]
    · rw [if_neg e, if_neg e, if_neg (fun q => e (List.cons.inj q).1)]
theorem swo_lexI {α : Type} (f : α → List Int) : SrtO.Swo fun x y => lexI (f x) (f y) := ⟨fun _ _ => lexI_asym _ _, fun _ _ _ => lexI_tr _ _ _⟩
/-! ### tuples of ints and of tuples of ints -/
abbrev Itm := Int ⊕ List Int
def flI : Itm → List Int
  | .inl i => [i]
  | .inr ns => ns
def flK (ks : List Itm) : List Int := ks.flatMap flI
def shp : Itm → Option Nat
  | .inl _ => none
  | .inr ns => some ns.length
def nkI : Itm → NestedKey
  | .inl i => .num i
  | .inr ns => .tup (ns.map .num)
def nkK (ks : List Itm) : NestedKey := .tup (ks.map nkI)
theorem shp_len {x y : Itm} (h : shp x = shp y) : (flI x).length = (flI y).length := by
  cases x with
  | inl i =>
    cases y with
    | inl j => rfl
    | inr ms => cases h
  | inr ns =>
    cases y with
    | inl j => cases h
    | inr ms => exact Option.some.inj h
theorem flI_inj {x y : Itm} (h : shp x = shp y) (e : flI x = flI y) : x = y := by
  cases x with
  | inl i =>
    cases y with
    | inl j => cases e; rfl
    | inr ms => cases h
  | inr ns =>
    cases y with
    | inl j => cases h
    | inr ms => cases e; rfl
theorem flK_inj : ∀ {xs ys : List Itm}, xs.map shp = ys.map shp → flK xs = flK ys → xs = ys
  | [], [], _, _ => rfl
  | [], _ :: _, h, _ => nomatch h
  | _ :: _, [], h, _ => nomatch h
  | x :: xs, y :: ys, h, e => by
    have h1 : shp x = shp y := (List.cons.inj h).1
    have e' : flI x ++ flK xs = flI y ++ flK ys := e
    have h2 := List.append_inj e' (shp_len h1)
    rw [flI_inj h1 h2.1, flK_inj (List.cons.inj h).2 h2.2]
theorem nums_inj : ∀ {a b : List Int}, a.map NestedKey.num = b.map NestedKey.num → a = b
  | [], [], _ => rfl
  | [], _ :: _, h => nomatch h
  | _ :: _, [], h => nomatch h
  | x :: xs, y :: ys, h => by
    have h1 := List.cons.inj h
    rw [NestedKey.num.inj h1.1, nums_inj h1.2]
theorem nkI_inj {x y : Itm} (h : nkI x = nkI y) : x = y := by
  cases x with
  | inl i =>
    cases y with
    | inl j => cases h; rfl
    | inr ms => cases h
  | inr ns =>
    cases y with
    | inl j => cases h
    | inr ms => rw [nums_inj (NestedKey.tup.inj h)]
section
variable {prog : Program} {w : World} {A : Around} {E : Value → Shared → Prop} {s : Shared}
theorem lt_any {f : Bool} {a b : Int} {t u : Tok} {Q : Bool → Shared → Prop} (h : Q (decide (a < b)) s) : wpAny (model prog w) A (oneLt' f (.int a t) (.int b u)) Q (fun _ _ => False) s := by
  cases f with
  | true => exact oneLt_int h
  | false => exact PySem.W.kat_one _ _ (lt_int h)
/-- an item of such a tuple -/
def ItIs (h : Heap) : Itm → Value → Prop
  | .inl i, v => ∃ t, v = .int i t
  | .inr ns, v => ∃ p items, v = .ref p ∧ IsTup h p items ∧ IntsAre items.toList ns
def K2Is (h : Heap) (ks : List Itm) (v : Value) : Prop := ∃ p o n vs, v = .ref p ∧ h.get? p = some o ∧ o.cls = .type "tuple" ∧ o.data = .seq vs n ∧ Paired (ItIs h) ks vs.toList
theorem ItIs.keeps {h h' : Heap} (k : ∀ b o, h.get? b = some o → o.cls = .type "tuple" → h'.get? b = some o) {x : Itm} {v : Value} (r : ItIs h x v) : ItIs h' x v := by
  cases x with
  | inl i => exact r
  | inr ns =>
    obtain ⟨p, items, e, ⟨o, ho, hc, n, hd⟩, hi⟩ := r
    exact ⟨p, items, e, ⟨o, k _ _ ho hc, hc, n, hd⟩, hi⟩
theorem K2Is.keeps {h h' : Heap} (k : ∀ b o, h.get? b = some o → o.cls = .type "tuple" → h'.get? b = some o) {ks : List Itm} {v : Value} (r : K2Is h ks v) : K2Is h' ks v := by
  obtain ⟨p, o, n, vs, e, ho, hc, hd, r⟩ := r
  exact ⟨p, o, n, vs, e, k _ _ ho hc, hc, hd, Paired.mapP r fun a b => ItIs.keeps k⟩
theorem ints_nested {h : Heap} : ∀ {vs : List Value} {ns : List Int}, IntsAre vs ns → NestedAll h (ns.map .num) vs
  | _, _, .nil => .nil
  | _, _, .cons i t r => .cons (.int i t) (ints_nested r)
theorem ItIs.nested {h : Heap} {x : Itm} {v : Value} (r : ItIs h x v) : NestedIs h (nkI x) v := by
  cases x with
  | inl i =>
    obtain ⟨t, rfl⟩ := r
    exact .int i t
  | inr ns =>
    obtain ⟨p, items, rfl, ⟨o, ho, hc, n, hd⟩, hi⟩ := r
    exact .tup ho hc hd (ints_nested hi)
theorem depth_nums : ∀ ns : List Int, NestedKey.depthAll (ns.map .num) ≤ 1
  | [] => by simp [NestedKey.depthAll]
  | n :: ns => by
    have := depth_nums ns
    simp only [List.map_cons, NestedKey.depthAll, NestedKey.depth]
    omega
theorem depth_nkI (x : Itm) : (nkI x).depth ≤ 2 := by
  cases x with
  | inl i => simp [nkI, NestedKey.depth]
  | inr ns =>
    have := depth_nums ns
    simp only [nkI, NestedKey.depth]
    omega
theorem k2_lex {b fin : Bool} {Q : Bool → Shared → Prop} (hu : A.units + 2 < cLine) : ∀ {xs ys : List Itm} {vs ws : List Value} {i : Nat}, Paired (ItIs s.heap) xs vs → Paired (ItIs s.heap) ys ws → xs.map shp = ys.map shp → (b = true → i = 0 → ∀ x ∈ xs.head?, shp x = none) → fin = false → Q (lexI (flK xs) (flK ys)) s →
    PySem.W.KatLex prog w A b fin Q (vs.zip ws) i s
  | _, _, _, _, i, .nil, .nil, _, _, hf, h => by
    subst hf
    exact PySem.W.kat_nil h
  | _, _, _, _, _, .nil, .cons _ _, hs, _, _, _ => nomatch hs
  | _, _, _, _, _, .cons _ _, .nil, hs, _, _, _ => nomatch hs
  | x :: xs, y :: ys, v :: vs, u :: us, i, .cons r rs, .cons q qs, hs, hb, hf, h => by
    have h1 : shp x = shp y := (List.cons.inj hs).1
    have h2 := (List.cons.inj hs).2
    have e : lexI (flK (x :: xs)) (flK (y :: ys)) = if flI x = flI y then lexI (flK xs) (flK ys) else lexI (flI x) (flI y) := lexI_app (shp_len h1)
    rw [e] at h
    refine PySem.W.kat_cons (eqAt_key (nkI x) (nkI y) A s v u r.nested q.nested (by have := depth_nkI x; omega) prog w _ _ ?_)
    rw [← NestedKey.decide_eq]
    refine PySem.W.kat_go (fun e1 => ?_) (fun e1 => ?_)
    · have e2 : x = y := nkI_inj (of_decide_eq_true e1)
      rw [if_pos (by rw [e2])] at h
      exact PySem.W.kat_yes (k2_lex hu rs qs h2 (fun _ z => nomatch z) hf h)
    · have e2 : ¬ flI x = flI y := fun z => of_decide_eq_false e1 (by rw [flI_inj h1 z])
      rw [if_neg e2] at h
      refine PySem.W.kat_no ?_
      cases x with
      | inl n =>
        cases y with
        | inr ms => cases h1
        | inl m =>
          obtain ⟨t, rfl⟩ := r
          obtain ⟨t', rfl⟩ := q
          have e3 : lexI (flI (.inl n)) (flI (.inl m)) = decide (n < m) := by
            show lexI [n] [m] = _
            rw [lexI_cons, if_neg (fun z => e2 (by rw [z]))]
          rw [e3] at h
          exact lt_any h
      | inr ns =>
        cases y with
        | inl m => cases h1
        | inr ms =>
          have hc : (b && i == 0) = false := by
            cases hb1 : b with
            | false => rfl
            | true =>
              cases hi : i == 0 with
              | false => rfl
              | true =>
                have := hb hb1 (by simpa using hi) (.inr ns) rfl
                cases this
          rw [hc]
          obtain ⟨p, its, rfl, ht, hi⟩ := r
          obtain ⟨p', its', rfl, ht', hi'⟩ := q
          exact PySem.W.kat_one _ _ (HT.lt_tupInts ht ht' hi hi' (by omega) h)
theorem paired_len {α β : Type} {R : α → β → Prop} {xs : List α} {ys : List β} (h : Paired R xs ys) : xs.length = ys.length := Paired.length h
/-- the first items -/
theorem firsts2 {h : Heap} {k : Value → List Itm} {c : Option Nat} {sh : List (Option Nat)} : ∀ {vs : List Value}, (∀ v ∈ vs, K2Is h (k v) v ∧ (k v).map shp = c :: sh) → ∃ fs : List Value, PySem.W.KatTups h vs fs ∧ fs.length = vs.length ∧ ∀ f ∈ fs, ∃ x, ItIs h x f ∧ shp x = c
  | [], _ => ⟨[], PySem.W.KatTups.nil, rfl, fun _ hm => by simp at hm⟩
  | v :: vs, hp => by
    obtain ⟨fs, h1, h2, h3⟩ := firsts2 (vs := vs) fun v' hm => hp v' (List.mem_cons_of_mem _ hm)
    obtain ⟨⟨p, o, n, ws, e, ho, hc, hd, r⟩, hsh⟩ := hp v (List.mem_cons_self ..)
    generalize k v = ks at r hsh
    match ks, hsh, hw : ws.toList, r with
    | x :: ks, hsh, u :: us, .cons r _ =>
      subst e
      refine ⟨u :: fs, PySem.W.KatTups.cons ho hc hd (by rw [← Array.getElem?_toList, hw]; rfl) h1, by rw [List.length_cons, List.length_cons, h2], fun f hm => ?_⟩
      rcases List.mem_cons.mp hm with rfl | hm
      · exact ⟨x, r, (List.cons.inj hsh).1⟩
      · exact h3 f hm
theorem k2_cmp {vs : List Value} {k : Value → List Itm} {b : Bool} {c : Option Nat} {sh : List (Option Nat)} (hu : A.units + 2 < cLine) (hb : b = true → c = none) (hp : ∀ v ∈ vs, K2Is s.heap (k v) v ∧ (k v).map shp = c :: sh) : SrtO.Cmp prog w A s (tuples' b) (fun p => p.1 ∈ vs) (SrtO.lt2 fun v u => lexI (flK (k v)) (flK (k u))) := by
  intro p q hm hm'
  obtain ⟨⟨a, o, n, ws, e, ho, hc, hd, r⟩, hs⟩ := hp _ hm
  obtain ⟨⟨a', o', n', ws', e', ho', hc', hd', r'⟩, hs'⟩ := hp _ hm'
  show wpAny (model prog w) A (keyLt' (tuples' b) p.1 q.1) (fun r s' => s' = s ∧ r = lexI (flK (k p.1)) (flK (k q.1))) (fun _ _ => False) s
  generalize k p.1 = ks at r hs ⊢
  generalize k q.1 = ks' at r' hs' ⊢
  rw [e, e']
  refine PySem.W.kat_lt ho hd ho' hd' ?_
  have l1 : ks.length = ws.size := by
    have := paired_len r
    simpa using this
  have l2 : ks'.length = ws'.size := by
    have := paired_len r'
    simpa using this
  have l3 : ks.length = ks'.length := by
    have := congrArg List.length (hs.trans hs'.symm)
    simpa using this
  refine k2_lex hu r r' (hs.trans hs'.symm) (fun h1 _ x hx => ?_) ?_ ⟨rfl, rfl⟩
  · match ks, hs, hx with
    | y :: ks, hs, hx =>
      cases hx
      rw [← hb h1]
      exact (List.cons.inj hs).1
  · exact decide_eq_false (by omega)
theorem k2_sortable {a : Addr} {vs : List Value} {k : Value → List Itm} {c : Option Nat} {sh : List (Option Nat)} (hu : A.units + 2 < cLine) (h0 : 0 < vs.length) (hp : ∀ v ∈ vs, K2Is s.heap (k v) v ∧ (k v).map shp = c :: sh) (ha : ∀ o, s.heap.get? a = some o → o.cls ≠ .type "tuple") : SrtO.SortableO prog w A s a vs fun v u => lexI (flK (k v)) (flK (k u)) := by
  intro h' keep
  have hp' : ∀ v ∈ vs, K2Is h' (k v) v ∧ (k v).map shp = c :: sh := fun v hm => ⟨(hp v hm).1.keeps fun b o e cc => keep b o (fun z => by subst z; exact ha o e cc) e, (hp v hm).2⟩
  obtain ⟨fs, h1, h2, h3⟩ := firsts2 hp'
  cases c with
  | none =>
    refine ⟨tuples' true, fun Q E hq => ?_, k2_cmp hu (fun _ => rfl) hp'⟩
    refine PySem.W.kat_kind (T := .type "int") h1 (by omega) (fun f hm => ?_) (by rfl) ?_
    · obtain ⟨x, r, e⟩ := h3 f hm
      cases x with
      | inr ns => cases e
      | inl i =>
        obtain ⟨t, rfl⟩ := r
        exact PySem.W.Looks.now
    · have e : (Value.type "int" != Value.type "tuple") = true := by first | decide +kernel | rfl | decide
      rw [e]
      exact hq
  | some n =>
    refine ⟨tuples' false, fun Q E hq => ?_, k2_cmp hu (fun z => nomatch z) hp'⟩
    refine PySem.W.kat_kind (T := .type "tuple") h1 (by omega) (fun f hm => ?_) (by rfl) ?_
    · obtain ⟨x, r, e⟩ := h3 f hm
      cases x with
      | inl i => cases e
      | inr ns =>
        obtain ⟨p, its, rfl, ⟨o, ho, hc, n, hd⟩, hi⟩ := r
        exact (PySem.W.Looks.ld ho).andThen (by rw [hc]; exact .now)
    · have e : (Value.type "tuple" != Value.type "tuple") = false := by first | decide +kernel | rfl | decide
      rw [e]
      exact hq
end
/-! ### as rules -/
theorem nums_ints {H : Hp} : ∀ {ns : List Int} {vs : List V} {us : List Value}, NKs H (ns.map .num) vs → Vals vs us → IntsAre us ns
  | [], _, _, .nil, r => by cases r; exact .nil
  | n :: ns, _, _, .cons h hs, r => by
    cases h
    cases r with
    | cons r1 r2 =>
      obtain ⟨t, rfl⟩ := r1
      exact .cons n t (nums_ints hs r2)
theorem NK.it {P : Program} {w : World} {H : Hp} {h : Heap} (ok : HOk P w H h) {x : Itm} {v : V} {u : Value} (hk : NK H (nkI x) v) (r : RelV v u) : ItIs h x u := by
  cases x with
  | inl i =>
    cases hk
    exact r
  | inr ns =>
    cases hk with
    | tup e hs =>
      cases (show u = Value.ref _ from r)
      obtain ⟨_, its, r2, ht⟩ := ok _ _ e
      exact ⟨_, _, rfl, ht, nums_ints hs r2⟩
theorem NKs.its {P : Program} {w : World} {H : Hp} {h : Heap} (ok : HOk P w H h) : ∀ {ks : List Itm} {vs : List V} {us : List Value}, NKs H (ks.map nkI) vs → Vals vs us → Paired (ItIs h) ks us
  | [], _, _, .nil, r => by cases r; exact .nil
  | k :: ks, _, _, .cons hk hs, r => by
    cases r with
    | cons r1 r2 => exact .cons (hk.it ok r1) (NKs.its ok hs r2)
theorem NK.k2 {P : Program} {w : World} {H : Hp} {h : Heap} (ok : HOk P w H h) {ks : List Itm} {b : Addr} (hk : NK H (nkK ks) (.ref b)) : K2Is h ks (.ref b) := by
  cases hk with
  | tup e hs =>
    obtain ⟨_, its, r2, o, ho, hc, n, hd⟩ := ok _ _ e
    exact ⟨b, o, n, _, rfl, ho, hc, hd, NKs.its ok hs r2⟩
theorem _root_.Hb.RelEs.addrs : ∀ {es : List Ent} {xs : List (NestedKey × Addr × Value)}, RelEs es xs → es.map (fun e => Value.ref e.2.1) = xs.map fun x => Value.ref x.2.1
  | _, _, .nil => rfl
  | _, _, .cons h t => by rw [List.map_cons, List.map_cons, RelEs.addrs t, h.2.1]
/-- by the ints of the keys -/
abbrev ltK (k : V → List Itm) (x y : V) : Bool := lexI (flK (k x)) (flK (k y))
theorem ltK_swo (k : V → List Itm) : SrtO.Swo (ltK k) := swo_lexI fun x => flK (k x)
/-- sorted(xs): xs a list of such tuples, all of one shape -/
def rSortN (K : PySem.W.Frag) (c : Option Nat) (sh : List (Option Nat)) : List V → Hp → VK → Prop := fun vs H Q => ∃ (a : Addr) (xs : List V) (k : V → List Itm), vs = [V.ref a] ∧ SqL K H a xs ∧ (∀ x ∈ xs, (∃ b, x = V.ref b) ∧ NK H (nkK (k x)) x ∧ (k x).map shp = c :: sh) ∧
  ∀ ys p, SrtO.Srtd (ltK k) ys → SrtO.Stb (ltK k) ys xs → H p = none → Q (.ref p) (upd H p (.lst ys))
/-- sorted(d) of a dict with such keys -/
def rSortDN (w : World) (c : Option Nat) (sh : List (Option Nat)) : List V → Hp → VK → Prop := fun vs H Q => ∃ (a : Addr) (es : List Ent) (k : V → List Itm), vs = [V.ref a] ∧ H a = some (DN w a es) ∧ (∀ e ∈ es, NK H (nkK (k (.ref e.2.1))) (.ref e.2.1) ∧ (k (.ref e.2.1)).map shp = c :: sh) ∧
  ∀ ys p, SrtO.Srtd (ltK k) ys → SrtO.Stb (ltK k) ys (es.map fun e => V.ref e.2.1) → H p = none → Q (.ref p) (upd H p (.lst ys))
section
variable {X : Cx} {c : Option Nat} {sh : List (Option Nat)} {K : PySem.W.Frag} {w : World}
theorem cr_sortN (hu : X.A.units + 64 < cLine) (hK : X.K = K := by rfl) : CallR X (.builtin "sorted") (rSortN K c sh) := by
  subst hK
  intro pins s σ H vs us Q I r h
  obtain ⟨a, xs, k, rfl, hs, hx, q⟩ := h
  obtain ⟨its, rv, hl, hz⟩ := I.list hs
  obtain ⟨u, rfl, ru⟩ := vals1 r
  obtain rfl : u = Value.ref a := ru
  obtain ⟨e1, e2⟩ := refs_back rv fun x m => (hx x m).1
  have hp : ∀ v ∈ its, K2Is s.heap (k (backV v)) v ∧ (k (backV v)).map shp = c :: sh := fun v hv => by
    obtain ⟨t, rfl⟩ := e2 v hv
    have hm : V.ref t ∈ xs := by
      rw [e1]
      exact List.mem_map.mpr ⟨_, hv, rfl⟩
    obtain ⟨_, h1, h2⟩ := hx _ hm
    exact ⟨NK.k2 I.hok h1, h2⟩
  have hu2 : X.A.in1.in1.units + 2 < cLine := by
    have e : X.A.in1.in1.units = X.A.units + 1 + 1 := rfl
    omega
  refine SrtO.sorted_ord (ltv := fun v u => lexI (flK (k (backV v))) (flK (k (backV u)))) (swo_lexI fun v => flK (k (backV v))) hl.isList (by rw [← rv.length]; exact hz) (fun h2 h₁ a ha kk => ?_) fun out h1 h2 => ?_
  · refine k2_sortable (s := { s with heap := h₁ }) hu2 (by omega) (fun v hm => ⟨(hp v hm).1.keeps fun b o e _ => (kk b o e).2, (hp v hm).2⟩) fun o e => ?_
    have e' : some o = some (seqObj "list" its.toArray 0) := e.symm.trans ha
    cases e'
    intro cc
    exact absurd (Value.type.inj cc) (by decide)
  · have h3 : ∀ u ∈ out, ∃ a, u = Value.ref a := fun u hu => e2 u (h2.perm.mem_iff.mp hu)
    obtain ⟨n, hn⟩ := sortedAll_at s.heap its out.toArray
    have hb : SrtO.Stb (ltK k) (out.map backV) xs := by
      rw [e1]
      exact SrtO.Stb.map (ltK_swo k) backV h2
    refine ⟨.ref (s.heap.objs.size + 1), upd H (s.heap.objs.size + 1) (.lst (out.map backV)), I.laid (t' := s.toks) (fun b o e => sortedAll_old e) (Nat.le_succ _) ⟨?_, out, n, vals_back h3, hn⟩, rfl, q _ _ (SrtO.srtd_map h1) hb (I.hok.fresh (Nat.le_succ _))⟩
    rw [hb.len]
    exact hz
theorem cr_sortDN (hc : X.calm = true) (hu : X.A.units + 64 < cLine) (hw : X.w = w := by rfl) : CallR X (.builtin "sorted") (rSortDN w c sh) := by
  subst hw
  intro pins s σ H vs us Q I r h
  obtain ⟨a, es, k, rfl, ha, hx, q⟩ := h
  obtain ⟨u, rfl, ru⟩ := vals1 r
  obtain rfl : u = Value.ref a := ru
  obtain ⟨⟨z, lo, xs, rel, o, ds, ep, h1, h2, h3, h4, h5⟩, _, _⟩ := (show ObjOk X.prog X.w H s.heap a (DN X.w a es) from I.hok _ _ ha)
  have hu2 : X.A.in1.in1.units + 2 < cLine := by
    have e : X.A.in1.in1.units = X.A.units + 1 + 1 := rfl
    omega
  have hsz : ds.size = es.length := by
    rw [← Array.length_toList, h4, List.length_map, rel.len]
  refine Calls.call_function_entry kind_sorted plain_sorted entry_sorted (args_sorted1 _) ?_
  unfold Builtin.«sorted»
  refine wpAny_bind (m := checkCount "sorted" 1 1 _) (wpAny_pure ?_)
  refine wpAny_bind (PySem.W.kdu_collect (A := X.A.in1) (kdl_raw lo h2 h3) (I.ok.hd hc) h1 (by rw [hsz]; exact z) fun h' tk acc hk hacc => ?_)
  have hal : acc.toList.length = es.length := by rw [Array.length_toList, hacc.1, hsz]
  have hac : acc.toList = es.map fun e => Value.ref e.2.1 := by
    refine List.ext_getElem? fun j => ?_
    rw [List.getElem?_map]
    cases e1 : acc.toList[j]? with
    | none =>
      have g1 := List.getElem?_eq_none_iff.mp e1
      rw [List.getElem?_eq_none (by omega)]
      rfl
    | some v =>
      obtain ⟨en, g1, g2⟩ := hacc.2 j v (by rw [← Array.getElem?_toList]; exact e1)
      rw [← Array.getElem?_toList, h4, List.getElem?_map] at g1
      obtain ⟨x, g3, g4⟩ := Option.map_eq_some_iff.mp g1
      have g5 : (es.map fun e => Value.ref e.2.1)[j]? = some (Value.ref x.2.1) := by
        have g6 : es.map (fun e => Value.ref e.2.1) = xs.map fun x => Value.ref x.2.1 := by
          exact rel.addrs
        rw [g6, List.getElem?_map, g3]
        rfl
      rw [List.getElem?_map] at g5
      rw [g5, g2, ← g4]
      rfl
  have I1 : Inv X pins σ H { s with heap := h', toks := tk } := I.kept hk
  have hp : ∀ v ∈ acc.toList, K2Is h' (k (backV v)) v ∧ (k (backV v)).map shp = c :: sh := fun v hv => by
    rw [hac] at hv
    obtain ⟨e, he, rfl⟩ := List.mem_map.mp hv
    obtain ⟨g1, g2⟩ := hx e he
    exact ⟨NK.k2 I1.hok g1, g2⟩
  refine wpAny_bind (wpAny_newList ?_ (by rw [hal]; exact z))
  have hoL : (h'.push (seqObj "list" acc.toList.toArray 0)).get? h'.objs.size = some (seqObj "list" acc.toList.toArray 0) := Heap.get?_push_size _ rfl
  show wpAny _ _ _ _ _ { s with heap := h'.push (seqObj "list" acc.toList.toArray 0), toks := tk }
  refine wpAny_bind (wpAny_holding (wpAny_call_entry slot_list_sort ⟨_, hoL, rfl⟩ entry_list_sort
    (SrtO.list_sort_ord (s := { s with heap := h'.push (seqObj "list" acc.toList.toArray 0), toks := tk }) (ltv := fun v u => lexI (flK (k (backV v))) (flK (k (backV u)))) (swo_lexI fun v => flK (k (backV v))) hoL (by rw [hal]; exact z) (fun g0 => ?_) fun out g1 g2 => ⟨_, rfl, ?_⟩) (args_list_sort _)))
  · refine k2_sortable (s := { s with heap := h'.push (seqObj "list" acc.toList.toArray 0), toks := tk }) hu2 (by omega) (fun v hm => ⟨(hp v hm).1.keeps fun b o e _ => Heap.get?_push_of_some _ e, (hp v hm).2⟩) fun o e => ?_
    have e' : some o = some (seqObj "list" acc.toList.toArray 0) := e.symm.trans hoL
    cases e'
    intro cc
    exact absurd (Value.type.inj cc) (by decide)
  · obtain ⟨e', he'⟩ := sortedHeap_at (vs := acc.toList) (out := out.toArray) hoL
    have g3 : ∀ u ∈ out, ∃ a, u = Value.ref a := fun u hu => by
      have hm := g2.perm.mem_iff.mp hu
      rw [hac] at hm
      obtain ⟨e, _, rfl⟩ := List.mem_map.mp hm
      exact ⟨_, rfl⟩
    have hb : SrtO.Stb (ltK k) (out.map backV) (es.map fun e => V.ref e.2.1) := by
      have hm := SrtO.Stb.map (ltK_swo k) backV g2
      rw [hac, List.map_map] at hm
      exact hm
    refine wpAny_pure ⟨_, rfl, .ref h'.objs.size, upd H h'.objs.size (.lst (out.map backV)), I1.laid (t' := tk) (fun b u e => ?_) (Nat.le_refl _)
      (show ObjOk X.prog X.w _ _ _ (.lst (out.map backV)) from ⟨?_, out, e', vals_back g3, he'⟩), rfl, q _ _ (SrtO.srtd_map g1) hb (I1.hok.fresh (Nat.le_refl _))⟩
    · have hlt : b < h'.objs.size := Heap.lt_size e
      rw [sortedHeap_old (Nat.ne_of_lt hlt) (by rw [size_push']; exact Nat.lt_succ_of_lt hlt)]
      exact Heap.get?_push_of_some _ e
    · rw [hb.len, List.length_map]
      exact z
end
/-! ### min and max of two tuples of ints -/
section
open PySem.SeqAt
open PySem.W (keyToksAll dataLt alike alikeAll dataLt_cons dataLt_int AlikeAll reads_keeps iter_tupleW cmpIn_lt cmpIn_gt moved_old)
theorem toks_ints : ∀ ns ms : List Int, PyProof.Rows.lexLt itemOrd (keyToksAll (ns.map .int)) (keyToksAll (ms.map .int)) = lexI ns ms
  | [], [] => lex_irrefl _
  | [], m :: ms => by
    show PyProof.Rows.lexLt itemOrd [.inl 0] (.inl 1 :: _) = true
    exact lex_diff (by decide)
  | n :: ns, [] => by
    show PyProof.Rows.lexLt itemOrd (.inl 1 :: _) [.inl 0] = false
    exact lex_diff (by decide)
  | n :: ns, m :: ms => by
    show PyProof.Rows.lexLt itemOrd (keyToksAll (.int n :: ns.map .int)) (keyToksAll (.int m :: ms.map .int)) = _
    rw [dataLt_cons (by rfl), lexI_cons, dataLt_int, toks_ints ns ms]
    have e : PyData.eqv (.int n) (.int m) = (n == m) := by simp only [PyData.eqv]
    rw [e]
    by_cases h : n = m
    · rw [if_pos h, if_pos (by rw [h]; exact beq_self_eq_true m)]
    · rw [if_neg h, if_neg (fun z => h (by simpa using z))]
theorem dataLt_ints (ns ms : List Int) : dataLt (.tuple (ns.map .int)) (.tuple (ms.map .int)) = lexI ns ms := toks_ints ns ms
theorem alike_ints : ∀ {ns ms : List Int}, ns.length = ms.length → alikeAll (ns.map .int) (ms.map .int) = true
  | [], [], _ => by simp [alikeAll]
  | n :: ns, m :: ms, h => by
    simp only [List.map_cons, alikeAll, alike, Bool.true_and]
    exact alike_ints (by simpa using h)
theorem depth_ints : ∀ ns : List Int, PyData.depthAll (ns.map .int) ≤ 1
  | [] => by simp [PyData.depthAll]
  | n :: ns => by
    have := depth_ints ns
    simp only [List.map_cons, PyData.depthAll, PyData.depth]
    omega
section
variable {prog : Program} {w : World} {A : Around} {E : Value → Shared → Prop} {s : Shared}
theorem alike2 {ns ms : List Int} (hl : ns.length = ms.length) : AlikeAll [PyData.tuple (ns.map .int), .tuple (ms.map .int)] := by
  have a : ∀ x y : List Int, x.length = y.length → alike (.tuple (x.map .int)) (.tuple (y.map .int)) = true := fun x y h => by
    simp only [alike]
    exact alike_ints h
  refine ⟨fun x hx y hy => ?_, fun x hx => ?_⟩
  · simp only [List.mem_cons, List.not_mem_nil, or_false] at hx hy
    rcases hx with rfl | rfl <;> rcases hy with rfl | rfl
    · exact a _ _ rfl
    · exact a _ _ hl
    · exact a _ _ hl.symm
    · exact a _ _ rfl
  · simp only [List.mem_cons, List.not_mem_nil, or_false] at hx
    rcases hx with rfl | rfl <;> exact fun z => nomatch z
theorem depth2 {ns ms : List Int} : PyData.depthAll [PyData.tuple (ns.map .int), .tuple (ms.map .int)] ≤ 2 := by
  have h1 := depth_ints ns
  have h2 := depth_ints ms
  simp only [PyData.depthAll, PyData.depth]
  omega
theorem min_two_tups {a b : Addr} {ns ms : List Int} {as bs : List Addr} {Q : Value → Shared → Prop} (hh : A.handled = none) (hu : A.units + 3 < cLine) (r1 : Reads s.heap (.ref a) (.tuple (ns.map .int)) as) (r2 : Reads s.heap (.ref b) (.tuple (ms.map .int)) bs) (hl : ns.length = ms.length)
    (h : ∀ h' tk, (∀ c o, s.heap.get? c = some o → h'.get? c = some o) → Q (.ref (if lexI ms ns = true then b else a)) { s with heap := h', toks := tk }) :
    wpAny (model prog w) A (call (.builtin "min") [.ref a, .ref b]) Q E s := by
  have hname : (toString "min" ++ toString ".loop" : String) = "min.loop" := by decide
  refine call_function_tree PySem.F.kind_min PySem.F.plain_min PySem.F.entry_min (PySem.F.args_min2 _ _) ?_
  show wpAny _ A.in1 (Builtin.Builtins.bindParams "min" ["key", "default"] 0 ⟨[], []⟩ >>= _) _ _ s
  refine wpAny_bind (wpAny_of_eq (show Builtin.Builtins.bindParams "min" ["key", "default"] 0 ⟨[], []⟩ = pure [none, none] from rfl) ?_)
  show wpAny _ A.in1 (newTuple [.ref a, .ref b] >>= _) _ _ s
  refine wpAny_bind (wpAny_newObj_type ?_)
  have k0 : ∀ c o, s.heap.get? c = some o → (s.heap.push { cls := .type "tuple", data := .seq #[Value.ref a, .ref b] }).get? c = some o := fun c o e => Heap.get?_push_of_some _ e
  have hT : (s.heap.push { cls := .type "tuple", data := .seq #[Value.ref a, .ref b] }).IsTuple s.heap.objs.size #[.ref a, .ref b] := ⟨_, Heap.get?_push_size _ rfl, rfl, 0, rfl⟩
  have hr : ReadsAll (s.heap.push { cls := .type "tuple", data := .seq #[Value.ref a, .ref b] }) (#[Value.ref a, .ref b] : Array Value).toList [PyData.tuple (ns.map .int), .tuple (ms.map .int)] (as ++ (bs ++ [])) := .cons (reads_keeps k0 r1) (.cons (reads_keeps k0 r2) .nil)
  refine wpAny_bind (iter_tupleW (A := A.in1) (s := { s with heap := s.heap.push { cls := .type "tuple", data := .seq #[Value.ref a, .ref b] } }) hh hT fun s₂ e W st hfp hw hk => ?_)
  refine wpAny_bind (wpAny_newObj_type ?_)
  have hSf : s₂.heap.objs.size ∉ [(s.heap.push { cls := .type "tuple", data := .seq #[Value.ref a, .ref b] }).objs.size, s.heap.objs.size] := fun hm => Nat.lt_irrefl _ (hfp _ hm)
  rw [hname]
  have hcm := cmpIn_lt (prog := prog) (w := w) (A := A.in1) (s := { s with heap := s.heap.push { cls := .type "tuple", data := .seq #[Value.ref a, .ref b] } }) hr (alike2 hl) (by
    have := depth2 (ns := ns) (ms := ms)
    show A.units + 1 + _ < cLine
    omega)
  refine wpAny_pure ⟨plainId_quiet PySem.F.plain_min_loop _, codeAny_min_loop_firstH W _ hw _ hcm s₂.heap.objs.size hSf (fresh_in hk) _ (Nat.succ_pos 1) (fun b o e => Heap.get?_push_of_some _ (hk b o e)) (W.frame 0 s₂ _ s₂.toks st (Nat.le_refl _) fun b _ o e => Heap.get?_push_of_some _ e) (Heap.get?_push_size _ rfl) fun v s' hP hm => ?_⟩
  have hm2 := Moved.drop_new (tk := s₂.toks) hm (Nat.le_refl _)
  obtain ⟨h', tk, rfl, hk'⟩ := moved_old e rfl hm2
  have e2 : v = .ref (if lexI ms ns = true then b else a) := by
    have e3 : argBest (fun i j => dataLt ([PyData.tuple (ns.map .int), .tuple (ms.map .int)].getD i .none) ([PyData.tuple (ns.map .int), .tuple (ms.map .int)].getD j .none)) 1 = if lexI ms ns = true then 1 else 0 := by
      show (if dataLt (.tuple (ms.map .int)) (.tuple (ns.map .int)) = true then 1 else 0) = _
      rw [dataLt_ints]
    have hP' : (#[Value.ref a, .ref b] : Array Value)[argBest (fun i j => dataLt ([PyData.tuple (ns.map .int), .tuple (ms.map .int)].getD i .none) ([PyData.tuple (ns.map .int), .tuple (ms.map .int)].getD j .none)) 1]? = some v := hP
    rw [e3] at hP'
    by_cases hc : lexI ms ns = true
    · rw [if_pos hc] at hP' ⊢
      exact (Option.some.inj hP').symm
    · rw [if_neg hc] at hP' ⊢
      exact (Option.some.inj hP').symm
  rw [e2]
  exact h h' tk fun c o ec => hk' c o (k0 c o ec)
theorem max_two_tups {a b : Addr} {ns ms : List Int} {as bs : List Addr} {Q : Value → Shared → Prop} (hh : A.handled = none) (hu : A.units + 3 < cLine) (r1 : Reads s.heap (.ref a) (.tuple (ns.map .int)) as) (r2 : Reads s.heap (.ref b) (.tuple (ms.map .int)) bs) (hl : ns.length = ms.length)
    (h : ∀ h' tk, (∀ c o, s.heap.get? c = some o → h'.get? c = some o) → Q (.ref (if lexI ns ms = true then b else a)) { s with heap := h', toks := tk }) :
    wpAny (model prog w) A (call (.builtin "max") [.ref a, .ref b]) Q E s := by
  have hname : (toString "max" ++ toString ".loop" : String) = "max.loop" := by decide
  refine call_function_tree PySem.F.kind_max PySem.F.plain_max PySem.F.entry_max (PySem.F.args_max2 _ _) ?_
  show wpAny _ A.in1 (Builtin.Builtins.bindParams "max" ["key", "default"] 0 ⟨[], []⟩ >>= _) _ _ s
  refine wpAny_bind (wpAny_of_eq (show Builtin.Builtins.bindParams "max" ["key", "default"] 0 ⟨[], []⟩ = pure [none, none] from rfl) ?_)
  show wpAny _ A.in1 (newTuple [.ref a, .ref b] >>= _) _ _ s
  refine wpAny_bind (wpAny_newObj_type ?_)
  have k0 : ∀ c o, s.heap.get? c = some o → (s.heap.push { cls := .type "tuple", data := .seq #[Value.ref a, .ref b] }).get? c = some o := fun c o e => Heap.get?_push_of_some _ e
  have hT : (s.heap.push { cls := .type "tuple", data := .seq #[Value.ref a, .ref b] }).IsTuple s.heap.objs.size #[.ref a, .ref b] := ⟨_, Heap.get?_push_size _ rfl, rfl, 0, rfl⟩
  have hr : ReadsAll (s.heap.push { cls := .type "tuple", data := .seq #[Value.ref a, .ref b] }) (#[Value.ref a, .ref b] : Array Value).toList [PyData.tuple (ns.map .int), .tuple (ms.map .int)] (as ++ (bs ++ [])) := .cons (reads_keeps k0 r1) (.cons (reads_keeps k0 r2) .nil)
  refine wpAny_bind (iter_tupleW (A := A.in1) (s := { s with heap := s.heap.push { cls := .type "tuple", data := .seq #[Value.ref a, .ref b] } }) hh hT fun s₂ e W st hfp hw hk => ?_)
  refine wpAny_bind (wpAny_newObj_type ?_)
  have hSf : s₂.heap.objs.size ∉ [(s.heap.push { cls := .type "tuple", data := .seq #[Value.ref a, .ref b] }).objs.size, s.heap.objs.size] := fun hm => Nat.lt_irrefl _ (hfp _ hm)
  rw [hname]
  have hcm := cmpIn_gt (prog := prog) (w := w) (A := A.in1) (s := { s with heap := s.heap.push { cls := .type "tuple", data := .seq #[Value.ref a, .ref b] } }) hr (alike2 hl) (by
    have := depth2 (ns := ns) (ms := ms)
    show A.units + 1 + _ < cLine
    omega)
  refine wpAny_pure ⟨plainId_quiet PySem.F.plain_max_loop _, codeAny_max_loop_firstH W _ hw _ hcm s₂.heap.objs.size hSf (fresh_in hk) _ (Nat.succ_pos 1) (fun b o e => Heap.get?_push_of_some _ (hk b o e)) (W.frame 0 s₂ _ s₂.toks st (Nat.le_refl _) fun b _ o e => Heap.get?_push_of_some _ e) (Heap.get?_push_size _ rfl) fun v s' hP hm => ?_⟩
  have hm2 := Moved.drop_new (tk := s₂.toks) hm (Nat.le_refl _)
  obtain ⟨h', tk, rfl, hk'⟩ := moved_old e rfl hm2
  have e2 : v = .ref (if lexI ns ms = true then b else a) := by
    have e3 : argBest (fun i j => dataLt ([PyData.tuple (ns.map .int), .tuple (ms.map .int)].getD j .none) ([PyData.tuple (ns.map .int), .tuple (ms.map .int)].getD i .none)) 1 = if lexI ns ms = true then 1 else 0 := by
      show (if dataLt (.tuple (ns.map .int)) (.tuple (ms.map .int)) = true then 1 else 0) = _
      rw [dataLt_ints]
    have hP' : (#[Value.ref a, .ref b] : Array Value)[argBest (fun i j => dataLt ([PyData.tuple (ns.map .int), .tuple (ms.map .int)].getD j .none) ([PyData.tuple (ns.map .int), .tuple (ms.map .int)].getD i .none)) 1]? = some v := hP
    rw [e3] at hP'
    by_cases hc : lexI ns ms = true
    · rw [if_pos hc] at hP' ⊢
      exact (Option.some.inj hP').symm
    · rw [if_neg hc] at hP' ⊢
      exact (Option.some.inj hP').symm
  rw [e2]
  exact h h' tk fun c o ec => hk' c o (k0 c o ec)
end
/-- min(t, u), max(t, u) of tuples of as many ints -/
def rMinT (mx : Bool) : List V → Hp → VK → Prop := fun vs H Q => ∃ (a b : Addr) (ns ms : List Int), vs = [.ref a, .ref b] ∧ H a = some (.tup (ns.map V.int)) ∧ H b = some (.tup (ms.map V.int)) ∧ ns.length = ms.length ∧ Q (.ref (if (if mx then lexI ns ms else lexI ms ns) = true then b else a)) H
/-- x in a tuple, data of any depth -/
def rInDT (K : PySem.W.Frag) (neg : Bool) : R2 := fun x y H Q => ∃ d ds, Dp K H x d ∧ Dp K H y (.tuple ds) ∧ SeqAt.shaped d = true ∧ SeqAt.shaped (.tuple ds) = true ∧ Q (.bl (if neg then !(ds.any fun z => PyData.eqv z d) else ds.any fun z => PyData.eqv z d)) H
def rInDL (K : PySem.W.Frag) (neg : Bool) : R2 := fun x y H Q => ∃ d ds, Dp K H x d ∧ Dp K H y (.list ds) ∧ SeqAt.shaped d = true ∧ SeqAt.shaped (.list ds) = true ∧ Q (.bl (if neg then !(ds.any fun z => PyData.eqv z d) else ds.any fun z => PyData.eqv z d)) H
section
variable {X : Cx} {K : PySem.W.Frag}
theorem im_ints {H : Hp} : ∀ ns : List Int, ImAll K H (ns.map V.int) (ns.map PyData.int)
  | [] => .nil
  | n :: ns => .cons (.int n) (im_ints ns)
theorem call_minT (hc : X.calm = true) (hu : X.A.units + 64 < cLine) : CallR X (.builtin "min") (rMinT false) := by
  intro pins s σ H vs us Q I r h
  obtain ⟨a, b, ns, ms, rfl, ha, hb, hl, q⟩ := h
  obtain ⟨u1, u2, rfl, r1, r2⟩ := vals2 r
  cases r1
  cases r2
  obtain ⟨as, g1⟩ := Dp.reads I (.tuple (ns.map .int)) _ _ (.tup (SqT.of ha) (im_ints ns).dp) rfl
  obtain ⟨bs, g2⟩ := Dp.reads I (.tuple (ms.map .int)) _ _ (.tup (SqT.of hb) (im_ints ms).dp) rfl
  exact min_two_tups (I.ok.hd hc) (by omega) g1 g2 hl fun h' tk k => ⟨.ref (if lexI ms ns = true then b else a), H, I.kept k, rfl, q⟩
theorem call_maxT (hc : X.calm = true) (hu : X.A.units + 64 < cLine) : CallR X (.builtin "max") (rMinT true) := by
  intro pins s σ H vs us Q I r h
  obtain ⟨a, b, ns, ms, rfl, ha, hb, hl, q⟩ := h
  obtain ⟨u1, u2, rfl, r1, r2⟩ := vals2 r
  cases r1
  cases r2
  obtain ⟨as, g1⟩ := Dp.reads I (.tuple (ns.map .int)) _ _ (.tup (SqT.of ha) (im_ints ns).dp) rfl
  obtain ⟨bs, g2⟩ := Dp.reads I (.tuple (ms.map .int)) _ _ (.tup (SqT.of hb) (im_ints ms).dp) rfl
  exact max_two_tups (I.ok.hd hc) (by omega) g1 g2 hl fun h' tk k => ⟨.ref (if lexI ns ms = true then b else a), H, I.kept k, rfl, q⟩
theorem op_inDT (hu : X.A.units + 65 < cLine) (hK : X.K = K := by rfl) : OpR X (compareOp .In) (rInDT K false) := by
  subst hK
  intro pins s σ H x y v u Q I rx ry h
  obtain ⟨d, ds, hd, he, sd, se, q⟩ := h
  obtain ⟨as, r1⟩ := Dp.reads I d x v hd rx
  obtain ⟨bs, r2⟩ := Dp.reads I (.tuple ds) y u he ry
  exact SeqAt.in_tuple_reads r2 r1 (SeqAt.canLay_of_shaped se) (SeqAt.canLay_of_shaped sd) (room_in_shaped sd hu) ⟨.bl _, H, I, rfl, q⟩
theorem op_inDL (hu : X.A.units + 65 < cLine) (hK : X.K = K := by rfl) : OpR X (compareOp .In) (rInDL K false) := by
  subst hK
  exact op_inD hu
theorem op_niDL (hu : X.A.units + 65 < cLine) (hK : X.K = K := by rfl) : OpR X (compareOp .NotIn) (rInDL K true) := by
  subst hK
  exact op_notInD hu
end
end
end Hb

set_option Elab.async false
set_option maxRecDepth 100000
set_option maxHeartbeats 4000000
/-! Links as keys: pairs of pairs of ints, their dicts, their sorted lists. -/
namespace Hb
open PySem L2
abbrev E2 := Int × Int
abbrev Lk := E2 × E2
def flL (l : Lk) : List Int := [l.1.1, l.1.2, l.2.1, l.2.2]
def itL (l : Lk) : List Itm := [.inr [l.1.1, l.1.2], .inr [l.2.1, l.2.2]]
def lkK (l : Lk) : NestedKey := nkK (itL l)
theorem flK_it (l : Lk) : flK (itL l) = flL l := rfl
theorem flL_inj {x y : Lk} (h : flL x = flL y) : x = y := by
  obtain ⟨⟨a, b⟩, c, d⟩ := x
  obtain ⟨⟨a', b'⟩, c', d'⟩ := y
  have h1 := List.cons.inj h
  have h2 := List.cons.inj h1.2
  have h3 := List.cons.inj h2.2
  have h4 := List.cons.inj h3.2
  simp only at h1 h2 h3 h4
  rw [h1.1, h2.1, h3.1, h4.1]
theorem lkK_inj {x y : Lk} (h : lkK x = lkK y) : x = y := by
  have h1 : (itL x).map nkI = (itL y).map nkI := NestedKey.tup.inj h
  have h2 := List.cons.inj h1
  have h3 := List.cons.inj h2.2
  have e1 := nkI_inj h2.1
  have e2 := nkI_inj h3.1
  refine flL_inj ?_
  have e3 : ([x.1.1, x.1.2] : List Int) = [y.1.1, y.1.2] := Sum.inr.inj e1
  have e4 : ([x.2.1, x.2.2] : List Int) = [y.2.1, y.2.2] := Sum.inr.inj e2
  show [x.1.1, x.1.2] ++ [x.2.1, x.2.2] = [y.1.1, y.1.2] ++ [y.2.1, y.2.2]
  rw [e3, e4]
theorem lkK_depth (l : Lk) : (lkK l).depth ≤ 8 := by
  simp [lkK, nkK, itL, nkI, NestedKey.depth, NestedKey.depthAll]
/-! ### sorted -/
def ltL (x y : Lk) : Bool := lexI (flL x) (flL y)
abbrev SortedL (l : List Lk) : Prop := l.Pairwise fun x y => ltL y x = false
def insL (x : Lk) : List Lk → List Lk
  | [] => [x]
  | y :: ys => if ltL y x then y :: insL x ys else x :: y :: ys
def srt : List Lk → List Lk
  | [] => []
  | x :: xs => insL x (srt xs)
theorem insL_perm (x : Lk) : ∀ ys : List Lk, (insL x ys).Perm (x :: ys)
  | [] => List.Perm.refl _
  | y :: ys => by
    unfold insL
    split
    · exact ((insL_perm x ys).cons y).trans (List.Perm.swap x y ys)
    · exact List.Perm.refl _
theorem srt_perm : ∀ ls : List Lk, (srt ls).Perm ls
  | [] => List.Perm.refl _
  | x :: xs => (insL_perm x (srt xs)).trans ((srt_perm xs).cons x)
theorem insL_sorted (x : Lk) : ∀ ys : List Lk, SortedL ys → SortedL (insL x ys)
  | [], _ => List.pairwise_singleton _ _
  | y :: ys, h => by
    have h1 := List.pairwise_cons.mp h
    unfold insL
    by_cases hc : ltL y x = true
    · rw [if_pos hc]
      refine List.pairwise_cons.mpr ⟨fun z hz => ?_, insL_sorted x ys h1.2⟩
      rcases List.mem_cons.mp ((insL_perm x ys).mem_iff.mp hz) with rfl | hz
      · exact lexI_asym _ _ hc
      · exact h1.1 z hz
    · rw [if_neg hc]
      have hc' : ltL y x = false := by
        cases q : ltL y x with
        | true => exact absurd q hc
        | false => rfl
      refine List.pairwise_cons.mpr ⟨fun z hz => ?_, h⟩
      rcases List.mem_cons.mp hz with rfl | hz
      · exact hc'
      · exact lexI_tr _ _ _ hc' (h1.1 z hz)
theorem srt_sorted : ∀ ls : List Lk, SortedL (srt ls)
  | [] => List.Pairwise.nil
  | x :: xs => insL_sorted x _ (srt_sorted xs)
theorem sorted_uniq : ∀ {l m : List Lk}, l.Perm m → SortedL l → SortedL m → l = m
  | [], m, p, _, _ => (List.Perm.eq_nil p.symm).symm
  | x :: l, [], p, _, _ => absurd p.length_eq (by simp)
  | x :: l, y :: m, p, hl, hm => by
    have h1 := List.pairwise_cons.mp hl
    have h2 := List.pairwise_cons.mp hm
    have e : x = y := by
      rcases List.mem_cons.mp (p.mem_iff.mp List.mem_cons_self) with e | hx
      · exact e
      · rcases List.mem_cons.mp (p.mem_iff.mpr List.mem_cons_self) with e | hy
        · exact e.symm
        · exact flL_inj (lexI_total _ _ (h2.1 x hx) (h1.1 y hy))
    subst e
    rw [sorted_uniq p.cons_inv h1.2 h2.2]
theorem srt_uniq {l ls : List Lk} (p : l.Perm ls) (h : SortedL l) : l = srt ls := sorted_uniq (p.trans (srt_perm ls).symm) h (srt_sorted ls)
theorem srt_filter (p : Lk → Bool) (ls : List Lk) : (srt ls).filter p = srt (ls.filter p) := srt_uniq ((srt_perm ls).filter p) ((srt_sorted ls).filter p)
theorem mem_srt {ls : List Lk} {l : Lk} : l ∈ srt ls ↔ l ∈ ls := (srt_perm ls).mem_iff
/-! ### where they stand -/
theorem nk_link {H : Hp} {l : Lk} {a : Addr} (h : NK H (lkK l) (.ref a)) : ∃ p q, H a = some (.tup [.ref p, .ref q]) ∧ H p = some (.tup [.int l.1.1, .int l.1.2]) ∧ H q = some (.tup [.int l.2.1, .int l.2.2]) := by
  have end_ : ∀ {x y : Int} {v : V}, NK H (nkI (.inr [x, y])) v → ∃ p, v = .ref p ∧ H p = some (.tup [.int x, .int y]) := by
    intro x y v h
    cases h with
    | tup e hs =>
      cases hs with
      | cons h1 h2 =>
        cases h2 with
        | cons h2 h3 =>
          cases h3
          cases h1
          cases h2
          exact ⟨_, rfl, e⟩
  cases h with
  | tup e hs =>
    cases hs with
    | cons h1 h2 =>
      cases h2 with
      | cons h2 h3 =>
        cases h3
        obtain ⟨p, rfl, hp⟩ := end_ h1
        obtain ⟨q, rfl, hq⟩ := end_ h2
        exact ⟨p, q, e, hp, hq⟩
theorem nk_end {H : Hp} {p : Addr} {x y : Int} (h : H p = some (.tup [.int x, .int y])) : NK H (nkI (.inr [x, y])) (.ref p) := .tup h (.cons (.int x) (.cons (.int y) .nil))
theorem nk_mk {H : Hp} {l : Lk} {a p q : Addr} (h : H a = some (.tup [.ref p, .ref q])) (hp : H p = some (.tup [.int l.1.1, .int l.1.2])) (hq : H q = some (.tup [.int l.2.1, .int l.2.2])) : NK H (lkK l) (.ref a) := .tup h (.cons (nk_end hp) (.cons (nk_end hq) .nil))
/-- a list of links -/
abbrev LkL (H : Hp) (vs : List V) (ls : List Lk) : Prop := Paired (fun v l => ∃ a, v = V.ref a ∧ NK H (lkK l) (.ref a)) vs ls
theorem LkL.mono {H H' : Hp} (e : ∀ p xs, H p = some (.tup xs) → H' p = some (.tup xs)) {vs : List V} {ls : List Lk} (h : LkL H vs ls) : LkL H' vs ls := Paired.mapP h fun _ _ ⟨a, e1, e2⟩ => ⟨a, e1, e2.mono e⟩
theorem LkL.same {H H' : Hp} (e : Same H H') {vs : List V} {ls : List Lk} (h : LkL H vs ls) : LkL H' vs ls := h.mono fun _ _ => e _ _
theorem LkL.len {H : Hp} {vs : List V} {ls : List Lk} (h : LkL H vs ls) : vs.length = ls.length := Paired.length h
theorem LkL.get {H : Hp} : ∀ {vs : List V} {ls : List Lk} {i : Nat} {v : V}, LkL H vs ls → vs[i]? = some v → ∃ a l, v = .ref a ∧ ls[i]? = some l ∧ NK H (lkK l) (.ref a)
  | _ :: _, l :: _, 0, _, .cons ⟨a, e1, e2⟩ _, e => by
    cases e
    exact ⟨a, l, e1, rfl, e2⟩
  | _ :: _, _ :: _, i + 1, _, .cons _ t, e => LkL.get (i := i) t (by simpa using e)
theorem LkL.app {H : Hp} : ∀ {vs us : List V} {ls ms : List Lk}, LkL H vs ls → LkL H us ms → LkL H (vs ++ us) (ls ++ ms)
  | _, _, _, _, .nil, h => h
  | _, _, _, _, .cons h t, h2 => .cons h (LkL.app t h2)
theorem LkL.snoc {H : Hp} {vs : List V} {ls : List Lk} {a : Addr} {l : Lk} (h : LkL H vs ls) (hk : NK H (lkK l) (.ref a)) : LkL H (vs ++ [.ref a]) (ls ++ [l]) := h.app (.cons ⟨a, rfl, hk⟩ .nil)
theorem LkL.ima {K : PySem.W.Frag} {H : Hp} : ∀ {vs : List V} {ls : List Lk}, LkL H vs ls → ImAll K H vs (ls.map fun l => (lkK l).data)
  | _, _, .nil => .nil
  | _, _, .cons ⟨a, e1, e2⟩ t => by
    subst e1
    exact .cons e2.im (LkL.ima t)
theorem paired_perm {α β : Type} {R : α → β → Prop} : ∀ {xs ys : List α}, ys.Perm xs → ∀ {ls : List β}, Paired R xs ls → ∃ ms, ms.Perm ls ∧ Paired R ys ms := by
  intro xs ys p
  induction p with
  | nil => exact fun h => ⟨_, List.Perm.refl _, h⟩
  | cons x _ ih =>
    intro ls h
    cases h with
    | cons h1 h2 =>
      obtain ⟨ms, p1, p2⟩ := ih h2
      exact ⟨_, p1.cons _, .cons h1 p2⟩
  | swap x y l =>
    intro ls h
    cases h with
    | cons h1 h2 =>
      cases h2 with
      | cons h2 h3 => exact ⟨_, List.Perm.swap _ _ _, .cons h2 (.cons h1 h3)⟩
  | trans _ _ ih1 ih2 =>
    intro ls h
    obtain ⟨ms, p1, p2⟩ := ih2 h
    obtain ⟨ns, p3, p4⟩ := ih1 p2
    exact ⟨ns, p3.trans p1, p4⟩
/-- the items of what stands there -/
noncomputable def itK (H : Hp) (v : V) : List Itm := Classical.epsilon fun ks => NK H (nkK ks) v
theorem nkK_inj {x y : List Itm} (h : nkK x = nkK y) : x = y := by
  have h1 : x.map nkI = y.map nkI := NestedKey.tup.inj h
  clear h
  induction x generalizing y with
  | nil =>
    cases y with
    | nil => rfl
    | cons _ _ => cases h1
  | cons a x ih =>
    cases y with
    | nil => cases h1
    | cons b y =>
      have h2 := List.cons.inj h1
      rw [nkI_inj h2.1, ih h2.2]
theorem itK_eq {H : Hp} {ks : List Itm} {v : V} (h : NK H (nkK ks) v) : itK H v = ks := by
  have h2 : NK H (nkK (itK H v)) v := Classical.epsilon_spec (p := fun ks => NK H (nkK ks) v) ⟨ks, h⟩
  exact nkK_inj (h2.inj h)
theorem srtd_links {H : Hp} : ∀ {ys : List V} {ls : List Lk}, LkL H ys ls → SrtO.Srtd (ltK (itK H)) ys → SortedL ls
  | _, _, .nil, _ => List.Pairwise.nil
  | _, _, .cons (a := v) (b := l) ⟨a, e1, e2⟩ t, h => by
    have h1 := List.pairwise_cons.mp h
    refine List.pairwise_cons.mpr ⟨fun m hm => ?_, srtd_links t h1.2⟩
    have key : ∀ {vs : List V} {ms : List Lk}, LkL H vs ms → (∀ u ∈ vs, ltK (itK H) u v = false) → ∀ m ∈ ms, ltL m l = false := by
      intro vs ms hL
      induction hL with
      | nil => exact fun _ m hm => nomatch hm
      | cons hx _ ih =>
        obtain ⟨b, g1, g2⟩ := hx
        intro hu m hm
        rcases List.mem_cons.mp hm with rfl | hm
        · have := hu _ List.mem_cons_self
          unfold ltK at this
          rw [g1, e1, itK_eq (ks := itL m) g2, itK_eq (ks := itL l) e2, flK_it, flK_it] at this
          exact this
        · exact ih (fun u hu' => hu u (List.mem_cons_of_mem _ hu')) m hm
    exact key t h1.1 m hm
/-- data of links can be compared -/
theorem lk_data (l : Lk) : (lkK l).data = .tuple [.tuple [.int l.1.1, .int l.1.2], .tuple [.int l.2.1, .int l.2.2]] := by simp [lkK, nkK, itL, nkI, NestedKey.data, NestedKey.datas]
theorem lk_ok {ls : List Lk} : ∀ d ∈ ls.map (fun l => (lkK l).data), d.canLay0 = true ∧ d.depth ≤ 60 := fun d hd => by
  obtain ⟨l, _, rfl⟩ := List.mem_map.mp hd
  rw [lk_data]
  constructor
  · simp [PyData.canLay0, PyData.canLayAll0]
  · simp [PyData.depth, PyData.depthAll]
theorem eqv_end {x y : E2} : PyData.eqv (.tuple [.int x.1, .int x.2]) (.tuple [.int y.1, .int y.2]) = decide (x = y) := by
  have e : PyData.eqv (.tuple [.int x.1, .int x.2]) (.tuple [.int y.1, .int y.2]) = ((x.1 == y.1) && ((x.2 == y.2) && true)) := by simp only [PyData.eqv, PyData.eqvAll]
  rw [e, Bool.and_true]
  by_cases h : x = y
  · rw [decide_eq_true h, h]
    simp
  · rw [decide_eq_false h]
    cases q : (x.1 == y.1) && (x.2 == y.2) with
    | false => rfl
    | true =>
      rw [Bool.and_eq_true] at q
      exact absurd (Prod.ext (by simpa using q.1) (by simpa using q.2)) h
theorem eqv_link {x y : Lk} : PyData.eqv (lkK x).data (lkK y).data = decide (x = y) := by
  rw [lk_data, lk_data]
  have e : PyData.eqv (.tuple [.tuple [.int x.1.1, .int x.1.2], .tuple [.int x.2.1, .int x.2.2]]) (.tuple [.tuple [.int y.1.1, .int y.1.2], .tuple [.int y.2.1, .int y.2.2]]) = (PyData.eqv (.tuple [.int x.1.1, .int x.1.2]) (.tuple [.int y.1.1, .int y.1.2]) && (PyData.eqv (.tuple [.int x.2.1, .int x.2.2]) (.tuple [.int y.2.1, .int y.2.2]) && true)) := by simp only [PyData.eqv, PyData.eqvAll]
  rw [e, eqv_end, eqv_end, Bool.and_true]
  by_cases h : x = y
  · rw [decide_eq_true h, h]
    simp
  · rw [decide_eq_false h]
    cases q : decide (x.1 = y.1) && decide (x.2 = y.2) with
    | false => rfl
    | true =>
      rw [Bool.and_eq_true, decide_eq_true_eq, decide_eq_true_eq] at q
      exact absurd (Prod.ext q.1 q.2) h
/-! ### dicts by links -/
abbrev Mp := List (Lk × Int)
/-- the entries at B's tuples are M's -/
abbrev EntM (B : Hp) (es : List Ent) (M : Mp) : Prop := Paired (fun e x => e.1 = lkK x.1 ∧ e.2.2 = V.int x.2 ∧ NK B (lkK x.1) (.ref e.2.1)) es M
def keysM (M : Mp) : List Lk := M.map (·.1)
def valM (M : Mp) (l : Lk) : Option Int := (M.find? fun x => decide (x.1 = l)).map (·.2)
def dropM (M : Mp) (ls : List Lk) : Mp := M.filter fun x => decide (x.1 ∉ ls)
def putM (M : Mp) (l : Lk) (n : Int) : Mp := if (valM M l).isSome then M.map (fun x => if x.1 = l then (x.1, n) else x) else M ++ [(l, n)]
def has (e : E2) (l : Lk) : Bool := decide (l.1 = e) || decide (l.2 = e)
def atM (M : Mp) (e : E2) : List Lk := (srt (keysM M)).filter (has e)
theorem EntM.mono {B B' : Hp} (e : ∀ p xs, B p = some (.tup xs) → B' p = some (.tup xs)) {es : List Ent} {M : Mp} (h : EntM B es M) : EntM B' es M := Paired.mapP h fun _ _ ⟨h1, h2, h3⟩ => ⟨h1, h2, h3.mono e⟩
theorem EntM.same {B B' : Hp} (e : Same B B') {es : List Ent} {M : Mp} (h : EntM B es M) : EntM B' es M := h.mono fun _ _ => e _ _
theorem EntM.ok {B : Hp} {es : List Ent} {M : Mp} (h : EntM B es M) : EntsOk B es := by
  induction h with
  | nil => exact EntsOk.nil
  | cons h _ ih =>
    intro e he
    rcases List.mem_cons.mp he with rfl | he
    · rw [h.1]
      exact ⟨h.2.2, lkK_depth _⟩
    · exact ih e he
theorem EntM.len {B : Hp} {es : List Ent} {M : Mp} (h : EntM B es M) : es.length = M.length := Paired.length h
theorem EntM.at {B : Hp} {es : List Ent} {M : Mp} (h : EntM B es M) (l : Lk) : atN es (lkK l) = (valM M l).map V.int := by
  induction h with
  | nil => rfl
  | @cons e x es xs h _ ih =>
    unfold atN valM at ih ⊢
    rw [List.find?_cons, List.find?_cons, h.1]
    by_cases hc : x.1 = l
    · rw [decide_eq_true hc, decide_eq_true (by rw [hc])]
      show some e.2.2 = some (V.int x.2)
      rw [h.2.1]
    · rw [decide_eq_false hc, decide_eq_false (fun z => hc (lkK_inj z))]
      exact ih
theorem entM_map {B : Hp} {l : Lk} {n : Int} : ∀ {es : List Ent} {M : Mp}, EntM B es M → EntM B (es.map fun e => if e.1 = lkK l then (e.1, e.2.1, V.int n) else e) (M.map fun x => if x.1 = l then (x.1, n) else x)
  | _, _, .nil => .nil
  | e :: es, x :: xs, .cons h t => by
    refine .cons ?_ (entM_map t)
    by_cases hc : x.1 = l
    · have hc2 : e.1 = lkK l := by rw [h.1, hc]
      simp only [if_pos hc2, if_pos hc]
      exact ⟨h.1, trivial, h.2.2⟩
    · have hc2 : ¬ e.1 = lkK l := fun z => hc (lkK_inj (h.1.symm.trans z))
      simp only [if_neg hc2, if_neg hc]
      exact h
theorem paired_app {α β : Type} {R : α → β → Prop} : ∀ {xs us : List α} {ys ws : List β}, Paired R xs ys → Paired R us ws → Paired R (xs ++ us) (ys ++ ws)
  | _, _, _, _, .nil, h => h
  | _, _, _, _, .cons h t, h2 => .cons h (paired_app t h2)
theorem EntM.put {B : Hp} {es : List Ent} {M : Mp} (h : EntM B es M) {l : Lk} {b : Addr} (n : Int) (hk : NK B (lkK l) (.ref b)) : EntM B (putN es (lkK l) b (.int n)) (putM M l n) := by
  unfold putN putM
  rw [h.at l, Option.isSome_map]
  by_cases hc : (valM M l).isSome = true
  · rw [if_pos hc, if_pos hc]
    exact entM_map h
  · rw [if_neg hc, if_neg hc]
    exact paired_app h (.cons ⟨rfl, rfl, hk⟩ .nil)
theorem EntM.drop {B : Hp} {l : Lk} : ∀ {es : List Ent} {M : Mp}, EntM B es M → EntM B (dropN es (lkK l)) (dropM M [l])
  | _, _, .nil => .nil
  | e :: es, x :: xs, .cons h t => by
    unfold dropN dropM
    rw [List.filter_cons, List.filter_cons]
    by_cases hc : x.1 = l
    · have e1 : decide (e.1 ≠ lkK l) = false := decide_eq_false (fun z => z (by rw [h.1, hc]))
      have e2 : decide (x.1 ∉ [l]) = false := decide_eq_false (fun z => z (by rw [hc]; exact List.mem_cons_self))
      rw [e1, e2]
      exact EntM.drop t
    · have e1 : decide (e.1 ≠ lkK l) = true := decide_eq_true (fun z => hc (lkK_inj (h.1.symm.trans z)))
      have e2 : decide (x.1 ∉ [l]) = true := decide_eq_true (fun z => hc (List.mem_singleton.mp z))
      rw [e1, e2]
      exact .cons h (EntM.drop t)
theorem EntM.lkl {B : Hp} : ∀ {es : List Ent} {M : Mp}, EntM B es M → LkL B (es.map fun e => V.ref e.2.1) (keysM M)
  | _, _, .nil => .nil
  | _, _, .cons h t => .cons ⟨_, rfl, h.2.2⟩ (EntM.lkl t)
/-! ### their steps -/
section
variable {w : World} {σ : St} {H B : Hp} {Q : VK} {D : Ends} {td ty tv : TE} {L L' : List (Addr × HO)} {es : List Ent} {M : Mp} {l : Lk} {d b : Addr} {n : Int}
theorem w_nget (q : td σ H fun x H1 => ty σ H1 fun y H2 => rNGet w x y H2 Q) : tNGet w td ty σ H Q := q
theorem w_nin (q : ty σ H fun y H1 => td σ H1 fun x H2 => rNIn w x y H2 fun b => Q (.bl b) H2) : tNIn w ty td σ H Q := q
theorem w_nnot (q : ty σ H fun y H1 => td σ H1 fun x H2 => rNIn w x y H2 fun b => Q (.bl (!b)) H2) : tNNot w ty td σ H Q := q
theorem w_nput (q : tv σ H fun v H1 => td σ H1 fun x H2 => ty σ H2 fun y H3 => rNPut w x y v H3 fun H4 => D.nx σ H4) : sNPut w td ty tv D σ H := q
theorem w_ndel (q : td σ H fun x H1 => ty σ H1 fun y H2 => rNDel w x y H2 fun _ H3 => D.nx σ H3) : sNDel w td ty D σ H := q
theorem w_npop (q : td σ H fun x H1 => (∃ a es, x = .ref a ∧ H1 a = some (DN w a es)) ∧ ty σ H1 fun y H2 => rNDel w x y H2 Q) : tNPop w td ty σ H Q := q
theorem w_nnew (hs : Hs B L H) (q : ∀ p H', Hs B ((p, DN w p []) :: L) H' → Q (.ref p) H') : tNNew w σ H Q := fun p hp => q p _ (hs.new hp)
theorem atN_of (h : H d = some (DN w d es)) (e : EntM H es M) (hk : NK H (lkK l) (.ref b)) : AtN w H (.ref d) (.ref b) d b es (lkK l) := ⟨rfl, rfl, h, e.ok, hk, lkK_depth l⟩
theorem wn_get (hs : Hs B L H) (h : H d = some (DN w d es)) (e : EntM B es M) (hk : NK B (lkK l) (.ref b)) (hv : valM M l = some n) (q : Q (.int n) H) : rNGet w (.ref d) (.ref b) H Q :=
  ⟨d, b, es, lkK l, .int n, atN_of h (e.same hs.same) (hk.same hs.same), by rw [e.at l, hv]; rfl, q⟩
theorem wn_in {R : Bool → Prop} (hs : Hs B L H) (h : H d = some (DN w d es)) (e : EntM B es M) (hk : NK B (lkK l) (.ref b)) (q : R (valM M l).isSome) : rNIn w (.ref d) (.ref b) H R :=
  ⟨d, b, es, lkK l, atN_of h (e.same hs.same) (hk.same hs.same), by rw [e.at l, Option.isSome_map]; exact q⟩
theorem wn_put {R : Hp → Prop} (hs : Hs B L H) (h : Put L d (DN w d es) (DN w d (putN es (lkK l) b (.int n))) L') (e : EntM B es M) (hk : NK B (lkK l) (.ref b)) (hl : M.length ≤ 1000) (q : ∀ H', Hs B L' H' → EntM B (putN es (lkK l) b (.int n)) (putM M l n) → R H') : rNPut w (.ref d) (.ref b) (.int n) H R :=
  ⟨d, b, es, lkK l, atN_of (hs.gets h) (e.same hs.same) (hk.same hs.same), by rw [e.len, sizeLine_eq]; omega, q _ (hs.puts h) (e.put n hk)⟩
theorem wn_del {R : V → Hp → Prop} (hs : Hs B L H) (h : Put L d (DN w d es) (DN w d (dropN es (lkK l))) L') (e : EntM B es M) (hk : NK B (lkK l) (.ref b)) (hv : valM M l = some n) (q : ∀ H', Hs B L' H' → EntM B (dropN es (lkK l)) (dropM M [l]) → R (.int n) H') : rNDel w (.ref d) (.ref b) H R :=
  ⟨d, b, es, lkK l, .int n, atN_of (hs.gets h) (e.same hs.same) (hk.same hs.same), by rw [e.at l, hv]; rfl, q _ (hs.puts h) e.drop⟩
theorem w_sortD (hs : Hs B L H) (h : H d = some (DN w d es)) (e : EntM B es M) (q : ∀ p ys H', LkL B ys (srt (keysM M)) → Hs B ((p, .lst ys) :: L) H' → Q (.ref p) H') : rSortDN w (some 2) [some 2] [.ref d] H Q := by
  have eH := e.same hs.same
  refine ⟨d, es, itK H, rfl, h, fun z hz => ?_, fun ys p h1 h2 hp => ?_⟩
  · have key : ∀ {es : List Ent} {M : Mp}, EntM H es M → ∀ z ∈ es, ∃ l, NK H (lkK l) (.ref z.2.1) := by
      intro es M e
      induction e with
      | nil => exact fun _ hz => nomatch hz
      | cons h _ ih =>
        intro z hz
        rcases List.mem_cons.mp hz with rfl | hz
        · exact ⟨_, h.2.2⟩
        · exact ih z hz
    obtain ⟨l, hl⟩ := key eH z hz
    rw [itK_eq (ks := itL l) hl]
    exact ⟨hl, rfl⟩
  · obtain ⟨ms, p1, p2⟩ := paired_perm h2.perm e.lkl
    have e1 := srt_uniq p1 (srtd_links (LkL.same hs.same p2) h1)
    subst e1
    exact q p ys _ p2 (hs.new hp)
theorem w_ltT {K : PySem.W.Frag} {p q : Addr} {ns ms : List Int} (h1 : H p = some (.tup (ns.map V.int))) (h2 : H q = some (.tup (ms.map V.int))) (k : Q (.bl (lexI ns ms)) H) : rLtT K (.ref p) (.ref q) H Q := ⟨p, q, ns, ms, rfl, rfl, SqT.of h1, SqT.of h2, k⟩
end
def ntQ : HO → Bool
  | .tup _ => false
  | _ => true
/-- what stands aside of our own objects, none a tuple, is the ground: all tuples stand there -/
theorem Hs.ground {B H : Hp} {L : List (Addr × HO)} (hs : Hs B L H) (nt : L.all (fun e => ntQ e.2) = true) : ∃ B1, Same B B1 ∧ Hs B1 L H ∧ ∀ p xs, H p = some (.tup xs) → B1 p = some (.tup xs) := by
  obtain ⟨h1, h2⟩ := hs.rebase
  refine ⟨_, h1, h2, fun p xs e => ?_⟩
  rw [around_out fun m => ?_]
  · exact e
  · obtain ⟨z, hz, rfl⟩ := List.mem_map.mp m
    have h3 := List.all_eq_true.mp nt z hz
    rw [hs.at_ z hz] at e
    rw [Option.some.inj e] at h3
    cases h3
theorem r64 {k : Nat} {A : Around} (r : Room k A) : A.units + 64 < cLine := by
  have := r.un
  omega
theorem r65 {k : Nat} {A : Around} (r : Room k A) : A.units + 65 < cLine := by
  have := r.un
  omega
theorem r0 {k : Nat} {A : Around} (r : Room k A) : A.units < cLine := by
  have := r.un
  omega
abbrev endO (x : E2) : HO := .tup [.int x.1, .int x.2]
theorem shp_end (x : E2) : SeqAt.shaped (.tuple [.int x.1, .int x.2]) = true := by simp [SeqAt.shaped, PyData.canLay0, PyData.canLayAll0, PyData.depth, PyData.depthAll]
theorem dp_end {K : PySem.W.Frag} {H : Hp} {p : Addr} {x : E2} (h : H p = some (endO x)) : Dp K H (.ref p) (.tuple [.int x.1, .int x.2]) := .tup (SqT.of h) (ImAll.cons (.int _) (.cons (.int _) .nil)).dp
theorem w_eqE {K : PySem.W.Frag} {H : Hp} {Q : VK} {p q : Addr} {x y : E2} (h1 : H p = some (endO x)) (h2 : H q = some (endO y)) (k : Q (.bl (decide (x = y))) H) : rEqD K (.ref p) (.ref q) H Q :=
  w_eqD (dp_end h1) (dp_end h2) (shp_end x) (shp_end y) (by rw [eqv_end]; exact k)
/-! ### what holds of the links -/
structure IM (M : Mp) : Prop where
  nd : (keysM M).Nodup
  ok : ∀ l ∈ keysM M, l.1.1 ≠ l.2.1 ∧ lexI [l.1.1, l.1.2] [l.2.1, l.2.2] = true
  dj : ∀ x ∈ keysM M, ∀ y ∈ keysM M, ∀ e : E2, has e x = true → has e y = true → x = y
theorem keys_drop {M : Mp} {ls : List Lk} : keysM (dropM M ls) = (keysM M).filter fun l => decide (l ∉ ls) := by
  unfold keysM dropM
  rw [List.filter_map]
  rfl
theorem mem_keys_drop {M : Mp} {ls : List Lk} {l : Lk} : l ∈ keysM (dropM M ls) ↔ l ∈ keysM M ∧ l ∉ ls := by
  rw [keys_drop, List.mem_filter, decide_eq_true_eq]
theorem IM.nil : IM [] := ⟨List.nodup_nil, (fun _ h => nomatch h), (fun _ h => nomatch h)⟩
theorem IM.drop {M : Mp} (h : IM M) (ls : List Lk) : IM (dropM M ls) := by
  refine ⟨?_, fun l hl => h.ok l (mem_keys_drop.mp hl).1, fun x hx y hy => h.dj x (mem_keys_drop.mp hx).1 y (mem_keys_drop.mp hy).1⟩
  rw [keys_drop]
  exact h.nd.filter _
theorem val_some {M : Mp} {l : Lk} : (valM M l).isSome = true ↔ l ∈ keysM M := by
  unfold valM
  rw [Option.isSome_map, List.find?_isSome]
  constructor
  · rintro ⟨x, hx, e⟩
    exact List.mem_map.mpr ⟨x, hx, of_decide_eq_true e⟩
  · intro h
    obtain ⟨x, hx, e⟩ := List.mem_map.mp h
    exact ⟨x, hx, decide_eq_true e⟩
theorem val_of {M : Mp} {l : Lk} (h : l ∈ keysM M) : ∃ n, valM M l = some n := Option.isSome_iff_exists.mp (val_some.mpr h)
theorem mem_at {M : Mp} {e : E2} {l : Lk} : l ∈ atM M e ↔ l ∈ keysM M ∧ has e l = true := by
  unfold atM
  rw [List.mem_filter, mem_srt]
theorem at_nodup {M : Mp} (h : IM M) (e : E2) : (atM M e).Nodup := ((srt_perm _).nodup_iff.mpr h.nd).filter _
theorem at_one {M : Mp} (h : IM M) (e : E2) : atM M e = [] ∨ ∃ l, atM M e = [l] := by
  have nd := at_nodup h e
  match hm : atM M e with
  | [] => exact .inl rfl
  | [l] => exact .inr ⟨l, rfl⟩
  | x :: y :: r =>
    have hx : x ∈ atM M e := by rw [hm]; exact List.mem_cons_self
    have hy : y ∈ atM M e := by rw [hm]; exact List.mem_cons_of_mem _ List.mem_cons_self
    obtain ⟨x1, x2⟩ := mem_at.mp hx
    obtain ⟨y1, y2⟩ := mem_at.mp hy
    have := h.dj x x1 y y1 e x2 y2
    subst this
    rw [hm] at nd
    exact absurd List.mem_cons_self (List.nodup_cons.mp nd).1
theorem find_at {M : Mp} (e : E2) : (srt (keysM M)).find? (has e) = (atM M e).head? := by
  unfold atM
  rw [List.head?_filter]
theorem at_drop {M : Mp} {ls : List Lk} {e : E2} : atM (dropM M ls) e = (atM M e).filter fun l => decide (l ∉ ls) := by
  unfold atM
  rw [keys_drop, ← srt_filter, List.filter_filter, List.filter_filter]
  congr 1
  funext l
  exact Bool.and_comm _ _
theorem drop_drop {M : Mp} {a b : List Lk} : dropM (dropM M a) b = dropM M (a ++ b) := by
  unfold dropM
  rw [List.filter_filter]
  congr 1
  funext x
  by_cases h1 : x.1 ∈ a <;> by_cases h2 : x.1 ∈ b <;> simp [h1, h2]
theorem drop_nil {M : Mp} : dropM M [] = M := by
  unfold dropM
  rw [List.filter_eq_self]
  exact fun _ _ => decide_eq_true (fun z => nomatch z)
theorem drop_len {M : Mp} {ls : List Lk} : (dropM M ls).length ≤ M.length := List.length_filter_le _ _
/-- the law's list is the program's -/
theorem at_two {M : Mp} {one other : E2} : (atM M one ++ (atM M other).filter fun l => decide (l ∉ atM M one)) = atM M one ++ atM (dropM M (atM M one)) other := by rw [at_drop]
/-- the link of two ends -/
def mkL (x y : E2) : Lk := if lexI [x.1, x.2] [y.1, y.2] = true then (x, y) else (y, x)
theorem lexI_ne {x y : E2} (h : x.1 ≠ y.1) : lexI [x.1, x.2] [y.1, y.2] = decide (x.1 < y.1) := by rw [lexI_cons, if_neg h]
theorem mkL_ok {x y : E2} (h : x.1 ≠ y.1) : (mkL x y).1.1 ≠ (mkL x y).2.1 ∧ lexI [(mkL x y).1.1, (mkL x y).1.2] [(mkL x y).2.1, (mkL x y).2.2] = true := by
  unfold mkL
  by_cases hc : lexI [x.1, x.2] [y.1, y.2] = true
  · rw [if_pos hc]
    exact ⟨h, hc⟩
  · rw [if_neg hc]
    refine ⟨fun z => h z.symm, ?_⟩
    rw [lexI_ne h] at hc
    show lexI [y.1, y.2] [x.1, x.2] = true
    rw [lexI_ne (fun z => h z.symm)]
    have : ¬ x.1 < y.1 := fun z => hc (decide_eq_true z)
    exact decide_eq_true (by omega)
theorem mkL_comm {x y : E2} (h : x.1 ≠ y.1) : mkL x y = mkL y x := by
  unfold mkL
  rw [lexI_ne h, lexI_ne (fun z => h z.symm)]
  by_cases hc : x.1 < y.1
  · rw [if_pos (decide_eq_true hc), if_neg (by rw [decide_eq_true_eq]; omega)]
  · rw [if_neg (by rw [decide_eq_true_eq]; exact hc), if_pos (decide_eq_true (by omega))]
theorem mkL_of {l : Lk} (h : l.1.1 ≠ l.2.1 ∧ lexI [l.1.1, l.1.2] [l.2.1, l.2.2] = true) : mkL l.1 l.2 = l := by
  unfold mkL
  rw [if_pos h.2]
theorem has_mkL {x y e : E2} : has e (mkL x y) = true ↔ e = x ∨ e = y := by
  unfold has mkL
  split
  · rw [Bool.or_eq_true, decide_eq_true_eq, decide_eq_true_eq]
    exact ⟨fun z => z.elim (fun q => .inl q.symm) (fun q => .inr q.symm), fun z => z.elim (fun q => .inl q.symm) (fun q => .inr q.symm)⟩
  · rw [Bool.or_eq_true, decide_eq_true_eq, decide_eq_true_eq]
    exact ⟨fun z => z.elim (fun q => .inr q.symm) (fun q => .inl q.symm), fun z => z.elim (fun q => .inr q.symm) (fun q => .inl q.symm)⟩
theorem keys_put {M : Mp} {l : Lk} {n : Int} : keysM (putM M l n) = if l ∈ keysM M then keysM M else keysM M ++ [l] := by
  unfold putM
  by_cases hc : l ∈ keysM M
  · rw [if_pos (val_some.mpr hc), if_pos hc]
    unfold keysM
    rw [List.map_map]
    refine List.map_congr_left fun x _ => ?_
    show (if x.1 = l then (x.1, n) else x).1 = x.1
    split <;> rfl
  · rw [if_neg (fun z => hc (val_some.mp z)), if_neg hc]
    unfold keysM
    rw [List.map_append]
    rfl
theorem IM.put_old {M : Mp} (h : IM M) {l : Lk} (n : Int) (hl : l ∈ keysM M) : IM (putM M l n) := by
  have e : keysM (putM M l n) = keysM M := by rw [keys_put, if_pos hl]
  exact ⟨by rw [e]; exact h.nd, by rw [e]; exact h.ok, by rw [e]; exact h.dj⟩
/-- a link that is seen, whose ends' links are lost -/
theorem IM.put_new {M : Mp} (h : IM M) {x y : E2} (n : Int) (hxy : x.1 ≠ y.1) (hx : ∀ l ∈ keysM M, has x l = false) (hy : ∀ l ∈ keysM M, has y l = false) : IM (putM M (mkL x y) n) ∧ mkL x y ∉ keysM M := by
  have hn : mkL x y ∉ keysM M := fun z => by
    have h1 : has x (mkL x y) = true := has_mkL.mpr (.inl rfl)
    rw [hx _ z] at h1
    cases h1
  have e : keysM (putM M (mkL x y) n) = keysM M ++ [mkL x y] := by rw [keys_put, if_neg hn]
  have no : ∀ e : E2, has e (mkL x y) = true → ∀ l ∈ keysM M, has e l = false := fun e he l hl => by
    rcases has_mkL.mp he with rfl | rfl
    · exact hx l hl
    · exact hy l hl
  refine ⟨⟨?_, fun l hl => ?_, fun u hu v hv e2 h1 h2 => ?_⟩, hn⟩
  · rw [e, List.nodup_append]
    refine ⟨h.nd, List.pairwise_singleton _ _, fun a ha b hb z => ?_⟩
    rw [List.mem_singleton.mp hb] at z
    subst z
    exact hn ha
  · rw [e] at hl
    rcases List.mem_append.mp hl with m | m
    · exact h.ok l m
    · rw [List.mem_singleton.mp m]
      exact mkL_ok hxy
  · rw [e] at hu hv
    rcases List.mem_append.mp hu with m | m <;> rcases List.mem_append.mp hv with m' | m'
    · exact h.dj u m v m' e2 h1 h2
    · rw [List.mem_singleton.mp m'] at h2 ⊢
      rw [no e2 h2 u m] at h1
      cases h1
    · rw [List.mem_singleton.mp m] at h1 ⊢
      rw [no e2 h1 v m'] at h2
      cases h2
    · rw [List.mem_singleton.mp m, List.mem_singleton.mp m']
theorem at_none {M : Mp} {ls : List Lk} {e : E2} (h : ∀ l ∈ atM M e, l ∈ ls) : ∀ l ∈ keysM (dropM M ls), has e l = false := fun l hl => by
  obtain ⟨h1, h2⟩ := mem_keys_drop.mp hl
  cases q : has e l with
  | false => rfl
  | true => exact absurd (h l (mem_at.mpr ⟨h1, q⟩)) h2
theorem put_len {M : Mp} {l : Lk} {n : Int} : (putM M l n).length ≤ M.length + 1 := by
  unfold putM
  split
  · rw [List.length_map]
    omega
  · rw [List.length_append]
    exact Nat.le_refl _
theorem srt_len {ls : List Lk} : (srt ls).length = ls.length := (srt_perm ls).length_eq
theorem keys_len {M : Mp} : (keysM M).length = M.length := List.length_map _
theorem at_len {M : Mp} {e : E2} : (atM M e).length ≤ M.length := by
  unfold atM
  refine Nat.le_trans (List.length_filter_le _ _) ?_
  rw [srt_len, keys_len]
  exact Nat.le_refl _
/-! ### lists of links, by a test -/
theorem take_filter {α : Type} {ls : List α} {i : Nat} {l : α} {p : α → Bool} (e : ls[i]? = some l) : (ls.take (i + 1)).filter p = (ls.take i).filter p ++ (if p l = true then [l] else []) := by
  rw [List.take_add_one, e, List.filter_append]
  congr 1
  show [l].filter p = _
  rw [List.filter_cons]
  split <;> rfl
theorem w_lcF {K : PySem.W.Frag} {σ : St} {H B : Hp} {Q : VK} {tl : TE} {a : Addr} {tt : TT} {us : List V} {ls : List Lk} {i : Nat} (p : Lk → Bool) (hx : SqL K H a us) (hL : LkL B us ls) (hz : us.length ≤ 1000) (htl : ∀ Q : VK, Q (.ref a) H → tl σ H Q)
    (hw : ∀ x, wipe ((wipe σ [i]).set i (some x)) [i] = wipe σ [i]) (hv : ∀ x, ((wipe σ [i]).set i (some x))[i]? = some (some x))
    (ht : ∀ t l H1, l ∈ ls → NK B (lkK l) (.ref t) → Same H H1 → ∀ R : Bool → Hp → Prop, (∀ H2, Same H1 H2 → R (p l) H2) → tt ((wipe σ [i]).set i (some (.ref t))) H1 R)
    (hq : ∀ D acc H', Hs H [(D, .lst acc)] H' → LkL B acc (ls.filter p) → Q (.ref D) H') : tLc (iList K tl) (gName i) tt (tVar i) [i] σ H Q := by
  refine w_lc hx (fun D j H' => ∃ acc, Hs H [(D, .lst acc)] H' ∧ LkL B acc ((ls.take j).filter p)) htl (fun D hD => ⟨[], (Hs.start H).new hD, .nil⟩) (fun D j H' _ ⟨_, h, _⟩ => h.same.seq hx) ?_ ?_
  · rintro D j x H' hj ⟨acc, h1, h2⟩
    obtain ⟨t, l, rfl, hl, hk⟩ := LkL.get hL hj
    refine ⟨hw _, ht t l H' (List.mem_of_getElem? hl) hk h1.same _ fun H2 sb => ?_⟩
    have hlen := LkL.len h2
    have hj2 := (List.getElem?_eq_some_iff.mp hl).1
    have hll := LkL.len hL
    have h3 : Hs H [(D, .lst acc)] H2 := ⟨h1.same.trans sb, h1.nd, h1.out, fun e he => sb _ _ (h1.at_ e he)⟩
    have e1 := take_filter (p := p) hl
    by_cases hp : p l = true
    · rw [if_pos hp]
      rw [if_pos hp] at e1
      refine ⟨_, hv _, acc, h3.g0, ?_, acc ++ [.ref t], h3.p0 _, ?_⟩
      · refine szl ?_
        have := List.length_filter_le p (ls.take j)
        rw [List.length_take] at this
        omega
      · rw [e1]
        exact h2.snoc hk
    · rw [if_neg hp]
      rw [if_neg hp, List.append_nil] at e1
      refine ⟨acc, h3, ?_⟩
      rw [e1]
      exact h2
  · rintro D H' ⟨acc, h1, h2⟩
    rw [LkL.len hL, List.take_length] at h2
    exact hq D acc H' h1 h2
/-- what is walked first, then the walk -/
theorem w_lcS {K : PySem.W.Frag} {σ : St} {H : Hp} {Q : VK} {tl : TE} {g : TG} {tt : TT} {te : TE} {vs : List Nat} (q : tl σ H fun v H1 => tLc (iList K (tC v)) g tt te vs σ H1 Q) : tLc (iList K tl) g tt te vs σ H Q := q
theorem w_forS {K : PySem.W.Frag} {σ : St} {H : Hp} {D : Ends} {tl : TE} {g : TG} {tb : TS} (q : tl σ H fun v H1 => tFor (iList K (tC v)) g tb D σ H1) : tFor (iList K tl) g tb D σ H := q
theorem w_isL {K : PySem.W.Frag} {H : Hp} {Q : VK} {p : Addr} {xs : List V} (h : H p = some (.lst xs)) (k : Q (.bl true) H) : rIsi K [.ref p, .ty "list"] H Q :=
  ⟨_, _, _, _, true, rfl, .ty "list", .base (.lst h), kit_ty (by decide +kernel), k⟩
end Hb

set_option Elab.async false
set_option linter.all false
set_option maxRecDepth 100000
set_option maxHeartbeats 4000000
/-! Sets whose elements are tuples of a kind of keys (nested tuples: KE's nestedKind), kept in the model's own table. -/
namespace Hb
open PySem L2 PyProof.Rows

section
variable {P : Program} {w : World} {κ : Type} [DecidableEq κ]
/-- what the model asks of an element besides its hash and its == -/
structure Els (knd : HeapKind P w κ) : Prop where
  ofA : ∀ {A : Around} {E : Value → Shared → Prop} {s : Shared} {k : κ} {b : Addr} {Q : Bool → Shared → Prop}, knd.is s.heap k b → Q false s → wpAny (model P w) A (ofAClassStatement 8 (.ref b)) Q E s
  byV : ∀ {A : Around} {E : Value → Shared → Prop} {s : Shared} {k : κ} {b : Addr} {Q : Bool → Shared → Prop}, knd.is s.heap k b → Q true s → wpAny (model P w) A (hashByValue 8 (.ref b)) Q E s
  stay : ∀ {h h' : Heap} {k : κ} {b d : Addr} {o : Obj} {es : Array (Int × Value)} {ep : Nat} {t : SetTable}, knd.is h k b → h.get? d = some o → o.data = .set es ep t → Heap.SameBut d h h' → knd.is h' k b
  grow : ∀ {h h' : Heap} {k : κ} {b : Addr}, knd.is h k b → (∀ c o, h.get? c = some o → h'.get? c = some o) → knd.is h' k b
end

/-! ### nested tuples are such elements -/
section
variable {P : Program} {w : World}
def NoCls (P : Program) (w : World) (n : Nat) (s : Shared) (v : Value) : Prop := ∀ (A : Around) (E : Value → Shared → Prop) (Q : Bool → Shared → Prop), Q false s → wpAny (model P w) A (ofAClassStatement n v) Q E s
def ByVal (P : Program) (w : World) (n : Nat) (s : Shared) (v : Value) : Prop := ∀ (A : Around) (E : Value → Shared → Prop) (Q : Bool → Shared → Prop), Q true s → wpAny (model P w) A (hashByValue n v) Q E s
theorem NoCls.pure {n : Nat} {s : Shared} {v : Value} (h : ofAClassStatement n v = Pure.pure false) : NoCls P w n s v := fun A E Q q => by
  rw [h]
  exact wpAny_pure q
theorem ByVal.pure {n : Nat} {s : Shared} {v : Value} (h : hashByValue n v = Pure.pure true) : ByVal P w n s v := fun A E Q q => by
  rw [h]
  exact wpAny_pure q
theorem NoCls.tup {n m : Nat} {s : Shared} {a : Addr} {o : Obj} {vs : Array Value} (ho : s.heap.get? a = some o) (hc : o.cls = .type "tuple") (hd : o.data = .seq vs m) (hv : ∀ v ∈ vs.toList, NoCls P w n s v) : NoCls P w (n + 1) s (.ref a) := fun A E Q q => by
  have hT : s.TypeIs (.ref a) "tuple" := ⟨o, ho, hc⟩
  unfold ofAClassStatement
  refine wpAny_bind (wpAny_typeOf hT ?_)
  dsimp only
  have e : (("tuple" : String) == "tuple") = true := by decide
  simp only [e, if_true, Bool.not_true, Bool.false_eq_true, if_false]
  try refine wpAny_bind (wpAny_pure ?_)
  try simp only [Bool.not_true, Bool.false_eq_true, if_false]
  show wpAny _ _ (seqItems? (.ref a) >>= _) _ _ s
  refine wpAny_bind (wpAny_seqItems ho hd ?_)
  dsimp only
  refine wpAny_bind ?_
  show wpAny _ _ (forIn vs _ _) _ _ s
  rw [← Array.forIn_toList]
  refine wpAny_forIn_list _ (fun rest r s' => r.1 = none ∧ s' = s ∧ ∀ v ∈ rest, NoCls P w n s v) _ ?_ ?_ _ _ ⟨rfl, rfl, hv⟩
  · rintro v rest r s' ⟨_, rfl, all⟩
    refine wpAny_bind (all v List.mem_cons_self _ _ _ ?_)
    simp only [Bool.false_eq_true, if_false]
    exact wpAny_pure ⟨rfl, rfl, fun u hu => all u (List.mem_cons_of_mem _ hu)⟩
  · rintro ⟨r1, r2⟩ s' ⟨hr, rfl, _⟩
    simp only at hr
    subst hr
    exact wpAny_pure q
theorem ByVal.tup {n m : Nat} {s : Shared} {a : Addr} {o : Obj} {vs : Array Value} (ho : s.heap.get? a = some o) (hc : o.cls = .type "tuple") (hd : o.data = .seq vs m) (hv : ∀ v ∈ vs.toList, ByVal P w n s v) : ByVal P w (n + 1) s (.ref a) := fun A E Q q => by
  have hT : s.TypeIs (.ref a) "tuple" := ⟨o, ho, hc⟩
  unfold hashByValue
  refine wpAny_bind (wpAny_specialOf hT F.slot_tuple_hash.lookup ?_)
  show wpAny _ _ (seqItems? (.ref a) >>= _) _ _ s
  refine wpAny_bind (wpAny_seqItems ho hd ?_)
  refine wpAny_bind ?_
  show wpAny _ _ (forIn vs _ _) _ _ s
  rw [← Array.forIn_toList]
  refine wpAny_forIn_list _ (fun rest r s' => r.1 = none ∧ s' = s ∧ ∀ v ∈ rest, ByVal P w n s v) _ ?_ ?_ _ _ ⟨rfl, rfl, hv⟩
  · rintro v rest r s' ⟨_, rfl, all⟩
    refine wpAny_bind (all v List.mem_cons_self _ _ _ ?_)
    simp only [Bool.not_true, Bool.false_eq_true, if_false]
    exact wpAny_pure ⟨rfl, rfl, fun u hu => all u (List.mem_cons_of_mem _ hu)⟩
  · rintro ⟨r1, r2⟩ s' ⟨hr, rfl, _⟩
    simp only at hr
    subst hr
    exact wpAny_pure q
theorem scal_ofA {v : Value} (h : v.onHeap = false) (n : Nat) (hv : v = .none ∨ (∃ b, v = .bool b) ∨ (∃ i t, v = .int i t) ∨ ∃ x t, v = .str x t) : ofAClassStatement n v = Pure.pure false := by
  rcases hv with rfl | ⟨b, rfl⟩ | ⟨i, t, rfl⟩ | ⟨x, t, rfl⟩ <;> cases n <;> rfl
theorem scal_byV {v : Value} (n : Nat) (hv : v = .none ∨ (∃ b, v = .bool b) ∨ (∃ i t, v = .int i t)) : hashByValue n v = Pure.pure true := by
  rcases hv with rfl | ⟨b, rfl⟩ | ⟨i, t, rfl⟩ <;> cases n <;> rfl
mutual
/-- no text is in it: its hash hangs on its value alone -/
def noTx : NestedKey → Bool
  | .none => true
  | .num _ => true
  | .text _ => false
  | .tup ks => noTxs ks
def noTxs : List NestedKey → Bool
  | [] => true
  | k :: ks => noTx k && noTxs ks
end
mutual
theorem nested_els : ∀ (k : NestedKey) (v : Value) (n : Nat) (s : Shared), NestedIs s.heap k v → k.depth ≤ n → noTx k = true → NoCls P w n s v ∧ ByVal P w n s v
  | .none, _, n, s, x, _, _ => by
    cases x
    exact ⟨.pure (scal_ofA rfl n (.inl rfl)), .pure (scal_byV n (.inl rfl))⟩
  | .num i, _, n, s, x, _, _ => by
    cases x with
    | bool e => exact ⟨.pure (scal_ofA rfl n (.inr (.inl ⟨_, rfl⟩))), .pure (scal_byV n (.inr (.inl ⟨_, rfl⟩)))⟩
    | int _ t => exact ⟨.pure (scal_ofA rfl n (.inr (.inr (.inl ⟨_, _, rfl⟩)))), .pure (scal_byV n (.inr (.inr ⟨_, _, rfl⟩)))⟩
  | .text y, _, n, s, x, _, h => by
    simp only [noTx, Bool.false_eq_true] at h
  | .tup ks, _, n, s, x, hn, h => by
    cases x with
    | tup hg hc hd hk =>
      simp only [NestedKey.depth] at hn
      simp only [noTx] at h
      cases n with
      | zero => omega
      | succ n =>
        have all := nested_elss ks _ n s hk (by omega) h
        exact ⟨.tup hg hc hd fun v hv => (all v hv).1, .tup hg hc hd fun v hv => (all v hv).2⟩
theorem nested_elss : ∀ (ks : List NestedKey) (vs : List Value) (n : Nat) (s : Shared), NestedAll s.heap ks vs → NestedKey.depthAll ks ≤ n → noTxs ks = true → ∀ v ∈ vs, NoCls P w n s v ∧ ByVal P w n s v
  | [], _, n, s, x, _, _, v, hv => by cases x; cases hv
  | k :: ks, _, n, s, x, hn, h, v, hv => by
    cases x with
    | cons x1 x2 =>
      simp only [NestedKey.depthAll] at hn
      simp only [noTxs, Bool.and_eq_true] at h
      rcases List.mem_cons.mp hv with e | hv
      · rw [e]
        exact nested_els k _ n s x1 (by omega) h.1
      · exact nested_elss ks _ n s x2 (by omega) h.2 v hv
end
/-- the kind of nested tuples without texts -/
def numKind (P : Program) (w : World) : HeapKind P w NestedKey where
  is := fun h k a => (nestedKind P w).is h k a ∧ noTx k = true
  hash := (nestedKind P w).hash
  draws := (nestedKind P w).draws
  room := (nestedKind P w).room
  inj := fun x y => (nestedKind P w).inj x.1 y.1
  keeps := fun x ho hd hs => ⟨(nestedKind P w).keeps x.1 ho hd hs, x.2⟩
  pyHash := fun hr x h => (nestedKind P w).pyHash hr x.1 h
  eqBool := fun hr x y h => (nestedKind P w).eqBool hr x.1 y.1 h
  quiet := fun x h => (nestedKind P w).quiet x.1 h
theorem els_num : Els (numKind P w) where
  ofA := fun {A E s k b Q} h q => (nested_els k _ 8 s h.1.1 h.1.2 h.2).1 A E Q q
  byV := fun {A E s k b Q} h q => (nested_els k _ 8 s h.1.1 h.1.2 h.2).2 A E Q q
  stay := fun {h h' k b d o es ep t} x ho hd hs => ⟨⟨NestedIs.at (fun c oc vs n hc hdc => by
    refine (hs.2 c fun e => ?_).trans hc
    subst e
    rw [ho] at hc
    cases hc
    rw [hd] at hdc
    cases hdc) k _ x.1.1, x.1.2⟩, x.2⟩
  grow := fun x k => ⟨⟨NestedIs.at (fun c o _ _ hc _ => k c o hc) _ _ x.1.1, x.1.2⟩, x.2⟩
end

/-! ### the table -/
section
variable {P : Program} {w : World} {κ : Type} [DecidableEq κ] {knd : HeapKind P w κ} {A : Around} {E : Value → Shared → Prop} {s : Shared}
/-- the elements as the table's rows -/
def rowsK (knd : HeapKind P w κ) (L : List (κ × Addr)) : List (Int × Value) := L.map fun p => (knd.hash p.1, Value.ref p.2)
/-- the set at a, of the elements L (in the table's order) -/
structure SetK (knd : HeapKind P w κ) (h : Heap) (a : Addr) (L : List (κ × Addr)) (es : Array (Int × Value)) (ep : Nat) (t : SetTable) : Prop where
  ob : ∃ o, h.get? a = some o ∧ o.ExactSet ∧ o.data = .set es ep t
  rows : es.toList = rowsK knd L
  tab : TabOk t (L.map fun p => knd.hash p.1)
  nd : (L.map (·.1)).Nodup
  els : ∀ p ∈ L, knd.is h p.1 p.2
  pl : t.plain = true
  led : w.params.followText "set-order" = true ∨ t.led = true
  room : L.length * 5 < t.mask * 3
  few : L.length < 64
variable {a : Addr} {L : List (κ × Addr)} {es : Array (Int × Value)} {ep : Nat} {t : SetTable}
theorem rowsK_size (e : es.toList = rowsK knd L) : es.size = L.length := by
  rw [← Array.length_toList, e]
  exact List.length_map _
theorem rowsK_at (e : es.toList = rowsK knd L) (i : Nat) : es[i]? = (L[i]?).map fun p => (knd.hash p.1, Value.ref p.2) := by
  rw [← Array.getElem?_toList, e]
  exact List.getElem?_map ..
theorem fitsK (T : TabOk t (L.map fun p => knd.hash p.1)) (e : es.toList = rowsK knd L) (hm : L.length ≤ t.mask) : t.fits es.size = true := by
  have h1 : t.place.size = L.length := by
    rw [T.sz]
    exact List.length_map _
  unfold SetTable.fits SetTable.fill
  rw [T.dm, rowsK_size e, Bool.and_eq_true, beq_iff_eq, decide_eq_true_eq]
  exact ⟨h1, by show t.place.size + 0 ≤ t.mask; omega⟩
theorem SetK.fits (R : SetK knd s.heap a L es ep t) : t.fits es.size = true := fitsK R.tab R.rows (by have := R.room; omega)
/-- a search shows nothing of the elements -/
theorem unseenK (el : Els knd) {k : κ} {b : Addr} {Q : Bool → Shared → Prop} (hk : knd.is s.heap k b) {ys : List Value} (hy : ∀ y ∈ ys, ∃ j c, y = Value.ref c ∧ knd.is s.heap j c) (h : Q false s) : wpAny (model P w) A (searchCouldBeSeen (.ref b) ys) Q E s := by
  unfold searchCouldBeSeen
  refine wpAny_bind ?_
  refine wpAny_forIn_list _ (fun rest r s' => r.1 = none ∧ s' = s ∧ ∀ y ∈ rest, y ∈ ys) _ ?_ ?_ _ _ ⟨rfl, rfl, fun _ z => z⟩
  · rintro v rest r s' ⟨_, rfl, sub⟩
    obtain ⟨j, c, rfl, hc⟩ := hy v (sub v List.mem_cons_self)
    have more : ∀ y ∈ rest, y ∈ ys := fun u hu => sub u (List.mem_cons_of_mem _ hu)
    dsimp only
    by_cases hv : (b == c || (carriedByValue (.ref b) && carriedByValue (.ref c))) = true
    · exact wp_if_pos hv (wpAny_pure ⟨rfl, rfl, more⟩)
    · refine wp_if_neg hv (wpAny_bind (knd.quiet hk ?_))
      simp only [Bool.not_true, Bool.false_eq_true, if_false]
      refine wpAny_bind (knd.quiet hc ?_)
      simp only [Bool.not_true, Bool.false_eq_true, if_false]
      refine wpAny_bind (el.ofA hk ?_)
      simp only [Bool.false_eq_true, if_false]
      refine wpAny_bind (el.ofA hc ?_)
      simp only [Bool.false_eq_true, if_false]
      exact wpAny_pure ⟨rfl, rfl, more⟩
  · rintro ⟨r1, r2⟩ s' ⟨hr, rfl, _⟩
    simp only at hr
    subst hr
    exact wpAny_pure h

/-- where a search for the hash h stands behind c steps -/
abbrev stepK (t : SetTable) (h : Int) (c : Nat) : SetTable.Probe := nth t.mask (runAt t.mask (SetTable.bits h % (t.mask + 1)) (SetTable.bits h)) c
theorem stepK_add (t : SetTable) (h : Int) (c q : Nat) : nth t.mask (stepK t h c) q = stepK t h (c + q) := (nth_add t.mask c _ q).symm
theorem stepK_j (t : SetTable) (h : Int) (c q : Nat) : (nth t.mask (stepK t h c) q).j = way t.mask h (c + q) := congrArg SetTable.Probe.j (stepK_add t h c q)
theorem dummy_nth (m : Nat) : ∀ (n : Nat) (p : SetTable.Probe), p.dummy = none → (nth m p n).dummy = none
  | 0, _, h => h
  | n + 1, p, h => dummy_nth m n (adv m p) (by
    unfold adv
    split <;> exact h)
/-- THE SEARCH: with n steps to go to the first free slot -/
theorem seekK (el : Els knd) (R : SetK knd s.heap a L es ep t) {x : Addr} {k : κ} (hx : knd.is s.heap k x) (hr : knd.room A) {N : Nat} (hN : N < 10 * SetTable.turns t.mask) (hfree : way t.mask (knd.hash k) N ∉ t.place.toList)
    (htak : ∀ c, c < N → way t.mask (knd.hash k) c ∈ t.place.toList) {Q : SetFound → Shared → Prop} (qin : k ∈ L.map (·.1) → Q (.there none) s) (qout : k ∉ L.map (·.1) → Q (.free (way t.mask (knd.hash k) N) false) s) (n : Nat) :
    ∀ (c f : Nat) (stand : Option SetTable.Probe), c + n = N → n < f → stand.getD (t.probeStart (knd.hash k)) = stepK t (knd.hash k) c →
      (∀ (i : Nat) (p : κ × Addr), L[i]? = some p → p.1 = k → ∃ q, q < n ∧ t.place.toList[i]? = some (way t.mask (knd.hash k) (c + q))) →
      wpAny (model P w) A (setSearchFrom a (.ref x) (knd.hash k) true f stand) Q E s := by
  induction n using Nat.strongRecOn with
  | ind n ih =>
    intro c f stand hc hf hst hre
    obtain ⟨f, rfl⟩ : ∃ g, f = g + 1 := ⟨f - 1, by omega⟩
    obtain ⟨o, ho, hex, hd⟩ := R.ob
    rw [setSearchFrom_succ]
    refine wpAny_bind (wpAny_setState_of ho hd R.fits ?_)
    dsimp only
    refine wp_if_neg (by unfold SetTable.gaveWay; rw [mask_odd R.tab.mok]; decide) ?_
    try refine wpAny_bind (wpAny_pure ?_)
    have hAt : ∀ (i : Nat) (p : κ × Addr), L[i]? = some p → (fun i => (es[i]?.map (·.1)).getD 0) i = knd.hash p.1 := fun i p hp => by
      show (es[i]?.map (·.1)).getD 0 = _
      rw [rowsK_at R.rows, hp]
      rfl
    have spec := go_spec t R.tab.ris R.tab.dm (fun i => (es[i]?.map (·.1)).getD 0) (knd.hash k) (10 * SetTable.turns t.mask) n (stepK t (knd.hash k) c) (dummy_nth _ _ _ rfl) (by omega)
      (fun q hq => by rw [stepK_j]; exact htak _ (by omega)) (by rw [stepK_j, hc]; exact hfree)
    have pr : t.probe (fun i => (es[i]?.map (·.1)).getD 0) (knd.hash k) (stand.getD (t.probeStart (knd.hash k))) = SetTable.probe.go t (fun i => (es[i]?.map (·.1)).getD 0) (knd.hash k) (10 * SetTable.turns t.mask) (stepK t (knd.hash k) c) := by
      rw [hst]
      rfl
    rw [pr]
    rcases spec with ⟨q, i, hq, hi, _, hno, e⟩ | ⟨hno, e⟩
    · rw [e, stepK_j, stepK_add]
      rw [stepK_j] at hi
      dsimp only
      have hil : i < L.length := by
        have h1 := (List.getElem?_eq_some_iff.mp hi).1
        rw [Array.length_toList, R.tab.sz, List.length_map] at h1
        exact h1
      obtain ⟨p, hp⟩ : ∃ p, L[i]? = some p := ⟨_, List.getElem?_eq_getElem hil⟩
      have hm : p ∈ L := List.mem_of_getElem? hp
      have hei : es[i]? = some (knd.hash p.1, Value.ref p.2) := by
        rw [rowsK_at R.rows, hp]
        rfl
      have hsl : t.slot (way t.mask (knd.hash k) (c + q)) = .live i := slot_live R.tab.ris hi
      have after : wpAny (model P w) A (searchRest a (.ref x) (knd.hash k) true f es t (way t.mask (knd.hash k) (c + q)) i (stepK t (knd.hash k) (c + (q + 1)))) Q E s := by
        unfold searchRest
        rw [hei]
        dsimp only
        refine wpAny_bind (wpAny_holding (knd.eqBool hr (R.els p hm) hx ?_))
        refine wpAny_bind (wpAny_setState_of ho hd R.fits ?_)
        dsimp only
        by_cases hk : p.1 = k
        · exact wp_if_pos (by simp [hk]) (wpAny_pure (qin (List.mem_map.mpr ⟨p, hm, hk⟩)))
        · refine wp_if_neg (by simp [hk]) ?_
          try refine wpAny_bind (wpAny_pure ?_)
          rw [sameMem]
          dsimp only
          simp only [if_true, hsl, hei]
          refine wpAny_bind (wpAny_isSame_ref_self (wpAny_bind (wpAny_pure ?_)))
          simp only [if_true]
          refine wp_if_neg (by simp [hk]) ?_
          refine ih (n - (q + 1)) (by omega) (c + (q + 1)) f _ (by omega) (by omega) rfl fun i0 p0 h0 hk0 => ?_
          obtain ⟨r, hrn, hpl⟩ := hre i0 p0 h0 hk0
          rcases Nat.lt_trichotomy r q with z | z | z
          · exact absurd ((hAt i0 p0 h0).trans (congrArg knd.hash hk0)) (hno r i0 z (by rw [stepK_j]; exact hpl))
          · subst z
            have s0 := slot_live R.tab.ris hpl
            rw [hsl] at s0
            injection s0 with s0
            rw [← s0, hp] at h0
            exact absurd ((congrArg Prod.fst (Option.some.inj h0)).trans hk0) hk
          · exact ⟨r - (q + 1), by omega, by rw [show c + (q + 1) + (r - (q + 1)) = c + r by omega]; exact hpl⟩
      by_cases hl : t.led = true
      · refine wp_if_neg (by simp [hl]) ?_
        try refine wpAny_bind (wpAny_pure ?_)
        exact after
      · refine wp_if_pos (by simp [hl]) ?_
        refine wpAny_bind (unseenK el hx (fun y hy => ?_) (wp_if_neg (by decide) ?_))
        · obtain ⟨z, hz, rfl⟩ := List.mem_map.mp hy
          have hz1 : z ∈ es ∧ z.1 = knd.hash k := by simpa using hz
          have hz2 : z ∈ es.toList := by simpa using hz1.1
          rw [R.rows] at hz2
          obtain ⟨p2, hp2, rfl⟩ := List.mem_map.mp hz2
          exact ⟨p2.1, p2.2, rfl, R.els p2 hp2⟩
        · try refine wpAny_bind (wpAny_pure ?_)
          exact after
    · rw [e, stepK_j, hc]
      dsimp only
      refine wpAny_pure (qout fun hm => ?_)
      obtain ⟨p0, h0, hk0⟩ := List.mem_map.mp hm
      obtain ⟨i0, hi0, e0⟩ := List.getElem_of_mem h0
      have h00 : L[i0]? = some p0 := by rw [List.getElem?_eq_getElem hi0, e0]
      obtain ⟨r, hrn, hpl⟩ := hre i0 p0 h00 hk0
      exact hno r i0 hrn (by rw [stepK_j]; exact hpl) ((hAt i0 p0 h00).trans (congrArg knd.hash hk0))
/-- the search as adding asks for it -/
theorem lookK (el : Els knd) (R : SetK knd s.heap a L es ep t) {x : Addr} {k : κ} (hx : knd.is s.heap k x) (hr : knd.room A) {Q : SetFound → Shared → Prop} (qin : k ∈ L.map (·.1) → Q (.there none) s)
    (qout : ∀ N, k ∉ L.map (·.1) → way t.mask (knd.hash k) N ∉ t.place.toList → (∀ c, c < N → way t.mask (knd.hash k) c ∈ t.place.toList) → Q (.free (way t.mask (knd.hash k) N) false) s) :
    wpAny (model P w) A (setSearch a (.ref x) (knd.hash k) true) Q E s := by
  have room := R.room
  obtain ⟨N, h1, h2, h3⟩ := R.tab.first (by rw [List.length_map]; omega) (knd.hash k)
  have few : N < 100000 := by
    have : 10 * SetTable.turns t.mask ≤ 1420 := by
      unfold SetTable.turns
      rcases R.tab.mok with e | e | e <;> omega
    omega
  unfold setSearch
  refine seekK el R hx hr h1 h2 h3 qin (fun z => qout N z h2 h3) N 0 100000 none (Nat.zero_add N) few rfl fun i p hp hk => ?_
  have hi : (L.map fun p => knd.hash p.1)[i]? = some (knd.hash k) := by
    rw [List.getElem?_map, hp, ← hk]
    rfl
  have hil : i < t.place.toList.length := by
    rw [Array.length_toList, R.tab.sz, List.length_map]
    exact (List.getElem?_eq_some_iff.mp hp).1
  have hj := List.getElem?_eq_getElem hil
  obtain ⟨q, hq, e⟩ := R.tab.before h2 hi hj
  exact ⟨q, hq, by rw [hj, Nat.zero_add, e]⟩

theorem range_pick {α : Type} : ∀ l : List α, (List.range l.length).filterMap (fun i => l[i]?) = l
  | [] => rfl
  | x :: l => by
    rw [List.length_cons, List.range_succ_eq_map, List.filterMap_cons]
    show x :: (List.map Nat.succ (List.range l.length)).filterMap (fun i => (x :: l)[i]?) = x :: l
    rw [List.filterMap_map]
    exact congrArg (x :: ·) (range_pick l)
theorem fm_congr {α β : Type} {f g : α → Option β} : ∀ {l : List α}, (∀ x ∈ l, f x = g x) → l.filterMap f = l.filterMap g
  | [], _ => rfl
  | x :: l, h => by rw [List.filterMap_cons, List.filterMap_cons, h x List.mem_cons_self, fm_congr fun y hy => h y (List.mem_cons_of_mem _ hy)]
/-- the rows in another order -/
theorem orderK (e : es.toList = rowsK knd L) {order : Array Nat} (hp : order.toList.Perm (List.range L.length)) :
    ∃ L2, (order.filterMap (es[·]?)).toList = rowsK knd L2 ∧ L2.Perm L ∧ (L2.map fun p => knd.hash p.1) = order.toList.map fun i => (es.map (·.1)).getD i 0 := by
  refine ⟨order.toList.filterMap fun i => L[i]?, ?_, ?_, ?_⟩
  · rw [Array.toList_filterMap]
    unfold rowsK
    rw [List.map_filterMap]
    exact fm_congr fun i _ => rowsK_at e i
  · exact (hp.filterMap _).trans (List.Perm.of_eq (range_pick L))
  · rw [List.map_filterMap, ← List.filterMap_eq_map]
    refine fm_congr fun i hi => ?_
    have hlt : i < L.length := List.mem_range.mp (hp.mem_iff.mp hi)
    have h1 : (es.map (·.1))[i]? = some (knd.hash (L[i]).1) := by
      rw [Array.getElem?_map, rowsK_at e, List.getElem?_eq_getElem hlt]
      rfl
    rw [List.getElem?_eq_getElem hlt]
    show some (knd.hash (L[i]).1) = some ((es.map (·.1)).getD i 0)
    rw [Array.getD_eq_getD_getElem?, h1]
    rfl
/-- all laid anew in a larger table -/
theorem relayK (el : Els knd) {o : Obj} (ho : s.heap.get? a = some o) (hex : o.ExactSet) (hd : o.data = .set es ep t) (hrows : es.toList = rowsK knd L) (T : TabOk t (L.map fun p => knd.hash p.1)) (hm : L.length ≤ t.mask)
    (nd : (L.map (·.1)).Nodup) (els : ∀ p ∈ L, knd.is s.heap p.1 p.2) (pl : t.plain = true) (led : w.params.followText "set-order" = true ∨ t.led = true) (few : L.length < 64) {wanted M : Nat}
    (hw : SetTable.sizeAbove wanted - 1 = M) (hM : MaskOk M) (hw2 : SetTable.sizeAbove wanted ≤ 128) (hn : L.length * 5 < M * 3) {Q : Unit → Shared → Prop}
    (hQ : ∀ h' L' es' ep' t', Heap.SameBut a s.heap h' → SetK knd h' a L' es' ep' t' → L'.Perm L → Q () { s with heap := h' }) : wpAny (model P w) A (setRelay a wanted) Q E s := by
  have hsz := rowsK_size hrows
  obtain ⟨t', order, e, hp, T', em, el', ep', _⟩ := relaid_ok t (hs := es.map (·.1)) (wanted := wanted) hw hM (by rw [Array.size_map, hsz]; omega)
  rw [Array.size_map, hsz] at hp
  obtain ⟨L2, r1, r2, r3⟩ := orderK hrows hp
  rw [← r3] at T'
  have hs2 : (order.filterMap (es[·]?)).size = es.size := by rw [rowsK_size r1, r2.length_eq, hsz]
  rw [setRelay_eq]
  refine wpAny_bind (wpAny_setState_of ho hd (fitsK T hrows hm) ?_)
  dsimp only
  refine wp_if_neg (by rw [sizeLine_eq]; omega) ?_
  try refine wpAny_bind (wpAny_pure ?_)
  rw [e]
  dsimp only
  refine wpAny_bind ?_
  refine wp_if_neg (by rw [hs2]; simp) ?_
  try refine wpAny_bind (wpAny_pure ?_)
  refine wpAny_pure ?_
  dsimp only
  refine wpAny_storeSet_of ho hd ?_ (by rw [hs2, hsz, sizeLine_eq]; omega)
  have sb : Heap.SameBut a s.heap (s.heap.update a (Obj.putSet (order.filterMap (es[·]?)) t')) := Heap.SameBut.update ..
  exact hQ _ L2 _ (ep + 1) t' sb ⟨⟨_, store_at ho hd, ⟨hex.1, hex.2.1, hex.2.2⟩, rfl⟩, r1, T', (r2.map (·.1)).nodup_iff.mpr nd, fun p hpm => el.stay (els p (r2.mem_iff.mp hpm)) ho hd sb, by rw [ep']; exact pl, by rw [el']; exact led, by rw [r2.length_eq, em]; exact hn, by rw [r2.length_eq]; exact few⟩ r2
/-- ADDING an element whose hash is known -/
theorem addK (el : Els knd) (R : SetK knd s.heap a L es ep t) {x : Addr} {k : κ} (hx : knd.is s.heap k x) (hr : knd.room A) (few : L.length + 1 < 64) {Q : Bool → Shared → Prop}
    (hQ : ∀ b h' L' es' ep' t', Heap.SameBut a s.heap h' → SetK knd h' a L' es' ep' t' → (k ∈ L.map (·.1) → L' = L) → (k ∉ L.map (·.1) → L'.Perm ((k, x) :: L)) → Q b { s with heap := h' }) :
    wpAny (model P w) A (setAddHashed a (.ref x) (knd.hash k)) Q E s := by
  obtain ⟨o, ho, hex, hd⟩ := R.ob
  have room := R.room
  unfold setAddHashed
  refine wpAny_holding ?_
  rw [show (100000 : Nat) = 99999 + 1 from rfl, setAddHashedIn_succ]
  refine wpAny_bind (wpAny_setState_of ho hd R.fits ?_)
  dsimp only
  refine wp_if_neg (by simp [byScan, Value.scannable]) ?_
  try refine wpAny_bind (wpAny_pure ?_)
  refine wpAny_bind (lookK el R hx hr (fun hm => ?_) fun N hm hN hb => ?_)
  · dsimp only
    exact wpAny_pure (hQ false s.heap L es ep t (Heap.SameBut.refl a s.heap) R (fun _ => rfl) fun z => absurd hm z)
  dsimp only
  refine wpAny_bind (wpAny_setState_of ho hd R.fits ?_)
  dsimp only
  obtain ⟨q1, q2, q3, q4, q5, q6, _, _, q9⟩ := R.tab.put hN hb
  rw [← List.map_take, ← List.map_drop, ← List.map_cons (f := fun p : κ × Addr => knd.hash p.1) (a := (k, x)), ← List.map_append] at q3
  rw [List.length_map] at q9
  generalize hpt : t.put (way t.mask (knd.hash k) N) = pt at q1 q3 q4 q5 q6 q9 ⊢
  obtain ⟨t1, p⟩ := pt
  dsimp only at q1 q3 q4 q5 q6 q9 ⊢
  have pl1 : t1.plain = true := q6.trans R.pl
  have ins : (SetTable.insertAt es p (knd.hash k, Value.ref x)).toList = rowsK knd (L.take p ++ (k, x) :: L.drop p) := by
    rw [SetTable.toList_insertAt, R.rows]
    unfold rowsK
    rw [List.map_append, List.map_cons, List.map_take, List.map_drop]
  rw [← q1] at q3
  have pm : (L.take p ++ (k, x) :: L.drop p).Perm ((k, x) :: L) := by
    have h : (L.take p ++ (k, x) :: L.drop p).Perm ((k, x) :: (L.take p ++ L.drop p)) := List.perm_middle
    rwa [List.take_append_drop] at h
  first
    | (refine wpAny_bind ?_; refine wp_if_pos pl1 ?_; refine el.byV hx ?_)
    | refine wp_if_pos pl1 (wpAny_bind (el.byV hx ?_))
  simp only [if_true]
  generalize SetTable.insertAt es p (knd.hash k, Value.ref x) = es1 at ins ⊢
  generalize L.take p ++ (k, x) :: L.drop p = L1 at pm q3 ins
  have len : L1.length = L.length + 1 := pm.length_eq
  have nd1 : (L1.map (·.1)).Nodup := (pm.map (·.1)).nodup_iff.mpr (by rw [List.map_cons]; exact List.nodup_cons.mpr ⟨hm, R.nd⟩)
  have hes : es1.size = L.length + 1 := (rowsK_size ins).trans len
  refine wpAny_bind (wpAny_storeSet_of ho hd ?_ (by rw [hes, sizeLine_eq]; omega))
  have sb : Heap.SameBut a s.heap (s.heap.update a (Obj.putSet es1 t1)) := Heap.SameBut.update ..
  have ho1 := store_at (es' := es1) (t' := t1) ho hd
  generalize s.heap.update a (Obj.putSet es1 t1) = h1 at sb ho1 ⊢
  have els1 : ∀ p ∈ L1, knd.is h1 p.1 p.2 := fun p hp => by
    rcases List.mem_cons.mp (pm.mem_iff.mp hp) with e | hp
    · rw [e]
      exact el.stay hx ho hd sb
    · exact el.stay (R.els p hp) ho hd sb
  have led1 : w.params.followText "set-order" = true ∨ t1.led = true := by rw [q5]; exact R.led
  by_cases hf : t1.tooFull = true
  · have full : (L.length + 1) * 5 ≥ t1.mask * 3 := by
      have h := hf
      unfold SetTable.tooFull at h
      rw [decide_eq_true_eq, q9] at h
      exact h
    have two : (t.mask = 7 ∧ L.length = 4) ∨ (t.mask = 31 ∧ L.length = 18) := by
      rw [q4] at full
      rcases R.tab.mok with e | e | e <;> rw [e] at full room
      · exact .inl ⟨e, by omega⟩
      · exact .inr ⟨e, by omega⟩
      · omega
    have go : ∀ M, SetTable.sizeAbove (SetTable.grown (L.length + 1)) - 1 = M → MaskOk M → SetTable.sizeAbove (SetTable.grown (L.length + 1)) ≤ 128 → (L.length + 1) * 5 < M * 3 →
        wpAny (model P w) A (setRelay a (SetTable.grown (L.length + 1))) (fun _ s' => wpAny (model P w) A (pure true) Q E s') E { s with heap := h1 } := fun M z1 z2 z3 z4 => by
      refine relayK (s := { s with heap := h1 }) el ho1 ⟨hex.1, hex.2.1, hex.2.2⟩ rfl ins q3 (by rw [len, q4]; rcases two with ⟨e, e2⟩ | ⟨e, e2⟩ <;> omega) nd1 els1 pl1 led1 (by rw [len]; exact few) z1 z2 z3 (by rw [len]; exact z4) ?_
      intro h2 L2 es2 ep2 t2 sb2 R2 pm2
      exact wpAny_pure (hQ true h2 L2 es2 ep2 t2 (sb.trans sb2) R2 (fun z => absurd z hm) fun _ => pm2.trans pm)
    rw [rowsK_size R.rows]
    first
      | (refine wpAny_bind ?_; refine wp_if_pos (by simp [hf]) ?_)
      | (refine wp_if_pos (by simp [hf]) ?_; refine wpAny_bind ?_)
    rcases two with ⟨_, e2⟩ | ⟨_, e2⟩
    · exact go 31 (by rw [e2, size_20]) (.inr (.inl rfl)) (by rw [e2, size_20]; decide) (by omega)
    · exact go 127 (by rw [e2, size_76]) (.inr (.inr rfl)) (by rw [e2, size_76]; decide) (by omega)
  · have notFull : ¬ (L.length + 1) * 5 ≥ t1.mask * 3 := fun z => hf (by
      unfold SetTable.tooFull
      rw [decide_eq_true_eq, q9]
      exact z)
    first
      | refine wp_if_neg (by simp [hf]) ?_
      | (refine wpAny_bind ?_; refine wp_if_neg (by simp [hf]) ?_; refine wpAny_pure ?_)
    exact wpAny_pure (hQ true h1 L1 es1 (ep + 1) t1 sb ⟨⟨_, ho1, ⟨hex.1, hex.2.1, hex.2.2⟩, rfl⟩, ins, q3, nd1, els1, pl1, led1, by rw [len]; omega, by rw [len]; exact few⟩ (fun z => absurd z hm) fun _ => pm)
/-- a new set -/
theorem freshK {h : Heap} {a : Addr} (ho : h.get? a = some { cls := .type "set", dict := none, data := .set #[] 0 (.fresh 0 0 (!w.params.followText "set-order")) }) : SetK knd h a [] #[] 0 (.fresh 0 0 (!w.params.followText "set-order")) where
  ob := ⟨_, ho, ⟨rfl, rfl, rfl⟩, rfl⟩
  rows := rfl
  tab := ⟨List.Pairwise.nil, rfl, rfl, .inl rfl, fun x hx => (by cases hx), fun i h j hi => (by simp at hi)⟩
  nd := List.nodup_nil
  els := fun p hp => (by cases hp)
  pl := rfl
  led := by
    show _ ∨ (!w.params.followText "set-order") = true
    cases w.params.followText "set-order"
    · exact .inr rfl
    · exact .inl rfl
  room := by
    show 0 * 5 < 7 * 3
    decide
  few := by
    show 0 < 64
    decide
end
end Hb

set_option Elab.async false
set_option linter.all false
set_option maxRecDepth 100000
set_option maxHeartbeats 4000000
/-! Sets of nested tuples over the abstract heap: add, the comprehension, sorted. -/
namespace Hb
open PySem L2 PyProof.Rows

/-- the set at a: its elements' keys and addresses, in the table's order -/
structure SetK0 (P : Program) (w : World) (h : Heap) (a : Addr) (L : List (NestedKey × Addr)) : Prop where
  ex : ∃ (es : Array (Int × Value)) (ep : Nat) (t : SetTable), (∃ o, h.get? a = some o ∧ o.ExactSet ∧ o.data = .set es ep t) ∧ es.toList = rowsK (numKind P w) L ∧ TabOk t (L.map fun p => (numKind P w).hash p.1) ∧ (L.map (·.1)).Nodup ∧ t.plain = true ∧
    (w.params.followText "set-order" = true ∨ t.led = true) ∧ L.length * 5 < t.mask * 3 ∧ L.length < 64
/-- .. as an object of the abstract heap -/
def SN (P : Program) (w : World) (a : Addr) (L : List (NestedKey × Addr)) : HO := .ext fun h => SetK0 P w h a L
theorem SetK.k0 {P : Program} {w : World} {h : Heap} {a : Addr} {L : List (NestedKey × Addr)} {es : Array (Int × Value)} {ep : Nat} {t : SetTable} (R : SetK (numKind P w) h a L es ep t) : SetK0 P w h a L := ⟨es, ep, t, R.ob, R.rows, R.tab, R.nd, R.pl, R.led, R.room, R.few⟩
theorem SetK0.full {P : Program} {w : World} {h : Heap} {a : Addr} {L : List (NestedKey × Addr)} (R : SetK0 P w h a L) (he : ∀ p ∈ L, (numKind P w).is h p.1 p.2) : ∃ es ep t, SetK (numKind P w) h a L es ep t := by
  obtain ⟨es, ep, t, h1, h2, h3, h4, h5, h6, h7, h8⟩ := R.ex
  exact ⟨es, ep, t, h1, h2, h3, h4, he, h5, h6, h7, h8⟩
theorem sn_new {P : Program} {w : World} {H : Hp} {h : Heap} {a : Addr} {L : List (NestedKey × Addr)} (R : SetK0 P w h a L) : ObjOk P w H h a (SN P w a L) := by
  have ⟨es, ep, t, ⟨o, ho, r⟩, q⟩ := R.ex
  refine ⟨R, ⟨o, ho⟩, fun h1 h2 p k => ?_⟩
  have ⟨es', ep', t', ⟨o', ho', r'⟩, q'⟩ := SetK0.ex p
  exact ⟨es', ep', t', ⟨o', k o' ho', r'⟩, q'⟩
/-- an element as the abstract heap tells it -/
def ElN (H : Hp) (p : NestedKey × Addr) : Prop := NK H p.1 (.ref p.2) ∧ p.1.depth ≤ 8 ∧ noTx p.1 = true
theorem ElN.is {P : Program} {w : World} {H : Hp} {h : Heap} (ok : HOk P w H h) {p : NestedKey × Addr} (e : ElN H p) : (numKind P w).is h p.1 p.2 := ⟨⟨NK.is ok e.1 rfl, e.2.1⟩, e.2.2⟩

section
variable {X : Cx} {pins : List (Addr × Obj)} {σ : L2.St} {H : Hp} {s : Shared} {E : Value → Shared → Prop} {D : Addr} {L : List (NestedKey × Addr)}
theorem sn_get (I : Inv X pins σ H s) (hD : H D = some (SN X.prog X.w D L)) : SetK0 X.prog X.w s.heap D L := (I.hok D _ hD).1
/-- what the set is behind the adding of p -/
def AddN (L : List (NestedKey × Addr)) (p : NestedKey × Addr) (L' : List (NestedKey × Addr)) : Prop := (p.1 ∈ L.map (·.1) → L' = L) ∧ (p.1 ∉ L.map (·.1) → L'.Perm (p :: L))
/-- set.add -/
theorem addN_ok {A : Around} {p : NestedKey × Addr} {Q : Value → Shared → Prop} (hu : A.units + 64 < cLine) (I : Inv X pins σ H s) (hD : H D = some (SN X.prog X.w D L)) (hL : ∀ e ∈ L, ElN H e) (hp : ElN H p) (few : L.length + 1 < 64)
    (h : ∀ L' s', AddN L p L' → Inv X pins σ (upd H D (SN X.prog X.w D L')) s' → Q .none s') : wpAny (model X.prog X.w) A (call (.builtin "set.add") [.ref D, .ref p.2]) Q E s := by
  obtain ⟨es, ep, t, R⟩ := (sn_get I hD).full fun e he => (hL e he).is I.hok
  obtain ⟨o, ho, hex, hd⟩ := R.ob
  have hk := hp.is (P := X.prog) (w := X.w) I.hok
  refine wpAny_call_entry F.slot_set_add ⟨o, ho, hex.1⟩ F.entry_set_add ?_ (F.args_set_add_2 _ _)
  unfold Builtin.«set.add» Builtin.Frozenset.oneOther
  simp only [List.isEmpty_nil, bind_assoc]
  unfold Builtin.Frozenset.addrOf setAdd
  refine wpAny_bind (wpAny_pure ?_)
  try dsimp only
  refine wpAny_bind (wpAny_pure ?_)
  try dsimp only
  refine wpAny_bind ?_
  refine wpAny_holding ?_
  refine wpAny_bind ((numKind X.prog X.w).pyHash (by show A.in1.units + 8 < cLine; rw [Around.in1_units]; omega) hk ?_)
  refine addK (s := { s with toks := s.toks + (numKind X.prog X.w).draws p.1 }) (knd := numKind X.prog X.w) els_num R hk (by show A.in1.units + 8 < cLine; rw [Around.in1_units]; omega) few fun b h' L' es' ep' t' sb R' e1 e2 => ?_
  show wpAny _ _ (ret Value.none) _ _ _
  refine wpAny_pure ⟨_, rfl, h L' _ ⟨e1, e2⟩ ?_⟩
  have ⟨o', ho', _⟩ := R'.ob
  exact I.write (e := D) (by rw [hD]; trivial) (.inl rfl) (fun b u hb hu => (sb.2 b hb).trans hu) ⟨o', ho'⟩ (sn_new R'.k0)
end

/-! ### the comprehension -/
/-- {elt for target in iter if ..}, each elt a nested tuple -/
def tSn (P : Program) (w : World) (wi : TI) (g : TG) (tt : TT) (te : TE) (vs : List Nat) : TE := fun σ H Q => wi σ H fun J H1 => ∀ D, H1 D = none → ∃ W : Nat → Nat → Hp → Prop, (∃ m, W 0 m (upd H1 D (SN P w D []))) ∧ ∀ i m H, W i m H →
  (J.stop i H ∧ Q (.ref D) H) ∨ (J.go i H ∧ ∃ Nx : Hp → Prop, (∀ H', Nx H' → ∃ m', m' < m ∧ W (i + 1) m' H') ∧ ∀ x H', J.yld i H x H' → g x (wipe σ vs) H' fun σ2 H2 => wipe σ2 vs = wipe σ vs ∧ tt σ2 H2 fun b H3 =>
    if b = true then te σ2 H3 fun y H4 => ∃ (L : List (NestedKey × Addr)) (p : NestedKey × Addr), y = .ref p.2 ∧ H4 D = some (SN P w D L) ∧ (∀ e ∈ L, ElN H4 e) ∧ ElN H4 p ∧ L.length + 1 < 64 ∧ ∀ L', AddN L p L' → Nx (upd H4 D (SN P w D L')) else Nx H3)
section
open PpSet
variable {X : Cx}
theorem pe_sn {elt tg iter : Expr} {ifs : List Expr} {scope : Scope} {own : List (Str × Nat)} {pos : Pos} {wi : TI} {g : TG} {tt : TT} {te : TE} (hc : X.calm = true) (hu : X.A.units + 64 < cLine) (hN : X.N.Nodup) (hi : PI X tg iter wi) (ok : BlkOk X.N X.env.scope scope own)
    (hg : ∀ (s : Shared) (H : Hp) (C : Addr) (cl : List (Str × Addr)) (fp : List Addr), PG (X.blk s H scope (compEnvC scope cl C X.env) fp) tg g) (ht : ∀ (s : Shared) (H : Hp) (C : Addr) (cl : List (Str × Addr)) (fp : List Addr), PTs (X.blk s H scope (compEnvC scope cl C X.env) fp) ifs tt)
    (he : ∀ (s : Shared) (H : Hp) (C : Addr) (cl : List (Str × Addr)) (fp : List Addr), PE (X.blk s H scope (compEnvC scope cl C X.env) fp) elt te) (hs : ∀ x, foldedSetIterable iter X.env x = pure x := by intro _; rfl) :
    PE X (.SetComp elt [⟨tg, iter, ifs, 0⟩] scope pos) (tSn X.prog X.w wi g tt te (own.map (·.2))) := by
  refine ⟨fun pins s σ H Q I h => ?_⟩
  rw [eval_SetComp]
  have hfree : ∀ y ∈ scope.names, y.2 = .free → ∃ c, X.env.cells.lookup y.1 = some c := fun y hy e => by
    rcases ok.free y hy e with k | k
    · exact I.ok.has _ (.inl k)
    · exact I.ok.has _ (.inr k)
  refine wpAny_comprehension_free (use := none) rfl hs (closure_ok hfree) ok.kind (fun y hy e => by rw [ok.uniq y hy, e]) (thn (hi.run pins s σ H _ I h) fun xv s1 hx => thn hx fun itv s2 h2 => ?_)
  obtain ⟨it, fp, tn, J, H2, rfl, I2, T, st2, f2, q⟩ := h2
  refine newSet_ok (newEnv_comp ?_)
  obtain ⟨D, hD⟩ : ∃ D, D = s2.heap.objs.size := ⟨_, rfl⟩
  rw [← hD]
  obtain ⟨W, ⟨m0, w0⟩, turn⟩ := q D (I2.hok.fresh (Nat.le_of_eq hD.symm))
  have grown : ∀ b o, s2.heap.get? b = some o → (s2.heap.push { cls := .type "set", dict := none, data := .set #[] 0 (.fresh 0 0 (!X.w.params.followText "set-order")) }).get? b = some o := fun b o e => Heap.get?_push_of_some _ e
  have I3 : Inv X pins σ (upd H2 D (SN X.prog X.w D [])) { s2 with heap := s2.heap.push { cls := .type "set", dict := none, data := .set #[] 0 (.fresh 0 0 (!X.w.params.followText "set-order")) } } :=
    I2.laid (t' := s2.toks) grown (Nat.le_of_eq hD.symm) (sn_new (freshK (knd := numKind X.prog X.w) (by rw [hD]; exact Heap.get?_push_size _ rfl)).k0)
  have f3 : ∀ b ∈ fp, FpOk X pins (upd H2 D (SN X.prog X.w D [])) b ∧ b < (s2.heap.push { cls := .type "set", dict := none, data := .set #[] 0 (.fresh 0 0 (!X.w.params.followText "set-order")) }).objs.size := fun b hb => by
    obtain ⟨o, e, _⟩ := T.obj _ _ st2 b hb
    have hlt := Heap.lt_size e
    refine ⟨⟨?_, (f2 b hb).2⟩, by rw [Heap.size_push]; exact Nat.lt_succ_of_lt hlt⟩
    rw [upd_ne (by rw [hD]; exact Nat.ne_of_lt hlt)]
    exact (f2 b hb).1
  have st3 := T.keep _ _ _ st2 fun b _ o e => grown b o e
  obtain ⟨s3, hs3⟩ : ∃ s3 : Shared, s3 = { s2 with heap := s2.heap.push { cls := .type "set", dict := none, data := .set #[] 0 (.fresh 0 0 (!X.w.params.followText "set-order")) } } := ⟨_, rfl⟩
  obtain ⟨H3, hH3⟩ : ∃ H3 : Hp, H3 = upd H2 D (SN X.prog X.w D []) := ⟨_, rfl⟩
  rw [← hH3] at I3 w0
  rw [← hs3] at I3
  have st3' : tn 0 s3.heap := by rw [hs3]; exact st3
  have f3' : ∀ b ∈ fp, FpOk X pins H3 b ∧ b < s3.heap.objs.size := fun b hb => by rw [hH3, hs3]; exact f3 b hb
  have I4 := block_start I3 ok hN f3'
  show codeAny _ _ (.compStart (.SetComp elt [⟨tg, iter, ifs, 0⟩] scope pos) 0 (.ref it) (.ref D) (compEnvC scope (cellsFrom ((s2.heap.push { cls := .type "set", dict := none, data := .set #[] 0 (.fresh 0 0 (!X.w.params.followText "set-order")) }).objs.size + 1) scope.names (cloFrom X.env.cells scope.names [])) (s2.heap.push { cls := .type "set", dict := none, data := .set #[] 0 (.fresh 0 0 (!X.w.params.followText "set-order")) }).objs.size X.env))
    (compPost (model X.prog X.w) X.A X.xe none (EP X pins σ Q) (.ref D) (s2.heap.push { cls := .type "set", dict := none, data := .set #[] 0 (.fresh 0 0 (!X.w.params.followText "set-order")) }).objs.size)
    { s2 with heap := pushCells ((s2.heap.push { cls := .type "set", dict := none, data := .set #[] 0 (.fresh 0 0 (!X.w.params.followText "set-order")) }).push { cls := .type "dict", data := .dict #[] }) scope.names }
  have hh3 : s2.heap.push { cls := .type "set", dict := none, data := .set #[] 0 (.fresh 0 0 (!X.w.params.followText "set-order")) } = s3.heap := by rw [hs3]
  have hst : ({ s2 with heap := pushCells ((s2.heap.push { cls := .type "set", dict := none, data := .set #[] 0 (.fresh 0 0 (!X.w.params.followText "set-order")) }).push { cls := .type "dict", data := .dict #[] }) scope.names } : Shared) = { s3 with heap := pushCells (s3.heap.push { cls := .type "dict", data := .dict #[] }) scope.names } := by rw [hs3]
  rw [hst, hh3]
  have pg := hg s3 H3 s3.heap.objs.size (cellsFrom (s3.heap.objs.size + 1) scope.names (cloFrom X.env.cells scope.names [])) fp
  have pt := ht s3 H3 s3.heap.objs.size (cellsFrom (s3.heap.objs.size + 1) scope.names (cloFrom X.env.cells scope.names [])) fp
  have pe := he s3 H3 s3.heap.objs.size (cellsFrom (s3.heap.objs.size + 1) scope.names (cloFrom X.env.cells scope.names [])) fp
  generalize hce : compEnvC scope (cellsFrom (s3.heap.objs.size + 1) scope.names (cloFrom X.env.cells scope.names [])) s3.heap.objs.size X.env = ce at I4 pg pt pe ⊢
  have cL : ce.locals = s3.heap.objs.size := by subst hce; rfl
  generalize hs4 : ({ s3 with heap := pushCells (s3.heap.push { cls := .type "dict", data := .dict #[] }) scope.names } : Shared) = s4 at I4 ⊢
  have st4 : tn 0 s4.heap := T.keep _ _ _ st3' fun b _ o e => by rw [← hs4]; exact pushCells_keeps _ _ _ _ (Heap.get?_push_of_some _ e)
  have nfp : ∀ b ∈ fp, H3 b = none := fun b hb => (f3' b hb).1.1
  have stat : ∀ {σ' : L2.St} {H' : Hp} {s' : Shared}, Inv (X.blk s3 H3 scope ce fp) [] σ' H' s' → (∀ b ∈ fp, H' b = none) → ∀ b ∈ fp, FpOk (X.blk s3 H3 scope ce fp) [] H' b := fun {σ' H' s'} I' hn b hb =>
    ⟨hn b hb, (I'.ok.exf b hb).1, I'.ok.exfs b hb, .inl hb, fun x c e => (I'.ok.exf b hb).2 x c e, fun p hp => absurd (show p ∈ ([] : List (Addr × Obj)) ++ [] from hp) (by simp)⟩
  have loop : codeAny (model X.prog X.w) X.A (.compLoop (.SetComp elt [⟨tg, iter, ifs, 0⟩] scope pos) 0 (.ref it) (.ref D) ce) (compPost (model X.prog X.w) X.A X.xe none (EP X pins σ Q) (.ref D) s3.heap.objs.size) s4 := by
    refine compLoopS_any (fun n s' => ∃ i H', Inv (X.blk s3 H3 scope ce fp) [] (wipe σ (own.map (·.2))) H' s' ∧ tn i s'.heap ∧ (∀ b ∈ fp, H' b = none) ∧ W i n H') ?_ m0 ⟨0, H3, I4, st4, nfp, w0⟩
    rintro n s5 ⟨i, H5, I5, st5, n5, w5⟩
    rcases turn i n H5 w5 with ⟨stop, qq⟩ | ⟨go, Nx, hNx, step⟩
    · refine thnF (T.done (X.blk s3 H3 scope ce fp) rfl rfl rfl hc i [] s5 _ H5 (fun _ _ => False) I5 (stat I5 n5) st5 stop) fun r s6 ⟨hr, I6⟩ => ?_
      subst hr
      have I7 : Inv X pins σ H5 s6 := I3.call' (ch := fp) I6.os I6.base I6.hok I6.bare fun b hb => ⟨(f3' b hb).1.2.2.2.1, (f3' b hb).1.2.1, (f3' b hb).1.2.2.2.2.1, (f3' b hb).1.2.2.2.2.2⟩
      have nC : H5 s3.heap.objs.size = none := by
        have z : H5 ce.locals = none := I6.free
        rwa [cL] at z
      obtain ⟨m, hn, _⟩ := I6.loc
      have hn' : s6.heap.Ns ce.locals m := hn
      rw [cL] at hn'
      obtain ⟨z0, z1, _, z3, z4, z5⟩ := I3.fpOk (Nat.le_refl _) nC
      exact ⟨m, hn', fun h'' sb => ⟨.ref D, H5, I7.turned (t' := s6.toks) (fun b o hb e => (sb.2 b hb).trans e) z0 z1 z3 z4 z5, rfl, qq⟩⟩
    · refine thnF (T.item (X.blk s3 H3 scope ce fp) rfl rfl rfl hc i [] s5 _ H5 (fun _ _ => False) I5 (stat I5 n5) st5 go) fun r s6 ⟨u, hr, h6⟩ => ?_
      subst hr
      refine thnF h6 fun _ s7 ⟨x, H7, I7, r7, y7, st7, n7⟩ => ?_
      refine thnF (pg.run _ s7 _ H7 x u _ (I7.pinned (stat I7 n7) (T.obj _ _ st7)) r7 (step x H7 y7)) fun _ s8 ⟨σ8, H8, I8, hw8, q8⟩ => ?_
      refine thnF (pt.run _ s8 σ8 H8 _ I8 q8) fun b s9 ⟨H9, I9, q9⟩ => ?_
      have fin : ∀ {s' : Shared} {H' : Hp}, Inv (X.blk s3 H3 scope ce fp) ([] ++ pinsAt fp s7.heap) σ8 H' s' → Nx H' → ∃ m, m < n ∧ ∃ i H', Inv (X.blk s3 H3 scope ce fp) [] (wipe σ (own.map (·.2))) H' s' ∧ tn i s'.heap ∧ (∀ b ∈ fp, H' b = none) ∧ W i m H' := fun {s' H'} I' nx => by
        obtain ⟨m', hm, w'⟩ := hNx H' nx
        have pin' : ∀ b ∈ fp, ∀ o, s7.heap.get? b = some o → s'.heap.get? b = some o ∧ H' b = none := fun b hb o e =>
          let z := I'.pin (b, o) (List.mem_append_right _ (List.mem_append_right _ (mem_pinsAt hb e)))
          ⟨z.1, z.2.1⟩
        have hl : (wipe σ (own.map (·.2))).length = σ8.length := by rw [← hw8, wipe_length]
        refine ⟨m', hm, i + 1, H', (I'.unpinned (pins := [])).weak hl (fun j v e => ?_), T.keep _ _ _ st7 fun b hb o e => (pin' b hb o e).1, fun b hb => ?_, w'⟩
        · rw [← hw8] at e
          exact (wipe_some e).1
        · obtain ⟨o, e, _⟩ := T.obj _ _ st7 b hb
          exact (pin' b hb o e).2
      cases b with
      | false =>
        simp only [Bool.false_eq_true, if_false] at q9 ⊢
        exact fin I9 q9
      | true =>
        simp only [if_true] at q9 ⊢
        refine thnF (pe.run _ s9 σ8 H9 _ I9 q9) fun z s10 ⟨yv, H10, I10, r10, L, p, ey, hDL, hL, hp, few, nx⟩ => ?_
        subst ey
        obtain rfl : z = Value.ref p.2 := r10
        exact addN_ok (X := X.blk s3 H3 scope ce fp) hu I10 hDL hL hp few fun L' s11 hA I11 => fin I11 (nx L' hA)
  exact codeAny_compStart_set loop (T.self X.A 0 _ _ _ st4 loop)
end

/-! ### sorted of such a set -/
/-- sorted(s): the elements by the order of their ints, all of one shape -/
def rSortSN (P : Program) (w : World) (c : Option Nat) (sh : List (Option Nat)) : List V → Hp → VK → Prop := fun vs H Q => ∃ (a : Addr) (L : List (NestedKey × Addr)) (k : V → List Itm), vs = [V.ref a] ∧ H a = some (SN P w a L) ∧ (∀ e ∈ L, NK H e.1 (.ref e.2) ∧ e.1 = nkK (k (.ref e.2)) ∧ (k (.ref e.2)).map shp = c :: sh) ∧
  ∀ ys p, SrtO.Srtd (ltK k) ys → ys.Perm (L.map fun e => V.ref e.2) → (L.map (·.1)).Nodup → H p = none → Q (.ref p) (upd H p (.lst ys))
section
variable {X : Cx} {c : Option Nat} {sh : List (Option Nat)} {P : Program} {w : World}
theorem cr_sortSN (hc : X.calm = true) (hu : X.A.units + 64 < cLine) (hP : X.prog = P := by rfl) (hw : X.w = w := by rfl) : CallR X (.builtin "sorted") (rSortSN P w c sh) := by
  subst hP hw
  intro pins s σ H vs us Q I r h
  obtain ⟨a, L, k, rfl, ha, hx, q⟩ := h
  obtain ⟨u, rfl, ru⟩ := vals1 r
  obtain rfl : u = Value.ref a := ru
  obtain ⟨es, ep, t, ⟨o, ho, hex, hd⟩, rows, T, nd, _, led, room, few⟩ := (sn_get I ha).ex
  have hu2 : X.A.in1.in1.units + 2 < cLine := by
    have e : X.A.in1.in1.units = X.A.units + 1 + 1 := rfl
    omega
  have hsz := rowsK_size rows
  refine Calls.call_function_entry kind_sorted plain_sorted entry_sorted (args_sorted1 _) ?_
  unfold Builtin.«sorted»
  refine wpAny_bind (m := checkCount "sorted" 1 1 _) (wpAny_pure ?_)
  refine wpAny_bind (collect_set (A := X.A.in1) (I.ok.hd hc) ⟨o, ho, hex.1, hd⟩ (fitsK T rows (by omega)) (by unfold scanBound; omega) T.ris led fun s1 acc hk hz g1 o1 pm => ?_)
  have hes : es.toList.map (·.2) = L.map fun e => Value.ref e.2 := by
    rw [rows]
    unfold rowsK
    rw [List.map_map]
    rfl
  rw [hes] at pm
  have hal : acc.length = L.length := by rw [pm.length_eq, List.length_map]
  have I1 : Inv X pins σ H s1 := I.call' (ch := []) o1 (Un.kept hk) (I.hok.kept hk) (by rw [g1]; exact I.bare) (fun _ z => nomatch z)
  have mem : ∀ v ∈ acc, ∃ e ∈ L, Value.ref e.2 = v := fun v hv => List.mem_map.mp (pm.mem_iff.mp hv)
  have hp : ∀ v ∈ acc, K2Is s1.heap (k (backV v)) v ∧ (k (backV v)).map shp = c :: sh := fun v hv => by
    obtain ⟨e, he, rfl⟩ := mem v hv
    obtain ⟨g1, g2, g3⟩ := hx e he
    rw [g2] at g1
    exact ⟨NK.k2 I1.hok g1, g3⟩
  refine wpAny_bind (wpAny_newList ?_ (by rw [hal, sizeLine_eq]; omega))
  have hoL : (s1.heap.push (seqObj "list" acc.toArray 0)).get? s1.heap.objs.size = some (seqObj "list" acc.toArray 0) := Heap.get?_push_size _ rfl
  refine wpAny_bind (wpAny_holding (wpAny_call_entry slot_list_sort ⟨_, hoL, rfl⟩ entry_list_sort
    (SrtO.list_sort_ord (s := { s1 with heap := s1.heap.push (seqObj "list" acc.toArray 0) }) (ltv := fun v u => lexI (flK (k (backV v))) (flK (k (backV u)))) (swo_lexI fun v => flK (k (backV v))) hoL (by rw [hal, sizeLine_eq]; omega) (fun g0 => ?_) fun out g1' g2 => ⟨_, rfl, ?_⟩) (args_list_sort _)))
  · refine k2_sortable (s := { s1 with heap := s1.heap.push (seqObj "list" acc.toArray 0) }) hu2 (by omega) (fun v hm => ⟨(hp v hm).1.keeps fun b o e _ => Heap.get?_push_of_some _ e, (hp v hm).2⟩) fun o e => ?_
    have e' : some o = some (seqObj "list" acc.toArray 0) := e.symm.trans hoL
    cases e'
    intro cc
    exact absurd (Value.type.inj cc) (by decide)
  · obtain ⟨e', he'⟩ := sortedHeap_at (vs := acc) (out := out.toArray) hoL
    have g3 : ∀ u ∈ out, ∃ a, u = Value.ref a := fun u hu => by
      obtain ⟨e, _, rfl⟩ := mem u (g2.perm.mem_iff.mp hu)
      exact ⟨_, rfl⟩
    have hb : (out.map backV).Perm (L.map fun e => V.ref e.2) := by
      have hm := (g2.perm.trans pm).map backV
      rw [List.map_map] at hm
      exact hm
    refine wpAny_pure ⟨_, rfl, .ref s1.heap.objs.size, upd H s1.heap.objs.size (.lst (out.map backV)), I1.laid (t' := s1.toks) (fun b u e => ?_) (Nat.le_refl _)
      (show ObjOk X.prog X.w _ _ _ (.lst (out.map backV)) from ⟨?_, out, e', vals_back g3, he'⟩), rfl, q _ _ (SrtO.srtd_map g1') hb nd (I1.hok.fresh (Nat.le_refl _))⟩
    · have hlt : b < s1.heap.objs.size := Heap.lt_size e
      rw [sortedHeap_old (Nat.ne_of_lt hlt) (by rw [size_push']; exact Nat.lt_succ_of_lt hlt)]
      exact Heap.get?_push_of_some _ e
    · rw [hb.length_eq, List.length_map, sizeLine_eq]
      omega
end
end Hb

set_option Elab.async false
set_option linter.all false
set_option maxRecDepth 100000
set_option maxHeartbeats 4000000
/-! More steps: zip over tuples, a star in a display, set comprehensions; a comprehension's turns for any body. -/
namespace Hb
open PySem L2 PyProof.Rows
theorem Hs.keep {B H H' : Hp} {L : List (Addr × HO)} (hs : Hs B L H) (e : Same H H') : Hs B L H' := ⟨hs.same.trans e, hs.nd, hs.out, fun x hx => e _ _ (hs.at_ x hx)⟩

/-! ### rules that name K -/
section
variable {X : Cx} {K : PySem.W.Frag}
theorem pi_zipK {e e2 : Expr} {ta : TA} {p pos tpos : Pos} {elts : List Expr} {kk : Nat} (hg : Gl X "zip") (hm : X.mg "zip" = none) (ha : PA X [e, e2] ta) (hK : X.K = K := by rfl)
    (hs : starEach [e, e2] X.env = (false, eval e X.env) :: starEach [e2] X.env := by rfl) (hpl : (backTo pos (starEach [e2] X.env)).any (·.1) = false := by rfl) :
    PI X (.Tuple elts kk tpos) (.Call (.Name "zip" p) [e, e2] [] pos) (RZ.iZipA K ta) := by
  subst hK
  exact RZ.pi_zipA hg hm ha hs hpl
theorem pa_starK {e : Expr} {es : List Expr} {te : TE} {t : TA} {p : Pos} (he : PE X e te) (hr : PA X es t) (hK : X.K = K := by rfl) (hs : starEach (.Starred e p :: es) X.env = (true, eval e X.env) :: starEach es X.env := by rfl) : PA X (.Starred e p :: es) (StX.tStar K te t) := by
  subst hK
  exact StX.pa_star he hr hs
theorem pe_snK {P : Program} {w : World} {elt tg iter : Expr} {ifs : List Expr} {scope : Scope} {own : List (Str × Nat)} {pos : Pos} {wi : TI} {g : TG} {tt : TT} {te : TE} (hc : X.calm = true) (hu : X.A.units + 64 < cLine) (hN : X.N.Nodup) (hi : PI X tg iter wi) (ok : BlkOk X.N X.env.scope scope own)
    (hg : ∀ (s : Shared) (H : Hp) (C : Addr) (cl : List (Str × Addr)) (fp : List Addr), PG (X.blk s H scope (compEnvC scope cl C X.env) fp) tg g) (ht : ∀ (s : Shared) (H : Hp) (C : Addr) (cl : List (Str × Addr)) (fp : List Addr), PTs (X.blk s H scope (compEnvC scope cl C X.env) fp) ifs tt)
    (he : ∀ (s : Shared) (H : Hp) (C : Addr) (cl : List (Str × Addr)) (fp : List Addr), PE (X.blk s H scope (compEnvC scope cl C X.env) fp) elt te) (hP : X.prog = P := by rfl) (hw : X.w = w := by rfl) (hs : ∀ x, foldedSetIterable iter X.env x = pure x := by intro _; rfl) :
    PE X (.SetComp elt [⟨tg, iter, ifs, 0⟩] scope pos) (tSn P w wi g tt te (own.map (·.2))) := by
  subst hP hw
  exact pe_sn hc hu hN hi ok hg ht he hs
theorem cr_sumK (hc : X.calm = true) (hK : X.K = K := by rfl) : CallR X (.builtin "sum") (rSum K) := by
  subst hK
  exact cr_sum hc
theorem cr_sortedIK (hK : X.K = K := by rfl) : CallR X (.builtin "sorted") (rSortedI K) := by
  subst hK
  exact cr_sortedI
end

/-! ### the turns of a comprehension, whatever is done in each -/
section
variable {K : PySem.W.Frag} {a b : Addr} {xs ys : List V} {H0 : Hp} {Qd : Hp → Prop} {Body : (Hp → Prop) → V → Hp → Prop}
/-- what tLc, tSn, tDc ask of an iterator J -/
def Turns (J : It) (Body : (Hp → Prop) → V → Hp → Prop) (H0 : Hp) (Qd : Hp → Prop) : Prop := ∃ W : Nat → Nat → Hp → Prop, (∃ m, W 0 m H0) ∧ ∀ i m H, W i m H →
  (J.stop i H ∧ Qd H) ∨ (J.go i H ∧ ∃ Nx : Hp → Prop, (∀ H', Nx H' → ∃ m', m' < m ∧ W (i + 1) m' H') ∧ ∀ x H', J.yld i H x H' → Body Nx x H')
theorem turns_list (Pv : Nat → Hp → Prop) (h0 : Pv 0 H0) (hl : ∀ i H, i ≤ xs.length → Pv i H → SqL K H a xs) (hs : ∀ i x H, xs[i]? = some x → Pv i H → Body (Pv (i + 1)) x H) (hd : ∀ H, Pv xs.length H → Qd H) : Turns (Itl K a) Body H0 Qd := by
  refine ⟨fun i m H => m = xs.length - i ∧ i ≤ xs.length ∧ Pv i H, ⟨xs.length, by simp, Nat.zero_le _, h0⟩, ?_⟩
  rintro i m H ⟨rfl, hi, p⟩
  have q := hl i H hi p
  by_cases hlt : i < xs.length
  · refine .inr ⟨⟨xs, xs[i], q, by simp [hlt]⟩, Pv (i + 1), fun H' p' => ⟨xs.length - (i + 1), by omega, rfl, hlt, p'⟩, fun x H' y => ?_⟩
    obtain ⟨e, y⟩ := y
    subst e
    exact hs i x _ (y xs q) p
  · have e : i = xs.length := by omega
    subst e
    exact .inl ⟨⟨xs, q, Nat.le_refl _⟩, hd H p⟩
theorem turns_zip (hl : xs.length = ys.length) (Pv : Nat → Hp → Prop) (h0 : Pv 0 H0) (hq : ∀ i H, i ≤ xs.length → Pv i H → H a = some (.tup xs) ∧ H b = some (.tup ys))
    (hs : ∀ i x y T H, xs[i]? = some x → ys[i]? = some y → Pv i H → H T = none → Body (Pv (i + 1)) (.ref T) (upd H T (.tup [x, y]))) (hd : ∀ H, Pv xs.length H → Qd H) : Turns (RZ.ItzT K a b) Body H0 Qd := by
  refine ⟨fun i m H => m = xs.length - i ∧ i ≤ xs.length ∧ Pv i H, ⟨xs.length, by simp, Nat.zero_le _, h0⟩, ?_⟩
  rintro i m H ⟨rfl, hi, p⟩
  obtain ⟨q1, q2⟩ := hq i H hi p
  have qx : SqT K H a xs := SqT.of q1
  have qy : SqT K H b ys := SqT.of q2
  by_cases hlt : i < xs.length
  · have hx : xs[i]? = some xs[i] := List.getElem?_eq_getElem hlt
    have hlt2 : i < ys.length := by omega
    have hy : ys[i]? = some ys[i] := List.getElem?_eq_getElem hlt2
    refine .inr ⟨⟨xs, ys, _, _, qx, qy, hx, hy⟩, Pv (i + 1), fun H' p' => ⟨xs.length - (i + 1), by omega, rfl, hlt, p'⟩, fun v H' y => ?_⟩
    obtain ⟨T, x', y', rfl, hT, rfl, f1, f2⟩ := y
    exact hs i x' y' T H (f1 xs qx) (f2 ys qy) p hT
  · have e : i = xs.length := by omega
    subst e
    exact .inl ⟨⟨xs, ys, qx, qy, Or.inl (Nat.le_refl _)⟩, hd H p⟩
end
section
variable {H0 : Hp} {Qd : Hp → Prop} {Body : (Hp → Prop) → V → Hp → Prop} {d : Addr} {o : Obj} {kvs : List (Key × V)}
theorem turns_vals (Pv : Nat → Hp → Prop) (h0 : Pv 0 H0) (hl : ∀ i H, i ≤ kvs.length → Pv i H → H d = some (.frz o (.dK kvs))) (hs : ∀ i k x H, kvs[i]? = some (k, x) → Pv i H → Body (Pv (i + 1)) x H) (hd : ∀ H, Pv kvs.length H → Qd H) : Turns (Itd d o kvs) Body H0 Qd := by
  refine ⟨fun i m H => m = kvs.length - i ∧ i ≤ kvs.length ∧ Pv i H, ⟨kvs.length, by simp, Nat.zero_le _, h0⟩, ?_⟩
  rintro i m H ⟨rfl, hi, p⟩
  have q := hl i H hi p
  by_cases hlt : i < kvs.length
  · refine .inr ⟨⟨q, hlt⟩, Pv (i + 1), fun H' p' => ⟨kvs.length - (i + 1), by omega, rfl, hlt, p'⟩, fun x H' y => ?_⟩
    obtain ⟨rfl, k, hk⟩ := y
    exact hs i k x _ hk p
  · have e : i = kvs.length := by omega
    subst e
    exact .inl ⟨⟨q, Nat.le_refl _⟩, hd H p⟩
theorem turns_keys (Pv : Nat → Hp → Prop) (h0 : Pv 0 H0) (hl : ∀ i H, i ≤ kvs.length → Pv i H → H d = some (.frz o (.dK kvs))) (hs : ∀ i k x H, kvs[i]? = some (k, x) → Pv i H → Body (Pv (i + 1)) (kV k) H) (hd : ∀ H, Pv kvs.length H → Qd H) : Turns (Itk d o kvs) Body H0 Qd := by
  refine ⟨fun i m H => m = kvs.length - i ∧ i ≤ kvs.length ∧ Pv i H, ⟨kvs.length, by simp, Nat.zero_le _, h0⟩, ?_⟩
  rintro i m H ⟨rfl, hi, p⟩
  have q := hl i H hi p
  by_cases hlt : i < kvs.length
  · refine .inr ⟨⟨q, hlt⟩, Pv (i + 1), fun H' p' => ⟨kvs.length - (i + 1), by omega, rfl, hlt, p'⟩, fun x H' y => ?_⟩
    obtain ⟨rfl, k, v, hk, rfl⟩ := y
    exact hs i k v _ hk p
  · have e : i = kvs.length := by omega
    subst e
    exact .inl ⟨⟨q, Nat.le_refl _⟩, hd H p⟩
end
section
variable {K : PySem.W.Frag} {σ : L2.St} {H : Hp} {Q : VK} {P : Program} {w : World}
/-! ### zip of two tuples -/
def ZipR (K : PySem.W.Frag) (vs : List V) (H1 : Hp) (R : It → Hp → Prop) : Prop := ∃ a b xs ys, vs = [.ref a, .ref b] ∧ ((SqL K H1 a xs ∧ SqL K H1 b ys ∧ R (Itz K a b) H1) ∨ (SqT K H1 a xs ∧ SqT K H1 b ys ∧ R (RZ.ItzT K a b) H1))
def ForR (g : TG) (tb : TS) (D : Ends) (σ : L2.St) (J : It) (H1 : Hp) : Prop := ∃ W : Nat → Nat → L2.St → Hp → Prop, (∃ m, W 0 m σ H1) ∧ ∀ i m σ H, W i m σ H →
  (J.stop i H ∧ D.nx σ H) ∨ (J.go i H ∧ ∃ N : L2.St → Hp → Prop, (∀ σ' H', N σ' H' → ∃ m', m' < m ∧ W (i + 1) m' σ' H') ∧ ∀ x H', J.yld i H x H' → g x σ H' fun σ2 H2 => tb { D with nx := N, ct := N, bk := D.nx } σ2 H2)
theorem w_zipF {ta : TA} {g : TG} {tb : TS} {D : Ends} (q : ta σ H fun vs H1 => ZipR K vs H1 (ForR g tb D σ)) : tFor (RZ.iZipA K ta) g tb D σ H := q
theorem w_zipT {g : TG} {tb : TS} {D : Ends} {a b : Addr} {xs ys : List V} (ha : H a = some (.tup xs)) (hb : H b = some (.tup ys)) (hl : xs.length = ys.length) (Pv : Nat → L2.St → Hp → Prop) (h0 : Pv 0 σ H) (hq : ∀ i σ H, Pv i σ H → H a = some (.tup xs) ∧ H b = some (.tup ys))
    (hs : ∀ (i : Nat) (x y : V) (T : Addr) (σ : L2.St) (H : Hp), xs[i]? = some x → ys[i]? = some y → Pv i σ H → H T = none → g (.ref T) σ (upd H T (.tup [x, y])) fun σ2 H2 => tb { D with nx := Pv (i + 1), ct := Pv (i + 1), bk := D.nx } σ2 H2) (hd : ∀ σ H, Pv xs.length σ H → D.nx σ H) :
    ZipR K [.ref a, .ref b] H (ForR g tb D σ) := ⟨a, b, xs, ys, rfl, .inr ⟨SqT.of ha, SqT.of hb, RZ.for_zipT hl Pv h0 (fun i σ H p => ⟨SqT.of (hq i σ H p).1, SqT.of (hq i σ H p).2⟩) hs hd⟩⟩
/-! ### comprehensions by their turns -/
def LcBody (g : TG) (tt : TT) (te : TE) (vs : List Nat) (σ : L2.St) (D : Addr) (Nx : Hp → Prop) (x : V) (H' : Hp) : Prop := g x (wipe σ vs) H' fun σ2 H2 => wipe σ2 vs = wipe σ vs ∧ tt σ2 H2 fun b H3 =>
    if b = true then te σ2 H3 fun y H4 => ∃ acc, H4 D = some (.lst acc) ∧ acc.length < sizeLine ∧ Nx (upd H4 D (.lst (acc ++ [y]))) else Nx H3
def LcR (g : TG) (tt : TT) (te : TE) (vs : List Nat) (σ : L2.St) (Q : VK) (J : It) (H1 : Hp) : Prop := ∀ D, H1 D = none → Turns J (LcBody g tt te vs σ D) (upd H1 D (.lst [])) fun H => Q (.ref D) H
theorem w_lcZ {ta : TA} {g : TG} {tt : TT} {te : TE} {vs : List Nat} (q : ta σ H fun us H1 => ZipR K us H1 (LcR g tt te vs σ Q)) : tLc (RZ.iZipA K ta) g tt te vs σ H Q := q
theorem w_lcZT {g : TG} {tt : TT} {te : TE} {vs : List Nat} {a b : Addr} {xs ys : List V} (ha : H a = some (.tup xs)) (hb : H b = some (.tup ys)) (hl : xs.length = ys.length) (Pv : Addr → Nat → Hp → Prop) (h0 : ∀ D, H D = none → Pv D 0 (upd H D (.lst [])))
    (hq : ∀ D i H, i ≤ xs.length → Pv D i H → H a = some (.tup xs) ∧ H b = some (.tup ys)) (hs : ∀ D i x y T H, xs[i]? = some x → ys[i]? = some y → Pv D i H → H T = none → LcBody g tt te vs σ D (Pv D (i + 1)) (.ref T) (upd H T (.tup [x, y]))) (hd : ∀ D H, Pv D xs.length H → Q (.ref D) H) :
    ZipR K [.ref a, .ref b] H (LcR g tt te vs σ Q) := ⟨a, b, xs, ys, rfl, .inr ⟨SqT.of ha, SqT.of hb, fun D hD => turns_zip hl (Pv D) (h0 D hD) (hq D) (hs D) (hd D)⟩⟩
def SnBody (P : Program) (w : World) (g : TG) (tt : TT) (te : TE) (vs : List Nat) (σ : L2.St) (D : Addr) (Nx : Hp → Prop) (x : V) (H' : Hp) : Prop := g x (wipe σ vs) H' fun σ2 H2 => wipe σ2 vs = wipe σ vs ∧ tt σ2 H2 fun b H3 =>
    if b = true then te σ2 H3 fun y H4 => ∃ (L : List (NestedKey × Addr)) (p : NestedKey × Addr), y = .ref p.2 ∧ H4 D = some (SN P w D L) ∧ (∀ e ∈ L, ElN H4 e) ∧ ElN H4 p ∧ L.length + 1 < 64 ∧ ∀ L', AddN L p L' → Nx (upd H4 D (SN P w D L')) else Nx H3
def SnR (P : Program) (w : World) (g : TG) (tt : TT) (te : TE) (vs : List Nat) (σ : L2.St) (Q : VK) (J : It) (H1 : Hp) : Prop := ∀ D, H1 D = none → Turns J (SnBody P w g tt te vs σ D) (upd H1 D (SN P w D [])) fun H => Q (.ref D) H
def ListR (K : PySem.W.Frag) (x : V) (H1 : Hp) (R : It → Hp → Prop) : Prop := ∃ a, x = .ref a ∧ (∃ xs, SqL K H1 a xs) ∧ R (Itl K a) H1
theorem w_snL {tl : TE} {g : TG} {tt : TT} {te : TE} {vs : List Nat} (q : tl σ H fun x H1 => ListR K x H1 (SnR P w g tt te vs σ Q)) : tSn P w (iList K tl) g tt te vs σ H Q := q
theorem w_listR {a : Addr} {xs : List V} {R : It → Hp → Prop} (h : SqL K H a xs) (q : R (Itl K a) H) : ListR K (.ref a) H R := ⟨a, rfl, ⟨xs, h⟩, q⟩
theorem w_star {te : TE} {t : TA} {Q : List V → Hp → Prop} (q : te σ H fun x H1 => ∃ p xs, x = V.ref p ∧ (SqT K H1 p xs ∨ SqL K H1 p xs) ∧ t σ H1 fun ys H2 => Q (xs ++ ys) H2) : StX.tStar K te t σ H Q := q
/-! ### dicts: values, keys, locked; get, pop, setdefault with a default -/
def ValR (x : V) (H1 : Hp) (R : It → Hp → Prop) : Prop := ∃ d o kvs, x = .ref d ∧ H1 d = some (.frz o (.dK kvs)) ∧ R (Itd d o kvs) H1
theorem w_lcV {td : TE} {g : TG} {tt : TT} {te : TE} {vs : List Nat} (q : td σ H fun x H1 => ValR x H1 (LcR g tt te vs σ Q)) : tLc (iVals td) g tt te vs σ H Q := q
theorem w_valR {d : Addr} {o : Obj} {kvs : List (Key × V)} {R : It → Hp → Prop} (h : H d = some (.frz o (.dK kvs))) (q : R (Itd d o kvs) H) : ValR (.ref d) H R := ⟨d, o, kvs, rfl, h, q⟩
def KeyR (x : V) (H1 : Hp) (R : It → Hp → Prop) : Prop := ∃ d o, x = .ref d ∧ ((∃ kvs, H1 d = some (.frz o (.dK kvs)) ∧ R (Itk d o kvs) H1) ∨ ∃ kvs, H1 d = some (.frz o (.dT kvs)) ∧ R (Itkt d o kvs) H1)
theorem w_lcK {td : TE} {g : TG} {tt : TT} {te : TE} {vs : List Nat} (q : td σ H fun x H1 => KeyR x H1 (LcR g tt te vs σ Q)) : tLc (iKeys td) g tt te vs σ H Q := q
theorem w_keyR {d : Addr} {o : Obj} {kvs : List (Key × V)} {R : It → Hp → Prop} (h : H d = some (.frz o (.dK kvs))) (q : R (Itk d o kvs) H) : KeyR (.ref d) H R := ⟨d, o, rfl, .inl ⟨kvs, h, q⟩⟩
def DcBody (g : TG) (tt : TT) (tk tv : TE) (vs : List Nat) (σ : L2.St) (D : Addr) (Nx : Hp → Prop) (x : V) (H' : Hp) : Prop := g x (wipe σ vs) H' fun σ2 H2 => wipe σ2 vs = wipe σ vs ∧ tt σ2 H2 fun b H3 =>
    if b = true then tk σ2 H3 fun y H4 => tv σ2 H4 fun z H5 => ∃ kvs k, y = kV k ∧ H5 D = some (.dK kvs) ∧ kvs.length < sizeLine ∧ Nx (upd H5 D (.dK (putK kvs k z))) else Nx H3
def DcR (g : TG) (tt : TT) (tk tv : TE) (vs : List Nat) (σ : L2.St) (Q : VK) (J : It) (H1 : Hp) : Prop := ∀ D, H1 D = none → Turns J (DcBody g tt tk tv vs σ D) (upd H1 D (.dK [])) fun H => Q (.ref D) H
theorem w_dcK {td : TE} {g : TG} {tt : TT} {tk tv : TE} {vs : List Nat} (q : td σ H fun x H1 => KeyR x H1 (DcR g tt tk tv vs σ Q)) : tDc (iKeys td) g tt tk tv vs σ H Q := q
theorem w_lockE {B : Hp} {L : List (Addr × HO)} {L' : Obj → List (Addr × HO)} {d : Addr} {kvs : List (Key × V)} {t : TE} (hs : Hs B L H) (h : ∀ od, Put L d (.dK kvs) (.frz od (.dK kvs)) (L' od)) (q : ∀ od H', Hs B (L' od) H' → t σ H' fun v H2 => H2 d = some (.frz od (.dK kvs)) ∧ Q v (upd H2 d (.dK kvs))) : tLockE t σ H Q :=
  ⟨d, .dK kvs, hs.gets (h default), True.intro, fun od => q od _ (hs.puts (h od))⟩
def RDg2 (a : Addr) (y z : V) (H : Hp) (Q : VK) : Prop := ∃ o, DGet H a y o ∧ Q (o.getD z) H
theorem w_dget2 {td ty tx : TE} (q : td σ H fun x H1 => RPopA x H1 fun a => ty σ H1 fun y H2 => tx σ H2 fun z H3 => RDg2 a y z H3 Q) : tDGet2 td ty tx σ H Q := q
theorem w_dg2 {p : Addr} {kvs : List (Key × V)} {n : Int} {z : V} (h : H p = some (.dK kvs)) (q : Q ((valV kvs (Sum.inl n)).getD z) H) : RDg2 p (.int n) z H Q := ⟨_, DGet.k (k := Sum.inl n) h, q⟩
def RPop2 (a : Addr) (y z : V) (H : Hp) (Q : VK) : Prop := ∃ kvs k, H a = some (.dK kvs) ∧ y = kV k ∧ (∀ v, valV kvs k = some v → Q v (upd H a (.dK (dropK kvs k)))) ∧ (valV kvs k = none → Q z H)
theorem w_dpop2 {td ty tx : TE} (q : td σ H fun x H1 => RPopA x H1 fun a => ty σ H1 fun y H2 => tx σ H2 fun z H3 => RPop2 a y z H3 Q) : tDPop2 td ty tx σ H Q := q
theorem w_pop2 {B : Hp} {L L' : List (Addr × HO)} {p : Addr} {kvs : List (Key × V)} {n : Int} {z : V} (hs : Hs B L H) (h : Put L p (.dK kvs) (.dK (dropK kvs (Sum.inl n))) L') (q1 : ∀ v H', valV kvs (Sum.inl n) = some v → Hs B L' H' → Q v H') (q2 : valV kvs (Sum.inl n) = none → Q z H) : RPop2 p (.int n) z H Q :=
  ⟨kvs, Sum.inl n, hs.gets h, rfl, fun v e => q1 v _ e (hs.puts h), q2⟩
def RSetd (a : Addr) (y z : V) (H : Hp) (Q : VK) : Prop := ∃ (kvs : List (Key × V)) (k : Key), H a = some (.dK kvs) ∧ y = kV k ∧ kvs.length < sizeLine ∧ (∀ v, valV kvs k = some v → Q v H) ∧ (valV kvs k = none → Q z (upd H a (.dK (putK kvs k z))))
theorem w_dsetd {td ty tx : TE} (q : td σ H fun x H1 => RPopA x H1 fun a => ty σ H1 fun y H2 => tx σ H2 fun z H3 => RSetd a y z H3 Q) : tDSetd td ty tx σ H Q := q
/-! ### a range whose end is reckoned -/
def RngR (us : List V) (H1 : Hp) (R : It → Hp → Prop) : Prop := ∃ j : Int, us = [.int j] ∧ -(2 ^ 62) ≤ j ∧ j < 2 ^ 62 ∧ R (Itr 0 j.toNat) H1
theorem w_lcG {ta : TA} {g : TG} {tt : TT} {te : TE} {vs : List Nat} (q : ta σ H fun us H1 => RngR us H1 (LcR g tt te vs σ Q)) : tLc (iRng1 ta) g tt te vs σ H Q := q
theorem turns_range {H0 : Hp} {Qd : Hp → Prop} {Body : (Hp → Prop) → V → Hp → Prop} {n : Nat} (Pv : Nat → Hp → Prop) (h0 : Pv 0 H0) (hs : ∀ i H, i < n → Pv i H → Body (Pv (i + 1)) (.int (i : Int)) H) (hd : ∀ H, Pv n H → Qd H) : Turns (Itr 0 n) Body H0 Qd := by
  refine ⟨fun i m H => m = n - i ∧ i ≤ n ∧ Pv i H, ⟨n, by simp, Nat.zero_le _, h0⟩, ?_⟩
  rintro i m H ⟨rfl, hi, p⟩
  by_cases hlt : i < n
  · refine .inr ⟨hlt, Pv (i + 1), fun H' p' => ⟨n - (i + 1), by omega, rfl, hlt, p'⟩, fun x H' y => ?_⟩
    obtain ⟨rfl, rfl⟩ := y
    rw [show (0 : Int) + (i : Int) = (i : Int) from Int.zero_add _]
    exact hs i _ hlt p
  · have e : i = n := by omega
    subst e
    exact .inl ⟨Nat.le_refl _, hd H p⟩
theorem w_rngR {n : Int} {R : It → Hp → Prop} (h0 : 0 ≤ n) (h1 : n < 1000000) (q : R (Itr 0 n.toNat) H) : RngR [.int n] H R := ⟨n, rfl, by omega, by omega, q⟩
end
end Hb

set_option Elab.async false
set_option linter.all false
set_option maxRecDepth 100000
set_option maxHeartbeats 4000000
/-! repr of data, in a law's own body: there no display is under way, which the promise of a def does not tell; so the law's def is run where it is called. -/
namespace Hb
open PySem PySem.Spec L2 PyProof.Rows
/-- data whose text is short -/
structure Shows (d : PyData) : Prop where
  lay : d.canLay0 = true
  dep : d.depth ≤ 40
  sho : d.showable = true
  blk : d.bulk ≤ 2 ^ 20
  lvs : d.leavesShort 13 = true
def rReprD (K : PySem.W.Frag) : List V → Hp → VK → Prop := fun xs H Q => ∃ (p : Addr) (d : PyData), xs = [.ref p] ∧ Dp K H (.ref p) d ∧ Shows d ∧ Q (.str d.shown) H
theorem call_reprD {X : Cx} (hg : X.A.guards = some []) (hu : X.A.units + 64 < cLine) : CallR X (.builtin "repr") (rReprD X.K) := by
  rintro pins s σ H xs us Q I r ⟨p, d, rfl, hd, hs, q⟩
  rw [Vals.ref1 r]
  obtain ⟨as, rd⟩ := Dp.reads I d (.ref p) (.ref p) hd rfl
  have hdep := hs.dep
  refine repr_of_reads' rd hs.sho (PyData.noDict_hsm (PyData.hasDict_of_canLay d hs.lay)) hg (by omega) (fun _ _ e => e) (fun h' u tk hk => ?_) (PyData.shown_fits_bulk (B := 13) (by decide) (by decide) hs.lvs hs.blk)
  exact ⟨.str d.shown, H, I.kept (t' := tk) hk, ⟨_, rfl⟩, q⟩
theorem call_reprDK {X : Cx} {K : PySem.W.Frag} (hg : X.A.guards = some [] := by rfl) (hu : X.A.units + 64 < cLine := by assumption) (hK : X.K = K := by rfl) : CallR X (.builtin "repr") (rReprD K) := by
  subst hK
  exact call_reprD hg hu
theorem w_reprD {K : PySem.W.Frag} {H : Hp} {Q : VK} {p : Addr} {d : PyData} (h : Dp K H (.ref p) d) (hs : Shows d) (q : Q (.str d.shown) H) : rReprD K [.ref p] H Q := ⟨p, d, rfl, h, hs, q⟩

/-! ### a law's def, run where it is called -/
/-- the promise of the law's def at the call itself -/
def LawRun (P : Program) (w : World) (K : PySem.W.Frag) (mg : Str → Option Value) (base : Heap) (k : Nat)
    (f : Addr) (fd : FuncData) (ps : List Str) (sp : Sp) : Prop :=
  ∀ (s : Shared) (H : Hp) (args : Args) (us : List Value)
    (vs : List V) (Q : VK) (E : XK), Room k callerA →
    Env0 P w K mg base callerA [] s H → BindsTo s fd args (ps.zip us) →
    Vals vs us → sp vs H Q E →
    codeAny (model P w) callerA (.call (.ref f) args)
      (CR CX0 [] P w H s Q E) s
section
variable {P : Program} {w : World} {K : PySem.W.Frag} {mg : Str → Option Value} {base : Heap}
theorem law_run {x qual : Str} {st : Stmt} {f : Addr} {fd : FuncData} {N ps : List Str} {k : Nat} {sp : Sp}
    (F : Fun K x qual st f fd) (S : FnScope N ps (defScope st))
    (len : ∀ vs H Q E, sp vs H Q E → vs.length = ps.length)
    (hbody : ∀ (cdv : Value) (s : Shared) (H : Hp) (vs : List V) (Q : VK) (E : XK),
      Room k (callerA.deeper (envOfC qual (defScope st) s.heap.objs.size f cdv)) → sp vs H Q E →
      ∃ t, PSs (cxOf CX0 P w K mg base N qual (defScope st) f cdv callerA [] s H E).nox (defBody st) t ∧
        t { nx := fun _ H' => Q .non H', rt := Q } (start N vs) H) :
    LawRun P w K mg base (k + 1) f fd ps sp := by
  intro s H args us vs Q E hr en hb rv hsp
  obtain ⟨oc, od, kV, doc, pm, an, cdv, ct, osl, rfl, lk, hcd⟩ := F.ex
  have hlen := len vs H Q E hsp
  have hold : ∀ b o, base.get? b = some o → s.heap.get? b = some o := fun b o e => (en.bs b o e).1
  have kin : K.In s.heap := en.mod.kin.keeps hold
  have nolim : s.heap.NoLimit := en.mod.nolimit.keeps hold
  refine codeAny_call_function hr.depth (kin _ _ lk) rfl S.co S.gen rfl (PySem.W.codeRec_of kin hcd) (hb _ _ _ _ ?_)
  refine wpAny_newFunctionEnv_cells S.kind ?_ ?_
  · rintro ⟨n, v⟩ hy
    cases S.par n (List.of_mem_zip hy).1 with
    | inl q => exact Or.inl q
    | inr q => exact Or.inr ⟨q, PySem.W.cellsFrom_some _ _ _ (Or.inl q)⟩
  · intro env he s1 hx
    subst he
    obtain ⟨t, ht, hq⟩ := hbody cdv s H vs Q E (hr.deeper _) hsp
    have i0 := inv_start (CX := CX0) (E := E) S hr.hd en hlen rv hx
    refine ⟨nolim.keeps hx.toInCall.keep, codeAny_func ?_⟩
    refine wpAny_mono (ht.nox.run [] s1 (start N vs) H _ i0 hq) ?_ (fun _ _ q => q)
    intro fl s' hs
    cases fl with
    | ret u =>
      obtain ⟨v, σ', H', j, r1, q1⟩ := hs
      exact ⟨v, H', j.os, j.bare, j.base, j.hok, r1, q1⟩
    | next =>
      obtain ⟨σ', H', j, q1⟩ := hs
      exact ⟨.non, H', j.os, j.bare, j.base, j.hok, rfl, q1⟩
    | brk => exact (hs.choose_spec.choose_spec.2 : False).elim
    | cont => exact (hs.choose_spec.choose_spec.2 : False).elim
end

section
variable {P : Program} {w : World} {K : PySem.W.Frag} {mg mb : Str → Option Value} {k : Nat} {fa a : Addr} {fd : FuncData} {x : Str} {sp : Sp}
/-- what a law's call must show -/
def LawEnd (s₁ : Shared) (r : Result) (s' : Shared) : Prop :=
  r = .ok (.ret (.bool true)) ∧ OldK s₁.heap s'.heap ∧ s'.os = s₁.os ∧ AllBare s'.gens
/-- an abstract heap that tells at most the script, as the machine has it -/
structure Lone (P : Program) (w : World) (K : PySem.W.Frag) (a : Addr) (H : Hp) (h : Heap) : Prop where
  only : Only H
  ok : HOk P w H h
  at_ : ∀ b, H b ≠ none → b = a
  off : H a ≠ none → K.lookup a = none
theorem Lone.free {H : Hp} {s : Shared} {vs : List Value} (L : Lone P w K a H s.heap)
    (ha : s.heap.get? a = some { cls := .type "list", data := .seq vs.toArray })
    {b : Addr} {o : Obj} {es : Array DictEntry} {n : Nat}
    (e : s.heap.get? b = some o) (d : o.data = .dict es n) : H b = none := by
  apply Classical.byContradiction
  intro z
  have q := L.at_ b z
  rw [q, ha] at e
  rw [← Option.some.inj e] at d
  cases d
theorem lone_call {H : Hp} {s : Shared} {vs : List Value} {ns : List Int}
    (L : Lone P w K a H s.heap) (hin : K.In s.heap) (hm : s.heap.Ns mainGlobals mg)
    (hbn : s.heap.Ns builtinsNs mb) (hbv : ∀ y : Str, y ≠ "__name__" → mb y = bootBuiltins y)
    (hno : s.heap.NoLimit) (hgen : s.gens = #[])
    (ha : s.heap.get? a = some { cls := .type "list", data := .seq vs.toArray })
    (hS : SqL K H a (ns.map V.int)) (hr : Room k callerA)
    (F : ∀ base : Heap, K.In base → base.Ns mainGlobals mg → LawRun P w K mg base k fa fd [x] sp)
    (hbind : ∀ (s : Shared) (u : Value), BindsTo s fd ⟨[u], []⟩ [(x, u)])
    (hsp : sp [.ref a] H (fun v _ => v = .bl true) fun _ _ _ => False) :
    codeAny (model P w) callerA (.call (.ref fa) ⟨[.ref a], []⟩) (LawEnd s) s := by
  have keepNs : ∀ {b : Addr} {m : Str → Option Value}, s.heap.Ns b m → (hidT s.heap H).Ns b m := by
    rintro b m ⟨o, es, n, e, d, rest⟩
    exact ⟨o, es, n, hidT_get e (L.free ha e d), d, rest⟩
  have keepK : K.In (hidT s.heap H) := by
    intro b o e
    refine hidT_get (hin b o e) ?_
    apply Classical.byContradiction
    intro z
    have q := L.at_ b z
    rw [q] at e z
    exact absurd ((L.off z).symm.trans e) (by simp)
  have mod : Mod K mg (hidT s.heap H) := by
    obtain ⟨mc, c1, c2⟩ := hno
    exact ⟨keepK, keepNs hm, ⟨mb, keepNs hbn, hbv⟩, mc, keepNs c1, c2⟩
  have none_in : ∀ b : Addr, b ∉ frs ([] : List Env) := fun b z => by
    have z2 : b ∈ ([] : List Addr) := z
    cases z2
  have en : Env0 P w K mg (hidT s.heap H) callerA [] s H := {
    frames := rfl
    mod := mod
    bs := fun b o e => of_hidT e
    bsz := Nat.le_of_eq (hidT_size _ _)
    funs := trivial
    frf := fun b z => (none_in b z).elim
    hok := L.ok
    bare := .of_eq hgen }
  have run := F _ keepK (keepNs hm) s H ⟨[.ref a], []⟩ [.ref a] [.ref a] _ _ hr en
    (hbind s (.ref a)) (.cons rfl .nil) hsp
  refine codeAny_mono run ?_
  intro r s' done
  match r, done with
  | .ok (.ret u), done =>
    obtain ⟨v, H', os, bare, un, ok', rel, hv⟩ := done
    have hv' : v = .bl true := hv
    rw [hv'] at rel
    have hu : u = Value.bool true := rel
    refine ⟨by rw [hu], OldK.of_keep ?_, os, bare⟩
    intro b o e
    rcases L.only b with z | ⟨ob, xs, z⟩
    · exact un.keep b o e z (none_in b) List.not_mem_nil
    · have e1 := (L.ok b _ z).1
      have e2 := (ok' b _ (un.frzs b ob _ z)).1
      rw [e1] at e
      rw [← e]
      exact e2
  | .error e, done => exact (show False from done).elim
  | .ok .next, done => exact (show False from done).elim
  | .ok .brk, done => exact (show False from done).elim
  | .ok .cont, done => exact (show False from done).elim
theorem law_at_call {s : Shared} {vs : List Value} {ns : List Int}
    (hin : K.In s.heap) (hm : s.heap.Ns mainGlobals mg) (hbn : s.heap.Ns builtinsNs mb)
    (hbv : ∀ y : Str, y ≠ "__name__" → mb y = bootBuiltins y) (hno : s.heap.NoLimit) (hgen : s.gens = #[])
    (ha : s.heap.get? a = some { cls := .type "list", data := .seq vs.toArray })
    (hi : IntsAre vs ns) (hl : ns.length ≤ sizeLine) (hr : Room k callerA)
    (F : ∀ base : Heap, K.In base → base.Ns mainGlobals mg → LawRun P w K mg base k fa fd [x] sp)
    (hbind : ∀ (s : Shared) (u : Value), BindsTo s fd ⟨[u], []⟩ [(x, u)])
    (hsp : ∀ H : Hp, Only H → SqL K H a (ns.map V.int) → sp [.ref a] H (fun v _ => v = .bl true) fun _ _ _ => False) :
    codeAny (model P w) callerA (.call (.ref fa) ⟨[.ref a], []⟩) (LawEnd s) s := by
  have rv := vals_ints hi
  cases hk : K.lookup a with
  | some o =>
    have e := hin a o hk
    rw [ha] at e
    have eo := Option.some.inj e
    subst eo
    have L : Lone P w K a (fun _ => none) s.heap :=
      ⟨fun _ => Or.inl rfl, fun _ u z => absurd (show none = some u from z) (by simp), fun _ z => (z rfl).elim, fun z => (z rfl).elim⟩
    have hS : SqL K (fun _ => none) a (ns.map V.int) :=
      Or.inr ⟨_, vs.toArray, _, hk, rfl, rfl, rfl, by rw [List.size_toArray, hi.length]; exact hl, by simpa using rv⟩
    exact lone_call L hin hm hbn hbv hno hgen ha hS hr F hbind (hsp _ L.only hS)
  | none =>
    let fz : HO := .frz { cls := .type "list", data := .seq vs.toArray } (.lst (ns.map V.int))
    have self : upd (fun _ => none) a fz a = some fz := upd_same
    have others : ∀ b, b ≠ a → upd (fun _ => none) a fz b = none := fun b n => upd_ne n
    have L : Lone P w K a (upd (fun _ => none) a fz) s.heap := by
      refine ⟨fun b => ?_, fun b u z => ?_, fun b z => ?_, fun _ => hk⟩
      · by_cases q : b = a
        · rw [q]
          exact Or.inr ⟨_, _, self⟩
        · exact Or.inl (others b q)
      · by_cases q : b = a
        · rw [q] at z ⊢
          have z2 := Option.some.inj (self.symm.trans z)
          subst z2
          exact ⟨ha, by rw [List.length_map]; exact hl, vs, _, rv, ha⟩
        · exact absurd ((others b q).symm.trans z) (by simp)
      · exact Classical.byContradiction fun q => z (others b q)
    have hS : SqL K (upd (fun _ => none) a fz) a (ns.map V.int) := Or.inl (Or.inr ⟨_, self⟩)
    exact lone_call L hin hm hbn hbv hno hgen ha hS hr F hbind (hsp _ L.only hS)
end
/-- the end of a law row from the law's run -/
theorem walk_run {l : PySem.W.OpenLaw} {n k : Nat} {q : Program} {loose : List Str} {XP : (Str → Option Value) → Heap → Prop}
    {YP : World → Heap → Prop} {d : DefRec} {K : Params → PySem.W.Frag} {sp : World → Sp} {x : Str}
    (hn : l.most = some n) (hn2 : n ≤ sizeLine) (hdf : d.params.defaults = []) (hr : Room k callerA)
    (hY : ∀ (w : World) (h : Heap), YP w h → (K w.params).In h)
    (F : ∀ (w : World) (mg : Str → Option Value) (fa : Addr) (h : Heap),
      (K w.params).In h → h.Ns mainGlobals mg → mg d.name = some (.ref fa) →
      ∃ fd : FuncData, (∀ (s : Shared) (u : Value), BindsTo s fd ⟨[u], []⟩ [(x, u)]) ∧
        ∀ base : Heap, (K w.params).In base → base.Ns mainGlobals mg →
          LawRun l.prog w (K w.params) mg base k fa fd [x] (sp w))
    (hsp : ∀ (w : World) (H : Hp) (a : Addr) (ns : List Int), ns.length ≤ n → Only H →
      SqL (K w.params) H a (ns.map V.int) → sp w [.ref a] H (fun v _ => v = .bl true) fun _ _ _ => False) :
    PySem.W.WalkO q loose XP YP l.row.toRowW d [] (fun f vs => PySem.call f vs) := by
  refine Att.attach_call hn hdf ?_
  intro w s₀ s₁ mg mb fa o pm cd doc a vs ns G Y _ _ _ hmg hobj hints hlen hgen
  have hin := hY w _ Y
  obtain ⟨fd, hb, hF⟩ := F w mg fa _ hin G.T.g hmg
  exact law_at_call hin G.T.g G.T.b G.T.builtins G.T.nolimit hgen hobj hints
    (Nat.le_trans hlen hn2) hr hF hb fun H hO hS => hsp w H a ns hlen hO hS
end Hb

set_option Elab.async false
set_option linter.all false
set_option maxRecDepth 100000
set_option maxHeartbeats 4000000
/-! More of dicts with nested tuple keys: get with and without a default, list(d); tuples joined, whatever they are; truth of lists of bools. -/
namespace Hb
open PySem L2 PyProof.Rows
section
variable {X : Cx} {w : World} {o e f : Expr} {apos cpos : Pos} {td ty tx : TE}
def rNG (w : World) (x y z : V) (H : Hp) (Q : VK) : Prop := ∃ a b es k, AtN w H x y a b es k ∧ Q ((atN es k).getD z) H
def tNGet1 (w : World) (td ty : TE) : TE := fun σ H Q => td σ H fun x H1 => (∃ a es, x = .ref a ∧ H1 a = some (DN w a es)) ∧ ty σ H1 fun y H2 => rNG w x y .non H2 Q
def tNGet2 (w : World) (td ty tx : TE) : TE := fun σ H Q => td σ H fun x H1 => (∃ a es, x = .ref a ∧ H1 a = some (DN w a es)) ∧ ty σ H1 fun y H2 => tx σ H2 fun z H3 => rNG w x y z H3 Q
theorem pe_nget1 (hu : X.A.units + 64 < cLine) (ho : PE X o td) (he : PE X e ty) (m : M1 X o "get" apos e cpos) (hw : X.w = w := by rfl) : PE X (.Call (.Attribute o "get" apos) [e] [] cpos) (tNGet1 w td ty) := by
  refine ⟨fun pins s σ H Q I h => ?_⟩
  refine wpAny_Call_method m.base m.few m.line PySem.F.plainAttrs_dict PySem.F.slot_dict_get PySem.F.type_dict_get (thn (ho.run pins s σ H _ I h) ?_)
  rintro u s1 ⟨x, H1, I1, rx, ⟨a0, es0, rfl, ea⟩, q1⟩
  obtain rfl : u = Value.ref a0 := rx
  subst hw
  obtain ⟨t1, t2⟩ := dn_type I1 ea
  have hd0 : (a0 == sysModules) = false := (show ObjOk X.prog X.w H1 s1.heap a0 (DN X.w a0 es0) from I1.hok _ _ ea).1.2.1
  refine ⟨t1, t2, ?_⟩
  rw [m.trees]
  refine wpAny_dict_get1_heap (knd := nestedKind X.prog X.w) (n_room hu) hd0 (thn (he.run pins s1 σ H1 _ I1 q1) ?_)
  rintro iv s2 ⟨y, H2, I2, ry, a, b, es, k, g, q2⟩
  obtain ⟨z, hd, xs, rr, dd, hk⟩ := g.dn I2 rfl
  cases g.ex
  cases g.ey
  refine ⟨b, k, xs, ry, hk, dd, ?_⟩
  exact ⟨_, H2, I2.tok _, (rr.at k).getD (show RelV .non .none from rfl), q2⟩
theorem pe_nget2 (hu : X.A.units + 64 < cLine) (ho : PE X o td) (he : PE X e ty) (hf : PE X f tx) (m : M2 X o "get" apos e f cpos) (hw : X.w = w := by rfl) : PE X (.Call (.Attribute o "get" apos) [e, f] [] cpos) (tNGet2 w td ty tx) := by
  refine ⟨fun pins s σ H Q I h => ?_⟩
  refine wpAny_Call_method m.base m.few m.line PySem.F.plainAttrs_dict PySem.F.slot_dict_get PySem.F.type_dict_get (thn (ho.run pins s σ H _ I h) ?_)
  rintro u s1 ⟨x, H1, I1, rx, ⟨a0, es0, rfl, ea⟩, q1⟩
  obtain rfl : u = Value.ref a0 := rx
  subst hw
  obtain ⟨t1, t2⟩ := dn_type I1 ea
  have hd0 : (a0 == sysModules) = false := (show ObjOk X.prog X.w H1 s1.heap a0 (DN X.w a0 es0) from I1.hok _ _ ea).1.2.1
  refine ⟨t1, t2, ?_⟩
  rw [m.trees]
  refine wpAny_dict_get2_heap (knd := nestedKind X.prog X.w) (n_room hu) hd0 (thn (he.run pins s1 σ H1 _ I1 q1) ?_)
  rintro iv s2 ⟨y, H2, I2, ry, q2⟩
  refine thn (hf.run pins s2 σ H2 _ I2 q2) ?_
  rintro fv s3 ⟨z0, H3, I3, rz, a, b, es, k, g, q3⟩
  obtain ⟨z, hd, xs, rr, dd, hk⟩ := g.dn I3 rfl
  cases g.ex
  cases g.ey
  refine ⟨b, k, xs, ry, hk, dd, ?_⟩
  exact ⟨_, H3, I3.tok _, (rr.at k).getD rz, q3⟩
/-- list(d) -/
def rListN (w : World) : List V → Hp → VK → Prop := fun xs H Q => ∃ (p : Addr) (es : List Ent), xs = [.ref p] ∧ H p = some (DN w p es) ∧ ∀ q, H q = none → Q (.ref q) (upd H q (.lst (es.map fun e => V.ref e.2.1)))
theorem call_listN (hc : X.calm = true) (hw : X.w = w := by rfl) : CallR X (.type "list") (rListN w) := by
  subst hw
  rintro pins s σ H xs us Q I r ⟨p, es, rfl, hp, q⟩
  rw [Vals.ref1 r]
  obtain ⟨⟨z, lo, vs, rel, ob, ds, ep, h1, h2, h3, h4, h5⟩, _, _⟩ := (show ObjOk X.prog X.w H s.heap p (DN X.w p es) from I.hok _ _ hp)
  have hsz : ds.size = es.length := by
    rw [← Array.length_toList, h4, List.length_map, rel.len]
  refine PySem.W.kdl_call (kdl_raw lo h2 h3) (I.ok.hd hc) h1 (by rw [hsz]; exact z) fun h' tk acc c hk hS hacc => ?_
  have hac : acc.toList = es.map fun e => Value.ref e.2.1 := by
    refine List.ext_getElem? fun j => ?_
    rw [List.getElem?_map]
    cases e1 : acc.toList[j]? with
    | none =>
      have g1 := List.getElem?_eq_none_iff.mp e1
      rw [Array.length_toList, hacc.1, hsz] at g1
      rw [List.getElem?_eq_none g1]
      rfl
    | some v =>
      obtain ⟨en, g1, g2⟩ := hacc.2 j v (by rw [← Array.getElem?_toList]; exact e1)
      rw [← Array.getElem?_toList, h4, List.getElem?_map] at g1
      obtain ⟨x, g3, g4⟩ := Option.map_eq_some_iff.mp g1
      have g5 := congrArg (fun l => l[j]?) rel.addrs
      simp only [List.getElem?_map, g3] at g5
      rw [g2, ← g4]
      cases e2 : es[j]? with
      | none =>
        rw [e2] at g5
        simp at g5
      | some y =>
        rw [e2] at g5
        simp only [Option.map_some, Option.some.injEq, Value.ref.injEq] at g5
        simp only [Option.map_some, entN, g5]
  have vals : ∀ l : List Ent, Vals (l.map fun e => V.ref e.2.1) (l.map fun e => Value.ref e.2.1) := fun l => by
    induction l with
    | nil => exact .nil
    | cons e l ih => exact .cons rfl ih
  refine ⟨.ref s.heap.objs.size, upd H s.heap.objs.size (.lst (es.map fun e => V.ref e.2.1)), I.laid hk (Nat.le_refl _) (show ObjOk X.prog X.w _ _ _ (.lst (es.map fun e => V.ref e.2.1)) from ⟨by rw [List.length_map]; exact z, acc.toList, c, ?_, hS⟩), rfl, q _ (I.hok.fresh (Nat.le_refl _))⟩
  rw [hac]
  exact vals es
theorem op_catAK {K : PySem.W.Frag} (hK : X.K = K := by rfl) : OpR X (binaryOp .Add) (rCatA K) := by
  subst hK
  exact op_catA
theorem sl_tupAK {K : PySem.W.Frag} (hK : X.K = K := by rfl) : SlR X (rSlA K) := by
  subst hK
  exact sl_tupA
theorem ix_kdictK {K : PySem.W.Frag} (hK : X.K = K := by rfl) (hw : X.w = w := by rfl) : IxR X (rIxD K w) := by
  subst hK hw
  exact ix_kdict
theorem cr_allK {K : PySem.W.Frag} (hc : X.calm = true) (hK : X.K = K := by rfl) : CallR X (.builtin "all") (rAll K) := by
  subst hK
  exact cr_all hc
theorem cr_anyK {K : PySem.W.Frag} (hc : X.calm = true) (hK : X.K = K := by rfl) : CallR X (.builtin "any") (rAny K) := by
  subst hK
  exact cr_any hc
theorem cr_minK {K : PySem.W.Frag} (hc : X.calm = true) (hK : X.K = K := by rfl) : CallR X (.builtin "min") (rMin K) := by
  subst hK
  exact cr_min hc
theorem cr_maxK {K : PySem.W.Frag} (hc : X.calm = true) (hK : X.K = K := by rfl) : CallR X (.builtin "max") (rMax K) := by
  subst hK
  exact cr_max hc
end
end Hb

set_option Elab.async false
set_option linter.all false
set_option maxRecDepth 100000
set_option maxHeartbeats 4000000
/-! Dicts whose keys are tuples of ints and of flat tuples of ints, with any values: a plain list of pairs. -/
namespace Hb
open PySem L2 PyProof.Rows
abbrev IK := List Itm
abbrev GM := List (IK × V)
theorem nkI_depth (x : Itm) : (nkI x).depth ≤ 3 := by
  cases x with
  | inl i => simp [nkI, NestedKey.depth]
  | inr ns =>
    have h : ∀ l : List Int, NestedKey.depthAll (l.map NestedKey.num) ≤ 1 := fun l => by
      induction l with
      | nil => simp [NestedKey.depthAll]
      | cons n l ih =>
        rw [List.map_cons]
        simp only [NestedKey.depthAll, NestedKey.depth]
        omega
    have := h ns
    simp only [nkI, NestedKey.depth]
    omega
theorem nkK_depth (ks : IK) : (nkK ks).depth ≤ 8 := by
  have h : ∀ l : List Itm, NestedKey.depthAll (l.map nkI) ≤ 3 := fun l => by
    induction l with
    | nil => simp [NestedKey.depthAll]
    | cons x l ih =>
      have := nkI_depth x
      rw [List.map_cons]
      simp only [NestedKey.depthAll]
      omega
  have := h ks
  simp only [nkK, NestedKey.depth]
  omega
/-- an item of a key, as it stands -/
def ItAt (H : Hp) (v : V) : Itm → Prop
  | .inl i => v = .int i
  | .inr ns => ∃ p : Addr, v = .ref p ∧ H p = some (.tup (ns.map V.int))
theorem nks_ints {H : Hp} : ∀ ns : List Int, NKs H (ns.map NestedKey.num) (ns.map V.int)
  | [] => .nil
  | n :: ns => .cons (.int n) (nks_ints ns)
theorem nks_ints_inv {H : Hp} : ∀ {ns : List Int} {vs : List V}, NKs H (ns.map NestedKey.num) vs → vs = ns.map V.int
  | [], _, h => by cases h; rfl
  | n :: ns, _, h => by
    cases h with
    | cons h1 h2 =>
      cases h1
      rw [nks_ints_inv h2]
      rfl
theorem ItAt.nk {H : Hp} {v : V} : ∀ {x : Itm}, ItAt H v x → NK H (nkI x) v
  | .inl i, h => by
    cases h
    exact .int i
  | .inr ns, ⟨p, h1, h2⟩ => by
    cases h1
    exact .tup h2 (nks_ints ns)
theorem ItAt.of {H : Hp} {v : V} : ∀ {x : Itm}, NK H (nkI x) v → ItAt H v x
  | .inl i, h => by
    cases h
    rfl
  | .inr ns, h => by
    cases h with
    | tup h1 h2 => exact ⟨_, rfl, by rw [h1, nks_ints_inv h2]⟩
/-- the key at an address: its items -/
def KAt (H : Hp) (p : Addr) (ks : IK) : Prop := ∃ vs, H p = some (.tup vs) ∧ Paired (fun v x => ItAt H v x) vs ks
theorem KAt.nk {H : Hp} {p : Addr} {ks : IK} (h : KAt H p ks) : NK H (nkK ks) (.ref p) := by
  obtain ⟨vs, h1, h2⟩ := h
  refine .tup h1 ?_
  clear h1
  induction h2 with
  | nil => exact .nil
  | cons h _ ih => exact .cons h.nk ih
theorem KAt.of {H : Hp} {p : Addr} {ks : IK} (h : NK H (nkK ks) (.ref p)) : KAt H p ks := by
  cases h with
  | @tup _ vs _ h1 h2 =>
    refine ⟨vs, h1, ?_⟩
    clear h1
    induction ks generalizing vs with
    | nil => cases h2; exact .nil
    | cons x ks ih =>
      cases h2 with
      | cons k1 k2 => exact .cons (ItAt.of k1) (ih k2)
theorem ItAt.mono {H H' : Hp} (e : ∀ p xs, H p = some (.tup xs) → H' p = some (.tup xs)) {v : V} : ∀ {x : Itm}, ItAt H v x → ItAt H' v x
  | .inl _, h => h
  | .inr _, ⟨p, h1, h2⟩ => ⟨p, h1, e _ _ h2⟩
theorem KAt.mono {H H' : Hp} (e : ∀ p xs, H p = some (.tup xs) → H' p = some (.tup xs)) {p : Addr} {ks : IK} (h : KAt H p ks) : KAt H' p ks := by
  obtain ⟨vs, h1, h2⟩ := h
  exact ⟨vs, e _ _ h1, Paired.mapP h2 fun _ _ => ItAt.mono e⟩
theorem KAt.same {H H' : Hp} (e : Same H H') {p : Addr} {ks : IK} (h : KAt H p ks) : KAt H' p ks := h.mono fun _ _ => e _ _
/-- a flat tuple of ints as a key -/
theorem kat_ints {H : Hp} {p : Addr} {ns : List Int} (h : H p = some (.tup (ns.map V.int))) : KAt H p (ns.map Sum.inl) := by
  refine ⟨_, h, ?_⟩
  clear h
  induction ns with
  | nil => exact .nil
  | cons n ns ih => exact .cons (show ItAt H (.int n) (.inl n) from rfl) ih
theorem kat_ints_inv {H : Hp} {p : Addr} {ns : List Int} (h : KAt H p (ns.map Sum.inl)) : H p = some (.tup (ns.map V.int)) := by
  obtain ⟨vs, h1, h2⟩ := h
  rw [h1]
  congr 2
  clear h1
  induction ns generalizing vs with
  | nil => cases h2; rfl
  | cons n ns ih =>
    cases h2 with
    | cons k1 k2 =>
      rw [ih _ k2, show _ = V.int n from k1]
      rfl
/-! ### the pairs -/
def valG (M : GM) (k : IK) : Option V := (M.find? fun x => decide (x.1 = k)).map (·.2)
def putG (M : GM) (k : IK) (v : V) : GM := if (valG M k).isSome then M.map (fun x => if x.1 = k then (x.1, v) else x) else M ++ [(k, v)]
def dropG (M : GM) (k : IK) : GM := M.filter fun x => decide (x.1 ≠ k)
abbrev EntG (H : Hp) : List Ent → GM → Prop := Paired fun e x => e.1 = nkK x.1 ∧ e.2.2 = x.2 ∧ KAt H e.2.1 x.1
theorem EntG.mono {H H' : Hp} (e : ∀ p xs, H p = some (.tup xs) → H' p = some (.tup xs)) {es : List Ent} {M : GM} (h : EntG H es M) : EntG H' es M := Paired.mapP h fun _ _ ⟨h1, h2, h3⟩ => ⟨h1, h2, h3.mono e⟩
theorem EntG.same {H H' : Hp} (e : Same H H') {es : List Ent} {M : GM} (h : EntG H es M) : EntG H' es M := h.mono fun _ _ => e _ _
theorem EntG.nil {H : Hp} : EntG H [] [] := Paired.nil
theorem EntG.ok {H : Hp} {es : List Ent} {M : GM} (h : EntG H es M) : EntsOk H es := by
  induction h with
  | nil => exact EntsOk.nil
  | cons h _ ih =>
    intro e he
    rcases List.mem_cons.mp he with rfl | he
    · rw [h.1]
      exact ⟨h.2.2.nk, nkK_depth _⟩
    · exact ih e he
theorem EntG.len {H : Hp} {es : List Ent} {M : GM} (h : EntG H es M) : es.length = M.length := Paired.length h
theorem EntG.at {H : Hp} {es : List Ent} {M : GM} (h : EntG H es M) (k : IK) : atN es (nkK k) = valG M k := by
  induction h with
  | nil => rfl
  | @cons e x es xs h _ ih =>
    unfold atN valG at ih ⊢
    rw [List.find?_cons, List.find?_cons, h.1]
    by_cases hc : x.1 = k
    · rw [decide_eq_true hc, decide_eq_true (by rw [hc])]
      show some e.2.2 = some x.2
      rw [h.2.1]
    · rw [decide_eq_false hc, decide_eq_false (fun z => hc (nkK_inj z))]
      exact ih
theorem entG_map {H : Hp} {k : IK} {v : V} : ∀ {es : List Ent} {M : GM}, EntG H es M → EntG H (es.map fun e => if e.1 = nkK k then (e.1, e.2.1, v) else e) (M.map fun x => if x.1 = k then (x.1, v) else x)
  | _, _, Paired.nil => Paired.nil
  | e :: es, x :: xs, Paired.cons h t => by
    refine Paired.cons ?_ (entG_map t)
    by_cases hc : x.1 = k
    · have hc2 : e.1 = nkK k := by rw [h.1, hc]
      simp only [if_pos hc2, if_pos hc]
      exact ⟨h.1, trivial, h.2.2⟩
    · have hc2 : ¬ e.1 = nkK k := fun z => hc (nkK_inj (h.1.symm.trans z))
      simp only [if_neg hc2, if_neg hc]
      exact h
theorem EntG.put {H : Hp} {es : List Ent} {M : GM} (h : EntG H es M) {k : IK} {b : Addr} (v : V) (hk : KAt H b k) : EntG H (putN es (nkK k) b v) (putG M k v) := by
  unfold putN putG
  rw [h.at k]
  by_cases hc : (valG M k).isSome = true
  · rw [if_pos hc, if_pos hc]
    exact entG_map h
  · rw [if_neg hc, if_neg hc]
    exact paired_app h (Paired.cons ⟨rfl, rfl, hk⟩ Paired.nil)
theorem putG_len {M : GM} {k : IK} {v : V} : (putG M k v).length ≤ M.length + 1 := by
  unfold putG
  by_cases h : (valG M k).isSome = true
  · rw [if_pos h, List.length_map]
    omega
  · rw [if_neg h, List.length_append]
    exact Nat.le_refl _
theorem valG_some {M : GM} {k : IK} : (valG M k).isSome = true ↔ k ∈ M.map (·.1) := by
  unfold valG
  rw [Option.isSome_map, List.find?_isSome, List.mem_map]
  exact ⟨fun ⟨x, h1, h2⟩ => ⟨x, h1, of_decide_eq_true h2⟩, fun ⟨x, h1, h2⟩ => ⟨x, h1, decide_eq_true h2⟩⟩
theorem putG_keys (M : GM) (k : IK) (v : V) : (putG M k v).map (·.1) = if (valG M k).isSome = true then M.map (·.1) else M.map (·.1) ++ [k] := by
  unfold putG
  by_cases h : (valG M k).isSome = true
  · rw [if_pos h, if_pos h, List.map_map]
    refine List.map_congr_left fun x _ => ?_
    by_cases hc : x.1 = k
    · simp [hc]
    · simp [hc]
  · rw [if_neg h, if_neg h, List.map_append]
    rfl
theorem valG_cons (x : IK × V) (M : GM) (k : IK) : valG (x :: M) k = if x.1 = k then some x.2 else valG M k := by
  unfold valG
  rw [List.find?_cons]
  by_cases h : x.1 = k
  · rw [decide_eq_true h, if_pos h]
    rfl
  · rw [decide_eq_false h, if_neg h]
theorem valG_nil (k : IK) : valG [] k = none := rfl
theorem valG_put (M : GM) (k : IK) (v : V) (j : IK) : valG (putG M k v) j = if j = k then some v else valG M j := by
  unfold putG
  by_cases h : (valG M k).isSome = true
  · rw [if_pos h]
    by_cases hj : j = k
    · subst hj
      rw [if_pos rfl]
      induction M with
      | nil => cases h
      | cons x M ih =>
        rw [List.map_cons, valG_cons]
        rw [valG_cons] at h
        by_cases hx : x.1 = j
        · rw [if_pos hx, if_pos hx]
        · rw [if_neg hx] at h
          rw [if_neg hx, if_neg hx]
          exact ih h
    · rw [if_neg hj]
      clear h
      induction M with
      | nil => rfl
      | cons x M ih =>
        rw [List.map_cons, valG_cons, valG_cons, ih]
        by_cases hx : x.1 = k
        · rw [if_pos hx]
          by_cases hxj : x.1 = j
          · exact absurd (hxj.symm.trans hx) hj
          · rw [if_neg hxj, if_neg hxj]
        · rw [if_neg hx]
  · rw [if_neg h]
    have hn : valG M k = none := by
      cases e : valG M k with
      | none => rfl
      | some _ => exact absurd (by rw [e]; rfl) h
    clear h
    induction M with
    | nil =>
      rw [List.nil_append, valG_cons]
      by_cases hj : k = j
      · rw [if_pos hj, if_pos hj.symm]
      · rw [if_neg hj, if_neg (fun z => hj z.symm)]
    | cons x M ih =>
      rw [valG_cons] at hn
      by_cases hx : x.1 = k
      · rw [if_pos hx] at hn
        cases hn
      · rw [if_neg hx] at hn
        rw [List.cons_append, valG_cons, ih hn, valG_cons]
        by_cases hxj : x.1 = j
        · rw [if_pos hxj]
          by_cases hj : j = k
          · exact absurd (hxj.trans hj) hx
          · rw [if_neg hj, if_pos hxj]
        · rw [if_neg hxj, if_neg hxj]
/-! ### the steps -/
section
variable {w : World} {σ : L2.St} {H B : Hp} {Q : VK} {D : Ends} {td ty tv tx : TE} {L L' : List (Addr × HO)} {es : List Ent} {M : GM} {k : IK} {d b : Addr} {v : V}
theorem atG_of (h : H d = some (DN w d es)) (e : EntG H es M) (hk : KAt H b k) : AtN w H (.ref d) (.ref b) d b es (nkK k) := ⟨rfl, rfl, h, e.ok, hk.nk, nkK_depth k⟩
theorem wg_get (hs : Hs B L H) (h : H d = some (DN w d es)) (e : EntG B es M) (hk : KAt H b k) (hv : valG M k = some v) (q : Q v H) : rNGet w (.ref d) (.ref b) H Q :=
  ⟨d, b, es, nkK k, v, atG_of h (e.same hs.same) hk, by rw [e.at k, hv], q⟩
theorem wg_in {R : Bool → Prop} (hs : Hs B L H) (h : H d = some (DN w d es)) (e : EntG B es M) (hk : KAt H b k) (q : R (valG M k).isSome) : rNIn w (.ref d) (.ref b) H R :=
  ⟨d, b, es, nkK k, atG_of h (e.same hs.same) hk, by rw [e.at k]; exact q⟩
theorem wg_put {R : Hp → Prop} (hs : Hs B L H) (h : Put L d (DN w d es) (DN w d (putN es (nkK k) b v)) L') (e : EntG B es M) (hk : KAt B b k) (hl : M.length ≤ 1000000) (q : ∀ H', Hs B L' H' → EntG B (putN es (nkK k) b v) (putG M k v) → R H') : rNPut w (.ref d) (.ref b) v H R :=
  ⟨d, b, es, nkK k, atG_of (hs.gets h) (e.same hs.same) (hk.same hs.same), by rw [e.len, sizeLine_eq]; omega, q _ (hs.puts h) (e.put v hk)⟩
theorem wg_def {z : V} (hs : Hs B L H) (h : H d = some (DN w d es)) (e : EntG B es M) (hk : KAt H b k) (q : Q ((valG M k).getD z) H) : rNG w (.ref d) (.ref b) z H Q :=
  ⟨d, b, es, nkK k, atG_of h (e.same hs.same) hk, by rw [e.at k]; exact q⟩
theorem w_ng1 (q : td σ H fun x H1 => (∃ a es, x = .ref a ∧ H1 a = some (DN w a es)) ∧ ty σ H1 fun y H2 => rNG w x y .non H2 Q) : tNGet1 w td ty σ H Q := q
theorem w_ng2 (q : td σ H fun x H1 => (∃ a es, x = .ref a ∧ H1 a = some (DN w a es)) ∧ ty σ H1 fun y H2 => tx σ H2 fun z H3 => rNG w x y z H3 Q) : tNGet2 w td ty tx σ H Q := q
theorem EntG.row {es : List Ent} {M : GM} (h : EntG H es M) : Paired (fun (v : V) (x : IK) => ∃ p : Addr, v = .ref p ∧ KAt H p x) (es.map fun e => V.ref e.2.1) (M.map (·.1)) := by
  induction h with
  | nil => exact .nil
  | cons h _ ih => exact .cons ⟨_, rfl, h.2.2⟩ ih
theorem wg_list (hs : Hs B L H) (h : H d = some (DN w d es)) (q : ∀ p H', Hs B ((p, .lst (es.map fun e => V.ref e.2.1)) :: L) H' → Q (.ref p) H') : rListN w [.ref d] H Q :=
  ⟨d, es, rfl, h, fun p hp => q p _ (hs.new hp)⟩
end
end Hb

set_option Elab.async false
set_option linter.all false
set_option maxRecDepth 100000
set_option maxHeartbeats 4000000
/-! Rows of items side by side with what they tell; sorted of keys; promises joined; objects that stand. -/
namespace Hb
open PySem L2 PyProof.Rows
/-! ## data side by side -/
def Row {α : Type} (R : V → α → Prop) (us : List V) (xs : List α) : Prop := us.length = xs.length ∧ ∀ (i : Nat) (u : V) (x : α), us[i]? = some u → xs[i]? = some x → R u x
theorem Row.mono {α : Type} {R R' : V → α → Prop} (h : ∀ u x, R u x → R' u x) {us : List V} {xs : List α} (r : Row R us xs) : Row R' us xs := ⟨r.1, fun i u x h1 h2 => h _ _ (r.2 i u x h1 h2)⟩
theorem Row.get {α : Type} {R : V → α → Prop} {us : List V} {xs : List α} (r : Row R us xs) {i : Nat} {u : V} (h : us[i]? = some u) : ∃ x, xs[i]? = some x ∧ R u x := by
  have hi := (List.getElem?_eq_some_iff.mp h).1
  have h2 : xs[i]? = some (xs[i]'(by have := r.1; omega)) := List.getElem?_eq_getElem _
  exact ⟨_, h2, r.2 i _ _ h h2⟩
theorem Row.nil {α : Type} {R : V → α → Prop} : Row R [] [] := ⟨rfl, fun _ _ _ z => nomatch z⟩
theorem Row.cons {α : Type} {R : V → α → Prop} {us : List V} {xs : List α} {u : V} {x : α} (h : R u x) (r : Row R us xs) : Row R (u :: us) (x :: xs) := by
  refine ⟨by rw [List.length_cons, List.length_cons, r.1], fun i y z h1 h2 => ?_⟩
  cases i with
  | zero =>
    cases h1
    cases h2
    exact h
  | succ i => exact r.2 i y z (by simpa using h1) (by simpa using h2)
theorem Row.snoc {α : Type} {R : V → α → Prop} {us : List V} {xs : List α} {u : V} {x : α} (r : Row R us xs) (h : R u x) : Row R (us ++ [u]) (xs ++ [x]) := by
  refine ⟨by rw [List.length_append, List.length_append, r.1]; rfl, fun i y z h1 h2 => ?_⟩
  by_cases hi : i < us.length
  · rw [List.getElem?_append_left hi] at h1
    rw [List.getElem?_append_left (by rw [← r.1]; exact hi)] at h2
    exact r.2 i y z h1 h2
  · rw [List.getElem?_append_right (by omega)] at h1
    rw [List.getElem?_append_right (by rw [← r.1]; omega)] at h2
    rw [r.1] at h1
    cases hj : i - xs.length with
    | zero =>
      rw [hj] at h1 h2
      cases h1
      cases h2
      exact h
    | succ n =>
      rw [hj] at h1
      simp at h1
theorem Row.take {α : Type} {R : V → α → Prop} {us : List V} {xs : List α} (r : Row R us xs) (n : Nat) : Row R (us.take n) (xs.take n) := by
  refine ⟨by rw [List.length_take, List.length_take, r.1], fun i u x h1 h2 => ?_⟩
  rw [List.getElem?_take] at h1 h2
  by_cases h : i < n
  · rw [if_pos h] at h1 h2
    exact r.2 i u x h1 h2
  · rw [if_neg h] at h1
    cases h1
theorem Row.drop {α : Type} {R : V → α → Prop} {us : List V} {xs : List α} (r : Row R us xs) (n : Nat) : Row R (us.drop n) (xs.drop n) := by
  refine ⟨by rw [List.length_drop, List.length_drop, r.1], fun i u x h1 h2 => ?_⟩
  rw [List.getElem?_drop] at h1 h2
  exact r.2 _ u x h1 h2
theorem Row.app {α : Type} {R : V → α → Prop} {us vs : List V} {xs ys : List α} (r : Row R us xs) (q : Row R vs ys) : Row R (us ++ vs) (xs ++ ys) := by
  refine ⟨by rw [List.length_append, List.length_append, r.1, q.1], fun i u x h1 h2 => ?_⟩
  by_cases hi : i < us.length
  · rw [List.getElem?_append_left hi] at h1
    rw [List.getElem?_append_left (by rw [← r.1]; exact hi)] at h2
    exact r.2 i u x h1 h2
  · rw [List.getElem?_append_right (by omega)] at h1
    rw [List.getElem?_append_right (by rw [← r.1]; omega), ← r.1] at h2
    exact q.2 _ u x h1 h2
theorem Row.dpAll {α : Type} {K : PySem.W.Frag} {H : Hp} {R : V → α → Prop} {d : α → PyData} (hd : ∀ u x, R u x → Dp K H u (d x)) : ∀ {us : List V} {xs : List α}, Row R us xs → DpAll K H us (xs.map d)
  | [], [], _ => .nil
  | [], _ :: _, h => by cases h.1
  | _ :: _, [], h => by cases h.1
  | u :: us, x :: xs, h => .cons (hd _ _ (h.2 0 u x rfl rfl)) (Row.dpAll hd ⟨Nat.succ.inj h.1, fun i y z h1 h2 => h.2 (i + 1) y z (by simpa using h1) (by simpa using h2)⟩)
/-- what is new and stands: from a callee that only makes -/
theorem Hs_own {B H H' : Hp} {L : List (Addr × HO)} {p : Addr} {o : HO} (hs : Hs B L H) (e : Same H H') (hn : H p = none) (h : H' p = some o) : Hs B ((p, o) :: L) H' := by
  refine ⟨hs.same.trans e, ?_, fun x hx => ?_, fun x hx => ?_⟩
  · rw [List.map_cons, List.nodup_cons]
    exact ⟨hs.fresh hn, hs.nd⟩
  · rcases List.mem_cons.mp hx with rfl | hx
    · exact hs.same.free hn
    · exact hs.out x hx
  · rcases List.mem_cons.mp hx with rfl | hx
    · exact h
    · exact e _ _ (hs.at_ x hx)
theorem w_lcLR {K : PySem.W.Frag} {σ : L2.St} {H : Hp} {Q : VK} {tl : TE} {g : TG} {tt : TT} {te : TE} {vs : List Nat} (q : tl σ H fun x H1 => ListR K x H1 (LcR g tt te vs σ Q)) : tLc (iList K tl) g tt te vs σ H Q := q
/-- [e for x in us], row by row: what is told of the new items hangs on tuples alone -/
theorem w_lcRow {α : Type} {K : PySem.W.Frag} {σ : L2.St} {H : Hp} {Q : VK} {tl : TE} {te : TE} {j : Nat} {vs : List Nat} {a : Addr} {us : List V} (R : Hp → V → α → Prop) (hm : ∀ H1 H2 v y, (∀ p xs, H1 p = some (.tup xs) → H2 p = some (.tup xs)) → R H1 v y → R H2 v y) (hx : SqL K H a us) (hz : us.length ≤ 1000000) (ys : List α) (hlen : us.length = ys.length)
    (htl : ∀ Q : VK, Q (.ref a) H → tl σ H Q) (hw : ∀ v, wipe ((wipe σ vs).set j (some v)) vs = wipe σ vs)
    (he : ∀ (i : Nat) (u : V) (y : α) (H' : Hp) (Q' : VK), us[i]? = some u → ys[i]? = some y → Same H H' → (∀ v H3, Same H' H3 → R H3 v y → Q' v H3) → te ((wipe σ vs).set j (some u)) H' Q')
    (hq : ∀ D acc H', Hs H [(D, .lst acc)] H' → Row (R H') acc ys → Q (.ref D) H') : tLc (iList K tl) (gName j) tYes te vs σ H Q := by
  refine w_lcLR (htl _ (w_listR hx fun D hD => ?_))
  refine turns_list (Body := LcBody (gName j) tYes te vs σ D) (fun i H' => ∃ acc, Hs H [(D, .lst acc)] H' ∧ Row (R H') acc (ys.take i)) ⟨[], (Hs.start H).new hD, Row.nil⟩ (fun i H' _ ⟨_, h, _⟩ => h.same.seq hx) ?_ ?_
  · rintro i u H' hu ⟨acc, h1, h2⟩
    have hi := (List.getElem?_eq_some_iff.mp hu).1
    have hy : ys[i]? = some (ys[i]'(by omega)) := List.getElem?_eq_getElem _
    refine w_name ⟨hw _, w_yes (iteT (he i u _ H' _ hu hy h1.same fun v H3 s3 r => ?_))⟩
    have hD3 : H3 D = some (.lst acc) := s3 _ _ h1.g0
    have hlt : acc.length ≤ i := by
      have := h2.1
      rw [List.length_take] at this
      omega
    refine ⟨acc, hD3, szl (by omega), acc ++ [v], (h1.keep s3).p0 _, ?_⟩
    rw [List.take_add_one, hy]
    refine Row.mono (fun u x => hm H3 _ u x fun a xs => tup_but hD3 (fun _ z => by cases z) a xs) ((h2.mono fun u x => hm _ _ u x fun a xs e => s3 _ _ e).snoc r)
  · rintro H' ⟨acc, h1, h2⟩
    rw [hlen, List.take_length] at h2
    exact hq D acc H' h1 h2
def spF : Sp := fun _ _ _ _ => False
theorem fn_F {P : Program} {w : World} {K : PySem.W.Frag} {mg : Str → Option Value} {base : Heap} {k : Nat} {f : Addr} {fd : FuncData} {ps : List Str} : FnOk P w K mg base CX0 k f fd ps spF := ⟨fun _ _ _ _ h => h.elim, fun _ _ _ _ _ _ _ _ _ _ _ _ _ h => h.elim⟩
theorem fn_or {P : Program} {w : World} {K : PySem.W.Frag} {mg : Str → Option Value} {base : Heap} {k : Nat} {f : Addr} {fd : FuncData} {ps : List Str} {sp1 sp2 : Sp} (F1 : FnOk P w K mg base CX0 k f fd ps sp1) (F2 : FnOk P w K mg base CX0 k f fd ps sp2) : FnOk P w K mg base CX0 k f fd ps (fun vs H Q E => sp1 vs H Q E ∨ sp2 vs H Q E) :=
  ⟨fun vs H Q E h => h.elim (F1.len vs H Q E) (F2.len vs H Q E), fun A outer s H args us vs Q E hr he hb hv h => h.elim (F1.run A outer s H args us vs Q E hr he hb hv) (F2.run A outer s H args us vs Q E hr he hb hv)⟩
theorem w_slA {K : PySem.W.Frag} {B H : Hp} {L : List (Addr × HO)} {Q : VK} {p : Addr} {xs : List V} {lo hi : Option Int} (hs : Hs B L H) (h : SqT K H p xs) (hw : ¬ (HT.sIx xs.length 0 lo = 0 ∧ HT.sIx xs.length xs.length hi = xs.length)) (q : ∀ l H', Hs B ((l, .tup (cutV xs lo hi)) :: L) H' → Q (.ref l) H') : rSlA K (.ref p) lo hi H Q :=
  ⟨p, xs, rfl, h, fun z => absurd z hw, fun _ => w_new hs q⟩

/-! ## sorted: keys of one shape -/
def ltQ (x y : IK) : Bool := lexI (flK x) (flK y)
def SortedK (l : List IK) : Prop := l.Pairwise fun x y => ltQ y x = false
def insK (x : IK) : List IK → List IK
  | [] => [x]
  | y :: ys => if ltQ y x then y :: insK x ys else x :: y :: ys
def srtK : List IK → List IK
  | [] => []
  | x :: xs => insK x (srtK xs)
theorem insK_perm (x : IK) : ∀ ys : List IK, (insK x ys).Perm (x :: ys)
  | [] => List.Perm.refl _
  | y :: ys => by
    unfold insK
    split
    · exact ((insK_perm x ys).cons y).trans (List.Perm.swap x y ys)
    · exact List.Perm.refl _
theorem srtK_perm : ∀ ls : List IK, (srtK ls).Perm ls
  | [] => List.Perm.refl _
  | x :: xs => (insK_perm x (srtK xs)).trans ((srtK_perm xs).cons x)
theorem insK_sorted (x : IK) : ∀ ys : List IK, SortedK ys → SortedK (insK x ys)
  | [], _ => List.pairwise_singleton _ _
  | y :: ys, h => by
    have h1 := List.pairwise_cons.mp h
    unfold insK
    by_cases hc : ltQ y x = true
    · rw [if_pos hc]
      refine List.pairwise_cons.mpr ⟨fun z hz => ?_, insK_sorted x ys h1.2⟩
      rcases List.mem_cons.mp ((insK_perm x ys).mem_iff.mp hz) with rfl | hz
      · exact lexI_asym _ _ hc
      · exact h1.1 z hz
    · rw [if_neg hc]
      have hc' : ltQ y x = false := by
        cases q : ltQ y x with
        | true => exact absurd q hc
        | false => rfl
      refine List.pairwise_cons.mpr ⟨fun z hz => ?_, h⟩
      rcases List.mem_cons.mp hz with rfl | hz
      · exact hc'
      · exact lexI_tr _ _ _ hc' (h1.1 z hz)
theorem srtK_sorted : ∀ ls : List IK, SortedK (srtK ls)
  | [] => List.Pairwise.nil
  | x :: xs => insK_sorted x _ (srtK_sorted xs)
/-- of one shape, the ints tell the key -/
theorem fl_shape : ∀ {x y : IK}, x.map shp = y.map shp → flK x = flK y → x = y
  | [], [], _, _ => rfl
  | [], _ :: _, h, _ => by cases h
  | _ :: _, [], h, _ => by cases h
  | a :: x, b :: y, h, e => by
    rw [List.map_cons, List.map_cons] at h
    injection h with h1 h2
    have hl := shp_len h1
    unfold flK at e
    rw [List.flatMap_cons, List.flatMap_cons] at e
    obtain ⟨e1, e2⟩ := List.append_inj e hl
    have hx := fl_shape h2 (show flK x = flK y from e2)
    have ha : a = b := by
      cases a with
      | inl i =>
        cases b with
        | inl j =>
          injection e1 with e1
          rw [e1]
        | inr ms => cases h1
      | inr ns =>
        cases b with
        | inl j => cases h1
        | inr ms => exact congrArg Sum.inr e1
    rw [hx, ha]
theorem sortedK_uniq {sh : List (Option Nat)} : ∀ {l m : List IK}, l.Perm m → (∀ x ∈ l, x.map shp = sh) → SortedK l → SortedK m → l = m
  | [], m, p, _, _, _ => (List.Perm.eq_nil p.symm).symm
  | x :: l, [], p, _, _, _ => absurd p.length_eq (by simp)
  | x :: l, y :: m, p, hs, hl, hm => by
    have h1 := List.pairwise_cons.mp hl
    have h2 := List.pairwise_cons.mp hm
    have e : x = y := by
      rcases List.mem_cons.mp (p.mem_iff.mp List.mem_cons_self) with e | hx
      · exact e
      · have hy2 := p.mem_iff.mpr (List.mem_cons_self (a := y) (l := m))
        rcases List.mem_cons.mp hy2 with e | hy
        · exact e.symm
        · exact fl_shape ((hs x List.mem_cons_self).trans (hs y hy2).symm) (lexI_total _ _ (h2.1 x hx) (h1.1 y hy))
    subst e
    rw [sortedK_uniq p.cons_inv (fun z hz => hs z (List.mem_cons_of_mem _ hz)) h1.2 h2.2]
theorem srtK_uniq {sh : List (Option Nat)} {l ls : List IK} (p : l.Perm ls) (hs : ∀ x ∈ ls, x.map shp = sh) (h : SortedK l) : l = srtK ls :=
  sortedK_uniq (p.trans (srtK_perm ls).symm) (fun x hx => hs x (p.mem_iff.mp hx)) h (srtK_sorted ls)
/-- an item of a list that is a key -/
def KeyAt (H : Hp) (v : V) (k : IK) : Prop := ∃ p : Addr, v = .ref p ∧ KAt H p k
theorem KeyAt.mono {H H' : Hp} (e : ∀ p xs, H p = some (.tup xs) → H' p = some (.tup xs)) {v : V} {k : IK} (h : KeyAt H v k) : KeyAt H' v k := by
  obtain ⟨p, h1, h2⟩ := h
  exact ⟨p, h1, h2.mono e⟩
theorem KeyAt.inj {H : Hp} {v : V} {k k' : IK} (h : KeyAt H v k) (h' : KeyAt H v k') : k = k' := by
  obtain ⟨p, rfl, h1⟩ := h
  obtain ⟨q, e, h2⟩ := h'
  cases e
  exact nkK_inj (NK.inj h1.nk h2.nk)
theorem KeyAt.it {H : Hp} {v : V} {k : IK} (h : KeyAt H v k) : itK H v = k := by
  obtain ⟨p, rfl, h1⟩ := h
  exact itK_eq h1.nk
theorem row_perm {α : Type} {R : V → α → Prop} {us ys : List V} (p : ys.Perm us) {xs : List α} (r : Row R us xs) : ∃ zs, zs.Perm xs ∧ Row R ys zs := by
  have toP : ∀ {us : List V} {xs : List α}, Row R us xs → Paired R us xs := by
    intro us
    induction us with
    | nil =>
      intro xs r
      cases xs with
      | nil => exact .nil
      | cons _ _ => cases r.1
    | cons u us ih =>
      intro xs r
      cases xs with
      | nil => cases r.1
      | cons x xs => exact .cons (r.2 0 u x rfl rfl) (ih ⟨Nat.succ.inj r.1, fun i y z h1 h2 => r.2 (i + 1) y z (by simpa using h1) (by simpa using h2)⟩)
  have ofP : ∀ {us : List V} {xs : List α}, Paired R us xs → Row R us xs := by
    intro us xs h
    induction h with
    | nil => exact Row.nil
    | cons h _ ih => exact Row.cons h ih
  obtain ⟨zs, h1, h2⟩ := paired_perm p (toP r)
  exact ⟨zs, h1, ofP h2⟩
theorem w_sortK2 {K : PySem.W.Frag} {B H : Hp} {L : List (Addr × HO)} {Q : VK} {a : Addr} {us : List V} {ks : List IK} {c : Option Nat} {sh : List (Option Nat)} (hs : Hs B L H) (h : SqL K H a us) (r : Row (KeyAt H) us ks) (hsh : ∀ k ∈ ks, k.map shp = c :: sh)
    (q : ∀ p ys H', ys.Perm us → Hs B ((p, .lst ys) :: L) H' → Row (KeyAt H') ys (srtK ks) → Q (.ref p) H') : rSortN K c sh [.ref a] H Q := by
  refine ⟨a, us, itK H, rfl, h, fun x hx => ?_, fun ys p h1 h2 hp => ?_⟩
  · obtain ⟨i, hi, rfl⟩ := List.getElem_of_mem hx
    obtain ⟨k, hk, hat⟩ := r.get (List.getElem?_eq_getElem hi)
    rw [hat.it]
    obtain ⟨b, e, hb⟩ := hat
    exact ⟨⟨b, e⟩, by rw [e]; exact hb.nk, hsh k (List.mem_of_getElem? hk)⟩
  · obtain ⟨zs, p1, p2⟩ := row_perm h2.perm r
    have srt : SortedK zs := by
      refine List.pairwise_iff_getElem.mpr fun i j hi hj hij => ?_
      have hi' : i < ys.length := by rw [p2.1]; exact hi
      have hj' : j < ys.length := by rw [p2.1]; exact hj
      have a1 := p2.2 i ys[i] zs[i] (List.getElem?_eq_getElem hi') (List.getElem?_eq_getElem hi)
      have a2 := p2.2 j ys[j] zs[j] (List.getElem?_eq_getElem hj') (List.getElem?_eq_getElem hj)
      have := List.pairwise_iff_getElem.mp h1 i j hi' hj' hij
      unfold ltK at this
      rw [a1.it, a2.it] at this
      exact this
    have e := srtK_uniq p1 hsh srt
    subst e
    have hs2 := hs.new (o := .lst ys) hp
    exact q p ys _ h2.perm hs2 (p2.mono fun u k => KeyAt.mono fun b xs e => by rw [upd_ne (ne_of_none e hp)]; exact e)
theorem frz_hs {B H : Hp} {p : Addr} {o : HO} {L : List (Addr × HO)} (hs : Hs B ((p, o) :: L) H) : ∃ B2, Same B B2 ∧ B2 p = some o ∧ Hs B2 L H := ⟨_, hs.freeze.1, upd_same, hs.freeze.2⟩
theorem shp_can {d : PyData} (h : SeqAt.shaped d = true) : d.canLay0 = true := by
  unfold SeqAt.shaped at h
  exact (Bool.and_eq_true_iff.mp h).1
theorem w_neRefl {K : PySem.W.Frag} {H : Hp} {Q : VK} {p q : V} {d : PyData} (h1 : Dp K H p d) (h2 : Dp K H q d) (hs : SeqAt.shaped d = true) (k : Q (.bl false) H) : rNeD K p q H Q :=
  ⟨d, d, h1, h2, hs, hs, by
    rw [SeqAt.eqv_refl _ (shp_can hs)]
    exact k⟩

/-! ## for i, x in enumerate(xs) -/
theorem w_enumF {K : PySem.W.Frag} {σ : L2.St} {H : Hp} {ta : TA} {g : TG} {tb : TS} {D : Ends} {a : Addr} {xs : List V} (hx : SqL K H a xs) (Pv : Nat → L2.St → Hp → Prop) (hta : ∀ Q : List V → Hp → Prop, Q [.ref a] H → ta σ H Q) (h0 : Pv 0 σ H) (hl : ∀ i σ H, i ≤ xs.length → Pv i σ H → SqL K H a xs)
    (hs : ∀ i x T σ H, xs[i]? = some x → Pv i σ H → H T = none → g (.ref T) σ (upd H T (.tup [.int (i : Int), x])) fun σ2 H2 => tb { D with nx := Pv (i + 1), ct := Pv (i + 1), bk := D.nx } σ2 H2) (hd : ∀ σ H, Pv xs.length σ H → D.nx σ H) : tFor (iEnum K ta) g tb D σ H := by
  refine hta _ ⟨a, xs, rfl, hx, fun i m σ H => m = xs.length - i ∧ i ≤ xs.length ∧ Pv i σ H, ⟨xs.length, by simp, Nat.zero_le _, h0⟩, ?_⟩
  rintro i m σ' H' ⟨rfl, hi, p⟩
  have q := hl i σ' H' hi p
  by_cases hlt : i < xs.length
  · refine .inr ⟨⟨xs, xs[i], q, List.getElem?_eq_getElem hlt⟩, Pv (i + 1), fun σ2 H2 p2 => ⟨xs.length - (i + 1), by omega, rfl, hlt, p2⟩, fun v H2 y => ?_⟩
    obtain ⟨T, x, rfl, hT, rfl, hx2⟩ := y
    exact hs i x T _ _ (hx2 xs q) p hT
  · have e : i = xs.length := by omega
    subst e
    exact .inl ⟨⟨xs, q, Nat.le_refl _⟩, hd σ' H' p⟩
theorem w_sortK {K : PySem.W.Frag} {B H : Hp} {L : List (Addr × HO)} {Q : VK} {a : Addr} {us : List V} {ks : List IK} {c : Option Nat} {sh : List (Option Nat)} (hs : Hs B L H) (h : SqL K H a us) (r : Row (KeyAt H) us ks) (hsh : ∀ k ∈ ks, k.map shp = c :: sh)
    (q : ∀ p ys H', Hs B ((p, .lst ys) :: L) H' → Row (KeyAt H') ys (srtK ks) → Q (.ref p) H') : rSortN K c sh [.ref a] H Q := w_sortK2 hs h r hsh fun p ys H' _ => q p ys H'
/-! ## ranges with a lower end -/
theorem w_forR2 {σ : L2.St} {H : Hp} {D : Ends} {ta : TA} {g : TG} {tb : TS} {lo hi : Int} (b1 : -(2 ^ 62) ≤ lo ∧ lo < 2 ^ 62 ∧ -(2 ^ 62) ≤ hi ∧ hi < 2 ^ 62) (Pv : Nat → L2.St → Hp → Prop) (hta : ∀ Q : List V → Hp → Prop, Q [.int lo, .int hi] H → ta σ H Q) (h0 : Pv 0 σ H)
    (hs : ∀ (i : Nat) σ H, lo + (i : Int) < hi → Pv i σ H → g (.int (lo + (i : Int))) σ H fun σ2 H2 => tb { D with nx := Pv (i + 1), ct := Pv (i + 1), bk := D.nx } σ2 H2) (hd : ∀ σ H, Pv (hi - lo).toNat σ H → D.nx σ H) : tFor (iRng2 ta) g tb D σ H :=
  hta _ ⟨lo, hi, rfl, b1, for_range (lo := lo) (n := (hi - lo).toNat) Pv h0 (fun i σ' H' hi' p => hs i σ' H' (by omega) p) hd⟩
def RngR2 (us : List V) (H1 : Hp) (R : It → Hp → Prop) : Prop := ∃ lo hi : Int, us = [.int lo, .int hi] ∧ (-(2 ^ 62) ≤ lo ∧ lo < 2 ^ 62 ∧ -(2 ^ 62) ≤ hi ∧ hi < 2 ^ 62) ∧ R (Itr lo (hi - lo).toNat) H1
theorem w_lcG2 {σ : L2.St} {H : Hp} {Q : VK} {ta : TA} {g : TG} {tt : TT} {te : TE} {vs : List Nat} (q : ta σ H fun us H1 => RngR2 us H1 (LcR g tt te vs σ Q)) : tLc (iRng2 ta) g tt te vs σ H Q := q
theorem turns_rangeL {H0 : Hp} {Qd : Hp → Prop} {Body : (Hp → Prop) → V → Hp → Prop} {lo : Int} {n : Nat} (Pv : Nat → Hp → Prop) (h0 : Pv 0 H0) (hs : ∀ i H, i < n → Pv i H → Body (Pv (i + 1)) (.int (lo + (i : Int))) H) (hd : ∀ H, Pv n H → Qd H) : Turns (Itr lo n) Body H0 Qd := by
  refine ⟨fun i m H => m = n - i ∧ i ≤ n ∧ Pv i H, ⟨n, by simp, Nat.zero_le _, h0⟩, ?_⟩
  rintro i m H ⟨rfl, hi, p⟩
  by_cases hlt : i < n
  · refine .inr ⟨hlt, Pv (i + 1), fun H' p' => ⟨n - (i + 1), by omega, rfl, hlt, p'⟩, fun x H' y => ?_⟩
    obtain ⟨rfl, rfl⟩ := y
    exact hs i _ hlt p
  · have e : i = n := by omega
    subst e
    exact .inl ⟨Nat.le_refl _, hd H p⟩

/-! ## [e for x in us if t], index by index -/
theorem w_lcIx {K : PySem.W.Frag} {σ : L2.St} {H : Hp} {Q : VK} {tl : TE} {te : TE} {tt : TT} {j : Nat} {vs : List Nat} {a : Addr} {us : List V} (f : Nat → Option V) (hx : SqL K H a us) (hz : us.length ≤ 1000000)
    (htl : ∀ Q : VK, Q (.ref a) H → tl σ H Q) (hw : ∀ v, wipe ((wipe σ vs).set j (some v)) vs = wipe σ vs)
    (he : ∀ (i : Nat) (u : V) (H' : Hp) (Nx : Hp → Prop) (Ap : VK), us[i]? = some u → Same H H' → (f i = none → ∀ H2, Same H' H2 → Nx H2) → (∀ y, f i = some y → ∀ H2, Same H' H2 → Ap y H2) → tt ((wipe σ vs).set j (some u)) H' fun b H2 => if b = true then te ((wipe σ vs).set j (some u)) H2 Ap else Nx H2)
    (hq : ∀ D acc H', Hs H [(D, .lst acc)] H' → acc = (List.range us.length).filterMap f → Q (.ref D) H') : tLc (iList K tl) (gName j) tt te vs σ H Q := by
  refine w_lcLR (htl _ (w_listR hx fun D hD => ?_))
  refine turns_list (Body := LcBody (gName j) tt te vs σ D) (fun i H' => ∃ acc, Hs H [(D, .lst acc)] H' ∧ acc = (List.range i).filterMap f) ⟨[], (Hs.start H).new hD, rfl⟩ (fun i H' _ ⟨_, h, _⟩ => h.same.seq hx) ?_ ?_
  · rintro i u H' hu ⟨acc, h1, rfl⟩
    have hi := (List.getElem?_eq_some_iff.mp hu).1
    have hst : (List.range (i + 1)).filterMap f = (List.range i).filterMap f ++ (f i).toList := by
      have e1 : List.filterMap f [i] = (f i).toList := by
        rw [List.filterMap_cons]
        cases f i with
        | none => rfl
        | some y => rfl
      rw [List.range_succ, List.filterMap_append, e1]
    refine w_name ⟨hw _, he i u H' _ _ hu h1.same (fun hn H2 s2 => ?_) fun y hy H2 s2 => ?_⟩
    · refine ⟨_, h1.keep s2, ?_⟩
      rw [hst, hn]
      exact (List.append_nil _).symm
    · have hl : ((List.range i).filterMap f).length ≤ i := by
        refine Nat.le_trans (List.length_filterMap_le _ _) ?_
        rw [List.length_range]
        exact Nat.le_refl _
      refine ⟨_, s2 _ _ h1.g0, szl (by omega), _, (h1.keep s2).p0 _, ?_⟩
      rw [hst, hy]
      rfl
  · rintro H' ⟨acc, h1, h2⟩
    exact hq D acc H' h1 h2
/-- a part of the rows -/
theorem row_filter {α : Type} {R : V → α → Prop} {us : List V} {xs : List α} (r : Row R us xs) (q : α → Bool) (f : Nat → Option V) (hf : ∀ i x u, us[i]? = some u → xs[i]? = some x → f i = if q x = true then some u else none) : Row R ((List.range us.length).filterMap f) (xs.filter q) := by
  have key : ∀ n, n ≤ us.length → Row R ((List.range n).filterMap f) ((xs.take n).filter q) := fun n => by
    induction n with
    | zero => exact fun _ => Row.nil
    | succ n ih =>
      intro hn
      have hu : us[n]? = some (us[n]'(by omega)) := List.getElem?_eq_getElem _
      have hx : xs[n]? = some (xs[n]'(by have := r.1; omega)) := List.getElem?_eq_getElem _
      generalize us[n]'(by omega) = u at hu
      generalize xs[n]'(by have := r.1; omega) = x at hx
      rw [List.range_succ, List.filterMap_append, List.take_add_one, hx, List.filter_append]
      have e1 : List.filterMap f [n] = (f n).toList := by
        rw [List.filterMap_cons]
        cases f n with
        | none => rfl
        | some y => rfl
      have e2 : List.filter q (some x).toList = if q x = true then [x] else [] := by
        show List.filter q [x] = _
        rw [List.filter_cons]
        rfl
      rw [e1, e2, hf n x u hu hx]
      by_cases h : q x = true
      · rw [if_pos h, if_pos h]
        exact (ih (by omega)).snoc (r.2 n u x hu hx)
      · rw [if_neg h, if_neg h]
        show Row R (_ ++ []) (_ ++ [])
        rw [List.append_nil, List.append_nil]
        exact ih (by omega)
  have := key us.length (Nat.le_refl _)
  rw [r.1, List.take_length, ← r.1] at this
  exact this
end Hb

set_option Elab.async false
set_option linter.all false
set_option maxRecDepth 100000
set_option maxHeartbeats 4000000
namespace K16
open PySem L2 Hb
class IsP (P : Program) : Prop where
  eq : P = PySem.Challenge.pw_hangbridge_k16_events_are_judged
def top (i : Nat) : Stmt := PySem.Challenge.pw_hangbridge_k16_events_are_judged.main.body.getD i (.Pass ⟨0, 0, 0, 0⟩)
abbrev s_peer : Stmt := (top 1)
abbrev s_test_holds : Stmt := (top 5)
abbrev s_with_number : Stmt := (top 6)
abbrev s_after_star : Stmt := (top 8)
abbrev s_after : Stmt := (top 9)
abbrev s_after_any : Stmt := (top 7)
abbrev s_does : Stmt := (top 10)
abbrev s_is_known : Stmt := (top 13)
abbrev s_is_right : Stmt := (top 14)
abbrev s_agrees : Stmt := (top 15)
abbrev s_depth_of : Stmt := (top 16)
abbrev s_broken_rule : Stmt := (top 17)
abbrev s_judge : Stmt := (top 18)
abbrev s__law_state : Stmt := (top 20)
abbrev s__law_draw : Stmt := (top 21)
abbrev s__law_pick : Stmt := (top 22)
abbrev s__law_joined_graph : Stmt := (top 24)
abbrev s__law_test : Stmt := (top 25)
abbrev s__law_policy : Stmt := (top 26)
abbrev s__law_before : Stmt := (top 27)
abbrev s__law_broken : Stmt := (top 28)
abbrev s__law_due : Stmt := (top 29)
abbrev s__law_grown : Stmt := (top 30)
abbrev s__law_turned : Stmt := (top 31)
abbrev s_law : Stmt := (top 32)
abbrev N_peer : List Str := ["links", "end", "one", "other"]
theorem sc_peer : FnScope N_peer ["links", "end"] (defScope s_peer) := ⟨rfl, rfl, rfl, by decide +kernel, rfl, by decide +kernel, by decide +kernel⟩
abbrev N_test_holds : List Str := ["test", "state", "name", "part"]
theorem sc_test_holds : FnScope N_test_holds ["test", "state"] (defScope s_test_holds) := ⟨rfl, rfl, rfl, by decide +kernel, rfl, by decide +kernel, by decide +kernel⟩
abbrev N_with_number : List Str := ["state", "field", "number", "place"]
theorem sc_with_number : FnScope N_with_number ["state", "field", "number"] (defScope s_with_number) := ⟨rfl, rfl, rfl, by decide +kernel, rfl, by decide +kernel, by decide +kernel⟩
abbrev N_after_star : List Str := ["policy", "state", "known", "states", "reached"]
theorem sc_after_star : FnScope N_after_star ["policy", "state"] (defScope s_after_star) := ⟨rfl, rfl, rfl, by decide +kernel, rfl, by decide +kernel, by decide +kernel⟩
abbrev N_after : List Str := ["policy", "state", "name", "states", "part"]
theorem sc_after : FnScope N_after ["policy", "state"] (defScope s_after) := ⟨rfl, rfl, rfl, by decide +kernel, rfl, by decide +kernel, by decide +kernel⟩
abbrev N_after_any : List Str := ["policies", "states", "found", "state", "policy", "reached"]
theorem sc_after_any : FnScope N_after_any ["policies", "states"] (defScope s_after_any) := ⟨rfl, rfl, rfl, by decide +kernel, rfl, by decide +kernel, by decide +kernel⟩
abbrev N_does : List Str := ["policy", "switch", "port", "header", "state"]
theorem sc_does : FnScope N_does ["policy", "switch", "port", "header"] (defScope s_does) := ⟨rfl, rfl, rfl, by decide +kernel, rfl, by decide +kernel, by decide +kernel⟩
abbrev N_is_known : List Str := ["graph", "policies", "event", "switch", "_", "version"]
theorem sc_is_known : FnScope N_is_known ["graph", "policies", "event"] (defScope s_is_known) := ⟨rfl, rfl, rfl, by decide +kernel, rfl, by decide +kernel, by decide +kernel⟩
abbrev N_is_right : List Str := ["policies", "event", "switch", "port", "version", "_", "header", "sent"]
theorem sc_is_right : FnScope N_is_right ["policies", "event"] (defScope s_is_right) := ⟨rfl, rfl, rfl, by decide +kernel, rfl, by decide +kernel, by decide +kernel⟩
abbrev N_agrees : List Str := ["versions", "event", "_", "port", "version", "number"]
theorem sc_agrees : FnScope N_agrees ["versions", "event"] (defScope s_agrees) := ⟨rfl, rfl, rfl, by decide +kernel, rfl, by decide +kernel, by decide +kernel⟩
abbrev N_depth_of : List Str := ["graph", "depths", "event", "switch", "port", "version", "number", "header", "_", "other", "depth"]
theorem sc_depth_of : FnScope N_depth_of ["graph", "depths", "event"] (defScope s_depth_of) := ⟨rfl, rfl, rfl, by decide +kernel, rfl, by decide +kernel, by decide +kernel⟩
abbrev N_broken_rule : List Str := ["graph", "policies", "versions", "depth", "event"]
theorem sc_broken_rule : FnScope N_broken_rule ["graph", "policies", "versions", "depth", "event"] (defScope s_broken_rule) := ⟨rfl, rfl, rfl, by decide +kernel, rfl, by decide +kernel, by decide +kernel⟩
abbrev N_judge : List Str := ["graph", "policies", "events", "versions", "depths", "index", "event", "depth", "rule", "switch", "_", "version", "number", "sent", "port", "header", "place"]
theorem sc_judge : FnScope N_judge ["graph", "policies", "events"] (defScope s_judge) := ⟨rfl, rfl, rfl, by decide +kernel, rfl, by decide +kernel, by decide +kernel⟩
abbrev N__law_state : List Str := ["script", "seed", "cell"]
theorem sc__law_state : FnScope N__law_state ["script"] (defScope s__law_state) := ⟨rfl, rfl, rfl, by decide +kernel, rfl, by decide +kernel, by decide +kernel⟩
abbrev N__law_draw : List Str := ["state", "many", "cells", "value", "mixed"]
theorem sc__law_draw : FnScope N__law_draw ["state", "many"] (defScope s__law_draw) := ⟨rfl, rfl, rfl, by decide +kernel, rfl, by decide +kernel, by decide +kernel⟩
abbrev N__law_pick : List Str := ["state", "row"]
theorem sc__law_pick : FnScope N__law_pick ["state", "row"] (defScope s__law_pick) := ⟨rfl, rfl, rfl, by decide +kernel, rfl, by decide +kernel, by decide +kernel⟩
abbrev N__law_joined_graph : List Str := ["state", "most", "count", "links", "used", "switch", "near", "ports", "one", "other", "port"]
theorem sc__law_joined_graph : FnScope N__law_joined_graph ["state", "most"] (defScope s__law_joined_graph) := ⟨rfl, rfl, rfl, by decide +kernel, rfl, by decide +kernel, by decide +kernel⟩
abbrev N__law_test : List Str := ["state", "kind", "field", "number"]
theorem sc__law_test : FnScope N__law_test ["state"] (defScope s__law_test) := ⟨rfl, rfl, rfl, by decide +kernel, rfl, by decide +kernel, by decide +kernel⟩
abbrev N__law_policy : List Str := ["state", "parts", "k", "row"]
theorem sc__law_policy : FnScope N__law_policy ["state"] (defScope s__law_policy) := ⟨rfl, rfl, rfl, by decide +kernel, rfl, by decide +kernel, by decide +kernel⟩
abbrev N__law_before : List Str := ["graph", "rows", "event", "other", "found", "k", "one"]
theorem sc__law_before : FnScope N__law_before ["graph", "rows", "event"] (defScope s__law_before) := ⟨rfl, rfl, rfl, by decide +kernel, rfl, by decide +kernel, by decide +kernel⟩
abbrev N__law_broken : List Str := ["graph", "policies", "rows", "event", "depths", "switch", "port", "version", "number", "header", "sent", "depth", "known", "same", "k", "one"]
theorem sc__law_broken : FnScope N__law_broken ["graph", "policies", "rows", "event", "depths"] (defScope s__law_broken) := ⟨rfl, rfl, rfl, by decide +kernel, rfl, by decide +kernel, by decide +kernel⟩
abbrev N__law_due : List Str := ["graph", "policies", "events", "depths", "found", "k", "rule"]
theorem sc__law_due : FnScope N__law_due ["graph", "policies", "events"] (defScope s__law_due) := ⟨rfl, rfl, rfl, by decide +kernel, rfl, by decide +kernel, by decide +kernel⟩
abbrev N__law_grown : List Str := ["state", "graph", "policies", "events", "k", "version", "header", "place", "one", "goals", "goal", "sent", "port", "other"]
theorem sc__law_grown : FnScope N__law_grown ["state", "graph", "policies"] (defScope s__law_grown) := ⟨rfl, rfl, rfl, by decide +kernel, rfl, by decide +kernel, by decide +kernel⟩
abbrev N__law_turned : List Str := ["state", "events", "at", "event", "k", "value"]
theorem sc__law_turned : FnScope N__law_turned ["state", "events"] (defScope s__law_turned) := ⟨rfl, rfl, rfl, by decide +kernel, rfl, by decide +kernel, by decide +kernel⟩
abbrev N_law : List Str := ["script", "state", "graph", "policies", "k", "events", "turn", "kept"]
theorem sc_law : FnScope N_law ["script"] (defScope s_law) := ⟨rfl, rfl, rfl, by decide +kernel, rfl, by decide +kernel, by decide +kernel⟩
structure Ad where
  peer : Addr
  fd_peer : FuncData
  test_holds : Addr
  fd_test_holds : FuncData
  with_number : Addr
  fd_with_number : FuncData
  after_star : Addr
  fd_after_star : FuncData
  after : Addr
  fd_after : FuncData
  after_any : Addr
  fd_after_any : FuncData
  does : Addr
  fd_does : FuncData
  is_known : Addr
  fd_is_known : FuncData
  is_right : Addr
  fd_is_right : FuncData
  agrees : Addr
  fd_agrees : FuncData
  depth_of : Addr
  fd_depth_of : FuncData
  broken_rule : Addr
  fd_broken_rule : FuncData
  judge : Addr
  fd_judge : FuncData
  _law_state : Addr
  fd__law_state : FuncData
  _law_draw : Addr
  fd__law_draw : FuncData
  _law_pick : Addr
  fd__law_pick : FuncData
  _law_joined_graph : Addr
  fd__law_joined_graph : FuncData
  _law_test : Addr
  fd__law_test : FuncData
  _law_policy : Addr
  fd__law_policy : FuncData
  _law_before : Addr
  fd__law_before : FuncData
  _law_broken : Addr
  fd__law_broken : FuncData
  _law_due : Addr
  fd__law_due : FuncData
  _law_grown : Addr
  fd__law_grown : FuncData
  _law_turned : Addr
  fd__law_turned : FuncData
  law : Addr
  fd_law : FuncData
  K_FIELD_PLACES : Addr
structure Txt (w : World) (K : PySem.W.Frag) (mg : Str → Option Value) (a : Ad) : Prop where
  fn_peer : Fun K "peer" "peer" s_peer a.peer a.fd_peer
  bi_peer : Binds K a.fd_peer ["links", "end"] []
  mg_peer : mg "peer" = some (.ref a.peer)
  kp_peer : PySem.W.keepIn K (.ref a.peer) = true
  fn_test_holds : Fun K "test_holds" "test_holds" s_test_holds a.test_holds a.fd_test_holds
  bi_test_holds : Binds K a.fd_test_holds ["test", "state"] []
  mg_test_holds : mg "test_holds" = some (.ref a.test_holds)
  kp_test_holds : PySem.W.keepIn K (.ref a.test_holds) = true
  fn_with_number : Fun K "with_number" "with_number" s_with_number a.with_number a.fd_with_number
  bi_with_number : Binds K a.fd_with_number ["state", "field", "number"] []
  mg_with_number : mg "with_number" = some (.ref a.with_number)
  kp_with_number : PySem.W.keepIn K (.ref a.with_number) = true
  fn_after_star : Fun K "after_star" "after_star" s_after_star a.after_star a.fd_after_star
  bi_after_star : Binds K a.fd_after_star ["policy", "state"] []
  mg_after_star : mg "after_star" = some (.ref a.after_star)
  kp_after_star : PySem.W.keepIn K (.ref a.after_star) = true
  fn_after : Fun K "after" "after" s_after a.after a.fd_after
  bi_after : Binds K a.fd_after ["policy", "state"] []
  mg_after : mg "after" = some (.ref a.after)
  kp_after : PySem.W.keepIn K (.ref a.after) = true
  fn_after_any : Fun K "after_any" "after_any" s_after_any a.after_any a.fd_after_any
  bi_after_any : Binds K a.fd_after_any ["policies", "states"] []
  mg_after_any : mg "after_any" = some (.ref a.after_any)
  kp_after_any : PySem.W.keepIn K (.ref a.after_any) = true
  fn_does : Fun K "does" "does" s_does a.does a.fd_does
  bi_does : Binds K a.fd_does ["policy", "switch", "port", "header"] []
  mg_does : mg "does" = some (.ref a.does)
  kp_does : PySem.W.keepIn K (.ref a.does) = true
  fn_is_known : Fun K "is_known" "is_known" s_is_known a.is_known a.fd_is_known
  bi_is_known : Binds K a.fd_is_known ["graph", "policies", "event"] []
  mg_is_known : mg "is_known" = some (.ref a.is_known)
  kp_is_known : PySem.W.keepIn K (.ref a.is_known) = true
  fn_is_right : Fun K "is_right" "is_right" s_is_right a.is_right a.fd_is_right
  bi_is_right : Binds K a.fd_is_right ["policies", "event"] []
  mg_is_right : mg "is_right" = some (.ref a.is_right)
  kp_is_right : PySem.W.keepIn K (.ref a.is_right) = true
  fn_agrees : Fun K "agrees" "agrees" s_agrees a.agrees a.fd_agrees
  bi_agrees : Binds K a.fd_agrees ["versions", "event"] []
  mg_agrees : mg "agrees" = some (.ref a.agrees)
  kp_agrees : PySem.W.keepIn K (.ref a.agrees) = true
  fn_depth_of : Fun K "depth_of" "depth_of" s_depth_of a.depth_of a.fd_depth_of
  bi_depth_of : Binds K a.fd_depth_of ["graph", "depths", "event"] []
  mg_depth_of : mg "depth_of" = some (.ref a.depth_of)
  kp_depth_of : PySem.W.keepIn K (.ref a.depth_of) = true
  fn_broken_rule : Fun K "broken_rule" "broken_rule" s_broken_rule a.broken_rule a.fd_broken_rule
  bi_broken_rule : Binds K a.fd_broken_rule ["graph", "policies", "versions", "depth", "event"] []
  mg_broken_rule : mg "broken_rule" = some (.ref a.broken_rule)
  kp_broken_rule : PySem.W.keepIn K (.ref a.broken_rule) = true
  fn_judge : Fun K "judge" "judge" s_judge a.judge a.fd_judge
  bi_judge : Binds K a.fd_judge ["graph", "policies", "events"] []
  mg_judge : mg "judge" = some (.ref a.judge)
  kp_judge : PySem.W.keepIn K (.ref a.judge) = true
  fn__law_state : Fun K "_law_state" "_law_state" s__law_state a._law_state a.fd__law_state
  bi__law_state : Binds K a.fd__law_state ["script"] []
  mg__law_state : mg "_law_state" = some (.ref a._law_state)
  kp__law_state : PySem.W.keepIn K (.ref a._law_state) = true
  fn__law_draw : Fun K "_law_draw" "_law_draw" s__law_draw a._law_draw a.fd__law_draw
  bi__law_draw : Binds K a.fd__law_draw ["state", "many"] []
  mg__law_draw : mg "_law_draw" = some (.ref a._law_draw)
  kp__law_draw : PySem.W.keepIn K (.ref a._law_draw) = true
  fn__law_pick : Fun K "_law_pick" "_law_pick" s__law_pick a._law_pick a.fd__law_pick
  bi__law_pick : Binds K a.fd__law_pick ["state", "row"] []
  mg__law_pick : mg "_law_pick" = some (.ref a._law_pick)
  kp__law_pick : PySem.W.keepIn K (.ref a._law_pick) = true
  fn__law_joined_graph : Fun K "_law_joined_graph" "_law_joined_graph" s__law_joined_graph a._law_joined_graph a.fd__law_joined_graph
  bi__law_joined_graph : Binds K a.fd__law_joined_graph ["state", "most"] []
  mg__law_joined_graph : mg "_law_joined_graph" = some (.ref a._law_joined_graph)
  kp__law_joined_graph : PySem.W.keepIn K (.ref a._law_joined_graph) = true
  fn__law_test : Fun K "_law_test" "_law_test" s__law_test a._law_test a.fd__law_test
  bi__law_test : Binds K a.fd__law_test ["state"] []
  mg__law_test : mg "_law_test" = some (.ref a._law_test)
  kp__law_test : PySem.W.keepIn K (.ref a._law_test) = true
  fn__law_policy : Fun K "_law_policy" "_law_policy" s__law_policy a._law_policy a.fd__law_policy
  bi__law_policy : Binds K a.fd__law_policy ["state"] []
  mg__law_policy : mg "_law_policy" = some (.ref a._law_policy)
  kp__law_policy : PySem.W.keepIn K (.ref a._law_policy) = true
  fn__law_before : Fun K "_law_before" "_law_before" s__law_before a._law_before a.fd__law_before
  bi__law_before : Binds K a.fd__law_before ["graph", "rows", "event"] []
  mg__law_before : mg "_law_before" = some (.ref a._law_before)
  kp__law_before : PySem.W.keepIn K (.ref a._law_before) = true
  fn__law_broken : Fun K "_law_broken" "_law_broken" s__law_broken a._law_broken a.fd__law_broken
  bi__law_broken : Binds K a.fd__law_broken ["graph", "policies", "rows", "event", "depths"] []
  mg__law_broken : mg "_law_broken" = some (.ref a._law_broken)
  kp__law_broken : PySem.W.keepIn K (.ref a._law_broken) = true
  fn__law_due : Fun K "_law_due" "_law_due" s__law_due a._law_due a.fd__law_due
  bi__law_due : Binds K a.fd__law_due ["graph", "policies", "events"] []
  mg__law_due : mg "_law_due" = some (.ref a._law_due)
  kp__law_due : PySem.W.keepIn K (.ref a._law_due) = true
  fn__law_grown : Fun K "_law_grown" "_law_grown" s__law_grown a._law_grown a.fd__law_grown
  bi__law_grown : Binds K a.fd__law_grown ["state", "graph", "policies"] []
  mg__law_grown : mg "_law_grown" = some (.ref a._law_grown)
  kp__law_grown : PySem.W.keepIn K (.ref a._law_grown) = true
  fn__law_turned : Fun K "_law_turned" "_law_turned" s__law_turned a._law_turned a.fd__law_turned
  bi__law_turned : Binds K a.fd__law_turned ["state", "events"] []
  mg__law_turned : mg "_law_turned" = some (.ref a._law_turned)
  kp__law_turned : PySem.W.keepIn K (.ref a._law_turned) = true
  fn_law : Fun K "law" "law" s_law a.law a.fd_law
  bi_law : Binds K a.fd_law ["script"] []
  mg_law : mg "law" = some (.ref a.law)
  kp_law : PySem.W.keepIn K (.ref a.law) = true
  mg_OUTSIDE : ∃ tk, mg "OUTSIDE" = some (.int 0 tk)
  mg_FIELD_PLACES : mg "FIELD_PLACES" = some (.ref a.K_FIELD_PLACES)
  kd_FIELD_PLACES_switch : KDct K w a.K_FIELD_PLACES "switch" (.int 0)
  kd_FIELD_PLACES_port : KDct K w a.K_FIELD_PLACES "port" (.int 1)
  kd_FIELD_PLACES_src : KDct K w a.K_FIELD_PLACES "src" (.int 2)
  kd_FIELD_PLACES_dst : KDct K w a.K_FIELD_PLACES "dst" (.int 3)
  kd_FIELD_PLACES_kind : KDct K w a.K_FIELD_PLACES "kind" (.int 4)
  mg_MOST_DEPTH : ∃ tk, mg "MOST_DEPTH" = some (.int 12 tk)
  mg_any : mg "any" = none
  mg_all : mg "all" = none
  mg_list : mg "list" = none
  mg_sorted : mg "sorted" = none
  mg_enumerate : mg "enumerate" = none
  mg_min : mg "min" = none
  mg_abs : mg "abs" = none
  mg_int : mg "int" = none
  mg_len : mg "len" = none
  mg_range : mg "range" = none
  mg_max : mg "max" = none
  mg_repr : mg "repr" = none
local macro_rules | `(tactic| walk_at "g") => `(tactic| first | assumption | exact Hs.g0 (by assumption) | exact Hs.g1 (by assumption) | exact Hs.g2 (by assumption) | exact Hs.g3 (by assumption) | exact Hs.g4 (by assumption) | exact Hs.g5 (by assumption) | exact Hs.g6 (by assumption) | exact Hs.g7 (by assumption) | exact Hs.g8 (by assumption) | exact Hs.g9 (by assumption) | exact Hs.g10 (by assumption) | exact Hs.g11 (by assumption) | exact Hs.g12 (by assumption) | exact Hs.g13 (by assumption) | exact Hs.g14 (by assumption) | exact Hs.g15 (by assumption) | exact Hs.old (by assumption) (by assumption))
local macro_rules | `(tactic| walk_at "l") => `(tactic| first | assumption | exact SqL.of (by walk_at "g") | exact Hs.sql (by assumption) (by assumption))
local macro_rules | `(tactic| walk_at "p") => `(tactic| first | exact .here | exact .there .here | exact .there (.there .here) | exact .there (.there (.there .here)) | exact .there (.there (.there (.there .here))) | exact .there (.there (.there (.there (.there .here)))) | exact .there (.there (.there (.there (.there (.there .here))))) | exact .there (.there (.there (.there (.there (.there (.there .here)))))) | exact .there (.there (.there (.there (.there (.there (.there (.there .here))))))) | exact .there (.there (.there (.there (.there (.there (.there (.there (.there .here)))))))) | exact .there (.there (.there (.there (.there (.there (.there (.there (.there (.there .here))))))))) | exact .there (.there (.there (.there (.there (.there (.there (.there (.there (.there (.there .here)))))))))) | exact .there (.there (.there (.there (.there (.there (.there (.there (.there (.there (.there (.there .here))))))))))) | exact .there (.there (.there (.there (.there (.there (.there (.there (.there (.there (.there (.there (.there .here)))))))))))))
local macro_rules | `(tactic| walk_at "f") => `(tactic| first | exact lk0 | exact lk1 (by decide +kernel) lk0 | exact lk1 (by decide +kernel) (lk1 (by decide +kernel) lk0) | exact lk1 (by decide +kernel) (lk1 (by decide +kernel) (lk1 (by decide +kernel) lk0)) | exact lk1 (by decide +kernel) (lk1 (by decide +kernel) (lk1 (by decide +kernel) (lk1 (by decide +kernel) lk0))) | exact lk1 (by decide +kernel) (lk1 (by decide +kernel) (lk1 (by decide +kernel) (lk1 (by decide +kernel) (lk1 (by decide +kernel) lk0)))) | exact lk1 (by decide +kernel) (lk1 (by decide +kernel) (lk1 (by decide +kernel) (lk1 (by decide +kernel) (lk1 (by decide +kernel) (lk1 (by decide +kernel) lk0))))) | exact lk1 (by decide +kernel) (lk1 (by decide +kernel) (lk1 (by decide +kernel) (lk1 (by decide +kernel) (lk1 (by decide +kernel) (lk1 (by decide +kernel) (lk1 (by decide +kernel) lk0)))))) | exact lk1 (by decide +kernel) (lk1 (by decide +kernel) (lk1 (by decide +kernel) (lk1 (by decide +kernel) (lk1 (by decide +kernel) (lk1 (by decide +kernel) (lk1 (by decide +kernel) (lk1 (by decide +kernel) lk0))))))))
local macro_rules | `(tactic| walk_at "fn") => `(tactic| first | exact lke | exact lkn (by decide +kernel) lke | exact lkn (by decide +kernel) (lkn (by decide +kernel) lke) | exact lkn (by decide +kernel) (lkn (by decide +kernel) (lkn (by decide +kernel) lke)) | exact lkn (by decide +kernel) (lkn (by decide +kernel) (lkn (by decide +kernel) (lkn (by decide +kernel) lke))) | exact lkn (by decide +kernel) (lkn (by decide +kernel) (lkn (by decide +kernel) (lkn (by decide +kernel) (lkn (by decide +kernel) lke)))) | exact lkn (by decide +kernel) (lkn (by decide +kernel) (lkn (by decide +kernel) (lkn (by decide +kernel) (lkn (by decide +kernel) (lkn (by decide +kernel) lke))))) | exact lkn (by decide +kernel) (lkn (by decide +kernel) (lkn (by decide +kernel) (lkn (by decide +kernel) (lkn (by decide +kernel) (lkn (by decide +kernel) (lkn (by decide +kernel) lke)))))) | exact lkn (by decide +kernel) (lkn (by decide +kernel) (lkn (by decide +kernel) (lkn (by decide +kernel) (lkn (by decide +kernel) (lkn (by decide +kernel) (lkn (by decide +kernel) (lkn (by decide +kernel) lke))))))))
local macro_rules | `(tactic| walk_at "fp") => `(tactic| first | exact pue | exact pu0 | exact pu2 (by decide +kernel) pue | exact pu2 (by decide +kernel) pu0 | exact pu2 (by decide +kernel) (pu2 (by decide +kernel) pue) | exact pu2 (by decide +kernel) (pu2 (by decide +kernel) pu0) | exact pu2 (by decide +kernel) (pu2 (by decide +kernel) (pu2 (by decide +kernel) pue)) | exact pu2 (by decide +kernel) (pu2 (by decide +kernel) (pu2 (by decide +kernel) pu0)) | exact pu2 (by decide +kernel) (pu2 (by decide +kernel) (pu2 (by decide +kernel) (pu2 (by decide +kernel) pue))) | exact pu2 (by decide +kernel) (pu2 (by decide +kernel) (pu2 (by decide +kernel) (pu2 (by decide +kernel) pu0))) | exact pu2 (by decide +kernel) (pu2 (by decide +kernel) (pu2 (by decide +kernel) (pu2 (by decide +kernel) (pu2 (by decide +kernel) pue)))) | exact pu2 (by decide +kernel) (pu2 (by decide +kernel) (pu2 (by decide +kernel) (pu2 (by decide +kernel) (pu2 (by decide +kernel) pu0)))) | exact pu2 (by decide +kernel) (pu2 (by decide +kernel) (pu2 (by decide +kernel) (pu2 (by decide +kernel) (pu2 (by decide +kernel) (pu2 (by decide +kernel) pue))))) | exact pu2 (by decide +kernel) (pu2 (by decide +kernel) (pu2 (by decide +kernel) (pu2 (by decide +kernel) (pu2 (by decide +kernel) (pu2 (by decide +kernel) pu0))))) | exact pu2 (by decide +kernel) (pu2 (by decide +kernel) (pu2 (by decide +kernel) (pu2 (by decide +kernel) (pu2 (by decide +kernel) (pu2 (by decide +kernel) (pu2 (by decide +kernel) pue)))))) | exact pu2 (by decide +kernel) (pu2 (by decide +kernel) (pu2 (by decide +kernel) (pu2 (by decide +kernel) (pu2 (by decide +kernel) (pu2 (by decide +kernel) (pu2 (by decide +kernel) pu0)))))))
local macro_rules | `(tactic| walk_at "c") => `(tactic| first | assumption | omega | (dsimp only; omega) | (unfold CMul; omega))
local macro_rules | `(tactic| walk_at "z") => `(tactic| first | assumption | (refine sz ?_; first | decide | omega | (simp only [List.length_map, List.length_append] <;> omega) | (simp only [List.length_cons, List.length_nil, List.length_map, List.length_append] <;> omega)) | (refine szl ?_; first | decide | omega | (simp only [List.length_map, List.length_append] <;> omega) | (simp only [List.length_cons, List.length_nil, List.length_map, List.length_append] <;> omega)))
local macro_rules | `(tactic| walk_at "s") => `(tactic| first
  | with_reducible refine w_seq ?_
  | ((with_reducible refine' w_var ?h ?_); case h => exact rfl)
  | with_reducible refine w_c ?_
  | with_reducible refine w_name ?_
  | with_reducible refine w_asg ?_
  | with_reducible refine w_op ?_
  | with_reducible refine w_I0 ?_
  | with_reducible refine w_exb ?_
  | with_reducible refine w_if ?_
  | with_reducible refine w_test ?_
  | with_reducible refine w_fld ?_
  | ((with_reducible refine' w_fl ?h ?hc ?hn ?hl ?_); (case h => walk_at "g"); (case hc => assumption); (case hn => assumption); (case hl => walk_at "f"))
  | with_reducible refine w_nil ?_
  | with_reducible refine w_cons ?_
  | with_reducible refine w_cb ?_
  | with_reducible refine w_call ?_
  | with_reducible refine w_meth ?_
  | with_reducible refine w_make ?_
  | ((with_reducible refine' w_rc ?h ?hl ?_); (case h => walk_at "g"); (case hl => walk_at "fn"))
  | with_reducible refine w_drop ?_
  | with_reducible refine w_ret ?_
  | with_reducible refine w_retN ?_
  | with_reducible refine w_next ?_
  | with_reducible refine w_brk ?_
  | with_reducible refine w_cont ?_
  | with_reducible refine w_eqI ?_
  | with_reducible refine w_neI ?_
  | with_reducible refine w_neB ?_
  | with_reducible refine w_isi ?_
  | ((with_reducible refine' w_len ?h ?_); case h => walk_at "l")
  | ((with_reducible refine' w_ixL ?h ?a ?_); (case h => walk_at "l"); (case a => first | exact at0 | exact at1 | exact at2 | exact at3 | assumption))
  | with_reducible refine w_bm ?_
  | with_reducible refine w_bm0 ?_
  | ((with_reducible refine' w_tyL ?h ?_); case h => walk_at "l")
  | with_reducible refine w_B ?_
  | with_reducible refine w_not ?_
  | with_reducible refine w_and ?_
  | with_reducible refine w_or ?_
  | with_reducible refine w_andV ?_
  | with_reducible refine w_orV ?_
  | with_reducible refine w_notV ?_
  | with_reducible refine w_ifE ?_
  | with_reducible refine w_chain ?_
  | with_reducible refine w_un ?_
  | with_reducible refine w_U ?_
  | with_reducible refine w_int ?_
  | with_reducible refine w_abs ?_
  | with_reducible refine w_tup ?_
  | with_reducible refine w_lst ?_
  | with_reducible refine w_sl ?_
  | with_reducible refine w_noPart ?_
  | with_reducible refine w_part ?_
  | with_reducible refine w_exi ?_
  | ((with_reducible refine' w_newL ?hs ?hl ?_); (case hs => assumption); (case hl => walk_at "z"); intro _ _ _)
  | ((with_reducible refine' w_newT ?hs ?hl ?_); (case hs => assumption); (case hl => walk_at "z"); intro _ _ _)
  | ((with_reducible refine' w_slL ?hs ?h ?_); (case hs => assumption); (case h => walk_at "l"); intro _ _ _)
  | ((with_reducible refine' w_cat ?hs ?ha ?hb ?hl ?_); (case hs => assumption); (case ha => walk_at "g"); (case hb => walk_at "g"); (case hl => walk_at "z"); intro _ _ _)
  | ((with_reducible refine' w_app ?hs ?h ?hl ?_); (case hs => assumption); (case h => walk_at "p"); (case hl => walk_at "z"); intro _ _)
  | ((with_reducible refine' w_clear ?hs ?h ?_); (case hs => assumption); (case h => walk_at "p"); intro _ _)
  | with_reducible refine w_sfld ?_
  | ((with_reducible refine' w_fsP ?hs ?h ?hc ?hn ?hl ?hg ?_); (case hs => assumption); (case h => walk_at "p"); (case hc => assumption); (case hn => assumption); (case hl => exact Nat.lt_of_lt_of_le (by simp only [List.length_cons, List.length_nil]; omega) (Nat.le_refl 1000)); (case hg => walk_at "fp"); intro _ _)
  | with_reducible refine w_lpb ?_
  | with_reducible refine w_yes ?_
  | with_reducible refine w_sub ?_
  | with_reducible refine w_delL0 ?_
  | ((with_reducible refine' w_I ?h ?_); case h => walk_at "c"))
local macro_rules | `(tactic| walk_at "ss") => `(tactic| repeat walk_at "s")

local macro_rules | `(tactic| walk_at "t") => `(tactic| first | assumption | exact SqT.of (by walk_at "g"))
local macro_rules | `(tactic| walk_at "s") => `(tactic| first
  | with_reducible refine iteT ?_
  | with_reducible refine iteF ?_
  | with_reducible refine w_din ?_
  | with_reducible refine w_dni ?_
  | ((with_reducible refine' w_dinI ?h ?_); case h => walk_at "g")
  | ((with_reducible refine' w_dniI ?h ?_); case h => walk_at "g")
  | with_reducible refine w_dput ?_
  | ((with_reducible refine' w_dputI ?hs ?h ?hl ?_); (case hs => assumption); (case h => walk_at "p"); (case hl => walk_at "z"); intro _ _)
  | with_reducible refine w_dpop ?_
  | ((with_reducible refine' w_dpopA ?h ?_); case h => walk_at "g")
  | with_reducible refine w_dnew ?_
  | ((with_reducible refine' w_newD ?hs ?_); (case hs => assumption); intro _ _ _)
  | with_reducible refine w_faug ?_
  | ((with_reducible refine' w_fa1 ?h ?hc ?hn ?hl ?_); (case h => walk_at "g"); (case hc => assumption); (case hn => assumption); (case hl => walk_at "f"))
  | ((with_reducible refine' w_fa2 ?hs ?h ?hl ?hg ?_); (case hs => assumption); (case h => walk_at "p"); (case hl => exact Nat.lt_of_lt_of_le (by simp only [List.length_cons, List.length_nil]; omega) (Nat.le_refl 1000)); (case hg => walk_at "fp"); intro _ _)
  | with_reducible refine w_rAdd ?_
  | with_reducible refine w_rSub ?_
  | with_reducible refine w_max ?_
  | with_reducible refine w_min ?_
  | with_reducible refine w_eqB ?_
  | with_reducible refine w_methQ ?_
  | with_reducible refine w_xf0 ?_
  | ((with_reducible refine' w_xf ?h ?hl ?_); (case h => walk_at "g"); (case hl => walk_at "f"))
  | with_reducible refine w_eqSt ?_
  | with_reducible refine w_isN ?_
  | with_reducible refine w_notN ?_
  | ((with_reducible refine' w_gtup ?h ?hl ?_); (case h => walk_at "t"); (case hl => rfl))
  | with_reducible refine w_gnil ?_
  | with_reducible refine w_gcons ?_
  | with_reducible refine w_par3 ?_
  | with_reducible refine w_ex3 ?_
  | with_reducible refine w_par2 ?_
  | with_reducible refine w_ex2 ?_
  | ((with_reducible refine' w_ixT ?h ?a ?_); (case h => walk_at "t"); (case a => first | exact at0 | exact at1 | exact at2 | exact at3 | assumption))
  | ((with_reducible refine' w_lenT ?h ?_); case h => walk_at "t")
  | ((with_reducible refine' w_set0 ?hs ?h ?_); (case hs => assumption); (case h => walk_at "p"); intro _ _)
  | ((with_reducible refine' w_set1 ?hs ?h ?_); (case hs => assumption); (case h => walk_at "p"); intro _ _)
  | ((with_reducible refine' w_set2 ?hs ?h ?_); (case hs => assumption); (case h => walk_at "p"); intro _ _)
  | ((with_reducible refine' w_set3 ?hs ?h ?_); (case hs => assumption); (case h => walk_at "p"); intro _ _)
  | ((with_reducible refine' w_set4 ?hs ?h ?_); (case hs => assumption); (case h => walk_at "p"); intro _ _)
  | with_reducible refine w_vei ?_
  | with_reducible refine w_ost0 ?_
  | with_reducible refine w_mko ?_
  | with_reducible refine w_raise ?_
  | with_reducible refine w_js ?_
  | with_reducible refine w_js0 ?_
  | with_reducible refine w_fmt ?_)

local macro_rules | `(tactic| walk_at "v") => `(tactic| first | exact v0 | exact v1 | exact v2 | exact v3 | exact v4 | exact v5 | exact v6 | exact v7 | exact v8)
local macro_rules | `(tactic| walk_at "vs") => `(tactic| first | exact st0 | exact st1 | exact st2 | exact st3 | exact st4 | exact st5 | exact st6 | exact st7 | exact st8)
local macro_rules | `(tactic| walk_at "s") => `(tactic| first
  | with_reducible refine w_dget ?_
  | ((with_reducible refine' w_dgetZ ?h ?nd ?hk ?hv ?_); (case h => walk_at "g"); (case nd => walk_at "nd"); (case hk => walk_at "k"); (case hv => walk_at "v"))
  | ((with_reducible refine' w_dputZ ?hs ?h ?nd ?hk ?hv ?hu ?hl ?_); (case hs => assumption); (case h => walk_at "p"); (case nd => walk_at "nd"); (case hk => walk_at "k"); (case hv => walk_at "v"); (case hu => walk_at "vs"); (case hl => decide); intro _ _)
  | with_reducible refine w_gsub ?_
  | with_reducible refine w_setD ?_
  | with_reducible refine w_disp ?_
  | ((with_reducible refine' w_newP ?hs ?_); (case hs => assumption); intro _ _ _)
  | with_reducible refine w_pcons ?_
  | with_reducible refine w_pnil ?_)

local macro_rules | `(tactic| walk_at "s") => `(tactic| first
  | with_reducible refine w_nget ?_
  | with_reducible refine w_nin ?_
  | with_reducible refine w_nnot ?_
  | with_reducible refine w_nput ?_
  | with_reducible refine w_ndel ?_
  | with_reducible refine w_npop ?_
  | ((with_reducible refine' w_nnew ?hs ?_); (case hs => assumption); intro _ _ _))

/-! ## tests -/
def fldN : Nat → Str
  | 0 => "switch"
  | 1 => "port"
  | 2 => "src"
  | 3 => "dst"
  | _ => "kind"
inductive Tst
  | is (f : Nat) (n : Int)
  | neg (f : Nat) (n : Int)
  | all (xs : List (Nat × Int))
def isH (s : List Int) (f : Nat) (n : Int) : Bool := decide (s.getD f 0 = n)
def holds : Tst → List Int → Bool
  | .is f n, s => isH s f n
  | .neg f n, s => !isH s f n
  | .all xs, s => xs.all fun x => isH s x.1 x.2
def IsAt (H : Hp) (v : V) (f : Nat) (n : Int) : Prop := ∃ p : Addr, v = .ref p ∧ H p = some (.tup [.str "is", .str (fldN f), .int n]) ∧ f < 5
def TstAt (H : Hp) (v : V) : Tst → Prop
  | .is f n => IsAt H v f n
  | .neg f n => ∃ (p : Addr) (u : V), v = .ref p ∧ H p = some (.tup [.str "not", u]) ∧ IsAt H u f n
  | .all xs => ∃ (p l : Addr) (us : List V), v = .ref p ∧ H p = some (.tup [.str "all", .ref l]) ∧ H l = some (.lst us) ∧ Row (fun u x => IsAt H u x.1 x.2) us xs ∧ us.length ≤ 1000
theorem IsAt.same {H H' : Hp} (e : Same H H') {v : V} {f : Nat} {n : Int} (h : IsAt H v f n) : IsAt H' v f n := by
  obtain ⟨p, h1, h2, h3⟩ := h
  exact ⟨p, h1, e _ _ h2, h3⟩
theorem TstAt.same {H H' : Hp} (e : Same H H') {v : V} : ∀ {t : Tst}, TstAt H v t → TstAt H' v t
  | .is f n, h => IsAt.same e h
  | .neg f n, ⟨p, u, h1, h2, h3⟩ => ⟨p, u, h1, e _ _ h2, h3.same e⟩
  | .all xs, ⟨p, l, us, h1, h2, h3, h4, h5⟩ => ⟨p, l, us, h1, e _ _ h2, e _ _ h3, h4.mono fun _ _ => IsAt.same e, h5⟩
section
variable {P : Program} [IsP P] {w : World} {K : PySem.W.Frag} {mg : Str → Option Value} {base : Heap} {a : Ad}
theorem kd_fld (T : Txt w K mg a) : ∀ {f : Nat}, f < 5 → KDct K w a.K_FIELD_PLACES (fldN f) (.int (f : Int))
  | 0, _ => T.kd_FIELD_PLACES_switch
  | 1, _ => T.kd_FIELD_PLACES_port
  | 2, _ => T.kd_FIELD_PLACES_src
  | 3, _ => T.kd_FIELD_PLACES_dst
  | 4, _ => T.kd_FIELD_PLACES_kind
theorem w_ixd {H : Hp} {Q : VK} {p : Addr} {z : Str} {v : V} (h : KDct K w p z v) (q : Q v H) : rIxD K w (.ref p) (.str z) H Q := ⟨p, z, v, rfl, rfl, h, q⟩
theorem at_st {s : List Int} {f : Nat} (h : f < s.length) : atI (s.map V.int) (f : Int) = some (.int (s.getD f 0)) := at_of (j := f) rfl (by
  rw [List.getElem?_map, List.getElem?_eq_getElem h, List.getD_eq_getElem?_getD, List.getElem?_eq_getElem h]
  rfl)
def sp_is : Sp := fun vs H Q _ => ∃ (v : V) (th : Addr) (f : Nat) (n : Int) (s : List Int), vs = [v, .ref th] ∧ IsAt H v f n ∧ H th = some (.tup (s.map V.int)) ∧ s.length = 5 ∧ Q (.bl (isH s f n)) H
def sp_test_holds : Sp := fun vs H Q _ => ∃ (v : V) (th : Addr) (t : Tst) (s : List Int), vs = [v, .ref th] ∧ TstAt H v t ∧ H th = some (.tup (s.map V.int)) ∧ s.length = 5 ∧ ∀ H', Same H H' → Q (.bl (holds t s)) H'
theorem ok_is (T : Txt w K mg a) : FnOk P w K mg base CX0 1 a.test_holds a.fd_test_holds ["test", "state"] sp_is := by
  have G_test_holds : FnOk P w K mg base CX0 0 a.test_holds a.fd_test_holds ["test", "state"] spF := fn_F
  refine T.fn_test_holds.ok sc_test_holds (fun vs H Q E h => ?_) (fun cdv A outer s H vs Q E hr h => ?_)
  · obtain ⟨_, _, _, _, _, rfl, _⟩ := h
    rfl
  · obtain ⟨_, th, f, n, s, rfl, ⟨p, rfl, hp, hf⟩, hth, hl, k⟩ := h
    refine ⟨_, (pss_cons (ps_set (i := 2) sc_test_holds.nd rfl (Or.inl rfl) (pe_ix (ix_tupK (K := K)) (pv 0) pe_int (fun _ _ => rfl)))
  (pss_cons (ps_if (pt_cmpR op_eq (pv 2) pe_str (nomark _))
  (pss_one (ps_ret (pe_cmpR op_eq (pe_ix (ix_tupK (K := K)) (pv 1) (pe_ix (ix_kdictK (K := K) (w := w)) (pe_glob (v := .ref a.K_FIELD_PLACES) rfl T.mg_FIELD_PLACES rfl) (pe_ix (ix_tupK (K := K)) (pv 0) pe_int (fun _ _ => rfl)) (fun _ _ => rfl)) (fun _ _ => rfl)) (pe_ix (ix_tupK (K := K)) (pv 0) pe_int (fun _ _ => rfl)) (nomark _))))
  pss_nil)
  (pss_cons (ps_if (pt_cmpR op_eq (pv 2) pe_str (nomark _))
  (pss_one (ps_ret (pe_not (pe_call G_test_holds (hr.mono (by first | decide | omega)) rfl T.mg_test_holds T.kp_test_holds T.bi_test_holds .nil pass0 (pa_cons (pe_ix (ix_tupK (K := K)) (pv 0) pe_int (fun _ _ => rfl)) (pa_cons (pv 1) pa_nil))))))
  pss_nil)
  (pss_cons (ps_if (pt_cmpR op_eq (pv 2) pe_str (nomark _))
  (pss_one (ps_ret (pe_callB (cr_allK (K := K) rfl) (by rfl) T.mg_all (by decide +kernel) (pa_cons (pe_lc (own := [("part", 3)]) (g := (gName 3)) (tt := tYes) rfl sc_test_holds.nd (pi_listK (K := K) (pe_ix (ix_tupK (K := K)) (pv 0) pe_int (fun _ _ => rfl))) (blkOk_by (own := [("part", 3)]) (N := N_test_holds) (sc := defScope s_test_holds) (by decide +kernel)) (fun _ _ _ _ _ => by exact (pg_name (i := 3) sc_test_holds.nd rfl (Or.inl rfl))) (fun _ _ _ _ _ => pts_nil) (fun _ _ _ _ _ => by exact (pe_call G_test_holds (hr.mono (by first | decide | omega)) rfl T.mg_test_holds T.kp_test_holds T.bi_test_holds .nil pass0 (pa_cons (pv 3) (pa_cons (pv 1) pa_nil))))) pa_nil))))
  pss_nil)
  (pss_one (ps_ret (pe_callB (cr_anyK (K := K) rfl) (by rfl) T.mg_any (by decide +kernel) (pa_cons (pe_lc (own := [("part", 3)]) (g := (gName 3)) (tt := tYes) rfl sc_test_holds.nd (pi_listK (K := K) (pe_ix (ix_tupK (K := K)) (pv 0) pe_int (fun _ _ => rfl))) (blkOk_by (own := [("part", 3)]) (N := N_test_holds) (sc := defScope s_test_holds) (by decide +kernel)) (fun _ _ _ _ _ => by exact (pg_name (i := 3) sc_test_holds.nd rfl (Or.inl rfl))) (fun _ _ _ _ _ => pts_nil) (fun _ _ _ _ _ => by exact (pe_call G_test_holds (hr.mono (by first | decide | omega)) rfl T.mg_test_holds T.kp_test_holds T.bi_test_holds .nil pass0 (pa_cons (pv 3) (pa_cons (pv 1) pa_nil))))) pa_nil)))))))), ?_⟩
    have hs := Hs.start H
    walk_at "ss"
    refine ifd (fun _ => ?_) (fun h => absurd rfl h)
    walk_at "ss"
    refine w_ixd (kd_fld T hf) ?_
    refine w_ixT (SqT.of hth) (at_st (by omega)) ?_
    walk_at "ss"
    exact k
theorem ok_test_holds (T : Txt w K mg a) : FnOk P w K mg base CX0 2 a.test_holds a.fd_test_holds ["test", "state"] sp_test_holds := by
  have G_test_holds := ok_is (P := P) (w := w) (base := base) T
  refine T.fn_test_holds.ok sc_test_holds (fun vs H Q E h => ?_) (fun cdv A outer s H vs Q E hr h => ?_)
  · obtain ⟨_, _, _, _, rfl, _⟩ := h
    rfl
  · obtain ⟨v, th, t, s, rfl, ht, hth, hl, k⟩ := h
    refine ⟨_, (pss_cons (ps_set (i := 2) sc_test_holds.nd rfl (Or.inl rfl) (pe_ix (ix_tupK (K := K)) (pv 0) pe_int (fun _ _ => rfl)))
  (pss_cons (ps_if (pt_cmpR op_eq (pv 2) pe_str (nomark _))
  (pss_one (ps_ret (pe_cmpR op_eq (pe_ix (ix_tupK (K := K)) (pv 1) (pe_ix (ix_kdictK (K := K) (w := w)) (pe_glob (v := .ref a.K_FIELD_PLACES) rfl T.mg_FIELD_PLACES rfl) (pe_ix (ix_tupK (K := K)) (pv 0) pe_int (fun _ _ => rfl)) (fun _ _ => rfl)) (fun _ _ => rfl)) (pe_ix (ix_tupK (K := K)) (pv 0) pe_int (fun _ _ => rfl)) (nomark _))))
  pss_nil)
  (pss_cons (ps_if (pt_cmpR op_eq (pv 2) pe_str (nomark _))
  (pss_one (ps_ret (pe_not (pe_call G_test_holds (hr.mono (by first | decide | omega)) rfl T.mg_test_holds T.kp_test_holds T.bi_test_holds .nil pass0 (pa_cons (pe_ix (ix_tupK (K := K)) (pv 0) pe_int (fun _ _ => rfl)) (pa_cons (pv 1) pa_nil))))))
  pss_nil)
  (pss_cons (ps_if (pt_cmpR op_eq (pv 2) pe_str (nomark _))
  (pss_one (ps_ret (pe_callB (cr_allK (K := K) rfl) (by rfl) T.mg_all (by decide +kernel) (pa_cons (pe_lc (own := [("part", 3)]) (g := (gName 3)) (tt := tYes) rfl sc_test_holds.nd (pi_listK (K := K) (pe_ix (ix_tupK (K := K)) (pv 0) pe_int (fun _ _ => rfl))) (blkOk_by (own := [("part", 3)]) (N := N_test_holds) (sc := defScope s_test_holds) (by decide +kernel)) (fun _ _ _ _ _ => by exact (pg_name (i := 3) sc_test_holds.nd rfl (Or.inl rfl))) (fun _ _ _ _ _ => pts_nil) (fun _ _ _ _ _ => by exact (pe_call G_test_holds (hr.mono (by first | decide | omega)) rfl T.mg_test_holds T.kp_test_holds T.bi_test_holds .nil pass0 (pa_cons (pv 3) (pa_cons (pv 1) pa_nil))))) pa_nil))))
  pss_nil)
  (pss_one (ps_ret (pe_callB (cr_anyK (K := K) rfl) (by rfl) T.mg_any (by decide +kernel) (pa_cons (pe_lc (own := [("part", 3)]) (g := (gName 3)) (tt := tYes) rfl sc_test_holds.nd (pi_listK (K := K) (pe_ix (ix_tupK (K := K)) (pv 0) pe_int (fun _ _ => rfl))) (blkOk_by (own := [("part", 3)]) (N := N_test_holds) (sc := defScope s_test_holds) (by decide +kernel)) (fun _ _ _ _ _ => by exact (pg_name (i := 3) sc_test_holds.nd rfl (Or.inl rfl))) (fun _ _ _ _ _ => pts_nil) (fun _ _ _ _ _ => by exact (pe_call G_test_holds (hr.mono (by first | decide | omega)) rfl T.mg_test_holds T.kp_test_holds T.bi_test_holds .nil pass0 (pa_cons (pv 3) (pa_cons (pv 1) pa_nil))))) pa_nil)))))))), ?_⟩
    have hs := Hs.start H
    cases t with
    | is f n =>
      obtain ⟨p, rfl, hp, hf⟩ := ht
      walk_at "ss"
      refine ifd (fun _ => ?_) (fun h => absurd rfl h)
      walk_at "ss"
      refine w_ixd (kd_fld T hf) ?_
      refine w_ixT (SqT.of hth) (at_st (by omega)) ?_
      walk_at "ss"
      exact k _ hs.same
    | neg f n =>
      obtain ⟨p, u, rfl, hp, hu⟩ := ht
      walk_at "ss"
      refine ifd (fun h => absurd h (by decide)) (fun _ => ?_)
      walk_at "ss"
      refine ifd (fun _ => ?_) (fun h => absurd rfl h)
      walk_at "ss"
      refine ⟨u, th, f, n, s, rfl, hu, hth, hl, ?_⟩
      walk_at "ss"
      exact k _ hs.same
    | all xs =>
      obtain ⟨p, l, us, rfl, hp, hul, hro, hz⟩ := ht
      walk_at "ss"
      refine ifd (fun h => absurd h (by decide)) (fun _ => ?_)
      walk_at "ss"
      refine ifd (fun h => absurd h (by decide)) (fun _ => ?_)
      walk_at "ss"
      refine ifd (fun _ => ?_) (fun h => absurd rfl h)
      refine w_cb ?_
      refine w_cons ?_
      refine w_lcRow (fun _ v b => v = .bl b) (fun _ _ _ _ _ h => h) (SqL.of hul) (by omega) (xs.map fun x => isH s x.1 x.2) (by rw [List.length_map, hro.1]) (fun Q' q => ?_) (fun _ => rfl) (fun i u y H' Q' hu hy sm k' => ?_) (fun D acc H' hs' hr' => ?_)
      · walk_at "ss"
        exact q
      · obtain ⟨x, hx, hat⟩ := hro.get hu
        rw [List.getElem?_map, hx] at hy
        cases hy
        walk_at "ss"
        exact ⟨u, th, x.1, x.2, s, rfl, hat.same sm, sm _ _ hth, hl, k' _ _ (Same.refl _) rfl⟩
      · walk_at "ss"
        have e : acc = (xs.map fun x => isH s x.1 x.2).map V.bl := by
          refine List.ext_getElem? fun i => ?_
          cases h : acc[i]? with
          | none =>
            have := List.getElem?_eq_none_iff.mp h
            rw [List.getElem?_eq_none (by rw [List.length_map, ← hr'.1]; omega)]
          | some v =>
            obtain ⟨b, hb, rfl⟩ := hr'.get h
            rw [List.getElem?_map, hb]
            rfl
        refine ⟨D, xs.map fun x => isH s x.1 x.2, rfl, ?_, ?_⟩
        · rw [← e]
          exact SqL.of hs'.g0
        · have e2 : (xs.map fun x => isH s x.1 x.2).all id = holds (.all xs) s := by
            rw [List.all_map]
            rfl
          rw [e2]
          exact k _ hs'.same
end
local macro_rules | `(tactic| walk_at "v") => `(tactic| first | exact v0 | exact v1 | exact v2 | exact v3 | exact v4 | exact v5 | exact v6 | exact v7 | exact v8)
local macro_rules | `(tactic| walk_at "vs") => `(tactic| first | exact st0 | exact st1 | exact st2 | exact st3 | exact st4 | exact st5 | exact st6 | exact st7 | exact st8)
local macro_rules | `(tactic| walk_at "s") => `(tactic| first
  | with_reducible refine w_dget ?_
  | ((with_reducible refine' w_dgetZ ?h ?nd ?hk ?hv ?_); (case h => walk_at "g"); (case nd => walk_at "nd"); (case hk => walk_at "k"); (case hv => walk_at "v"))
  | ((with_reducible refine' w_dputZ ?hs ?h ?nd ?hk ?hv ?hu ?hl ?_); (case hs => assumption); (case h => walk_at "p"); (case nd => walk_at "nd"); (case hk => walk_at "k"); (case hv => walk_at "v"); (case hu => walk_at "vs"); (case hl => decide); intro _ _)
  | with_reducible refine w_gsub ?_
  | with_reducible refine w_setD ?_
  | with_reducible refine w_disp ?_
  | ((with_reducible refine' w_newP ?hs ?_); (case hs => assumption); intro _ _ _)
  | with_reducible refine w_pcons ?_
  | with_reducible refine w_pnil ?_)

local macro_rules | `(tactic| walk_at "s") => `(tactic| first
  | with_reducible refine w_nget ?_
  | with_reducible refine w_nin ?_
  | with_reducible refine w_nnot ?_
  | with_reducible refine w_nput ?_
  | with_reducible refine w_ndel ?_
  | with_reducible refine w_npop ?_
  | ((with_reducible refine' w_nnew ?hs ?_); (case hs => assumption); intro _ _ _))

/-! ## policies -/
abbrev S5 := List Int
def StAt (H : Hp) (u : V) (s : S5) : Prop := ∃ t : Addr, u = .ref t ∧ H t = some (.tup (s.map V.int))
theorem StAt.mono {H H' : Hp} (e : ∀ p xs, H p = some (.tup xs) → H' p = some (.tup xs)) {u : V} {s : S5} (h : StAt H u s) : StAt H' u s := by
  obtain ⟨t, h1, h2⟩ := h
  exact ⟨t, h1, e _ _ h2⟩
inductive Act
  | test (t : Tst)
  | set (f : Nat) (n : Int)
inductive Part
  | act (x : Act)
  | seq (xs : List Act)
def actM : Act → S5 → Option S5
  | .test t, s => if holds t s = true then some s else none
  | .set f n, s => some (s.set f n)
def seqM : List Act → S5 → Option S5
  | [], s => some s
  | x :: xs, s => (actM x s).bind (seqM xs)
def partM : Part → S5 → Option S5
  | .act x, s => actM x s
  | .seq xs, s => seqM xs s
/-- each once, in the order in which they come -/
def ddA (acc : List S5) (xs : List S5) : List S5 := xs.foldl (fun acc x => if x ∈ acc then acc else acc ++ [x]) acc
def dd (xs : List S5) : List S5 := ddA [] xs
def polM (ps : List Part) (s : S5) : List S5 := dd (ps.filterMap fun p => partM p s)
def ActAt (H : Hp) (v : V) : Act → Prop
  | .test t => ∃ (p : Addr) (u : V), v = .ref p ∧ H p = some (.tup [.str "test", u]) ∧ TstAt H u t
  | .set f n => ∃ p : Addr, v = .ref p ∧ H p = some (.tup [.str "set", .str (fldN f), .int n]) ∧ f < 5
def PartAt (H : Hp) (v : V) : Part → Prop
  | .act x => ActAt H v x
  | .seq xs => ∃ (p l : Addr) (us : List V), v = .ref p ∧ H p = some (.tup [.str "seq", .ref l]) ∧ H l = some (.lst us) ∧ Row (ActAt H) us xs ∧ us.length ≤ 100
def PolAt (H : Hp) (v : V) (ps : List Part) : Prop := ∃ (p l : Addr) (us : List V), v = .ref p ∧ H p = some (.tup [.str "sum", .ref l]) ∧ H l = some (.lst us) ∧ Row (PartAt H) us ps ∧ us.length ≤ 100
theorem ActAt.same {H H' : Hp} (e : Same H H') {v : V} : ∀ {x : Act}, ActAt H v x → ActAt H' v x
  | .test t, ⟨p, u, h1, h2, h3⟩ => ⟨p, u, h1, e _ _ h2, h3.same e⟩
  | .set f n, ⟨p, h1, h2, h3⟩ => ⟨p, h1, e _ _ h2, h3⟩
theorem PartAt.same {H H' : Hp} (e : Same H H') {v : V} : ∀ {x : Part}, PartAt H v x → PartAt H' v x
  | .act x, h => ActAt.same e (show ActAt _ _ x from h)
  | .seq xs, ⟨p, l, us, h1, h2, h3, h4, h5⟩ => ⟨p, l, us, h1, e _ _ h2, e _ _ h3, h4.mono fun _ _ => ActAt.same e, h5⟩
theorem PolAt.same {H H' : Hp} (e : Same H H') {v : V} {ps : List Part} (h : PolAt H v ps) : PolAt H' v ps := by
  obtain ⟨p, l, us, h1, h2, h3, h4, h5⟩ := h
  exact ⟨p, l, us, h1, e _ _ h2, e _ _ h3, h4.mono fun _ _ => PartAt.same e, h5⟩
theorem actM_len {x : Act} {s s' : S5} (h : s.length = 5) (e : actM x s = some s') : s'.length = 5 := by
  cases x with
  | test t =>
    have e2 : (if holds t s = true then some s else none) = some s' := e
    by_cases hc : holds t s = true
    · rw [if_pos hc] at e2
      cases e2
      exact h
    · rw [if_neg hc] at e2
      cases e2
  | set f n =>
    have e2 : some (s.set f n) = some s' := e
    cases e2
    rw [List.length_set]
    exact h
theorem seqM_len : ∀ {xs : List Act} {s s' : S5}, s.length = 5 → seqM xs s = some s' → s'.length = 5
  | [], s, s', h, e => by
    cases e
    exact h
  | x :: xs, s, s', h, e => by
    unfold seqM at e
    cases h1 : actM x s with
    | none =>
      rw [h1] at e
      cases e
    | some z =>
      rw [h1] at e
      exact seqM_len (actM_len h h1) e
theorem partM_len {p : Part} {s s' : S5} (h : s.length = 5) (e : partM p s = some s') : s'.length = 5 := by
  cases p with
  | act x => exact actM_len h e
  | seq xs => exact seqM_len h e
theorem dd_app (acc xs ys : List S5) : ddA acc (xs ++ ys) = ddA (ddA acc xs) ys := List.foldl_append
theorem ddA_len : ∀ (xs acc : List S5), (ddA acc xs).length ≤ acc.length + xs.length
  | [], acc => Nat.le_refl _
  | x :: xs, acc => by
    show (ddA (if x ∈ acc then acc else acc ++ [x]) xs).length ≤ _
    have := ddA_len xs (if x ∈ acc then acc else acc ++ [x])
    rw [List.length_cons]
    by_cases h : x ∈ acc
    · rw [if_pos h] at this ⊢
      omega
    · rw [if_neg h] at this ⊢
      rw [List.length_append, List.length_singleton] at this
      omega
section
variable {P : Program} [IsP P] {w : World} {K : PySem.W.Frag} {mg : Str → Option Value} {base : Heap} {a : Ad}
def sp_with_number : Sp := fun vs H Q _ => ∃ (th : Addr) (f : Nat) (n : Int) (s : S5), vs = [.ref th, .str (fldN f), .int n] ∧ f < 5 ∧ H th = some (.tup (s.map V.int)) ∧ s.length = 5 ∧ ∀ t H', Same H H' → H t = none → H' t = some (.tup ((s.set f n).map V.int)) → Q (.ref t) H'
theorem ok_with_number (T : Txt w K mg a) : FnOk P w K mg base CX0 1 a.with_number a.fd_with_number ["state", "field", "number"] sp_with_number := by
  refine T.fn_with_number.ok sc_with_number (fun vs H Q E h => ?_) (fun cdv A outer s H vs Q E hr h => ?_)
  · obtain ⟨_, _, _, _, rfl, _⟩ := h
    rfl
  · obtain ⟨th, f, n, s, rfl, hf, hth, hl, k⟩ := h
    refine ⟨_, (pss_cons (ps_set (i := 3) sc_with_number.nd rfl (Or.inl rfl) (pe_ix (ix_kdictK (K := K) (w := w)) (pe_glob (v := .ref a.K_FIELD_PLACES) rfl T.mg_FIELD_PLACES rfl) (pv 1) (fun _ _ => rfl)))
  (pss_one (ps_ret (pe_tup (pa_starK (K := K) (pe_slice (sl_tupAK (K := K)) (pv 0) po_none (po_some (pv 3))) (pa_cons (pv 2) (pa_starK (K := K) (pe_slice (sl_tupAK (K := K)) (pv 0) (po_some (pe_op op_add (pv 3) pe_int)) po_none) pa_nil))))))), ?_⟩
    have hs := Hs.start H
    walk_at "ss"
    refine w_ixd (kd_fld T hf) ?_
    walk_at "ss"
    refine w_star ?_
    walk_at "ss"
    refine w_slA hs (SqT.of hth) (fun z => ?_) fun l1 H1 hs1 => ?_
    · have := z.2
      rw [HT.sIx_nat, List.length_map] at this
      omega
    refine ⟨l1, _, rfl, .inl (SqT.of hs1.g0), ?_⟩
    clear hs
    walk_at "ss"
    refine w_star ?_
    walk_at "ss"
    refine w_slA hs1 (SqT.of (hs1.same _ _ hth)) (fun z => ?_) fun l2 H2 hs2 => ?_
    · have := z.1
      rw [show (f : Int) + 1 = ((f + 1 : Nat) : Int) from rfl, HT.sIx_nat, List.length_map] at this
      omega
    refine ⟨l2, _, rfl, .inl (SqT.of hs2.g0), ?_⟩
    clear hs1
    rw [cut_to f rfl, cut_from (j := (f : Int) + 1) (f + 1) rfl]
    have e : List.take f (s.map V.int) ++ (V.int n :: (List.drop (f + 1) (s.map V.int) ++ [])) = (s.set f n).map V.int := by
      rw [List.append_nil, List.set_eq_take_append_cons_drop, if_pos (by omega), List.map_append, List.map_take, List.map_cons, List.map_drop]
    walk_at "ss"
    rw [e]
    refine w_newT hs2 (by rw [List.length_map, List.length_set, hl]; exact sz (by decide)) fun t H3 hs3 => ?_
    exact k t H3 hs3.same (hs3.out _ List.mem_cons_self) hs3.g0
end
local macro_rules | `(tactic| walk_at "v") => `(tactic| first | exact v0 | exact v1 | exact v2 | exact v3 | exact v4 | exact v5 | exact v6 | exact v7 | exact v8)
local macro_rules | `(tactic| walk_at "vs") => `(tactic| first | exact st0 | exact st1 | exact st2 | exact st3 | exact st4 | exact st5 | exact st6 | exact st7 | exact st8)
local macro_rules | `(tactic| walk_at "s") => `(tactic| first
  | with_reducible refine w_dget ?_
  | ((with_reducible refine' w_dgetZ ?h ?nd ?hk ?hv ?_); (case h => walk_at "g"); (case nd => walk_at "nd"); (case hk => walk_at "k"); (case hv => walk_at "v"))
  | ((with_reducible refine' w_dputZ ?hs ?h ?nd ?hk ?hv ?hu ?hl ?_); (case hs => assumption); (case h => walk_at "p"); (case nd => walk_at "nd"); (case hk => walk_at "k"); (case hv => walk_at "v"); (case hu => walk_at "vs"); (case hl => decide); intro _ _)
  | with_reducible refine w_gsub ?_
  | with_reducible refine w_setD ?_
  | with_reducible refine w_disp ?_
  | ((with_reducible refine' w_newP ?hs ?_); (case hs => assumption); intro _ _ _)
  | with_reducible refine w_pcons ?_
  | with_reducible refine w_pnil ?_)

local macro_rules | `(tactic| walk_at "s") => `(tactic| first
  | with_reducible refine w_nget ?_
  | with_reducible refine w_nin ?_
  | with_reducible refine w_nnot ?_
  | with_reducible refine w_nput ?_
  | with_reducible refine w_ndel ?_
  | with_reducible refine w_npop ?_
  | ((with_reducible refine' w_nnew ?hs ?_); (case hs => assumption); intro _ _ _))

section
variable {P : Program} [IsP P] {w : World} {K : PySem.W.Frag} {mg : Str → Option Value} {base : Heap} {a : Ad}
/-- what after(..) promises of policies of one sort -/
def sp_afterG {β : Type} (R : Hp → V → β → Prop) (f : β → S5 → Option S5) : Sp := fun vs H Q _ => ∃ (v : V) (th : Addr) (x : β) (s : S5), vs = [v, .ref th] ∧ R H v x ∧ H th = some (.tup (s.map V.int)) ∧ s.length = 5 ∧
  ∀ l us H', Same H H' → H l = none → H' l = some (.lst us) → Row (StAt H') us (f x s).toList → Q (.ref l) H'
def sp_anyG {β : Type} (R : Hp → V → β → Prop) (f : β → S5 → Option S5) : Sp := fun vs H Q _ => ∃ (lp ls : Addr) (us ss : List V) (xs : List β) (sts : List S5), vs = [.ref lp, .ref ls] ∧ H lp = some (.lst us) ∧ Row (R H) us xs ∧ us.length ≤ 100 ∧ H ls = some (.lst ss) ∧ Row (StAt H) ss sts ∧ ss.length ≤ 100 ∧ (∀ s ∈ sts, s.length = 5) ∧
  ∀ l ys H', Same H H' → H l = none → H' l = some (.lst ys) → Row (StAt H') ys (dd (sts.flatMap fun s => xs.filterMap fun x => f x s)) → Q (.ref l) H'
/-- the keys of found -/
def mS (sts : List S5) : GM := sts.map fun s => (s.map Sum.inl, .bl true)
theorem inl_inj {s t : S5} (h : s.map (Sum.inl : Int → Itm) = t.map Sum.inl) : s = t := by
  induction s generalizing t with
  | nil =>
    cases t with
    | nil => rfl
    | cons _ _ => cases h
  | cons x s ih =>
    cases t with
    | nil => cases h
    | cons y t =>
      rw [List.map_cons, List.map_cons] at h
      injection h with h1 h2
      injection h1 with h1
      rw [h1, ih h2]
theorem mS_val (sts : List S5) (s : S5) : (valG (mS sts) (s.map Sum.inl)).isSome = decide (s ∈ sts) := by
  rw [Bool.eq_iff_iff, valG_some, decide_eq_true_iff]
  unfold mS
  rw [List.map_map, List.mem_map]
  exact ⟨fun ⟨t, h1, h2⟩ => inl_inj h2 ▸ h1, fun h => ⟨s, h, rfl⟩⟩
theorem mS_put (sts : List S5) (s : S5) : putG (mS sts) (s.map Sum.inl) (.bl true) = mS (if s ∈ sts then sts else sts ++ [s]) := by
  unfold putG
  rw [mS_val]
  by_cases h : s ∈ sts
  · rw [decide_eq_true h, if_pos rfl, if_pos h]
    unfold mS
    rw [List.map_map]
    refine List.map_congr_left fun t _ => ?_
    by_cases hc : t.map (Sum.inl : Int → Itm) = s.map Sum.inl
    · simp [hc]
    · simp [hc]
  · rw [decide_eq_false h, if_neg (by decide), if_neg h]
    unfold mS
    rw [List.map_append]
    rfl
theorem ok_any {β : Type} {R : Hp → V → β → Prop} {f : β → S5 → Option S5} {k : Nat} (T : Txt w K mg a) (hR : ∀ H H' v x, Same H H' → R H v x → R H' v x) (hf5 : ∀ x s s', s.length = 5 → f x s = some s' → s'.length = 5)
    (G_after : FnOk P w K mg base CX0 k a.after a.fd_after ["policy", "state"] (sp_afterG R f)) : FnOk P w K mg base CX0 (k + 1) a.after_any a.fd_after_any ["policies", "states"] (sp_anyG R f) := by
  refine T.fn_after_any.ok sc_after_any (fun vs H Q E h => ?_) (fun cdv A outer s H vs Q E hr h => ?_)
  · obtain ⟨_, _, _, _, _, _, rfl, _⟩ := h
    rfl
  · obtain ⟨lp, ls, us, ss, xs, sts, rfl, hlp, hro, hz, hls, hrs, hzs, h5, kq⟩ := h
    refine ⟨_, (pss_cons (ps_set (i := 2) sc_after_any.nd rfl (Or.inl rfl) (pe_nnew (w := w)))
  (pss_cons (ps_for PassesOwn.never rfl (pi_listK (K := K) (pv 1)) (pg_name (i := 3) sc_after_any.nd rfl (Or.inl rfl))
  (pss_one (ps_for PassesOwn.never rfl (pi_listK (K := K) (pv 0)) (pg_name (i := 4) sc_after_any.nd rfl (Or.inl rfl))
  (pss_one (ps_for PassesOwn.never rfl (pi_listK (K := K) (pe_call G_after (hr.mono (by first | decide | omega)) rfl T.mg_after T.kp_after T.bi_after .nil pass0 (pa_cons (pv 4) (pa_cons (pv 3) pa_nil)))) (pg_name (i := 5) sc_after_any.nd rfl (Or.inl rfl))
  (pss_one (ps_nput (w := w) (r64 hr) (pv 2) (pv 5) pe_bl rfl)))))))
  (pss_one (ps_ret (pe_callTy (call_listN (w := w) rfl) (by rfl) T.mg_list (by decide +kernel) (pa_cons (pv 2) pa_nil)))))), ?_⟩
    have hs := Hs.start H
    walk_at "ss"
    rename_i d H1 hs1
    clear hs
    -- found holds the states so far
    refine w_forL (SqL.of (hs1.same _ _ hls)) (fun i σ' H' => ∃ (B : Hp) (es : List Ent) (v3 v4 v5 : Option V), σ' = [some (.ref lp), some (.ref ls), some (.ref d), v3, v4, v5] ∧ Same H B ∧ Hs B [(d, DN w d es)] H' ∧ EntG B es (mS (dd ((sts.take i).flatMap fun s => xs.filterMap fun x => f x s))))
      (fun Q' q => ?_) ⟨H, [], none, none, none, rfl, Same.refl _, hs1, EntG.nil⟩ (fun i σ' H' _ ⟨B, es, v3, v4, v5, _, sm, h, _⟩ => SqL.of (h.same _ _ (sm _ _ hls))) ?_ ?_
    · walk_at "ss"
      exact q
    · clear hs1
      rintro i u σ' H' hu ⟨B, es, v3, v4, v5, rfl, sm, hs2, he⟩
      obtain ⟨st, hst, t, rfl, ht⟩ := hrs.get hu
      have hst5 := h5 st (List.mem_of_getElem? hst)
      walk_at "ss"
      have etk : (sts.take (i + 1)).flatMap (fun s => xs.filterMap fun x => f x s) = ((sts.take i).flatMap fun s => xs.filterMap fun x => f x s) ++ xs.filterMap fun x => f x st := by
        rw [List.take_add_one, hst, List.flatMap_append]
        simp
      have hib : i < 100 := by
        have := (List.getElem?_eq_some_iff.mp hu).1
        omega
      generalize hacc : dd ((sts.take i).flatMap fun s => xs.filterMap fun x => f x s) = acc at he
      have hal : acc.length ≤ 10000 := by
        rw [← hacc]
        refine Nat.le_trans (ddA_len _ _) ?_
        rw [List.length_nil, Nat.zero_add, List.length_flatMap]
        have : ∀ l : List S5, (l.map fun s => (xs.filterMap fun x => f x s).length).sum ≤ l.length * 100 := fun l => by
          induction l with
          | nil => exact Nat.le_refl _
          | cons s l ih =>
            rw [List.map_cons, List.sum_cons, List.length_cons]
            have := List.length_filterMap_le (fun x => f x s) xs
            have := hro.1
            omega
        have h1 := this (sts.take i)
        rw [List.length_take] at h1
        have h2 : min i sts.length ≤ 100 := by omega
        omega
      refine w_forL (SqL.of (hs2.same _ _ (sm _ _ hlp))) (fun j σ' H' => ∃ (B : Hp) (es : List Ent) (v4 v5 : Option V), σ' = [some (.ref lp), some (.ref ls), some (.ref d), some (.ref t), v4, v5] ∧ Same H B ∧ Hs B [(d, DN w d es)] H' ∧ EntG B es (mS (ddA acc ((xs.take j).filterMap fun x => f x st))))
        (fun Q' q => ?_) ⟨B, es, v4, v5, rfl, sm, hs2, he⟩ (fun i σ' H' _ ⟨B, es, v4, v5, _, sm, h, _⟩ => SqL.of (h.same _ _ (sm _ _ hlp))) ?_ ?_
      · walk_at "ss"
        exact q
      · clear hs2 he sm
        clear B es v3 v4 v5
        rintro j v σ' H2 hv ⟨B, es, v4, v5, rfl, sm, hs3, he⟩
        obtain ⟨x, hx, hRx⟩ := hro.get hv
        have hjb : j < 100 := by
          have := (List.getElem?_eq_some_iff.mp hv).1
          omega
        walk_at "ss"
        refine w_forS ?_
        walk_at "ss"
        refine ⟨v, t, x, st, rfl, hR _ _ _ _ (sm.trans hs3.same) hRx, (sm.trans hs3.same) _ _ ht, hst5, fun l ys H3 sm3 hln hl hry => ?_⟩
        have hs4 := (Hs_own hs3 sm3 hln hl).m1
        clear hs3
        have etk2 : (xs.take (j + 1)).filterMap (fun x => f x st) = ((xs.take j).filterMap fun x => f x st) ++ (f x st).toList := by
          rw [List.take_add_one, hx, List.filterMap_append]
          show _ ++ List.filterMap _ [x] = _
          rw [List.filterMap_cons]
          cases f x st with
          | none => rfl
          | some z => rfl
        generalize hacc2 : ddA acc ((xs.take j).filterMap fun x => f x st) = acc2 at he
        have hal2 : acc2.length ≤ 20000 := by
          rw [← hacc2]
          refine Nat.le_trans (ddA_len _ _) ?_
          have := List.length_filterMap_le (fun x => f x st) (xs.take j)
          rw [List.length_take] at this
          omega
        obtain ⟨B2, smB, hs5, hgt⟩ := hs4.ground rfl
        have he2 := he.same smB
        have hry2 : Row (StAt B2) ys (f x st).toList := hry.mono fun u s => StAt.mono hgt
        clear hs4 he
        have sm2 := sm.trans smB
        refine w_forL (SqL.of hs5.g1) (fun m σ' H' => ∃ (es : List Ent) (v5 : Option V), σ' = [some (.ref lp), some (.ref ls), some (.ref d), some (.ref t), some v, v5] ∧ Hs B2 [(d, DN w d es), (l, .lst ys)] H' ∧ EntG B2 es (mS (ddA acc2 ((f x st).toList.take m))))
          (fun Q' q => q) ⟨es, v5, rfl, hs5, by rw [List.take_zero]; exact he2⟩ (fun i σ' H' _ ⟨es, v5, _, h, _⟩ => SqL.of h.g1) ?_ ?_
        · clear hs5 he2
          rintro m y σ' H4 hy ⟨es, v5, rfl, hs6, he3⟩
          obtain ⟨s2, hs2', t2, rfl, ht2⟩ := hry2.get hy
          have hm1 : m = 0 := by
            have h1 := (List.getElem?_eq_some_iff.mp hs2').1
            have h2 : (f x st).toList.length ≤ 1 := by
              cases f x st with
              | none => exact Nat.zero_le _
              | some z => exact Nat.le_refl _
            omega
          walk_at "ss"
          refine wg_put hs6 .here he3 (kat_ints ht2) ?_ fun H5 hs7 he4 => ?_
          · unfold mS
            rw [List.length_map]
            have := ddA_len ((f x st).toList.take m) acc2
            rw [List.length_take] at this
            omega
          rw [mS_put] at he4
          refine ⟨_, _, rfl, hs7, ?_⟩
          have e3 : ddA acc2 ((f x st).toList.take (m + 1)) = if s2 ∈ ddA acc2 ((f x st).toList.take m) then ddA acc2 ((f x st).toList.take m) else ddA acc2 ((f x st).toList.take m) ++ [s2] := by
            rw [List.take_add_one, hs2', dd_app]
            rfl
          rw [e3]
          exact he4
        · rintro σ' H4 ⟨es, v5, rfl, hs6, he3⟩
          rw [hry.1, List.take_length] at he3
          refine ⟨B2, es, some v, v5, rfl, sm2, hs6.sel [0], ?_⟩
          rw [etk2, dd_app, hacc2]
          exact he3
      · rintro σ' H2 ⟨B, es, v4, v5, rfl, sm, hs3, he⟩
        rw [hro.1, List.take_length] at he
        refine ⟨B, es, some (.ref t), v4, v5, rfl, sm, hs3, ?_⟩
        rw [etk]
        unfold dd at hacc ⊢
        rw [dd_app, hacc]
        exact he
    · rintro σ' H' ⟨B, es, v3, v4, v5, rfl, sm, hs2, he⟩
      rw [hrs.1, List.take_length] at he
      walk_at "ss"
      refine wg_list hs2 hs2.g0 fun l H2 hs3 => ?_
      refine kq l _ H2 (sm.trans hs3.same) (sm.free (hs3.out _ List.mem_cons_self)) hs3.g0 ?_
      have hrow := he.row
      unfold mS at hrow
      rw [List.map_map] at hrow
      generalize dd (sts.flatMap fun s => xs.filterMap fun x => f x s) = out at hrow
      generalize (es.map fun e => V.ref e.2.1) = ys at hrow
      have key : ∀ {ys : List V} {out : List S5}, Paired (fun (v : V) (x : IK) => ∃ p : Addr, v = .ref p ∧ KAt B p x) ys (out.map ((fun x : IK × V => x.1) ∘ fun s : S5 => (s.map Sum.inl, V.bl true))) → Row (StAt H2) ys out := by
        intro ys out h
        induction out generalizing ys with
        | nil =>
          cases h
          exact Row.nil
        | cons s out ih =>
          cases h with
          | cons h1 h2 =>
            obtain ⟨p, rfl, hp⟩ := h1
            exact Row.cons ⟨p, rfl, hs3.same _ _ (kat_ints_inv hp)⟩ (ih h2)
      exact key hrow
end
local macro_rules | `(tactic| walk_at "v") => `(tactic| first | exact v0 | exact v1 | exact v2 | exact v3 | exact v4 | exact v5 | exact v6 | exact v7 | exact v8)
local macro_rules | `(tactic| walk_at "vs") => `(tactic| first | exact st0 | exact st1 | exact st2 | exact st3 | exact st4 | exact st5 | exact st6 | exact st7 | exact st8)
local macro_rules | `(tactic| walk_at "s") => `(tactic| first
  | with_reducible refine w_dget ?_
  | ((with_reducible refine' w_dgetZ ?h ?nd ?hk ?hv ?_); (case h => walk_at "g"); (case nd => walk_at "nd"); (case hk => walk_at "k"); (case hv => walk_at "v"))
  | ((with_reducible refine' w_dputZ ?hs ?h ?nd ?hk ?hv ?hu ?hl ?_); (case hs => assumption); (case h => walk_at "p"); (case nd => walk_at "nd"); (case hk => walk_at "k"); (case hv => walk_at "v"); (case hu => walk_at "vs"); (case hl => decide); intro _ _)
  | with_reducible refine w_gsub ?_
  | with_reducible refine w_setD ?_
  | with_reducible refine w_disp ?_
  | ((with_reducible refine' w_newP ?hs ?_); (case hs => assumption); intro _ _ _)
  | with_reducible refine w_pcons ?_
  | with_reducible refine w_pnil ?_)

local macro_rules | `(tactic| walk_at "s") => `(tactic| first
  | with_reducible refine w_nget ?_
  | with_reducible refine w_nin ?_
  | with_reducible refine w_nnot ?_
  | with_reducible refine w_nput ?_
  | with_reducible refine w_ndel ?_
  | with_reducible refine w_npop ?_
  | ((with_reducible refine' w_nnew ?hs ?_); (case hs => assumption); intro _ _ _))

section
variable {P : Program} [IsP P] {w : World} {K : PySem.W.Frag} {mg : Str → Option Value} {base : Heap} {a : Ad}
theorem ok_after_act (T : Txt w K mg a) : FnOk P w K mg base CX0 3 a.after a.fd_after ["policy", "state"] (sp_afterG ActAt actM) := by
  have G_test_holds := ok_test_holds (P := P) (w := w) (base := base) T
  have G_with_number := ok_with_number (P := P) (w := w) (base := base) T
  have G_after_any : FnOk P w K mg base CX0 0 a.after_any a.fd_after_any ["policies", "states"] spF := fn_F
  have G_after_star : FnOk P w K mg base CX0 0 a.after_star a.fd_after_star ["policy", "state"] spF := fn_F
  refine T.fn_after.ok sc_after (fun vs H Q E h => ?_) (fun cdv A outer s H vs Q E hr h => ?_)
  · obtain ⟨_, _, _, _, rfl, _⟩ := h
    rfl
  · obtain ⟨v, th, x, s, rfl, hx, hth, hl, k⟩ := h
    refine ⟨_, (pss_cons (ps_set (i := 2) sc_after.nd rfl (Or.inl rfl) (pe_ix (ix_tupK (K := K)) (pv 0) pe_int (fun _ _ => rfl)))
  (pss_cons (ps_if (pt_cmpR op_eq (pv 2) pe_str (nomark _))
  (pss_one (ps_ret (pe_ifExp (pt_val (pe_call G_test_holds (hr.mono (by first | decide | omega)) rfl T.mg_test_holds T.kp_test_holds T.bi_test_holds .nil pass0 (pa_cons (pe_ix (ix_tupK (K := K)) (pv 0) pe_int (fun _ _ => rfl)) (pa_cons (pv 1) pa_nil)))) (pe_lst (pa_cons (pv 1) pa_nil)) (pe_lst pa_nil))))
  pss_nil)
  (pss_cons (ps_if (pt_cmpR op_eq (pv 2) pe_str (nomark _))
  (pss_one (ps_ret (pe_lst (pa_cons (pe_call G_with_number (hr.mono (by first | decide | omega)) rfl T.mg_with_number T.kp_with_number T.bi_with_number .nil pass0 (pa_cons (pv 1) (pa_cons (pe_ix (ix_tupK (K := K)) (pv 0) pe_int (fun _ _ => rfl)) (pa_cons (pe_ix (ix_tupK (K := K)) (pv 0) pe_int (fun _ _ => rfl)) pa_nil)))) pa_nil))))
  pss_nil)
  (pss_cons (ps_if (pt_cmpR op_eq (pv 2) pe_str (nomark _))
  (pss_one (ps_ret (pe_call G_after_any (hr.mono (by first | decide | omega)) rfl T.mg_after_any T.kp_after_any T.bi_after_any .nil pass0 (pa_cons (pe_ix (ix_tupK (K := K)) (pv 0) pe_int (fun _ _ => rfl)) (pa_cons (pe_lst (pa_cons (pv 1) pa_nil)) pa_nil)))))
  pss_nil)
  (pss_cons (ps_if (pt_cmpR op_eq (pv 2) pe_str (nomark _))
  (pss_one (ps_ret (pe_call G_after_star (hr.mono (by first | decide | omega)) rfl T.mg_after_star T.kp_after_star T.bi_after_star .nil pass0 (pa_cons (pe_ix (ix_tupK (K := K)) (pv 0) pe_int (fun _ _ => rfl)) (pa_cons (pv 1) pa_nil)))))
  pss_nil)
  (pss_cons (ps_set (i := 3) sc_after.nd rfl (Or.inl rfl) (pe_lst (pa_cons (pv 1) pa_nil)))
  (pss_cons (ps_for PassesOwn.never rfl (pi_listK (K := K) (pe_ix (ix_tupK (K := K)) (pv 0) pe_int (fun _ _ => rfl))) (pg_name (i := 4) sc_after.nd rfl (Or.inl rfl))
  (pss_one (ps_set (i := 3) sc_after.nd rfl (Or.inl rfl) (pe_call G_after_any (hr.mono (by first | decide | omega)) rfl T.mg_after_any T.kp_after_any T.bi_after_any .nil pass0 (pa_cons (pe_lst (pa_cons (pv 4) pa_nil)) (pa_cons (pv 3) pa_nil))))))
  (pss_one (ps_ret (pv 3)))))))))), ?_⟩
    have hs := Hs.start H
    cases x with
    | test t =>
      obtain ⟨p, u, rfl, hp, hu⟩ := hx
      walk_at "ss"
      refine ifd (fun _ => ?_) (fun h => absurd rfl h)
      walk_at "ss"
      refine ⟨u, th, t, s, rfl, hu, hth, hl, fun H1 sm1 => ?_⟩
      have hs1 := hs.keep sm1
      clear hs
      walk_at "ss"
      cases hh : holds t s with
      | true =>
        refine iteT ?_
        walk_at "ss"
        rename_i l H2 hs2
        refine k l _ H2 hs2.same (hs2.out _ List.mem_cons_self) hs2.g0 ?_
        have e : actM (.test t) s = some s := if_pos hh
        rw [e]
        exact Row.cons ⟨th, rfl, hs2.same _ _ hth⟩ Row.nil
      | false =>
        refine iteF ?_
        walk_at "ss"
        rename_i l H2 hs2
        refine k l _ H2 hs2.same (hs2.out _ List.mem_cons_self) hs2.g0 ?_
        have e : actM (.test t) s = none := if_neg (by rw [hh]; decide)
        rw [e]
        exact Row.nil
    | set f n =>
      obtain ⟨p, rfl, hp, hf⟩ := hx
      walk_at "ss"
      refine ifd (fun h => absurd h (by decide)) (fun _ => ?_)
      walk_at "ss"
      refine ifd (fun _ => ?_) (fun h => absurd rfl h)
      walk_at "ss"
      refine ⟨th, f, n, s, rfl, hf, hth, hl, fun t H1 sm1 ht0 ht => ?_⟩
      have hs1 := Hs_own hs sm1 ht0 ht
      clear hs
      walk_at "ss"
      rename_i l H2 hs2
      exact k l _ H2 hs2.same (hs2.out _ List.mem_cons_self) hs2.g0 (Row.cons ⟨t, rfl, hs2.g1⟩ Row.nil)
theorem ok_any_act (T : Txt w K mg a) : FnOk P w K mg base CX0 4 a.after_any a.fd_after_any ["policies", "states"] (sp_anyG ActAt actM) := ok_any T (fun _ _ _ _ e h => ActAt.same e h) (fun _ _ _ h e => actM_len h e) (ok_after_act T)
def sp_after_seq : Sp := fun vs H Q _ => ∃ (v : V) (th : Addr) (xs : List Act) (s : S5), vs = [v, .ref th] ∧ PartAt H v (.seq xs) ∧ H th = some (.tup (s.map V.int)) ∧ s.length = 5 ∧
  ∀ l us H', Same H H' → H l = none → H' l = some (.lst us) → Row (StAt H') us (seqM xs s).toList → Q (.ref l) H'
/-- one state or none, through a list of acts -/
def stepO (o : Option S5) (x : Act) : Option S5 := o.bind (actM x)
theorem seq_fold : ∀ (xs : List Act) (o : Option S5), xs.foldl stepO o = o.bind (seqM xs)
  | [], o => by
    cases o with
    | none => rfl
    | some s => rfl
  | x :: xs, o => by
    rw [List.foldl_cons, seq_fold xs]
    cases o with
    | none => rfl
    | some s => rfl
theorem dd_one (o : Option S5) (x : Act) : dd (o.toList.flatMap fun s => [x].filterMap fun y => actM y s) = (stepO o x).toList := by
  cases o with
  | none => rfl
  | some s =>
    show dd (([x].filterMap fun y => actM y s) ++ []) = (actM x s).toList
    rw [List.append_nil, List.filterMap_cons]
    cases h : actM x s with
    | none => rfl
    | some z => rfl
theorem ok_after_seq (T : Txt w K mg a) : FnOk P w K mg base CX0 5 a.after a.fd_after ["policy", "state"] sp_after_seq := by
  have G_test_holds := ok_test_holds (P := P) (w := w) (base := base) T
  have G_with_number := ok_with_number (P := P) (w := w) (base := base) T
  have G_after_any := ok_any_act (P := P) (w := w) (base := base) T
  have G_after_star : FnOk P w K mg base CX0 0 a.after_star a.fd_after_star ["policy", "state"] spF := fn_F
  refine T.fn_after.ok sc_after (fun vs H Q E h => ?_) (fun cdv A outer s H vs Q E hr h => ?_)
  · obtain ⟨_, _, _, _, rfl, _⟩ := h
    rfl
  · obtain ⟨v, th, xs, s, rfl, ⟨p, l0, us, rfl, hp, hl0, hro, hz⟩, hth, hl, k⟩ := h
    refine ⟨_, (pss_cons (ps_set (i := 2) sc_after.nd rfl (Or.inl rfl) (pe_ix (ix_tupK (K := K)) (pv 0) pe_int (fun _ _ => rfl)))
  (pss_cons (ps_if (pt_cmpR op_eq (pv 2) pe_str (nomark _))
  (pss_one (ps_ret (pe_ifExp (pt_val (pe_call G_test_holds (hr.mono (by first | decide | omega)) rfl T.mg_test_holds T.kp_test_holds T.bi_test_holds .nil pass0 (pa_cons (pe_ix (ix_tupK (K := K)) (pv 0) pe_int (fun _ _ => rfl)) (pa_cons (pv 1) pa_nil)))) (pe_lst (pa_cons (pv 1) pa_nil)) (pe_lst pa_nil))))
  pss_nil)
  (pss_cons (ps_if (pt_cmpR op_eq (pv 2) pe_str (nomark _))
  (pss_one (ps_ret (pe_lst (pa_cons (pe_call G_with_number (hr.mono (by first | decide | omega)) rfl T.mg_with_number T.kp_with_number T.bi_with_number .nil pass0 (pa_cons (pv 1) (pa_cons (pe_ix (ix_tupK (K := K)) (pv 0) pe_int (fun _ _ => rfl)) (pa_cons (pe_ix (ix_tupK (K := K)) (pv 0) pe_int (fun _ _ => rfl)) pa_nil)))) pa_nil))))
  pss_nil)
  (pss_cons (ps_if (pt_cmpR op_eq (pv 2) pe_str (nomark _))
  (pss_one (ps_ret (pe_call G_after_any (hr.mono (by first | decide | omega)) rfl T.mg_after_any T.kp_after_any T.bi_after_any .nil pass0 (pa_cons (pe_ix (ix_tupK (K := K)) (pv 0) pe_int (fun _ _ => rfl)) (pa_cons (pe_lst (pa_cons (pv 1) pa_nil)) pa_nil)))))
  pss_nil)
  (pss_cons (ps_if (pt_cmpR op_eq (pv 2) pe_str (nomark _))
  (pss_one (ps_ret (pe_call G_after_star (hr.mono (by first | decide | omega)) rfl T.mg_after_star T.kp_after_star T.bi_after_star .nil pass0 (pa_cons (pe_ix (ix_tupK (K := K)) (pv 0) pe_int (fun _ _ => rfl)) (pa_cons (pv 1) pa_nil)))))
  pss_nil)
  (pss_cons (ps_set (i := 3) sc_after.nd rfl (Or.inl rfl) (pe_lst (pa_cons (pv 1) pa_nil)))
  (pss_cons (ps_for PassesOwn.never rfl (pi_listK (K := K) (pe_ix (ix_tupK (K := K)) (pv 0) pe_int (fun _ _ => rfl))) (pg_name (i := 4) sc_after.nd rfl (Or.inl rfl))
  (pss_one (ps_set (i := 3) sc_after.nd rfl (Or.inl rfl) (pe_call G_after_any (hr.mono (by first | decide | omega)) rfl T.mg_after_any T.kp_after_any T.bi_after_any .nil pass0 (pa_cons (pe_lst (pa_cons (pv 4) pa_nil)) (pa_cons (pv 3) pa_nil))))))
  (pss_one (ps_ret (pv 3)))))))))), ?_⟩
    have hs := Hs.start H
    walk_at "ss"
    refine ifd (fun h => absurd h (by decide)) (fun _ => ?_)
    walk_at "ss"
    refine ifd (fun h => absurd h (by decide)) (fun _ => ?_)
    walk_at "ss"
    refine ifd (fun h => absurd h (by decide)) (fun _ => ?_)
    walk_at "ss"
    refine ifd (fun h => absurd h (by decide)) (fun _ => ?_)
    walk_at "ss"
    rename_i l1 H1 hs1
    clear hs
    refine w_forL (SqL.of (hs1.same _ _ hl0)) (fun i σ' H' => ∃ (l : Addr) (ys : List V) (v4 : Option V), σ' = [some (.ref p), some (.ref th), some (.str "seq"), some (.ref l), v4] ∧ Same H H' ∧ H l = none ∧ H' l = some (.lst ys) ∧ Row (StAt H') ys ((xs.take i).foldl stepO (some s)).toList ∧ ∀ z, (xs.take i).foldl stepO (some s) = some z → z.length = 5)
      (fun Q' q => ?_) ⟨l1, _, none, rfl, hs1.same, hs1.out _ List.mem_cons_self, hs1.g0, Row.cons ⟨th, rfl, hs1.same _ _ hth⟩ Row.nil, fun z hz => by cases hz; exact hl⟩ (fun i σ' H' _ ⟨_, _, _, _, sm, _⟩ => SqL.of (sm _ _ hl0)) ?_ ?_
    · walk_at "ss"
      exact q
    · clear hs1
      rintro i v σ' H2 hv ⟨l, ys, v4, rfl, sm, hl0n, hly, hry, h5⟩
      obtain ⟨x, hx, hRx⟩ := hro.get hv
      have hs2 := Hs.start H2
      walk_at "ss"
      rename_i lp H3 hs3
      have hry3 := hry.mono fun u s => StAt.mono (H' := H3) fun _ _ e => hs3.same _ _ e
      refine ⟨lp, l, [v], ys, [x], _, rfl, hs3.g0, Row.cons (ActAt.same (sm.trans hs3.same) hRx) Row.nil, (show 1 ≤ 100 by decide), hs3.same _ _ hly, hry3, ?_, ?_, fun l2 zs H4 sm4 hn4 h4 hr4 => ?_⟩
      · rw [hry.1]
        cases (xs.take i).foldl stepO (some s) with
        | none => exact Nat.zero_le _
        | some z => exact (by decide : 1 ≤ 100)
      · intro z hz
        cases hq : (xs.take i).foldl stepO (some s) with
        | none =>
          rw [hq] at hz
          cases hz
        | some z2 =>
          rw [hq] at hz
          rw [List.mem_singleton.mp (show z ∈ [z2] from hz)]
          exact h5 z2 hq
      · rw [dd_one] at hr4
        have efold : (xs.take (i + 1)).foldl stepO (some s) = stepO ((xs.take i).foldl stepO (some s)) x := by
          rw [List.take_add_one, hx, List.foldl_append]
          rfl
        have sm5 := hs3.same.trans sm4
        walk_at "ss"
        refine ⟨l2, zs, some v, rfl, sm.trans sm5, (sm.trans hs3.same).free hn4, h4, by rw [efold]; exact hr4, fun z hz => ?_⟩
        rw [efold] at hz
        cases hq : (xs.take i).foldl stepO (some s) with
        | none =>
          rw [hq] at hz
          cases hz
        | some z2 =>
          rw [hq] at hz
          exact actM_len (h5 z2 hq) hz
    · rintro σ' H' ⟨l, ys, v4, rfl, sm, hl0n, hly, hry, h5⟩
      rw [hro.1, List.take_length, seq_fold] at hry
      walk_at "ss"
      exact k l ys H' sm hl0n hly hry
theorem ok_after_part (T : Txt w K mg a) : FnOk P w K mg base CX0 5 a.after a.fd_after ["policy", "state"] (sp_afterG PartAt partM) :=
  (fn_or ((ok_after_act T).mono (by decide)) (ok_after_seq T)).imp fun vs H Q E ⟨v, th, x, s, e, hx, hth, hl, k⟩ => by
    cases x with
    | act y => exact .inl ⟨v, th, y, s, e, hx, hth, hl, k⟩
    | seq xs => exact .inr ⟨v, th, xs, s, e, hx, hth, hl, k⟩
theorem ok_any_part (T : Txt w K mg a) : FnOk P w K mg base CX0 6 a.after_any a.fd_after_any ["policies", "states"] (sp_anyG PartAt partM) := ok_any T (fun _ _ _ _ e h => PartAt.same e h) (fun _ _ _ h e => partM_len h e) (ok_after_part T)
def sp_after_pol : Sp := fun vs H Q _ => ∃ (v : V) (th : Addr) (ps : List Part) (s : S5), vs = [v, .ref th] ∧ PolAt H v ps ∧ H th = some (.tup (s.map V.int)) ∧ s.length = 5 ∧
  ∀ l us H', Same H H' → H l = none → H' l = some (.lst us) → Row (StAt H') us (polM ps s) → Q (.ref l) H'
theorem ok_after_pol (T : Txt w K mg a) : FnOk P w K mg base CX0 7 a.after a.fd_after ["policy", "state"] sp_after_pol := by
  have G_test_holds := ok_test_holds (P := P) (w := w) (base := base) T
  have G_with_number := ok_with_number (P := P) (w := w) (base := base) T
  have G_after_any := ok_any_part (P := P) (w := w) (base := base) T
  have G_after_star : FnOk P w K mg base CX0 0 a.after_star a.fd_after_star ["policy", "state"] spF := fn_F
  refine T.fn_after.ok sc_after (fun vs H Q E h => ?_) (fun cdv A outer s H vs Q E hr h => ?_)
  · obtain ⟨_, _, _, _, rfl, _⟩ := h
    rfl
  · obtain ⟨v, th, ps, s, rfl, ⟨p, l0, us, rfl, hp, hl0, hro, hz⟩, hth, hl, k⟩ := h
    refine ⟨_, (pss_cons (ps_set (i := 2) sc_after.nd rfl (Or.inl rfl) (pe_ix (ix_tupK (K := K)) (pv 0) pe_int (fun _ _ => rfl)))
  (pss_cons (ps_if (pt_cmpR op_eq (pv 2) pe_str (nomark _))
  (pss_one (ps_ret (pe_ifExp (pt_val (pe_call G_test_holds (hr.mono (by first | decide | omega)) rfl T.mg_test_holds T.kp_test_holds T.bi_test_holds .nil pass0 (pa_cons (pe_ix (ix_tupK (K := K)) (pv 0) pe_int (fun _ _ => rfl)) (pa_cons (pv 1) pa_nil)))) (pe_lst (pa_cons (pv 1) pa_nil)) (pe_lst pa_nil))))
  pss_nil)
  (pss_cons (ps_if (pt_cmpR op_eq (pv 2) pe_str (nomark _))
  (pss_one (ps_ret (pe_lst (pa_cons (pe_call G_with_number (hr.mono (by first | decide | omega)) rfl T.mg_with_number T.kp_with_number T.bi_with_number .nil pass0 (pa_cons (pv 1) (pa_cons (pe_ix (ix_tupK (K := K)) (pv 0) pe_int (fun _ _ => rfl)) (pa_cons (pe_ix (ix_tupK (K := K)) (pv 0) pe_int (fun _ _ => rfl)) pa_nil)))) pa_nil))))
  pss_nil)
  (pss_cons (ps_if (pt_cmpR op_eq (pv 2) pe_str (nomark _))
  (pss_one (ps_ret (pe_call G_after_any (hr.mono (by first | decide | omega)) rfl T.mg_after_any T.kp_after_any T.bi_after_any .nil pass0 (pa_cons (pe_ix (ix_tupK (K := K)) (pv 0) pe_int (fun _ _ => rfl)) (pa_cons (pe_lst (pa_cons (pv 1) pa_nil)) pa_nil)))))
  pss_nil)
  (pss_cons (ps_if (pt_cmpR op_eq (pv 2) pe_str (nomark _))
  (pss_one (ps_ret (pe_call G_after_star (hr.mono (by first | decide | omega)) rfl T.mg_after_star T.kp_after_star T.bi_after_star .nil pass0 (pa_cons (pe_ix (ix_tupK (K := K)) (pv 0) pe_int (fun _ _ => rfl)) (pa_cons (pv 1) pa_nil)))))
  pss_nil)
  (pss_cons (ps_set (i := 3) sc_after.nd rfl (Or.inl rfl) (pe_lst (pa_cons (pv 1) pa_nil)))
  (pss_cons (ps_for PassesOwn.never rfl (pi_listK (K := K) (pe_ix (ix_tupK (K := K)) (pv 0) pe_int (fun _ _ => rfl))) (pg_name (i := 4) sc_after.nd rfl (Or.inl rfl))
  (pss_one (ps_set (i := 3) sc_after.nd rfl (Or.inl rfl) (pe_call G_after_any (hr.mono (by first | decide | omega)) rfl T.mg_after_any T.kp_after_any T.bi_after_any .nil pass0 (pa_cons (pe_lst (pa_cons (pv 4) pa_nil)) (pa_cons (pv 3) pa_nil))))))
  (pss_one (ps_ret (pv 3)))))))))), ?_⟩
    have hs := Hs.start H
    walk_at "ss"
    refine ifd (fun h => absurd h (by decide)) (fun _ => ?_)
    walk_at "ss"
    refine ifd (fun h => absurd h (by decide)) (fun _ => ?_)
    walk_at "ss"
    refine ifd (fun _ => ?_) (fun h => absurd rfl h)
    walk_at "ss"
    rename_i l1 H1 hs1
    refine ⟨l0, l1, us, _, ps, [s], rfl, hs1.same _ _ hl0, hro.mono fun _ _ => PartAt.same hs1.same, hz, hs1.g0, Row.cons ⟨th, rfl, hs1.same _ _ hth⟩ Row.nil, (show 1 ≤ 100 by decide), fun z hz => by rw [List.mem_singleton.mp hz]; exact hl, fun l ys H2 sm2 hn2 h2 hr2 => ?_⟩
    refine k l ys H2 (hs1.same.trans sm2) (hs1.same.free hn2) h2 ?_
    have e : dd ([s].flatMap fun s => ps.filterMap fun x => partM x s) = polM ps s := by
      unfold polM
      rw [List.flatMap_cons, List.flatMap_nil, List.append_nil]
    rw [← e]
    exact hr2
end
local macro_rules | `(tactic| walk_at "v") => `(tactic| first | exact v0 | exact v1 | exact v2 | exact v3 | exact v4 | exact v5 | exact v6 | exact v7 | exact v8)
local macro_rules | `(tactic| walk_at "vs") => `(tactic| first | exact st0 | exact st1 | exact st2 | exact st3 | exact st4 | exact st5 | exact st6 | exact st7 | exact st8)
local macro_rules | `(tactic| walk_at "s") => `(tactic| first
  | with_reducible refine w_dget ?_
  | ((with_reducible refine' w_dgetZ ?h ?nd ?hk ?hv ?_); (case h => walk_at "g"); (case nd => walk_at "nd"); (case hk => walk_at "k"); (case hv => walk_at "v"))
  | ((with_reducible refine' w_dputZ ?hs ?h ?nd ?hk ?hv ?hu ?hl ?_); (case hs => assumption); (case h => walk_at "p"); (case nd => walk_at "nd"); (case hk => walk_at "k"); (case hv => walk_at "v"); (case hu => walk_at "vs"); (case hl => decide); intro _ _)
  | with_reducible refine w_gsub ?_
  | with_reducible refine w_setD ?_
  | with_reducible refine w_disp ?_
  | ((with_reducible refine' w_newP ?hs ?_); (case hs => assumption); intro _ _ _)
  | with_reducible refine w_pcons ?_
  | with_reducible refine w_pnil ?_)

local macro_rules | `(tactic| walk_at "s") => `(tactic| first
  | with_reducible refine w_nget ?_
  | with_reducible refine w_nin ?_
  | with_reducible refine w_nnot ?_
  | with_reducible refine w_nput ?_
  | with_reducible refine w_ndel ?_
  | with_reducible refine w_npop ?_
  | ((with_reducible refine' w_nnew ?hs ?_); (case hs => assumption); intro _ _ _))

/-! ## what a policy does at a place -/
def itS (s : S5) : IK := [.inl (s.getD 1 0), .inr (s.drop 2)]
def doesM (ps : List Part) (sw port : Int) (h : List Int) : List IK := srtK ((polM ps (sw :: port :: h)).map itS)
theorem dd_mem : ∀ (xs acc : List S5) (s : S5), s ∈ ddA acc xs ↔ s ∈ acc ∨ s ∈ xs
  | [], acc, s => by
    show s ∈ acc ↔ _
    simp
  | x :: xs, acc, s => by
    show s ∈ ddA (if x ∈ acc then acc else acc ++ [x]) xs ↔ _
    rw [dd_mem xs]
    by_cases h : x ∈ acc
    · rw [if_pos h, List.mem_cons]
      constructor
      · rintro (h1 | h1)
        · exact .inl h1
        · exact .inr (.inr h1)
      · rintro (h1 | h1 | h1)
        · exact .inl h1
        · exact .inl (h1 ▸ h)
        · exact .inr h1
    · rw [if_neg h, List.mem_cons, List.mem_append, List.mem_singleton]
      constructor
      · rintro ((h1 | h1) | h1)
        · exact .inl h1
        · exact .inr (.inl h1)
        · exact .inr (.inr h1)
      · rintro (h1 | h1 | h1)
        · exact .inl (.inl h1)
        · exact .inl (.inr h1)
        · exact .inr h1
theorem pol_len {ps : List Part} {s z : S5} (h : s.length = 5) (hz : z ∈ polM ps s) : z.length = 5 := by
  unfold polM dd at hz
  rw [dd_mem] at hz
  rcases hz with hz | hz
  · cases hz
  · obtain ⟨p, _, hp⟩ := List.mem_filterMap.mp hz
    exact partM_len h hp
theorem pol_few (ps : List Part) (s : S5) : (polM ps s).length ≤ ps.length := by
  unfold polM dd
  refine Nat.le_trans (ddA_len _ _) ?_
  rw [List.length_nil, Nat.zero_add]
  exact List.length_filterMap_le _ _
theorem itS_shape {s : S5} (h : s.length = 5) : (itS s).map shp = [none, some 3] := by
  unfold itS
  rw [List.map_cons, List.map_cons, List.map_nil]
  show [none, some (s.drop 2).length] = _
  rw [List.length_drop, h]
section
variable {P : Program} [IsP P] {w : World} {K : PySem.W.Frag} {mg : Str → Option Value} {base : Heap} {a : Ad}
def sp_does : Sp := fun vs H Q _ => ∃ (v : V) (th : Addr) (ps : List Part) (sw port : Int) (h : List Int), vs = [v, .int sw, .int port, .ref th] ∧ PolAt H v ps ∧ H th = some (.tup (h.map V.int)) ∧ h.length = 3 ∧
  ∀ l us H', Same H H' → H l = none → H' l = some (.lst us) → Row (KeyAt H') us (doesM ps sw port h) → Q (.ref l) H'
theorem ok_does (T : Txt w K mg a) : FnOk P w K mg base CX0 8 a.does a.fd_does ["policy", "switch", "port", "header"] sp_does := by
  have G_after := ok_after_pol (P := P) (w := w) (base := base) T
  refine T.fn_does.ok sc_does (fun vs H Q E h => ?_) (fun cdv A outer s H vs Q E hr h => ?_)
  · obtain ⟨_, _, _, _, _, _, rfl, _⟩ := h
    rfl
  · obtain ⟨v, th, ps, sw, port, h, rfl, hp, hth, hl, k⟩ := h
    refine ⟨_, (pss_one (ps_ret (pe_callB (cr_sortN (K := K) (c := none) (sh := [some 3]) (r64 hr)) (by rfl) T.mg_sorted (by decide +kernel) (pa_cons (pe_lc (own := [("state", 4)]) (g := (gName 4)) (tt := tYes) rfl sc_does.nd (pi_listK (K := K) (pe_call G_after (hr.mono (by first | decide | omega)) rfl T.mg_after T.kp_after T.bi_after .nil pass0 (pa_cons (pv 0) (pa_cons (pe_tup (pa_cons (pv 1) (pa_cons (pv 2) (pa_starK (K := K) (pv 3) pa_nil)))) pa_nil)))) (blkOk_by (own := [("state", 4)]) (N := N_does) (sc := defScope s_does) (by decide +kernel)) (fun _ _ _ _ _ => by exact (pg_name (i := 4) sc_does.nd rfl (Or.inl rfl))) (fun _ _ _ _ _ => pts_nil) (fun _ _ _ _ _ => by exact (pe_tup (pa_cons (pe_ix (ix_tupK (K := K)) (pv 4) pe_int (fun _ _ => rfl)) (pa_cons (pe_slice (sl_tupAK (K := K)) (pv 4) (po_some pe_int) po_none) pa_nil))))) pa_nil)))), ?_⟩
    have hs := Hs.start H
    walk_at "ss"
    refine w_lcLR ?_
    walk_at "ss"
    refine w_star ?_
    walk_at "ss"
    refine ⟨th, _, rfl, .inl (SqT.of hth), ?_⟩
    walk_at "ss"
    rename_i t H1 hs1
    rw [List.append_nil] at hs1
    have hst : H1 t = some (.tup ((sw :: port :: h).map V.int)) := hs1.g0
    refine ⟨v, t, ps, sw :: port :: h, rfl, hp.same hs1.same, hst, by rw [List.length_cons, List.length_cons, hl], fun l us H2 sm2 hn2 h2 hr2 => ?_⟩
    have hs2 := Hs_own hs1 sm2 hn2 h2
    clear hs1
    have hz : us.length ≤ 100 := by
      obtain ⟨_, _, us', _, _, _, hro, hz⟩ := hp
      have := pol_few ps (sw :: port :: h)
      have := hr2.1
      have := hro.1
      omega
    refine w_listR (SqL.of hs2.g0) fun D hD => ?_
    generalize hpm : polM ps (sw :: port :: h) = sts at hr2
    have h5 : ∀ z ∈ sts, z.length = 5 := fun z hz => by
      rw [← hpm] at hz
      exact pol_len (by rw [List.length_cons, List.length_cons, hl]) hz
    refine turns_list (Body := LcBody (gName 4) tYes _ _ _ D) (fun i H' => ∃ (B : Hp) (acc : List V), Same H2 B ∧ Hs B [(D, .lst acc)] H' ∧ Row (KeyAt B) acc ((sts.take i).map itS)) ⟨H2, [], Same.refl _, (Hs.start H2).new hD, Row.nil⟩ (fun i H' _ ⟨B, acc, sm, h, _⟩ => SqL.of (h.same _ _ (sm _ _ hs2.g0))) ?_ ?_
    · rintro i u H' hu ⟨B, acc, sm, hs3, hra⟩
      obtain ⟨z, hzi, q, rfl, hq⟩ := hr2.get hu
      have hz5 := h5 z (List.mem_of_getElem? hzi)
      have hq' : H' q = some (.tup (z.map V.int)) := hs3.same _ _ (sm _ _ hq)
      have a1 : atI (z.map V.int) 1 = some (.int (z.getD 1 0)) := at_st (f := 1) (by omega)
      walk_at "ss"
      refine ⟨rfl, ?_⟩
      walk_at "ss"
      refine w_slA hs3 (SqT.of hq') (fun y => ?_) fun l2 H4 hs4 => ?_
      · have := y.1
        rw [show (2 : Int) = ((2 : Nat) : Int) from rfl, HT.sIx_nat, List.length_map] at this
        omega
      rw [cut_from (j := 2) 2 rfl] at hs4
      walk_at "ss"
      rename_i t3 H5 hs5
      obtain ⟨B2, sm2', ht3, hs6⟩ := frz_hs hs5
      obtain ⟨B3, sm3', hl2, hs7⟩ := frz_hs hs6
      have sm23 := sm2'.trans sm3'
      have hlen : acc.length < sizeLine := szl (by
        have h1 := hra.1
        rw [List.length_map, List.length_take] at h1
        have h2 := (List.getElem?_eq_some_iff.mp hu).1
        omega)
      have hkey : KeyAt B3 (.ref t3) (itS z) := by
        refine ⟨t3, rfl, _, sm3' _ _ ht3, .cons rfl (.cons ⟨l2, rfl, ?_⟩ .nil)⟩
        rw [hl2, List.map_drop]
      refine ⟨acc, hs7.g0, hlen, B3, acc ++ [.ref t3], sm.trans sm23, hs7.p0 _, ?_⟩
      rw [List.take_add_one, hzi, List.map_append]
      exact (hra.mono fun u k => KeyAt.mono fun _ _ e => sm23 _ _ e).snoc hkey
    · rintro H' ⟨B, acc, sm, hs3, hra⟩
      rw [hr2.1, List.take_length] at hra
      walk_at "ss"
      refine w_sortK hs3 (SqL.of hs3.g0) (hra.mono fun u k => KeyAt.mono fun _ _ e => hs3.same _ _ e) (fun x hx => ?_) fun p ys H6 hs6 hr6 => ?_
      · obtain ⟨z, hz, rfl⟩ := List.mem_map.mp hx
        exact itS_shape (h5 z hz)
      · walk_at "ss"
        refine k p ys H6 ((hs2.same.trans sm).trans hs6.same) ((hs2.same.trans sm).free (hs6.out _ List.mem_cons_self)) hs6.g0 ?_
        unfold doesM
        rw [hpm]
        exact hr6
/-! ## links -/
abbrev peerM (ls : List Lk) (x : E2) : Option E2 := (ls.find? (has x)).map fun l => if l.1 = x then l.2 else l.1
def OptE (H : Hp) (v : V) : Option E2 → Prop
  | none => v = .non
  | some e => ∃ q : Addr, v = .ref q ∧ H q = some (endO e)
def sp_peer : Sp := fun vs H Q _ => ∃ (r e : Addr) (us : List V) (ls : List Lk) (x : E2), vs = [.ref r, .ref e] ∧ H r = some (.lst us) ∧ LkL H us ls ∧ H e = some (endO x) ∧ ∀ v, OptE H v (peerM ls x) → Q v H
theorem find_take {α : Type} {p : α → Bool} : ∀ {ls : List α} {i : Nat} {l : α}, ls[i]? = some l → (ls.take i).find? p = none → p l = true → ls.find? p = some l
  | y :: ys, 0, l, e, _, h => by
    cases e
    rw [List.find?_cons, h]
  | y :: ys, i + 1, l, e, h0, h => by
    rw [List.take_succ_cons, List.find?_cons] at h0
    cases hy : p y with
    | true =>
      rw [hy] at h0
      cases h0
    | false =>
      rw [hy] at h0
      rw [List.find?_cons, hy]
      exact find_take (by simpa using e) h0 h
theorem find_more {α : Type} {p : α → Bool} {ls : List α} {i : Nat} {l : α} (e : ls[i]? = some l) (h0 : (ls.take i).find? p = none) (h : p l = false) : (ls.take (i + 1)).find? p = none := by
  rw [List.take_add_one, e, List.find?_append, h0]
  show List.find? p [l] = none
  rw [List.find?_cons, h]
  rfl
theorem ok_peer (T : Txt w K mg a) : FnOk P w K mg base CX0 1 a.peer a.fd_peer ["links", "end"] sp_peer := by
  refine T.fn_peer.ok sc_peer (fun vs H Q E h => ?_) (fun cdv A outer s H vs Q E hr h => ?_)
  · obtain ⟨_, _, _, _, _, rfl, _⟩ := h
    rfl
  · obtain ⟨r, e, us, ls, x, rfl, hr0, hL, he, k⟩ := h
    refine ⟨_, (pss_cons (ps_for PassesOwn.never rfl (pi_listK (K := K) (pv 0)) (pg_tupK (K := K) rfl (pgs_cons (pg_name (i := 2) sc_peer.nd rfl (Or.inl rfl)) (pgs_cons (pg_name (i := 3) sc_peer.nd rfl (Or.inl rfl)) pgs_nil)))
  (pss_cons (ps_if (pt_cmpR (op_eqDK (K := K) hr.units) (pv 2) (pv 1) (nomark _))
  (pss_one (ps_ret (pv 3)))
  pss_nil)
  (pss_one (ps_if (pt_cmpR (op_eqDK (K := K) hr.units) (pv 3) (pv 1) (nomark _))
  (pss_one (ps_ret (pv 2)))
  pss_nil))))
  (pss_one (ps_ret pe_non))), ?_⟩
    walk_at "ss"
    refine w_forL (SqL.of hr0) (fun i σ H' => H' = H ∧ ∃ v2 v3, σ = [some (.ref r), some (.ref e), v2, v3] ∧ (ls.take i).find? (has x) = none) (fun Q q => ⟨_, rfl, q⟩) ⟨rfl, none, none, rfl, rfl⟩ (fun i σ H' _ ⟨e, _⟩ => by rw [e]; exact SqL.of hr0) ?_ ?_
    · rintro i y σ H1 hi ⟨rfl, v2, v3, rfl, hf⟩
      obtain ⟨t, l, rfl, hli, hk⟩ := LkL.get hL hi
      obtain ⟨p, q, ht, hp, hq⟩ := nk_link hk
      walk_at "ss"
      refine w_eqE (x := l.1) (y := x) hp he ?_
      refine ⟨_, rfl, ifd (fun h1 => ?_) (fun h1 => ?_)⟩
      · have hh : has x l = true := by
          unfold has
          rw [decide_eq_true h1]
          rfl
        walk_at "ss"
        refine k _ ?_
        unfold peerM
        rw [find_take hli hf hh]
        refine ⟨q, rfl, ?_⟩
        show H1 q = some (endO (if l.1 = x then l.2 else l.1))
        rw [if_pos h1]
        exact hq
      · walk_at "ss"
        refine w_eqE (x := l.2) (y := x) hq he ?_
        refine ⟨_, rfl, ifd (fun h2 => ?_) (fun h2 => ?_)⟩
        · have hh : has x l = true := by
            unfold has
            rw [decide_eq_true h2, Bool.or_true]
          walk_at "ss"
          refine k _ ?_
          unfold peerM
          rw [find_take hli hf hh]
          refine ⟨p, rfl, ?_⟩
          show H1 p = some (endO (if l.1 = x then l.2 else l.1))
          rw [if_neg h1]
          exact hp
        · have hh : has x l = false := by
            unfold has
            rw [decide_eq_false h1, decide_eq_false h2]
            rfl
          walk_at "ss"
          exact ⟨rfl, _, _, rfl, find_more hli hf hh⟩
    · rintro σ H1 ⟨rfl, v2, v3, rfl, hf⟩
      walk_at "ss"
      refine k _ ?_
      rw [LkL.len hL, List.take_length] at hf
      unfold peerM
      rw [hf]
      rfl
end
local macro_rules | `(tactic| walk_at "v") => `(tactic| first | exact v0 | exact v1 | exact v2 | exact v3 | exact v4 | exact v5 | exact v6 | exact v7 | exact v8)
local macro_rules | `(tactic| walk_at "vs") => `(tactic| first | exact st0 | exact st1 | exact st2 | exact st3 | exact st4 | exact st5 | exact st6 | exact st7 | exact st8)
local macro_rules | `(tactic| walk_at "s") => `(tactic| first
  | with_reducible refine w_dget ?_
  | ((with_reducible refine' w_dgetZ ?h ?nd ?hk ?hv ?_); (case h => walk_at "g"); (case nd => walk_at "nd"); (case hk => walk_at "k"); (case hv => walk_at "v"))
  | ((with_reducible refine' w_dputZ ?hs ?h ?nd ?hk ?hv ?hu ?hl ?_); (case hs => assumption); (case h => walk_at "p"); (case nd => walk_at "nd"); (case hk => walk_at "k"); (case hv => walk_at "v"); (case hu => walk_at "vs"); (case hl => decide); intro _ _)
  | with_reducible refine w_gsub ?_
  | with_reducible refine w_setD ?_
  | with_reducible refine w_disp ?_
  | ((with_reducible refine' w_newP ?hs ?_); (case hs => assumption); intro _ _ _)
  | with_reducible refine w_pcons ?_
  | with_reducible refine w_pnil ?_)

local macro_rules | `(tactic| walk_at "s") => `(tactic| first
  | with_reducible refine w_nget ?_
  | with_reducible refine w_nin ?_
  | with_reducible refine w_nnot ?_
  | with_reducible refine w_nput ?_
  | with_reducible refine w_ndel ?_
  | with_reducible refine w_npop ?_
  | ((with_reducible refine' w_nnew ?hs ?_); (case hs => assumption); intro _ _ _))

/-! ## events -/
structure Ev where
  sw : Int
  port : Int
  ver : Int
  num : Int
  hdr : List Int
  sent : List IK
def FormK (k : IK) : Prop := ∃ (p : Int) (h : List Int), k = [.inl p, .inr h] ∧ h.length = 3
structure EvOk (e : Ev) : Prop where
  h3 : e.hdr.length = 3
  fm : ∀ k ∈ e.sent, FormK k
  few : e.sent.length ≤ 100
def EvAt (H : Hp) (v : V) (e : Ev) : Prop := ∃ (p th ls : Addr) (us : List V), v = .ref p ∧ H p = some (.tup [.int e.sw, .int e.port, .int e.ver, .int e.num, .ref th, .ref ls]) ∧ H th = some (.tup (e.hdr.map V.int)) ∧ H ls = some (.lst us) ∧ Row (KeyAt H) us e.sent
theorem EvAt.same {H H' : Hp} (s : Same H H') {v : V} {e : Ev} (h : EvAt H v e) : EvAt H' v e := by
  obtain ⟨p, th, ls, us, h1, h2, h3, h4, h5⟩ := h
  exact ⟨p, th, ls, us, h1, s _ _ h2, s _ _ h3, s _ _ h4, h5.mono fun _ _ => KeyAt.mono fun _ _ => s _ _⟩
def GrAt (H : Hp) (v : V) (cnt : Int) (ls : List Lk) : Prop := ∃ (p lr : Addr) (us : List V), v = .ref p ∧ H p = some (.tup [.str "graph", .int cnt, .ref lr]) ∧ H lr = some (.lst us) ∧ LkL H us ls ∧ ls.length ≤ 1000
theorem GrAt.same {H H' : Hp} (s : Same H H') {v : V} {cnt : Int} {ls : List Lk} (h : GrAt H v cnt ls) : GrAt H' v cnt ls := by
  obtain ⟨p, lr, us, h1, h2, h3, h4, h5⟩ := h
  exact ⟨p, lr, us, h1, s _ _ h2, s _ _ h3, h4.same s, h5⟩
abbrev PM := List (Int × List Part)
def PolsAt (H : Hp) (pd : Addr) (pm : PM) : Prop := ∃ kvs : List (Key × V), H pd = some (.dK kvs) ∧ Paired (fun kv x => kv.1 = Sum.inl x.1 ∧ PolAt H kv.2 x.2) kvs pm
theorem PolsAt.same {H H' : Hp} (s : Same H H') {pd : Addr} {pm : PM} (h : PolsAt H pd pm) : PolsAt H' pd pm := by
  obtain ⟨kvs, h1, h2⟩ := h
  exact ⟨kvs, s _ _ h1, Paired.mapP h2 fun _ _ ⟨e, q⟩ => ⟨e, q.same s⟩⟩
def getP (pm : PM) (v : Int) : Option (List Part) := (pm.find? fun x => decide (x.1 = v)).map (·.2)
theorem pols_val {H : Hp} {kvs : List (Key × V)} {pm : PM} (h : Paired (fun kv x => kv.1 = Sum.inl x.1 ∧ PolAt H kv.2 x.2) kvs pm) (v : Int) : (getP pm v = none ∧ valV kvs (Sum.inl v) = none) ∨ ∃ ps u, getP pm v = some ps ∧ valV kvs (Sum.inl v) = some u ∧ PolAt H u ps := by
  induction h with
  | nil => exact .inl ⟨rfl, rfl⟩
  | @cons kv x kvs pm h _ ih =>
    by_cases hc : x.1 = v
    · refine .inr ⟨x.2, kv.2, ?_, ?_, h.2⟩
      · unfold getP
        rw [List.find?_cons, decide_eq_true hc]
        rfl
      · obtain ⟨k0, u0⟩ := kv
        obtain ⟨e, _⟩ := h
        subst e
        rw [valV_pos (show ((Sum.inl x.1, u0) : Key × V).1 = Sum.inl v by rw [hc])]
    · have e1 : getP (x :: pm) v = getP pm v := by
        unfold getP
        rw [List.find?_cons, decide_eq_false hc]
      have e2 : valV (kv :: kvs) (Sum.inl v) = valV kvs (Sum.inl v) := valV_neg (fun z => hc (Sum.inl.inj (h.1.symm.trans z)))
      rw [e1, e2]
      exact ih
def optI : Option Int → V
  | none => .non
  | some d => .int d
/-! ### what is asked of an event -/
def knownM (cnt : Int) (pm : PM) (e : Ev) : Bool := (decide (1 ≤ e.sw) && decide (e.sw ≤ cnt)) && (getP pm e.ver).isSome
def sentD (ks : List IK) : PyData := .list (ks.map fun k => (nkK k).data)
def rightM (ps : List Part) (e : Ev) : Bool := PyData.eqv (sentD e.sent) (.list []) || PyData.eqv (sentD e.sent) (sentD (doesM ps e.sw e.port e.hdr))
def agreeM (vm : Int → Option Int) (e : Ev) : Bool := match vm e.num with
  | none => true
  | some v => decide (v = e.ver) && !decide (e.port = 0)
def placeK (ver num : Int) (o : E2) (h : List Int) : IK := [.inl ver, .inl num, .inr [o.1, o.2], .inr h]
def depthM (ls : List Lk) (dm : IK → Option Int) (e : Ev) : Option Int := if e.port = 0 then some 1 else (peerM ls (e.sw, e.port)).bind fun o => (dm (placeK e.ver e.num o e.hdr)).map (· + 1)
theorem formK_data {k : IK} (h : FormK k) : (nkK k).data.canLay0 = true ∧ (nkK k).data.depth ≤ 60 := by
  obtain ⟨p, h, rfl, hq⟩ := h
  clear hq
  have e : (nkK [.inl p, .inr h]).data = .tuple [.int p, .tuple (h.map .int)] := by
    have e2 : NestedKey.datas (h.map NestedKey.num) = h.map PyData.int := by
      induction h with
      | nil => rfl
      | cons x h ih =>
        rw [List.map_cons, List.map_cons, ← ih]
        rfl
    simp only [nkK, nkI, List.map_cons, List.map_nil, NestedKey.data, NestedKey.datas, e2]
  rw [e]
  have hl : PyData.canLayAll0 (h.map .int) = true := lay_all _ fun d hd => by
    obtain ⟨x, _, rfl⟩ := List.mem_map.mp hd
    rfl
  have hd : PyData.depthAll (h.map .int) ≤ 1 := depth_all _ fun d hd => by
    obtain ⟨x, _, rfl⟩ := List.mem_map.mp hd
    simp [PyData.depth]
  constructor
  · simp only [PyData.canLay0, PyData.canLayAll0, hl, Bool.and_self]
  · simp only [PyData.depth, PyData.depthAll]
    omega
theorem sentD_shp {ks : List IK} (h : ∀ k ∈ ks, FormK k) : SeqAt.shaped (sentD ks) = true := shp_list fun d hd => by
  obtain ⟨k, hk, rfl⟩ := List.mem_map.mp hd
  exact formK_data (h k hk)
theorem sentD_dp {K : PySem.W.Frag} {H : Hp} {l : Addr} {us : List V} {ks : List IK} (hl : H l = some (.lst us)) (hr : Row (KeyAt H) us ks) : Dp K H (.ref l) (sentD ks) :=
  .lst (SqL.of hl) (hr.dpAll (d := fun k => (nkK k).data) fun u k h => by
    obtain ⟨p, rfl, hk⟩ := h
    exact hk.nk.im.dp)
theorem does_form {ps : List Part} {sw port : Int} {h : List Int} (hl : h.length = 3) : ∀ k ∈ doesM ps sw port h, FormK k := fun k hk => by
  unfold doesM at hk
  obtain ⟨s, hs, rfl⟩ := List.mem_map.mp ((srtK_perm _).mem_iff.mp hk)
  have h5 := pol_len (show (sw :: port :: h).length = 5 by rw [List.length_cons, List.length_cons, hl]) hs
  exact ⟨_, _, rfl, by rw [List.length_drop, h5]⟩
theorem does_few {ps : List Part} {sw port : Int} {h : List Int} : (doesM ps sw port h).length ≤ ps.length := by
  unfold doesM
  rw [(srtK_perm _).length_eq, List.length_map]
  exact pol_few _ _
section
variable {P : Program} [IsP P] {w : World} {K : PySem.W.Frag} {mg : Str → Option Value} {base : Heap} {a : Ad}
def sp_is_known : Sp := fun vs H Q _ => ∃ (g v : V) (pd : Addr) (cnt : Int) (ls : List Lk) (pm : PM) (e : Ev), vs = [g, .ref pd, v] ∧ GrAt H g cnt ls ∧ PolsAt H pd pm ∧ EvAt H v e ∧ ∀ H', Same H H' → Q (.bl (knownM cnt pm e)) H'
theorem ok_is_known (T : Txt w K mg a) : FnOk P w K mg base CX0 1 a.is_known a.fd_is_known ["graph", "policies", "event"] sp_is_known := by
  refine T.fn_is_known.ok sc_is_known (fun vs H Q E h => ?_) (fun cdv A outer s H vs Q E hr h => ?_)
  · obtain ⟨_, _, _, _, _, _, _, rfl, _⟩ := h
    rfl
  · obtain ⟨_, _, pd, cnt, ls, pm, e, rfl, ⟨g, lr, us, rfl, hg, hlr, hL, hlz⟩, ⟨kvs, hpd, hpv⟩, ⟨p, th, lse, use, rfl, hp, hth, hls, hro⟩, k⟩ := h
    have hu := hu_of hr
    refine ⟨_, (pss_cons (ps_asg (pe_slice (sl_tupAK (K := K)) (pv 2) po_none (po_some pe_int)) (pg_tupK (K := K) rfl (pgs_cons (pg_name (i := 3) sc_is_known.nd rfl (Or.inl rfl)) (pgs_cons (pg_name (i := 4) sc_is_known.nd rfl (Or.inl rfl)) (pgs_cons (pg_name (i := 5) sc_is_known.nd rfl (Or.inl rfl)) pgs_nil)))))
  (pss_one (ps_ret (pe_and (pe_chain op_le op_le pe_int (pv 3) (pe_ix (ix_tupK (K := K)) (pv 0) pe_int (fun _ _ => rfl))) (pe_one (pe_cmp (pc_din hu (pv 5) (pv 1)) rfl)))))), ?_⟩
    have hs := Hs.start H
    walk_at "ss"
    refine w_slA hs (SqT.of hp) (fun z => by have := z.2; rw [show (3 : Int) = ((3 : Nat) : Int) from rfl, HT.sIx_nat] at this; simp at this) fun l2 H1 hs1 => ?_
    rw [cut_to (j := 3) 3 rfl] at hs1
    clear hs
    have hl2 : H1 l2 = some (.tup [.int e.sw, .int e.port, .int e.ver]) := hs1.g0
    walk_at "ss"
    have hv : (valV kvs (Sum.inl e.ver)).isSome = (getP pm e.ver).isSome := by
      rcases pols_val hpv e.ver with ⟨h1, h2⟩ | ⟨_, _, h1, h2, _⟩
      · rw [h1, h2]
        rfl
      · rw [h1, h2]
        rfl
    have fin : ∀ b, b = knownM cnt pm e → Q (.bl b) H1 := fun b hb => by
      rw [hb]
      exact k _ hs1.same
    refine ifd (fun h1 => ?_) (fun h1 => ?_)
    · walk_at "ss"
      refine ifd (fun h2 => ?_) (fun h2 => ?_)
      · walk_at "ss"
        refine fin _ ?_
        unfold knownM
        rw [hv, decide_eq_true h1, decide_eq_true h2]
        rfl
      · walk_at "ss"
        refine fin _ ?_
        unfold knownM
        rw [decide_eq_false h2, Bool.and_false, Bool.false_and]
    · walk_at "ss"
      refine fin _ ?_
      unfold knownM
      rw [decide_eq_false h1, Bool.false_and, Bool.false_and]
def sp_is_right : Sp := fun vs H Q _ => ∃ (v : V) (pd : Addr) (pm : PM) (ps : List Part) (e : Ev), vs = [.ref pd, v] ∧ PolsAt H pd pm ∧ getP pm e.ver = some ps ∧ EvAt H v e ∧ EvOk e ∧ ∀ H', Same H H' → Q (.bl (rightM ps e)) H'
theorem ok_is_right (T : Txt w K mg a) : FnOk P w K mg base CX0 9 a.is_right a.fd_is_right ["policies", "event"] sp_is_right := by
  have G_does := ok_does (P := P) (w := w) (base := base) T
  refine T.fn_is_right.ok sc_is_right (fun vs H Q E h => ?_) (fun cdv A outer s H vs Q E hr h => ?_)
  · obtain ⟨_, _, _, _, _, rfl, _⟩ := h
    rfl
  · obtain ⟨_, pd, pm, ps, e, rfl, ⟨kvs, hpd, hpv⟩, hget, ⟨p, th, lse, use, rfl, hp, hth, hls, hro⟩, ok, k⟩ := h
    have hu := hu_of hr
    refine ⟨_, (pss_cons (ps_asg (pv 1) (pg_tupK (K := K) rfl (pgs_cons (pg_name (i := 2) sc_is_right.nd rfl (Or.inl rfl)) (pgs_cons (pg_name (i := 3) sc_is_right.nd rfl (Or.inl rfl)) (pgs_cons (pg_name (i := 4) sc_is_right.nd rfl (Or.inl rfl)) (pgs_cons (pg_name (i := 5) sc_is_right.nd rfl (Or.inl rfl)) (pgs_cons (pg_name (i := 6) sc_is_right.nd rfl (Or.inl rfl)) (pgs_cons (pg_name (i := 7) sc_is_right.nd rfl (Or.inl rfl)) pgs_nil))))))))
  (pss_one (ps_ret (pe_or (pe_cmpR (op_eqDK (K := K) hr.units) (pv 7) (pe_lst pa_nil) (nomark _)) (pe_one (pe_cmpR (op_eqDK (K := K) hr.units) (pv 7) (pe_call G_does (hr.mono (by first | decide | omega)) rfl T.mg_does T.kp_does T.bi_does .nil pass0 (pa_cons (pe_dget hu (pv 0) (pv 4) (fun _ _ => rfl)) (pa_cons (pv 2) (pa_cons (pv 3) (pa_cons (pv 6) pa_nil))))) (nomark _))))))), ?_⟩
    have hs := Hs.start H
    walk_at "ss"
    rename_i l1 H1 hs1
    clear hs
    refine ⟨sentD e.sent, .list [], sentD_dp (hs1.same _ _ hls) (hro.mono fun _ _ => KeyAt.mono fun _ _ => hs1.same _ _), .lst (SqL.of hs1.g0) .nil, sentD_shp ok.fm, rfl, ?_⟩
    walk_at "ss"
    cases he : PyData.eqv (sentD e.sent) (.list []) with
    | true =>
      refine iteT ?_
      have e1 : rightM ps e = true := by
        unfold rightM
        rw [he, Bool.true_or]
      rw [e1] at k
      exact k _ hs1.same
    | false =>
      refine iteF ?_
      walk_at "ss"
      rcases pols_val hpv e.ver with ⟨h1, h2⟩ | ⟨ps', u, h1, h2, h3⟩
      · rw [h1] at hget
        cases hget
      rw [h1] at hget
      cases hget
      refine ⟨pd, u, rfl, .inl ⟨kvs, Sum.inl e.ver, .inl (hs1.same _ _ hpd), rfl, h2.symm⟩, ?_⟩
      walk_at "ss"
      refine ⟨u, th, ps, e.sw, e.port, e.hdr, rfl, h3.same hs1.same, hs1.same _ _ hth, ok.h3, fun l us H2 sm2 hn2 hl2 hr2 => ?_⟩
      have sm := hs1.same.trans sm2
      refine ⟨sentD e.sent, sentD (doesM ps e.sw e.port e.hdr), sentD_dp (sm _ _ hls) (hro.mono fun _ _ => KeyAt.mono fun _ _ => sm _ _), sentD_dp hl2 hr2, sentD_shp ok.fm, sentD_shp (does_form ok.h3), ?_⟩
      have e1 : rightM ps e = PyData.eqv (sentD e.sent) (sentD (doesM ps e.sw e.port e.hdr)) := by
        unfold rightM
        rw [he, Bool.false_or]
      rw [e1] at k
      exact k _ sm
end
local macro_rules | `(tactic| walk_at "v") => `(tactic| first | exact v0 | exact v1 | exact v2 | exact v3 | exact v4 | exact v5 | exact v6 | exact v7 | exact v8)
local macro_rules | `(tactic| walk_at "vs") => `(tactic| first | exact st0 | exact st1 | exact st2 | exact st3 | exact st4 | exact st5 | exact st6 | exact st7 | exact st8)
local macro_rules | `(tactic| walk_at "s") => `(tactic| first
  | with_reducible refine w_dget ?_
  | ((with_reducible refine' w_dgetZ ?h ?nd ?hk ?hv ?_); (case h => walk_at "g"); (case nd => walk_at "nd"); (case hk => walk_at "k"); (case hv => walk_at "v"))
  | ((with_reducible refine' w_dputZ ?hs ?h ?nd ?hk ?hv ?hu ?hl ?_); (case hs => assumption); (case h => walk_at "p"); (case nd => walk_at "nd"); (case hk => walk_at "k"); (case hv => walk_at "v"); (case hu => walk_at "vs"); (case hl => decide); intro _ _)
  | with_reducible refine w_gsub ?_
  | with_reducible refine w_setD ?_
  | with_reducible refine w_disp ?_
  | ((with_reducible refine' w_newP ?hs ?_); (case hs => assumption); intro _ _ _)
  | with_reducible refine w_pcons ?_
  | with_reducible refine w_pnil ?_)

local macro_rules | `(tactic| walk_at "s") => `(tactic| first
  | with_reducible refine w_nget ?_
  | with_reducible refine w_nin ?_
  | with_reducible refine w_nnot ?_
  | with_reducible refine w_nput ?_
  | with_reducible refine w_ndel ?_
  | with_reducible refine w_npop ?_
  | ((with_reducible refine' w_nnew ?hs ?_); (case hs => assumption); intro _ _ _))

/-! ## an event judged -/
def rightP (pm : PM) (e : Ev) : Bool := match getP pm e.ver with
  | some ps => rightM ps e
  | none => true
def dRule : Option Int → Option Int
  | none => some 4
  | some d => if d > 12 then some 5 else none
def brokenM (cnt : Int) (pm : PM) (vm : Int → Option Int) (d : Option Int) (e : Ev) : Option Int :=
  if knownM cnt pm e = true then (if rightP pm e = true then (if agreeM vm e = true then dRule d else some 3) else some 2) else some 1
section
variable {P : Program} [IsP P] {w : World} {K : PySem.W.Frag} {mg : Str → Option Value} {base : Heap} {a : Ad}
def sp_agrees : Sp := fun vs H Q _ => ∃ (v : V) (vd : Addr) (kvs : List (Key × V)) (vm : Int → Option Int) (e : Ev), vs = [.ref vd, v] ∧ H vd = some (.dK kvs) ∧ (∀ n, valV kvs (Sum.inl n) = (vm n).map V.int) ∧ EvAt H v e ∧ ∀ H', Same H H' → Q (.bl (agreeM vm e)) H'
theorem ok_agrees (T : Txt w K mg a) : FnOk P w K mg base CX0 1 a.agrees a.fd_agrees ["versions", "event"] sp_agrees := by
  refine T.fn_agrees.ok sc_agrees (fun vs H Q E h => ?_) (fun cdv A outer s H vs Q E hr h => ?_)
  · obtain ⟨_, _, _, _, _, rfl, _⟩ := h
    rfl
  · obtain ⟨_, vd, kvs, vm, e, rfl, hvd, hvm, ⟨p, th, lse, use, rfl, hp, hth, hls, hro⟩, k⟩ := h
    have hu := hu_of hr
    refine ⟨_, (pss_cons (ps_asg (pe_slice (sl_tupAK (K := K)) (pv 1) po_none (po_some pe_int)) (pg_tupK (K := K) rfl (pgs_cons (pg_name (i := 2) sc_agrees.nd rfl (Or.inl rfl)) (pgs_cons (pg_name (i := 3) sc_agrees.nd rfl (Or.inl rfl)) (pgs_cons (pg_name (i := 4) sc_agrees.nd rfl (Or.inl rfl)) (pgs_cons (pg_name (i := 5) sc_agrees.nd rfl (Or.inl rfl)) pgs_nil))))))
  (pss_cons (ps_if (pt_cmp (pc_dnotin hu (pv 5) (pv 0)))
  (pss_one (ps_ret pe_bl))
  pss_nil)
  (pss_one (ps_ret (pe_and (pe_cmpR op_eq (pe_dget hu (pv 0) (pv 5) (fun _ _ => rfl)) (pv 4) (nomark _)) (pe_one (pe_cmpR op_ne (pv 3) (pe_glob (v := .int 0) rfl (Exists.choose_spec T.mg_OUTSIDE) ⟨_, rfl⟩) (nomark _)))))))), ?_⟩
    have hs := Hs.start H
    walk_at "ss"
    refine w_slA hs (SqT.of hp) (fun z => by have := z.2; rw [show (4 : Int) = ((4 : Nat) : Int) from rfl, HT.sIx_nat] at this; simp at this) fun l2 H1 hs1 => ?_
    rw [cut_to (j := 4) 4 rfl] at hs1
    clear hs
    have hl2 : H1 l2 = some (.tup [.int e.sw, .int e.port, .int e.ver, .int e.num]) := hs1.g0
    walk_at "ss"
    have hv := hvm e.num
    cases hn : vm e.num with
    | none =>
      rw [hn] at hv
      rw [hv]
      refine iteT ?_
      walk_at "ss"
      have e1 : agreeM vm e = true := by
        unfold agreeM
        rw [hn]
      rw [e1] at k
      exact k _ hs1.same
    | some v0 =>
      rw [hn] at hv
      rw [hv]
      refine iteF ?_
      walk_at "ss"
      refine ⟨vd, .int v0, rfl, .inl ⟨kvs, Sum.inl e.num, .inl (hs1.same _ _ hvd), rfl, hv.symm⟩, ?_⟩
      walk_at "ss"
      have e1 : agreeM vm e = (decide (v0 = e.ver) && !decide (e.port = 0)) := by
        unfold agreeM
        rw [hn]
      rw [e1] at k
      refine ifd (fun h1 => ?_) (fun h1 => ?_)
      · rw [decide_eq_true h1, Bool.true_and] at k
        walk_at "ss"
        exact k _ hs1.same
      · rw [decide_eq_false h1, Bool.false_and] at k
        walk_at "ss"
        exact k _ hs1.same
def sp_depth_of (w : World) : Sp := fun vs H Q _ => ∃ (g v : V) (dd : Addr) (cnt : Int) (ls : List Lk) (es : List Ent) (M : GM) (dm : IK → Option Int) (e : Ev), vs = [g, .ref dd, v] ∧ GrAt H g cnt ls ∧ H dd = some (DN w dd es) ∧ EntG H es M ∧ (∀ k, valG M k = (dm k).map V.int) ∧ EvAt H v e ∧ ∀ H', Same H H' → Q (optI (depthM ls dm e)) H'
theorem ok_depth_of (T : Txt w K mg a) : FnOk P w K mg base CX0 2 a.depth_of a.fd_depth_of ["graph", "depths", "event"] (sp_depth_of w) := by
  have G_peer := ok_peer (P := P) (w := w) (base := base) T
  refine T.fn_depth_of.ok sc_depth_of (fun vs H Q E h => ?_) (fun cdv A outer s H vs Q E hr h => ?_)
  · obtain ⟨_, _, _, _, _, _, _, _, _, rfl, _⟩ := h
    rfl
  · obtain ⟨_, _, ddr, cnt, ls, es, M, dm, e, rfl, ⟨g, lr, us, rfl, hg, hlr, hL, hlz⟩, hdd, heM, hdm, ⟨p, th, lse, use, rfl, hp, hth, hls, hro⟩, k⟩ := h
    have hu := hu_of hr
    refine ⟨_, (pss_cons (ps_asg (pv 2) (pg_tupK (K := K) rfl (pgs_cons (pg_name (i := 3) sc_depth_of.nd rfl (Or.inl rfl)) (pgs_cons (pg_name (i := 4) sc_depth_of.nd rfl (Or.inl rfl)) (pgs_cons (pg_name (i := 5) sc_depth_of.nd rfl (Or.inl rfl)) (pgs_cons (pg_name (i := 6) sc_depth_of.nd rfl (Or.inl rfl)) (pgs_cons (pg_name (i := 7) sc_depth_of.nd rfl (Or.inl rfl)) (pgs_cons (pg_name (i := 8) sc_depth_of.nd rfl (Or.inl rfl)) pgs_nil))))))))
  (pss_cons (ps_if (pt_cmpR op_eq (pv 4) (pe_glob (v := .int 0) rfl (Exists.choose_spec T.mg_OUTSIDE) ⟨_, rfl⟩) (nomark _))
  (pss_one (ps_ret pe_int))
  pss_nil)
  (pss_cons (ps_set (i := 9) sc_depth_of.nd rfl (Or.inl rfl) (pe_call G_peer (hr.mono (by first | decide | omega)) rfl T.mg_peer T.kp_peer T.bi_peer .nil pass0 (pa_cons (pe_ix (ix_tupK (K := K)) (pv 0) pe_int (fun _ _ => rfl)) (pa_cons (pe_tup (pa_cons (pv 3) (pa_cons (pv 4) pa_nil))) pa_nil))))
  (pss_cons (ps_set (i := 10) sc_depth_of.nd rfl (Or.inl rfl) (pe_ifExp (pt_cmpR op_isNQ (pv 9) pe_non (nomark _)) pe_non (pe_nget1 (w := w) (r64 hr) (pv 1) (pe_tup (pa_cons (pv 5) (pa_cons (pv 6) (pa_cons (pv 9) (pa_cons (pv 7) pa_nil))))) ⟨rfl, rfl, rfl, rfl⟩)))
  (pss_one (ps_ret (pe_ifExp (pt_cmpR op_isNQ (pv 10) pe_non (nomark _)) pe_non (pe_op op_add (pv 10) pe_int)))))))), ?_⟩
    have hs := Hs.start H
    walk_at "ss"
    refine ifd (fun h0 => ?_) (fun h0 => ?_)
    · walk_at "ss"
      have e1 : depthM ls dm e = some 1 := if_pos h0
      rw [e1] at k
      exact k _ hs.same
    · walk_at "ss"
      rename_i te H1 hs1
      have hte : H1 te = some (endO (e.sw, e.port)) := hs1.g0
      clear hs
      refine ⟨lr, te, us, ls, (e.sw, e.port), rfl, hs1.same _ _ hlr, hL.same hs1.same, hte, fun vo hvo => ?_⟩
      have e1 : depthM ls dm e = (peerM ls (e.sw, e.port)).bind fun o => (dm (placeK e.ver e.num o e.hdr)).map (· + 1) := if_neg h0
      cases hpe : peerM ls (e.sw, e.port) with
      | none =>
        rw [hpe] at hvo
        cases hvo
        have e2 : depthM ls dm e = none := by rw [e1, hpe]; rfl
        rw [e2] at k
        walk_at "ss"
        refine ifd (fun _ => ?_) (fun z => absurd rfl z)
        walk_at "ss"
        refine ifd (fun _ => ?_) (fun z => absurd rfl z)
        walk_at "ss"
        exact k _ hs1.same
      | some o =>
        rw [hpe] at hvo
        obtain ⟨q, rfl, hq⟩ := hvo
        rw [hpe] at e1
        have e2 : depthM ls dm e = (dm (placeK e.ver e.num o e.hdr)).map (· + 1) := e1
        have sm1 := hs1.same
        clear hs1
        have hs1 := Hs.start H1
        walk_at "ss"
        refine ifd (fun z => nomatch z) (fun _ => ?_)
        walk_at "ss"
        refine w_ng1 ?_
        walk_at "ss"
        refine ⟨⟨ddr, es, rfl, sm1 _ _ hdd⟩, ?_⟩
        walk_at "ss"
        rename_i tk H2 hs2
        have sm2 := sm1.trans hs2.same
        have hkey : KAt H2 tk (placeK e.ver e.num o e.hdr) := ⟨_, hs2.g0, .cons rfl (.cons rfl (.cons ⟨q, rfl, hs2.same _ _ hq⟩ (.cons ⟨th, rfl, sm2 _ _ hth⟩ .nil)))⟩
        refine wg_def (hs2.tl) (sm2 _ _ hdd) (heM.same (sm1.trans (Same.refl _))) hkey ?_
        rw [hdm]
        rw [e2] at k
        cases hd : dm (placeK e.ver e.num o e.hdr) with
        | none =>
          rw [hd] at k
          walk_at "ss"
          refine ifd (fun _ => ?_) (fun z => absurd rfl z)
          walk_at "ss"
          exact k _ sm2
        | some d0 =>
          rw [hd] at k
          walk_at "ss"
          refine ifd (fun z => nomatch z) (fun _ => ?_)
          walk_at "ss"
          refine w_I0 (a := d0) (b := 1) ?_
          exact k _ sm2
def sp_broken_rule : Sp := fun vs H Q _ => ∃ (g v : V) (pd vd : Addr) (cnt : Int) (ls : List Lk) (pm : PM) (kvs : List (Key × V)) (vm : Int → Option Int) (d : Option Int) (e : Ev), vs = [g, .ref pd, .ref vd, optI d, v] ∧ GrAt H g cnt ls ∧ PolsAt H pd pm ∧ H vd = some (.dK kvs) ∧ (∀ n, valV kvs (Sum.inl n) = (vm n).map V.int) ∧ EvAt H v e ∧ EvOk e ∧ ∀ H', Same H H' → Q (optI (brokenM cnt pm vm d e)) H'
theorem ok_broken_rule (T : Txt w K mg a) : FnOk P w K mg base CX0 10 a.broken_rule a.fd_broken_rule ["graph", "policies", "versions", "depth", "event"] sp_broken_rule := by
  have G_is_known := ok_is_known (P := P) (w := w) (base := base) T
  have G_is_right := ok_is_right (P := P) (w := w) (base := base) T
  have G_agrees := ok_agrees (P := P) (w := w) (base := base) T
  refine T.fn_broken_rule.ok sc_broken_rule (fun vs H Q E h => ?_) (fun cdv A outer s H vs Q E hr h => ?_)
  · obtain ⟨_, _, _, _, _, _, _, _, _, _, _, rfl, _⟩ := h
    rfl
  · obtain ⟨g, v, pd, vd, cnt, ls, pm, kvs, vm, d, e, rfl, hg, hpd, hvd, hvm, hev, ok, k⟩ := h
    refine ⟨_, (pss_cons (ps_if (pt_not (pt_val (pe_call G_is_known (hr.mono (by first | decide | omega)) rfl T.mg_is_known T.kp_is_known T.bi_is_known .nil pass0 (pa_cons (pv 0) (pa_cons (pv 1) (pa_cons (pv 4) pa_nil))))))
  (pss_one (ps_ret pe_int))
  pss_nil)
  (pss_cons (ps_if (pt_not (pt_val (pe_call G_is_right (hr.mono (by first | decide | omega)) rfl T.mg_is_right T.kp_is_right T.bi_is_right .nil pass0 (pa_cons (pv 1) (pa_cons (pv 4) pa_nil)))))
  (pss_one (ps_ret pe_int))
  pss_nil)
  (pss_cons (ps_if (pt_not (pt_val (pe_call G_agrees (hr.mono (by first | decide | omega)) rfl T.mg_agrees T.kp_agrees T.bi_agrees .nil pass0 (pa_cons (pv 2) (pa_cons (pv 4) pa_nil)))))
  (pss_one (ps_ret pe_int))
  pss_nil)
  (pss_cons (ps_if (pt_cmpR op_isNQ (pv 3) pe_non (nomark _))
  (pss_one (ps_ret pe_int))
  pss_nil)
  (pss_one (ps_ret (pe_ifExp (pt_cmpR op_gt (pv 3) (pe_glob (v := .int 12) rfl (Exists.choose_spec T.mg_MOST_DEPTH) ⟨_, rfl⟩) (nomark _)) pe_int pe_non))))))), ?_⟩
    walk_at "ss"
    refine ⟨g, v, pd, cnt, ls, pm, e, rfl, hg, hpd, hev, fun H1 sm1 => ?_⟩
    walk_at "ss"
    cases hk : knownM cnt pm e with
    | false =>
      have e1 : brokenM cnt pm vm d e = some 1 := if_neg (by rw [hk]; decide)
      rw [e1] at k
      refine iteT ?_
      walk_at "ss"
      exact k _ sm1
    | true =>
      have e1 : brokenM cnt pm vm d e = (if rightP pm e = true then (if agreeM vm e = true then dRule d else some 3) else some 2) := if_pos hk
      rw [e1] at k
      refine iteF ?_
      walk_at "ss"
      obtain ⟨ps, hps⟩ : ∃ ps, getP pm e.ver = some ps := by
        unfold knownM at hk
        exact Option.isSome_iff_exists.mp (Bool.and_eq_true_iff.mp hk).2
      refine ⟨v, pd, pm, ps, e, rfl, hpd.same sm1, hps, hev.same sm1, ok, fun H2 sm2 => ?_⟩
      have sm12 := sm1.trans sm2
      have hrp : rightP pm e = rightM ps e := by
        unfold rightP
        rw [hps]
      rw [hrp] at k
      walk_at "ss"
      cases hr2 : rightM ps e with
      | false =>
        rw [if_neg (by rw [hr2]; decide)] at k
        refine iteT ?_
        walk_at "ss"
        exact k _ sm12
      | true =>
        rw [if_pos hr2] at k
        refine iteF ?_
        walk_at "ss"
        refine ⟨v, vd, kvs, vm, e, rfl, sm12 _ _ hvd, hvm, hev.same sm12, fun H3 sm3 => ?_⟩
        have sm13 := sm12.trans sm3
        walk_at "ss"
        cases ha : agreeM vm e with
        | false =>
          rw [if_neg (by rw [ha]; decide)] at k
          refine iteT ?_
          walk_at "ss"
          exact k _ sm13
        | true =>
          rw [if_pos ha] at k
          refine iteF ?_
          walk_at "ss"
          cases d with
          | none =>
            refine ifd (fun _ => ?_) (fun z => absurd rfl z)
            walk_at "ss"
            exact k _ sm13
          | some d0 =>
            refine ifd (fun z => nomatch z) (fun _ => ?_)
            walk_at "ss"
            refine w_I0 (a := d0) (b := 12) ?_
            walk_at "ss"
            refine ifd (fun h => ?_) (fun h => ?_)
            · walk_at "ss"
              rw [show dRule (some d0) = some 5 from if_pos h] at k
              exact k _ sm13
            · walk_at "ss"
              rw [show dRule (some d0) = none from if_neg h] at k
              exact k _ sm13
end
local macro_rules | `(tactic| walk_at "v") => `(tactic| first | exact v0 | exact v1 | exact v2 | exact v3 | exact v4 | exact v5 | exact v6 | exact v7 | exact v8)
local macro_rules | `(tactic| walk_at "vs") => `(tactic| first | exact st0 | exact st1 | exact st2 | exact st3 | exact st4 | exact st5 | exact st6 | exact st7 | exact st8)
local macro_rules | `(tactic| walk_at "s") => `(tactic| first
  | with_reducible refine w_dget ?_
  | ((with_reducible refine' w_dgetZ ?h ?nd ?hk ?hv ?_); (case h => walk_at "g"); (case nd => walk_at "nd"); (case hk => walk_at "k"); (case hv => walk_at "v"))
  | ((with_reducible refine' w_dputZ ?hs ?h ?nd ?hk ?hv ?hu ?hl ?_); (case hs => assumption); (case h => walk_at "p"); (case nd => walk_at "nd"); (case hk => walk_at "k"); (case hv => walk_at "v"); (case hu => walk_at "vs"); (case hl => decide); intro _ _)
  | with_reducible refine w_gsub ?_
  | with_reducible refine w_setD ?_
  | with_reducible refine w_disp ?_
  | ((with_reducible refine' w_newP ?hs ?_); (case hs => assumption); intro _ _ _)
  | with_reducible refine w_pcons ?_
  | with_reducible refine w_pnil ?_)

local macro_rules | `(tactic| walk_at "s") => `(tactic| first
  | with_reducible refine w_nget ?_
  | with_reducible refine w_nin ?_
  | with_reducible refine w_nnot ?_
  | with_reducible refine w_nput ?_
  | with_reducible refine w_ndel ?_
  | with_reducible refine w_npop ?_
  | ((with_reducible refine' w_nnew ?hs ?_); (case hs => assumption); intro _ _ _))

/-! ## the judge -/
def vmU (vm : Int → Option Int) (e : Ev) : Int → Option Int := fun n => if n = e.num then some e.ver else vm n
def portOf : IK → Int
  | .inl p :: _ => p
  | _ => 0
def hdrOf : IK → List Int
  | [_, .inr h] => h
  | _ => []
def dmP (ver num sw d : Int) (dm : IK → Option Int) (k : IK) : IK → Option Int := fun j => if j = placeK ver num (sw, portOf k) (hdrOf k) then some (min d ((dm j).getD d)) else dm j
def dmU (e : Ev) (d : Int) (dm : IK → Option Int) : IK → Option Int := e.sent.foldl (dmP e.ver e.num e.sw d) dm
def judgeM (cnt : Int) (ls : List Lk) (pm : PM) : (Int → Option Int) → (IK → Option Int) → Nat → List Ev → Option (Int × Nat)
  | _, _, _, [] => none
  | vm, dm, i, e :: es => match brokenM cnt pm vm (depthM ls dm e) e with
    | some r => some (r, i)
    | none => judgeM cnt ls pm (vmU vm e) (dmU e ((depthM ls dm e).getD 0) dm) (i + 1) es
def JrAt (H : Hp) (v : V) : Option (Int × Nat) → Prop
  | none => v = .non
  | some (r, i) => ∃ t : Addr, v = .ref t ∧ H t = some (.tup [.int r, .int (i : Int)])
theorem put_lenK (kvs : List (Key × V)) (k : Key) (v : V) : (putK kvs k v).length ≤ kvs.length + 1 := by
  unfold putK
  split
  · rw [List.length_map]
    omega
  · rw [List.length_append]
    exact Nat.le_refl _
/-- a step of the judge that finds nothing -/
theorem judgeM_step {cnt : Int} {ls : List Lk} {pm : PM} {vm : Int → Option Int} {dm : IK → Option Int} {i : Nat} {e : Ev} {es : List Ev} (h : brokenM cnt pm vm (depthM ls dm e) e = none) : judgeM cnt ls pm vm dm i (e :: es) = judgeM cnt ls pm (vmU vm e) (dmU e ((depthM ls dm e).getD 0) dm) (i + 1) es := by
  rw [judgeM, h]
theorem broken_none {cnt : Int} {pm : PM} {vm : Int → Option Int} {d : Option Int} {e : Ev} (h : brokenM cnt pm vm d e = none) : ∃ n, d = some n := by
  unfold brokenM at h
  split at h
  · split at h
    · split at h
      · cases d with
        | none => cases h
        | some n => exact ⟨n, rfl⟩
      · cases h
    · cases h
  · cases h
section
variable {P : Program} [IsP P] {w : World} {K : PySem.W.Frag} {mg : Str → Option Value} {base : Heap} {a : Ad}
def sp_judge : Sp := fun vs H Q _ => ∃ (g : V) (pd el : Addr) (cnt : Int) (ls : List Lk) (pm : PM) (us : List V) (evs : List Ev), vs = [g, .ref pd, .ref el] ∧ GrAt H g cnt ls ∧ PolsAt H pd pm ∧ H el = some (.lst us) ∧ Row (EvAt H) us evs ∧ (∀ e ∈ evs, EvOk e) ∧ us.length ≤ 100 ∧
  ∀ v H', Same H H' → JrAt H' v (judgeM cnt ls pm (fun _ => none) (fun _ => none) 0 evs) → Q v H'
theorem ok_judge (T : Txt w K mg a) : FnOk P w K mg base CX0 11 a.judge a.fd_judge ["graph", "policies", "events"] sp_judge := by
  have G_depth_of := ok_depth_of (P := P) (w := w) (base := base) T
  have G_broken_rule := ok_broken_rule (P := P) (w := w) (base := base) T
  refine T.fn_judge.ok sc_judge (fun vs H Q E h => ?_) (fun cdv A outer s H vs Q E hr h => ?_)
  · obtain ⟨_, _, _, _, _, _, _, _, rfl, _⟩ := h
    rfl
  · obtain ⟨g, pd, el, cnt, ls, pm, us, evs, rfl, hg, hpd, hel, hro, hok, hz, k⟩ := h
    have hu := hu_of hr
    refine ⟨_, (pss_cons (ps_set (i := 3) sc_judge.nd rfl (Or.inl rfl) pe_dnewK)
  (pss_cons (ps_set (i := 4) sc_judge.nd rfl (Or.inl rfl) (pe_nnew (w := w)))
  (pss_cons (ps_for PassesOwn.never rfl (pi_enum (by rfl) T.mg_enumerate (pa_cons (pv 2) pa_nil)) (pg_tupK (K := K) rfl (pgs_cons (pg_name (i := 5) sc_judge.nd rfl (Or.inl rfl)) (pgs_cons (pg_name (i := 6) sc_judge.nd rfl (Or.inl rfl)) pgs_nil)))
  (pss_cons (ps_set (i := 7) sc_judge.nd rfl (Or.inl rfl) (pe_call G_depth_of (hr.mono (by first | decide | omega)) rfl T.mg_depth_of T.kp_depth_of T.bi_depth_of .nil pass0 (pa_cons (pv 0) (pa_cons (pv 4) (pa_cons (pv 6) pa_nil)))))
  (pss_cons (ps_set (i := 8) sc_judge.nd rfl (Or.inl rfl) (pe_call G_broken_rule (hr.mono (by first | decide | omega)) rfl T.mg_broken_rule T.kp_broken_rule T.bi_broken_rule .nil pass0 (pa_cons (pv 0) (pa_cons (pv 1) (pa_cons (pv 3) (pa_cons (pv 7) (pa_cons (pv 6) pa_nil)))))))
  (pss_cons (ps_if (pt_cmpR op_notNQ (pv 8) pe_non (nomark _))
  (pss_one (ps_ret (pe_tup (pa_cons (pv 8) (pa_cons (pv 5) pa_nil)))))
  pss_nil)
  (pss_cons (ps_asg (pv 6) (pg_tupK (K := K) rfl (pgs_cons (pg_name (i := 9) sc_judge.nd rfl (Or.inl rfl)) (pgs_cons (pg_name (i := 10) sc_judge.nd rfl (Or.inl rfl)) (pgs_cons (pg_name (i := 11) sc_judge.nd rfl (Or.inl rfl)) (pgs_cons (pg_name (i := 12) sc_judge.nd rfl (Or.inl rfl)) (pgs_cons (pg_name (i := 10) sc_judge.nd rfl (Or.inl rfl)) (pgs_cons (pg_name (i := 13) sc_judge.nd rfl (Or.inl rfl)) pgs_nil))))))))
  (pss_cons (ps_dput hu (pv 3) (pv 12) (pv 11) rfl)
  (pss_one (ps_for PassesOwn.never rfl (pi_listK (K := K) (pv 13)) (pg_tupK (K := K) rfl (pgs_cons (pg_name (i := 14) sc_judge.nd rfl (Or.inl rfl)) (pgs_cons (pg_name (i := 15) sc_judge.nd rfl (Or.inl rfl)) pgs_nil)))
  (pss_cons (ps_set (i := 16) sc_judge.nd rfl (Or.inl rfl) (pe_tup (pa_cons (pv 11) (pa_cons (pv 12) (pa_cons (pe_tup (pa_cons (pv 9) (pa_cons (pv 14) pa_nil))) (pa_cons (pv 15) pa_nil))))))
  (pss_one (ps_nput (w := w) (r64 hr) (pv 4) (pv 16) (pe_callB (call_minQ rfl) (by rfl) T.mg_min (by decide +kernel) (pa_cons (pv 7) (pa_cons (pe_nget2 (w := w) (r64 hr) (pv 4) (pv 16) (pv 7) ⟨rfl, rfl, rfl, rfl⟩) pa_nil))) rfl)))))))))))
  (pss_one (ps_ret pe_non))))), ?_⟩
    have hs := Hs.start H
    walk_at "ss"
    rename_i vd H1 hs1 dd0 H2 hs2
    clear hs hs1
    refine w_enumF (K := K) (SqL.of (hs2.same _ _ hel)) (fun i σ' H' => ∃ (B : Hp) (kvs : List (Key × V)) (es : List Ent) (M : GM) (vm : Int → Option Int) (dm : IK → Option Int) (v5 v6 v7 v8 v9 v10 v11 v12 v13 v14 v15 v16 : Option V),
        σ' = [some g, some (.ref pd), some (.ref el), some (.ref vd), some (.ref dd0), v5, v6, v7, v8, v9, v10, v11, v12, v13, v14, v15, v16] ∧ Same H B ∧ Hs B [(dd0, DN w dd0 es), (vd, .dK kvs)] H' ∧ EntG B es M ∧ (∀ n, valV kvs (Sum.inl n) = (vm n).map V.int) ∧ (∀ k, valG M k = (dm k).map V.int) ∧ kvs.length ≤ i ∧ M.length ≤ i * 100 ∧
        judgeM cnt ls pm (fun _ => none) (fun _ => none) 0 evs = judgeM cnt ls pm vm dm i (evs.drop i))
      (fun Q' q => ?_) ⟨H, [], [], [], fun _ => none, fun _ => none, none, none, none, none, none, none, none, none, none, none, none, none, rfl, Same.refl _, hs2, EntG.nil, (fun _ => rfl), (fun _ => rfl), Nat.le_refl _, Nat.le_refl _, rfl⟩
      (fun i σ' H' _ ⟨B, _, _, _, _, _, _, _, _, _, _, _, _, _, _, _, _, _, _, sm, h, _⟩ => SqL.of (h.same _ _ (sm _ _ hel))) ?_ ?_
    · walk_at "ss"
      exact q
    · clear hs2
      rintro i u Te σ' H3 hui ⟨B, kvs, es, M, vm, dm, v5, v6, v7, v8, v9, v10, v11, v12, v13, v14, v15, v16, rfl, sm, hs3, heM, hvm, hdm, hkz, hMz, hj⟩ hTe
      obtain ⟨e, hei, hev⟩ := hro.get hui
      have ok := hok e (List.mem_of_getElem? hei)
      have hib : i < 100 := by
        have := (List.getElem?_eq_some_iff.mp hui).1
        omega
      have hs4 := hs3.new (o := .tup [.int (i : Int), u]) hTe
      have hdrop : evs.drop i = e :: evs.drop (i + 1) := by
        obtain ⟨h1, h2⟩ := List.getElem?_eq_some_iff.mp hei
        rw [← h2, List.drop_eq_getElem_cons h1]
      rw [hdrop] at hj
      refine w_gtup (SqT.of hs4.g0) rfl ?_
      walk_at "ss"
      have hs5 := hs4.tl
      clear hs3 hs4 hTe
      generalize upd H3 Te (HO.tup [V.int (i : Int), u]) = H4 at hs5
      have smA := sm.trans hs5.same
      refine ⟨g, u, dd0, cnt, ls, es, M, dm, e, rfl, hg.same smA, hs5.g0, heM.same hs5.same, hdm, hev.same smA, fun H5 sm5 => ?_⟩
      have hs6 := hs5.keep sm5
      clear hs5
      have smB := sm.trans hs6.same
      walk_at "ss"
      refine ⟨g, u, pd, vd, cnt, ls, pm, kvs, vm, depthM ls dm e, e, rfl, hg.same smB, hpd.same smB, hs6.g1, hvm, hev.same smB, ok, fun H6 sm6 => ?_⟩
      have hs7 := hs6.keep sm6
      clear hs6
      walk_at "ss"
      cases hb : brokenM cnt pm vm (depthM ls dm e) e with
      | some r =>
        refine ifn (fun z => ?_) (fun z => nomatch z)
        walk_at "ss"
        rename_i t H7 hs8
        refine k _ H7 (sm.trans hs8.same) ?_
        rw [hj, judgeM, hb]
        exact ⟨t, rfl, hs8.g0⟩
      | none =>
        refine ifn (fun z => absurd rfl z) (fun _ => ?_)
        obtain ⟨d0, hd0⟩ := broken_none hb
        rw [judgeM_step hb, hd0] at hj
        rw [hd0]
        obtain ⟨p, th, lse, use, rfl, hp, hth, hls, hrs⟩ := hev
        have smC := sm.trans hs7.same
        walk_at "ss"
        refine w_gtup (SqT.of (smC _ _ hp)) rfl ?_
        walk_at "ss"
        rename_i H7 hs8
        clear hs7
        have hvm2 : ∀ n, valV (putK kvs (Sum.inl e.num) (V.int e.ver)) (Sum.inl n) = (vmU vm e n).map V.int := fun n => by
          rw [valV_put]
          unfold vmU
          by_cases hn : n = e.num
          · rw [if_pos (by rw [hn]), if_pos hn]
            rfl
          · rw [if_neg (fun z => hn (Sum.inl.inj z)), if_neg hn]
            exact hvm n
        have hkz2 := put_lenK kvs (Sum.inl e.num) (V.int e.ver)
        generalize putK kvs (Sum.inl e.num) (V.int e.ver) = kvs2 at hs8 hvm2 hkz2
        have huz : use.length ≤ 100 := by
          rw [hrs.1]
          exact ok.few
        have smD := sm.trans hs8.same
        show tFor (iList K (tVar 13)) _ _ _ [some g, some (.ref pd), some (.ref el), some (.ref vd), some (.ref dd0), some (.int (i : Int)), some (.ref p), some (.int d0), some .non, some (.int e.sw), some (.ref th), some (.int e.ver), some (.int e.num), some (.ref lse), v14, v15, v16] _
        refine w_forL (SqL.of (smD _ _ hls)) (fun j σ' H' => ∃ (B : Hp) (es : List Ent) (M : GM) (dm' : IK → Option Int) (v14 v15 v16 : Option V),
            σ' = [some g, some (.ref pd), some (.ref el), some (.ref vd), some (.ref dd0), some (.int (i : Int)), some (.ref p), some (.int d0), some .non, some (.int e.sw), some (.ref th), some (.int e.ver), some (.int e.num), some (.ref lse), v14, v15, v16] ∧ Same H B ∧ Hs B [(dd0, DN w dd0 es), (vd, .dK kvs2)] H' ∧ EntG B es M ∧ (∀ k, valG M k = (dm' k).map V.int) ∧ M.length ≤ i * 100 + j ∧
            dm' = (e.sent.take j).foldl (dmP e.ver e.num e.sw d0) dm)
          (fun Q' q => ?_) ⟨B, es, M, dm, v14, v15, v16, rfl, sm, hs8, heM, hdm, by omega, rfl⟩ (fun j σ' H' _ ⟨B, _, _, _, _, _, _, _, sm, h, _⟩ => SqL.of (h.same _ _ (sm _ _ hls))) ?_ ?_
        · walk_at "ss"
          exact q
        · clear hs8 heM hdm hMz smD sm hj hd0 hb hvm
          clear B es M v5 v6 v7 v8 v9 v10 v11 v12 v13 v14 v15 v16
          rintro j u2 σ' H8 huj ⟨B, es, M, dm', v14, v15, v16, rfl, sm, hs9, heM, hdm, hMz, hdd⟩
          obtain ⟨key, hkj, q, rfl, vsq, hq, hpq⟩ := hrs.get huj
          obtain ⟨pt, hh, rfl, hh3⟩ := ok.fm key (List.mem_of_getElem? hkj)
          obtain ⟨v1, v2, rfl, hv1, hv2⟩ : ∃ v1 v2, vsq = [v1, v2] ∧ ItAt H v1 (.inl pt) ∧ ItAt H v2 (.inr hh) := by
            cases hpq with
            | cons a1 r1 =>
              cases r1 with
              | cons a2 r2 =>
                cases r2
                exact ⟨_, _, rfl, a1, a2⟩
          cases hv1
          obtain ⟨qh, rfl, hqh⟩ := hv2
          have smE := sm.trans hs9.same
          refine w_gtup (SqT.of (smE _ _ hq)) rfl ?_
          walk_at "ss"
          rename_i te H9 _ tp H10 hs10
          clear hs9
          obtain ⟨B2, sm2, htp, hs11⟩ := frz_hs hs10
          obtain ⟨B3, sm3, hte, hs12⟩ := frz_hs hs11
          have smF := sm.trans (sm2.trans sm3)
          have hkey : KAt B3 tp (placeK e.ver e.num (e.sw, pt) hh) := ⟨_, sm3 _ _ htp, .cons rfl (.cons rfl (.cons ⟨te, rfl, hte⟩ (.cons ⟨qh, rfl, smF _ _ hqh⟩ .nil)))⟩
          have heM3 := heM.same (sm2.trans sm3)
          clear hs10 hs11 heM
          refine w_ng2 ?_
          walk_at "ss"
          refine ⟨⟨dd0, es, rfl, hs12.g0⟩, ?_⟩
          walk_at "ss"
          refine wg_def hs12 hs12.g0 heM3 (hkey.same hs12.same) ?_
          rw [hdm]
          have eget : (Option.map V.int (dm' (placeK e.ver e.num (e.sw, pt) hh))).getD (V.int d0) = V.int ((dm' (placeK e.ver e.num (e.sw, pt) hh)).getD d0) := by
            cases dm' (placeK e.ver e.num (e.sw, pt) hh) with
            | none => rfl
            | some _ => rfl
          rw [eget]
          walk_at "ss"
          have emin : (if (dm' (placeK e.ver e.num (e.sw, pt) hh)).getD d0 < d0 then (dm' (placeK e.ver e.num (e.sw, pt) hh)).getD d0 else d0) = min d0 ((dm' (placeK e.ver e.num (e.sw, pt) hh)).getD d0) := by omega
          rw [emin]
          have hjb : j < 100 := by
            have := (List.getElem?_eq_some_iff.mp huj).1
            omega
          refine wg_put hs12 .here heM3 hkey (by omega) fun H11 hs13 heM4 => ?_
          have hlen := putG_len (M := M) (k := placeK e.ver e.num (e.sw, pt) hh) (v := V.int (min d0 ((dm' (placeK e.ver e.num (e.sw, pt) hh)).getD d0)))
          refine ⟨B3, _, _, dmP e.ver e.num e.sw d0 dm' [.inl pt, .inr hh], _, _, _, rfl, smF, hs13, heM4, fun k => ?_, by omega, ?_⟩
          · rw [valG_put, hdm]
            unfold dmP
            by_cases hk : k = placeK e.ver e.num (e.sw, pt) hh
            · rw [if_pos hk, if_pos (show k = placeK e.ver e.num (e.sw, portOf [.inl pt, .inr hh]) (hdrOf [.inl pt, .inr hh]) from hk), hk]
              rfl
            · rw [if_neg hk, if_neg (show ¬ k = placeK e.ver e.num (e.sw, portOf [.inl pt, .inr hh]) (hdrOf [.inl pt, .inr hh]) from hk)]
          · rw [List.take_add_one, hkj, List.foldl_append, ← hdd]
            rfl
        · rintro σ' H8 ⟨B, es, M, dm', v14, v15, v16, rfl, sm, hs9, heM, hdm, hMz, hdd⟩
          rw [hrs.1, List.take_length] at hdd
          refine ⟨B, kvs2, es, M, vmU vm e, dm', _, _, _, _, _, _, _, _, _, _, _, _, rfl, sm, hs9, heM, hvm2, hdm, by omega, by omega, ?_⟩
          rw [hj, hdd]
          rfl
    · rintro σ' H3 ⟨B, kvs, es, M, vm, dm, v5, v6, v7, v8, v9, v10, v11, v12, v13, v14, v15, v16, rfl, sm, hs3, heM, hvm, hdm, hkz, hMz, hj⟩
      rw [hro.1, List.drop_length] at hj
      walk_at "ss"
      refine k _ H3 (sm.trans hs3.same) ?_
      rw [hj]
      rfl
end
local macro_rules | `(tactic| walk_at "v") => `(tactic| first | exact v0 | exact v1 | exact v2 | exact v3 | exact v4 | exact v5 | exact v6 | exact v7 | exact v8)
local macro_rules | `(tactic| walk_at "vs") => `(tactic| first | exact st0 | exact st1 | exact st2 | exact st3 | exact st4 | exact st5 | exact st6 | exact st7 | exact st8)
local macro_rules | `(tactic| walk_at "s") => `(tactic| first
  | with_reducible refine w_dget ?_
  | ((with_reducible refine' w_dgetZ ?h ?nd ?hk ?hv ?_); (case h => walk_at "g"); (case nd => walk_at "nd"); (case hk => walk_at "k"); (case hv => walk_at "v"))
  | ((with_reducible refine' w_dputZ ?hs ?h ?nd ?hk ?hv ?hu ?hl ?_); (case hs => assumption); (case h => walk_at "p"); (case nd => walk_at "nd"); (case hk => walk_at "k"); (case hv => walk_at "v"); (case hu => walk_at "vs"); (case hl => decide); intro _ _)
  | with_reducible refine w_gsub ?_
  | with_reducible refine w_setD ?_
  | with_reducible refine w_disp ?_
  | ((with_reducible refine' w_newP ?hs ?_); (case hs => assumption); intro _ _ _)
  | with_reducible refine w_pcons ?_
  | with_reducible refine w_pnil ?_)

local macro_rules | `(tactic| walk_at "s") => `(tactic| first
  | with_reducible refine w_nget ?_
  | with_reducible refine w_nin ?_
  | with_reducible refine w_nnot ?_
  | with_reducible refine w_nput ?_
  | with_reducible refine w_ndel ?_
  | with_reducible refine w_npop ?_
  | ((with_reducible refine' w_nnew ?hs ?_); (case hs => assumption); intro _ _ _))

section
variable {P : Program} [IsP P] {w : World} {K : PySem.W.Frag} {mg : Str → Option Value} {base : Heap} {a : Ad}
/-! ### the draws of the law -/
/-- what a state may be -/
def Good (m : Int) (cells : List Int) : Prop := 0 ≤ m ∧ m < 2147483648 ∧ cells.length ≤ 1000
abbrev sto (c : Addr) (m : Int) : HO := .lst [.ref c, .int m]
abbrev clo (cells : List Int) : HO := .lst (cells.map V.int)
def sp__law_state (K : PySem.W.Frag) : Sp := fun vs H Q _ => ∃ (x : Addr) (ns : List Int), vs = [.ref x] ∧ SqL K H x (ns.map V.int) ∧ ns.length ≤ 1000 ∧ ∀ s c m cells H', Hs H [(s, sto c m), (c, clo cells)] H' → Good m cells → Q (.ref s) H'
def sp__law_draw : Sp := fun vs H Q _ => ∃ (B : Hp) (s c : Addr) (m many : Int) (cells : List Int), vs = [.ref s, .int many] ∧ Hs B [(s, sto c m), (c, clo cells)] H ∧ Good m cells ∧ many < 1000000000 ∧
  ∀ r m' cells' H', Hs B [(s, sto c m'), (c, clo cells')] H' → Good m' cells' → (many < 1 → r = 0) → (1 ≤ many → 0 ≤ r ∧ r < many) → Q (.int r) H'
theorem abs_map (ns : List Int) (i : Nat) {x : V} (h : (ns.map V.int)[i]? = some x) : ∃ n, ns[i]? = some n ∧ x = .int n := by
  rw [List.getElem?_map] at h
  cases e : ns[i]? with
  | none =>
    rw [e] at h
    cases h
  | some n =>
    rw [e] at h
    exact ⟨n, rfl, (Option.some.inj h).symm⟩
theorem ok__law_state (T : Txt w K mg a) : FnOk P w K mg base CX0 1 a._law_state a.fd__law_state ["script"] (sp__law_state K) := by
  refine T.fn__law_state.ok sc__law_state (fun vs H Q E h => ?_) (fun cdv A outer s H vs Q E hr h => ?_)
  · obtain ⟨_, _, rfl, _⟩ := h
    rfl
  · obtain ⟨x, ns, rfl, hx, hl, k⟩ := h
    refine ⟨_, (pss_cons (ps_set (i := 1) sc__law_state.nd rfl (Or.inl rfl) pe_int)
  (pss_cons (ps_for PassesOwn.never rfl (pi_listK (K := K) (pv 0)) (pg_name (i := 2) sc__law_state.nd rfl (Or.inl rfl))
  (pss_one (ps_set (i := 1) sc__law_state.nd rfl (Or.inl rfl) (pe_op op_mod (pe_callTy call_intQ (by rfl) T.mg_int (by decide +kernel) (pa_cons (pe_op op_add (pe_op op_mul (pv 1) pe_int) (pv 2)) pa_nil)) pe_int))))
  (pss_one (ps_ret (pe_lst (pa_cons (pe_lc (own := [("cell", 2)]) (g := (gName 2)) (tt := tYes) rfl sc__law_state.nd (pi_listK (K := K) (pv 0)) (blkOk_by (own := [("cell", 2)]) (N := N__law_state) (sc := defScope s__law_state) (by decide +kernel)) (fun _ _ _ _ _ => by exact (pg_name (i := 2) sc__law_state.nd rfl (Or.inl rfl))) (fun _ _ _ _ _ => pts_nil) (fun _ _ _ _ _ => by exact (pe_callB call_absQ (by rfl) T.mg_abs (by decide +kernel) (pa_cons (pv 2) pa_nil)))) (pa_cons (pe_op op_add (pv 1) pe_int) pa_nil))))))), ?_⟩
    have hs : Hs H [] H := Hs.start H
    walk_at "ss"
    refine w_forL hx (fun i σ H' => ∃ (m : Int) (v : Option V), σ = [some (.ref x), some (.int m), v] ∧ 0 ≤ m ∧ m < 1000003 ∧ Hs H [] H') (fun Q q => ⟨_, rfl, q⟩) ⟨7, none, rfl, by omega, by omega, hs⟩ (fun i σ H' _ ⟨_, _, _, _, _, hs⟩ => hs.sql hx) ?_ ?_
    · rintro i y σ H' hi ⟨m, v, rfl, h0, h1, hs⟩
      obtain ⟨n, _, rfl⟩ := abs_map ns i hi
      walk_at "ss"
      refine ⟨(m * 31 + n) % 1000003, _, rfl, ?_, ?_, hs⟩
      · exact Int.emod_nonneg _ (by decide)
      · exact Int.emod_lt_of_pos _ (by decide)
    · rintro σ H' ⟨m, v, rfl, h0, h1, hs⟩
      walk_at "ss"
      have hx1 : SqL K H' x (ns.map V.int) := Hs.sql (by assumption) hx
      refine w_lc hx1 (fun D i H2 => ∃ acc : List Int, acc.length = i ∧ Hs H [(D, clo acc)] H2) (fun Q q => ⟨_, rfl, q⟩) (fun D hD => ⟨[], rfl, Hs.new (by assumption) hD⟩) (fun D i H2 _ ⟨_, _, hs⟩ => hs.sql hx) ?_ ?_
      · rintro D i y H2 hi ⟨acc, ha, hs⟩
        obtain ⟨n, _, rfl⟩ := abs_map ns i hi
        have hin : i < ns.length := by
          have := (List.getElem?_eq_some_iff.mp hi).1
          rwa [List.length_map] at this
        walk_at "ss"
        refine ⟨rfl, ?_⟩
        walk_at "ss"
        try (with_reducible refine iteT ?_)
        walk_at "ss"
        refine ⟨_, hs.g0, ?_, acc ++ [if n < 0 then -n else n], ?_, ?_⟩
        · refine szl ?_
          rw [List.length_map]
          omega
        · rw [List.length_append, ha]
          rfl
        · have := hs.p0 (.lst ((acc.map V.int) ++ [V.int (if n < 0 then -n else n)]))
          unfold clo
          rw [List.map_append]
          exact this
      · rintro D H2 ⟨acc, ha, hs⟩
        rw [List.length_map] at ha
        walk_at "ss"
        refine k _ D (m + 1) acc _ (by assumption) ⟨by omega, by omega, by omega⟩
theorem ok__law_draw (T : Txt w K mg a) : FnOk P w K mg base CX0 1 a._law_draw a.fd__law_draw ["state", "many"] sp__law_draw := by
  refine T.fn__law_draw.ok sc__law_draw (fun vs H Q E h => ?_) (fun cdv A outer s H vs Q E hr h => ?_)
  · obtain ⟨_, _, _, _, _, _, rfl, _⟩ := h
    rfl
  · obtain ⟨B, s, c, m, many, cells, rfl, hs, ⟨hm0, hm1, hl⟩, hmany, k⟩ := h
    refine ⟨_, (pss_cons (ps_if (pt_cmpR op_lt (pv 1) pe_int (nomark _))
  (pss_one (ps_ret pe_int))
  pss_nil)
  (pss_cons (ps_set (i := 2) sc__law_draw.nd rfl (Or.inl rfl) (pe_ix (ix_listK (K := K)) (pv 0) pe_int (fun _ _ => rfl)))
  (pss_cons (ps_while PassesOwn.never (PW.pt (pw_and (pt_cmpR op_gt (pe_callB (call_lenK (K := K)) (by rfl) T.mg_len PySem.boot_len (pa_cons (pv 2) pa_nil)) pe_int (nomark _)) (pw_and1 (pt_cmpR op_eq (pe_ix (ix_listK (K := K)) (pv 2) pe_int (fun _ _ => rfl)) pe_int (nomark _)))))
  (pss_one (ps_expr (pe_bmK (K := K) PySem.F.plainAttrs_list PySem.F.slot_list_pop PySem.F.type_list_pop mt_popAt (pv 2) (pa_cons pe_int pa_nil)))))
  (pss_cons (ps_if (pt_cmpR op_gt (pe_callB (call_lenK (K := K)) (by rfl) T.mg_len PySem.boot_len (pa_cons (pv 2) pa_nil)) pe_int (nomark _))
  (pss_cons (ps_set (i := 3) sc__law_draw.nd rfl (Or.inl rfl) (pe_ix (ix_listK (K := K)) (pv 2) pe_int (fun _ _ => rfl)))
  (pss_cons (ps_asg (pe_op op_fdivW (pv 3) (pv 1)) (pg_sub (pv 2) pe_int set_list))
  (pss_one (ps_ret (pe_op op_mod (pe_callTy call_intQ (by rfl) T.mg_int (by decide +kernel) (pa_cons (pv 3) pa_nil)) (pv 1))))))
  pss_nil)
  (pss_cons (ps_set (i := 4) sc__law_draw.nd rfl (Or.inl rfl) (pe_op op_mod (pe_callTy call_intQ (by rfl) T.mg_int (by decide +kernel) (pa_cons (pe_op op_add (pe_op op_mul (pe_ix (ix_listK (K := K)) (pv 0) pe_int (fun _ _ => rfl)) pe_int) pe_int) pa_nil)) pe_int))
  (pss_cons (ps_asg (pv 4) (pg_sub (pv 0) pe_int set_list))
  (pss_one (ps_ret (pe_op op_mod (pe_callTy call_intQ (by rfl) T.mg_int (by decide +kernel) (pa_cons (pe_op op_fdivW (pv 4) pe_int) pa_nil)) (pv 1)))))))))), ?_⟩
    walk_at "ss"
    refine ifd (fun h => ?_) (fun h => ?_)
    · walk_at "ss"
      exact k 0 m cells _ hs ⟨hm0, hm1, hl⟩ (fun _ => rfl) (fun q => by omega)
    walk_at "ss"
    refine w_while (fun n σ H' => ∃ cells : List Int, σ = [some (.ref s), some (.int many), some (.ref c), none, none] ∧ cells.length = n ∧ cells.length ≤ 1000 ∧ Hs B [(s, sto c m), (c, clo cells)] H') cells.length ⟨cells, rfl, rfl, hl, hs⟩ ?_
    clear hs
    clear hl cells
    rintro n σ H' ⟨cells, rfl, hn, hl, hs⟩
    walk_at "ss"
    cases cells with
    | nil =>
      show if decide ((0 : Int) < ((0 : Nat) : Int)) = true then _ else _
      refine iteF ?_
      try (with_reducible refine iteF ?_)
      walk_at "ss"
      refine iteF ?_
      walk_at "ss"
      rename_i H2 hs2
      clear hs
      have e1 : 0 ≤ (m * 48271 + 12345) % 2147483647 := Int.emod_nonneg _ (by decide)
      have e2 : (m * 48271 + 12345) % 2147483647 < 2147483647 := Int.emod_lt_of_pos _ (by decide)
      generalize (m * 48271 + 12345) % 2147483647 = mm at e1 e2 hs2 ⊢
      refine w_I ⟨by decide, by decide⟩ ?_
      walk_at "ss"
      refine k _ mm [] _ hs2 ⟨e1, by omega, by decide⟩ (fun q => by omega) fun q => ⟨Int.emod_nonneg _ (by omega), Int.emod_lt_of_pos _ (by omega)⟩
    | cons z cells =>
      refine ifd (fun _ => ?_) (fun q => absurd (show (0 : Int) < _ from by simp only [List.map_cons, List.length_cons]; omega) q)
      walk_at "ss"
      refine ifd (fun hz => ?_) (fun hz => ?_)
      · walk_at "ss"
        refine w_popAt (k := 0) hs (by walk_at "p") rfl rfl (by walk_at "z") fun H2 hs2 => ?_
        rw [List.length_cons] at hl hn
        exact ⟨cells.length, by omega, cells, rfl, rfl, by omega, hs2⟩
      · walk_at "ss"
        refine ifd (fun _ => ?_) (fun q => absurd (show (0 : Int) < _ from by simp only [List.map_cons, List.length_cons]; omega) q)
        walk_at "ss"
        refine w_I ⟨by omega, ?_⟩ ?_
        · refine PySem.Flt.log2_lt_of (by decide) (Nat.lt_of_lt_of_le (show many.natAbs < 2 ^ 30 by omega) (Nat.pow_le_pow_right (by decide) (by decide)))
        walk_at "ss"
        rename_i H2 hs2
        refine k _ m ((z / many) :: cells) _ hs2 ⟨hm0, hm1, by simpa using hl⟩ (fun q => by omega) fun q => ⟨Int.emod_nonneg _ (by omega), Int.emod_lt_of_pos _ (by omega)⟩

theorem w_draw {B H : Hp} {Q : VK} {E : XK} {s c : Addr} {m many : Int} {cells : List Int} {R : List (Addr × HO)} (hs : Hs B ((s, sto c m) :: (c, clo cells) :: R) H) (g : Good m cells) (hm : many < 1000000000)
    (q : ∀ r m' cells' H', Hs B ((s, sto c m') :: (c, clo cells') :: R) H' → Good m' cells' → (many < 1 → r = 0) → (1 ≤ many → 0 ≤ r ∧ r < many) → Q (.int r) H') : sp__law_draw [.ref s, .int many] H Q E := by
  obtain ⟨B', _, h1, back⟩ := hs.frame2
  exact ⟨B', s, c, m, many, cells, rfl, h1, g, hm, fun r m' cells' H' h2 => q r m' cells' H' (back _ _ h2)⟩
/-! ## what the law's makers promise: what they make is new, or was given -/
def mix (G B B2 : Hp) : Hp := fun p => if B p = none then B2 p else G p
theorem mix_new {G B B2 : Hp} {p : Addr} (h : B p = none) : mix G B B2 p = B2 p := if_pos h
theorem mix_old {G B B2 : Hp} (e : Same G B) : Same G (mix G B B2) := fun b o h => by
  unfold mix
  rw [if_neg (by rw [e _ _ h]; simp)]
  exact h
theorem mix_mono {G B B2 B3 : Hp} (e : Same B2 B3) : Same (mix G B B2) (mix G B B3) := fun b o h => by
  unfold mix at h ⊢
  by_cases hb : B b = none
  · rw [if_pos hb] at h ⊢
    exact e _ _ h
  · rw [if_neg hb] at h ⊢
    exact h
theorem mix_le {G B B2 : Hp} (e : Same G B) (s : Same B B2) : Same (mix G B B2) B2 := fun b o h => by
  unfold mix at h
  by_cases hb : B b = none
  · rw [if_pos hb] at h
    exact h
  · rw [if_neg hb] at h
    exact s _ _ (e _ _ h)
theorem frz_mix {G B B1 H : Hp} {p : Addr} {o : HO} {L : List (Addr × HO)} (e : Same B B1) (hs : Hs B1 ((p, o) :: L) H) : ∃ B2, Same B1 B2 ∧ mix G B B2 p = some o ∧ Same (mix G B B1) (mix G B B2) ∧ Hs B2 L H := by
  obtain ⟨B2, sm, hp, hs2⟩ := frz_hs hs
  refine ⟨B2, sm, ?_, mix_mono sm, hs2⟩
  rw [mix_new (e.free (hs.out _ List.mem_cons_self))]
  exact hp
def spS {γ : Type} (ar : γ → Hp → List V → Prop) (Post : γ → Hp → V → Prop) : Sp := fun vs H Q _ => ∃ (x : γ) (G B : Hp) (s c : Addr) (m : Int) (cells : List Int) (args : List V), vs = .ref s :: args ∧ Same G B ∧ Hs B [(s, sto c m), (c, clo cells)] H ∧ Good m cells ∧ ar x G args ∧
  ∀ B2 v m' cells' H', Same B B2 → Hs B2 [(s, sto c m'), (c, clo cells')] H' → Good m' cells' → Post x (mix G B B2) v → Q v H'
theorem w_spS {γ : Type} {ar : γ → Hp → List V → Prop} {Post : γ → Hp → V → Prop} (x : γ) {B H : Hp} {Q : VK} {E : XK} {s c : Addr} {m : Int} {cells : List Int} {R : List (Addr × HO)} {args : List V} (hs : Hs B ((s, sto c m) :: (c, clo cells) :: R) H) (g : Good m cells) (ha : ar x B args)
    (hm : ∀ H1 H2 v, Same H1 H2 → Post x H1 v → Post x H2 v)
    (q : ∀ B2 v m' cells' H', Same B B2 → Hs B2 ((s, sto c m') :: (c, clo cells') :: R) H' → Good m' cells' → Post x B2 v → Q v H') : spS ar Post (.ref s :: args) H Q E := by
  have fr : ∃ B', B' = around [(s, sto c m), (c, clo cells)] H ∧ Same B B' ∧ Hs B' [(s, sto c m), (c, clo cells)] H ∧ ∀ A' H', Hs B' A' H' → Hs B (A' ++ R) H' := ⟨_, rfl, hs.frame [(s, sto c m), (c, clo cells)]⟩
  obtain ⟨B', eB, smB, h1, back⟩ := fr
  refine ⟨x, B, B', s, c, m, cells, args, rfl, smB, h1, g, ha, fun B2 v m' cells' H' sm h2 g2 post => ?_⟩
  have nd := hs.nd
  have hRB : ∀ e ∈ R, B' e.1 = some e.2 := fun e he => by
    have nm : e.1 ∉ [(s, sto c m), (c, clo cells)].map (·.1) := fun z => by
      rw [List.map_cons, List.map_cons, List.nodup_cons, List.nodup_cons] at nd
      have h3 : e.1 ∈ R.map (·.1) := List.mem_map.mpr ⟨e, he, rfl⟩
      rcases List.mem_cons.mp z with z | z
      · rw [z] at h3
        exact nd.1 (List.mem_cons_of_mem _ h3)
      · rw [List.mem_singleton.mp z] at h3
        exact nd.2.1 h3
    rw [eB, around_out nm]
    exact hs.at_ e (List.mem_cons_of_mem _ (List.mem_cons_of_mem _ he))
  have hb := back _ _ (Hs.base sm h2)
  have hmix : Same (mix B B' B2) (around R B2) := fun p o hp => by
    rw [around_out fun z => ?_]
    · exact mix_le smB sm _ _ hp
    · obtain ⟨e, he, rfl⟩ := List.mem_map.mp z
      unfold mix at hp
      rw [if_neg (by rw [hRB e he]; simp)] at hp
      have := hs.out e (List.mem_cons_of_mem _ (List.mem_cons_of_mem _ he))
      rw [this] at hp
      cases hp
  refine q (around R B2) v m' cells' H' (fun b o e => hmix _ _ (mix_old smB _ _ e)) ⟨fun b o e => ?_, hb.nd, fun e he => ?_, hb.at_⟩ g2 (hm _ _ _ hmix post)
  · unfold around at e
    split at e
    · cases e
    · exact h2.same _ _ e
  · rcases List.mem_append.mp (show e ∈ [(s, sto c m'), (c, clo cells')] ++ R from he) with he | he
    · unfold around
      split
      · rfl
      · exact h2.out e he
    · unfold around
      rw [if_pos (List.mem_map.mpr ⟨e, he, rfl⟩)]
/-- the same, seen from a maker -/
theorem w_spM {γ : Type} {ar : γ → Hp → List V → Prop} {Post : γ → Hp → V → Prop} (x : γ) {G B0 B H : Hp} {Q : VK} {E : XK} {s c : Addr} {m : Int} {cells : List Int} {R : List (Addr × HO)} {args : List V} (eG : Same G B0) (e0 : Same B0 B) (hs : Hs B ((s, sto c m) :: (c, clo cells) :: R) H) (g : Good m cells) (ha : ar x (mix G B0 B) args)
    (hm : ∀ H1 H2 v, Same H1 H2 → Post x H1 v → Post x H2 v)
    (q : ∀ B2 v m' cells' H', Same B B2 → Hs B2 ((s, sto c m') :: (c, clo cells') :: R) H' → Good m' cells' → Post x (mix G B0 B2) v → Q v H') : spS ar Post (.ref s :: args) H Q E := by
  have fr : ∃ B', B' = around [(s, sto c m), (c, clo cells)] H ∧ Same B B' ∧ Hs B' [(s, sto c m), (c, clo cells)] H ∧ ∀ A' H', Hs B' A' H' → Hs B (A' ++ R) H' := ⟨_, rfl, hs.frame [(s, sto c m), (c, clo cells)]⟩
  obtain ⟨B', eB, smB, h1, back⟩ := fr
  have eM : Same (mix G B0 B) B := mix_le eG e0
  refine ⟨x, mix G B0 B, B', s, c, m, cells, args, rfl, eM.trans smB, h1, g, ha, fun B2 v m' cells' H' sm h2 g2 post => ?_⟩
  have nd := hs.nd
  have hRB : ∀ e ∈ R, B' e.1 = some e.2 := fun e he => by
    have nm : e.1 ∉ [(s, sto c m), (c, clo cells)].map (·.1) := fun z => by
      rw [List.map_cons, List.map_cons, List.nodup_cons, List.nodup_cons] at nd
      have h3 : e.1 ∈ R.map (·.1) := List.mem_map.mpr ⟨e, he, rfl⟩
      rcases List.mem_cons.mp z with z | z
      · rw [z] at h3
        exact nd.1 (List.mem_cons_of_mem _ h3)
      · rw [List.mem_singleton.mp z] at h3
        exact nd.2.1 h3
    rw [eB, around_out nm]
    exact hs.at_ e (List.mem_cons_of_mem _ (List.mem_cons_of_mem _ he))
  have hb := back _ _ (Hs.base sm h2)
  have outR : ∀ p o, B p = some o → p ∉ R.map (·.1) := fun p o hp z => by
    obtain ⟨e, he, rfl⟩ := List.mem_map.mp z
    have := hs.out e (List.mem_cons_of_mem _ (List.mem_cons_of_mem _ he))
    rw [this] at hp
    cases hp
  have sBB : Same B (around R B2) := fun b o e => by
    rw [around_out (outR b o e)]
    exact sm _ _ (smB _ _ e)
  have hmix : Same (mix (mix G B0 B) B' B2) (mix G B0 (around R B2)) := fun p o hp => by
    by_cases hB : B' p = none
    · rw [mix_new hB] at hp
      have hp0 : B0 p = none := e0.free (smB.free hB)
      rw [mix_new hp0, around_out fun z => ?_]
      · exact hp
      · obtain ⟨e, he, rfl⟩ := List.mem_map.mp z
        rw [hRB e he] at hB
        cases hB
    · have e1 : mix (mix G B0 B) B' B2 p = mix G B0 B p := if_neg hB
      rw [e1] at hp
      exact mix_mono sBB _ _ hp
  refine q (around R B2) v m' cells' H' sBB ⟨fun b o e => ?_, hb.nd, fun e he => ?_, hb.at_⟩ g2 (hm _ _ _ hmix post)
  · unfold around at e
    split at e
    · cases e
    · exact h2.same _ _ e
  · rcases List.mem_append.mp (show e ∈ [(s, sto c m'), (c, clo cells')] ++ R from he) with he | he
    · unfold around
      split
      · rfl
      · exact h2.out e he
    · unfold around
      rw [if_pos (List.mem_map.mpr ⟨e, he, rfl⟩)]
/-! ## picking -/
def arPick (xs : List V) (G : Hp) (args : List V) : Prop := ∃ r : Addr, args = [.ref r] ∧ G r = some (.lst xs) ∧ xs ≠ [] ∧ xs.length ≤ 1000
abbrev sp__law_pick : Sp := spS arPick fun xs _ v => v ∈ xs
theorem ok__law_pick (T : Txt w K mg a) : FnOk P w K mg base CX0 2 a._law_pick a.fd__law_pick ["state", "row"] sp__law_pick := by
  have G__law_draw := ok__law_draw (P := P) (w := w) (base := base) T
  refine T.fn__law_pick.ok sc__law_pick (fun vs H Q E h => ?_) (fun cdv A outer s H vs Q E hr h => ?_)
  · obtain ⟨_, _, _, _, _, _, _, _, rfl, _, _, _, ⟨_, rfl, _⟩, _⟩ := h
    rfl
  · obtain ⟨xs, G, B, s, c, m, cells, _, rfl, sG, hs, g, ⟨r, rfl, hr1, hne, hl⟩, k⟩ := h
    refine ⟨_, (pss_one (ps_ret (pe_ix (ix_listK (K := K)) (pv 1) (pe_call G__law_draw (hr.mono (by first | decide | omega)) rfl T.mg__law_draw T.kp__law_draw T.bi__law_draw .nil pass0 (pa_cons (pv 0) (pa_cons (pe_callB (call_lenK (K := K)) (by rfl) T.mg_len PySem.boot_len (pa_cons (pv 1) pa_nil)) pa_nil))) (fun _ _ => rfl)))), ?_⟩
    have hrB : B r = some (.lst xs) := sG _ _ hr1
    walk_at "ss"
    have hpos : 0 < xs.length := List.length_pos_iff.mpr hne
    refine w_draw hs g (by omega) fun d m2 cells2 H2 hs2 g2 _ hd => ?_
    clear hs
    obtain ⟨d0, d1⟩ := hd (by omega)
    have hin : d.toNat < xs.length := by omega
    have ea : atI xs d = some xs[d.toNat] := at_of (j := d.toNat) (by omega) (List.getElem?_eq_getElem hin)
    refine w_ixL (SqL.of (hs2.same _ _ hrB)) ea ?_
    walk_at "ss"
    exact k B _ m2 cells2 H2 (Same.refl _) hs2 g2 (List.getElem_mem hin)
/-- a pick from a row that is one's own and new -/
theorem w_pick {B H : Hp} {Q : VK} {E : XK} {s c r : Addr} {m : Int} {cells : List Int} {xs : List V} {R : List (Addr × HO)} (hs : Hs B ((r, .lst xs) :: (s, sto c m) :: (c, clo cells) :: R) H) (g : Good m cells) (hne : xs ≠ []) (hl : xs.length ≤ 1000)
    (q : ∀ (x : V) m' cells' H', x ∈ xs → Hs B ((s, sto c m') :: (c, clo cells') :: R) H' → Good m' cells' → Q x H') : sp__law_pick [.ref s, .ref r] H Q E := by
  obtain ⟨B1, sm1, h1, hs1⟩ := frz_hs hs
  exact w_spS xs hs1 g ⟨r, rfl, h1, hne, hl⟩ (fun _ _ _ _ h => h) fun B2 v m' cells' H' sm2 hs2 g2 hv => q v m' cells' H' hv (Hs.base (sm1.trans sm2) hs2) g2
end
local macro_rules | `(tactic| walk_at "v") => `(tactic| first | exact v0 | exact v1 | exact v2 | exact v3 | exact v4 | exact v5 | exact v6 | exact v7 | exact v8)
local macro_rules | `(tactic| walk_at "vs") => `(tactic| first | exact st0 | exact st1 | exact st2 | exact st3 | exact st4 | exact st5 | exact st6 | exact st7 | exact st8)
local macro_rules | `(tactic| walk_at "s") => `(tactic| first
  | with_reducible refine w_dget ?_
  | ((with_reducible refine' w_dgetZ ?h ?nd ?hk ?hv ?_); (case h => walk_at "g"); (case nd => walk_at "nd"); (case hk => walk_at "k"); (case hv => walk_at "v"))
  | ((with_reducible refine' w_dputZ ?hs ?h ?nd ?hk ?hv ?hu ?hl ?_); (case hs => assumption); (case h => walk_at "p"); (case nd => walk_at "nd"); (case hk => walk_at "k"); (case hv => walk_at "v"); (case hu => walk_at "vs"); (case hl => decide); intro _ _)
  | with_reducible refine w_gsub ?_
  | with_reducible refine w_setD ?_
  | with_reducible refine w_disp ?_
  | ((with_reducible refine' w_newP ?hs ?_); (case hs => assumption); intro _ _ _)
  | with_reducible refine w_pcons ?_
  | with_reducible refine w_pnil ?_)

local macro_rules | `(tactic| walk_at "s") => `(tactic| first
  | with_reducible refine w_nget ?_
  | with_reducible refine w_nin ?_
  | with_reducible refine w_nnot ?_
  | with_reducible refine w_nput ?_
  | with_reducible refine w_ndel ?_
  | with_reducible refine w_npop ?_
  | ((with_reducible refine' w_nnew ?hs ?_); (case hs => assumption); intro _ _ _))

def arNone (_ : Unit) (_ : Hp) (args : List V) : Prop := args = []
section
variable {P : Program} [IsP P] {w : World} {K : PySem.W.Frag} {mg : Str → Option Value} {base : Heap} {a : Ad}
abbrev sp__law_test : Sp := spS arNone fun _ H v => ∃ t, TstAt H v t
theorem ok__law_test (T : Txt w K mg a) : FnOk P w K mg base CX0 3 a._law_test a.fd__law_test ["state"] sp__law_test := by
  have G__law_draw := ok__law_draw (P := P) (w := w) (base := base) T
  have G__law_pick := ok__law_pick (P := P) (w := w) (base := base) T
  refine T.fn__law_test.ok sc__law_test (fun vs H Q E h => ?_) (fun cdv A outer s H vs Q E hr h => ?_)
  · obtain ⟨_, _, _, _, _, _, _, _, rfl, _, _, _, rfl, _⟩ := h
    rfl
  · obtain ⟨_, G, B, s, c, m, cells, _, rfl, sG, hs, g, rfl, k⟩ := h
    refine ⟨_, (pss_cons (ps_set (i := 1) sc__law_test.nd rfl (Or.inl rfl) (pe_call G__law_draw (hr.mono (by first | decide | omega)) rfl T.mg__law_draw T.kp__law_draw T.bi__law_draw .nil pass0 (pa_cons (pv 0) (pa_cons pe_int pa_nil))))
  (pss_cons (ps_if (pt_cmpR op_eq (pv 1) pe_int (nomark _))
  (pss_one (ps_ret (pe_tup (pa_cons pe_str (pa_cons (pe_tup (pa_cons pe_str (pa_cons (pe_call G__law_pick (hr.mono (by first | decide | omega)) rfl T.mg__law_pick T.kp__law_pick T.bi__law_pick .nil pass0 (pa_cons (pv 0) (pa_cons (pe_lst (pa_cons pe_str (pa_cons pe_str pa_nil))) pa_nil))) (pa_cons (pe_call G__law_draw (hr.mono (by first | decide | omega)) rfl T.mg__law_draw T.kp__law_draw T.bi__law_draw .nil pass0 (pa_cons (pv 0) (pa_cons pe_int pa_nil))) pa_nil)))) pa_nil)))))
  pss_nil)
  (pss_cons (ps_if (pt_cmpR op_eq (pv 1) pe_int (nomark _))
  (pss_one (ps_ret (pe_tup (pa_cons pe_str (pa_cons (pe_lst pa_nil) pa_nil)))))
  pss_nil)
  (pss_cons (ps_set (i := 2) sc__law_test.nd rfl (Or.inl rfl) (pe_call G__law_pick (hr.mono (by first | decide | omega)) rfl T.mg__law_pick T.kp__law_pick T.bi__law_pick .nil pass0 (pa_cons (pv 0) (pa_cons (pe_lst (pa_cons pe_str (pa_cons pe_str (pa_cons pe_str (pa_cons pe_str (pa_cons pe_str pa_nil)))))) pa_nil))))
  (pss_cons (ps_set (i := 3) sc__law_test.nd rfl (Or.inl rfl) (pe_call G__law_draw (hr.mono (by first | decide | omega)) rfl T.mg__law_draw T.kp__law_draw T.bi__law_draw .nil pass0 (pa_cons (pv 0) (pa_cons pe_int pa_nil))))
  (pss_one (ps_ret (pe_tup (pa_cons pe_str (pa_cons (pv 2) (pa_cons (pe_ifExp (pt_cmpR op_eq (pv 2) pe_str (nomark _)) (pe_callB (call_maxQ rfl) (by rfl) T.mg_max (by decide +kernel) (pa_cons pe_int (pa_cons (pv 3) pa_nil))) (pv 3)) pa_nil))))))))))), ?_⟩
    walk_at "ss"
    refine w_draw hs g (by omega) fun kd m1 c1 H1 hs1 g1 _ _ => ?_
    clear hs g
    walk_at "ss"
    refine ifd (fun h0 => ?_) (fun h0 => ?_)
    · walk_at "ss"
      rename_i l0 H2 hs2
      clear hs1
      refine w_pick hs2 g1 (by simp) (by simp) fun x m2 c2 H3 hx hs3 g2 => ?_
      clear hs2 g1
      obtain ⟨f, hf, rfl⟩ : ∃ f, f < 5 ∧ x = .str (fldN f) := by
        simp only [List.mem_cons, List.not_mem_nil, or_false] at hx
        rcases hx with rfl | rfl
        · exact ⟨2, by decide, rfl⟩
        · exact ⟨4, by decide, rfl⟩
      walk_at "ss"
      refine w_draw hs3 g2 (by omega) fun n m3 c3 H4 hs4 g3 _ _ => ?_
      clear hs3 g2
      walk_at "ss"
      rename_i ti H5 _ tn H6 hs6
      clear hs4
      obtain ⟨B1, sm1, h1, mm1, hs7⟩ := frz_mix (G := G) (Same.refl B) hs6
      obtain ⟨B2, sm2, h2, mm2, hs8⟩ := frz_mix (G := G) sm1 hs7
      exact k B2 _ m3 c3 H6 (sm1.trans sm2) hs8 g3 ⟨.neg f n, tn, _, rfl, mm2 _ _ h1, ti, rfl, h2, hf⟩
    · walk_at "ss"
      refine ifd (fun h1 => ?_) (fun h1 => ?_)
      · walk_at "ss"
        rename_i l0 H2 _ tn H3 hs3
        clear hs1
        obtain ⟨B1, sm1, h1, mm1, hs7⟩ := frz_mix (G := G) (Same.refl B) hs3
        obtain ⟨B2, sm2, h2, mm2, hs8⟩ := frz_mix (G := G) sm1 hs7
        exact k B2 _ m1 c1 H3 (sm1.trans sm2) hs8 g1 ⟨.all [], tn, l0, [], rfl, mm2 _ _ h1, h2, Row.nil, Nat.zero_le _⟩
      · walk_at "ss"
        rename_i l0 H2 hs2
        clear hs1
        refine w_pick hs2 g1 (by simp) (by simp) fun x m2 c2 H3 hx hs3 g2 => ?_
        clear hs2 g1
        obtain ⟨f, hf, rfl⟩ : ∃ f, f < 5 ∧ x = .str (fldN f) := by
          simp only [List.mem_cons, List.not_mem_nil, or_false] at hx
          rcases hx with rfl | rfl | rfl | rfl | rfl
          · exact ⟨0, by decide, rfl⟩
          · exact ⟨1, by decide, rfl⟩
          · exact ⟨2, by decide, rfl⟩
          · exact ⟨3, by decide, rfl⟩
          · exact ⟨4, by decide, rfl⟩
        walk_at "ss"
        refine w_draw hs3 g2 (by omega) fun n m3 c3 H4 hs4 g3 _ _ => ?_
        clear hs3 g2
        walk_at "ss"
        have fin : ∀ (n : Int) (t : Addr) (H6 : Hp), Hs B ((t, .tup [.str "is", .str (fldN f), .int n]) :: (s, sto c m3) :: (c, clo c3) :: []) H6 → Q (.ref t) H6 := fun n t H6 hs6 => by
          obtain ⟨B1, sm1, h1, mm1, hs7⟩ := frz_mix (G := G) (Same.refl B) hs6
          exact k B1 _ m3 c3 H6 sm1 hs7 g3 ⟨.is f n, t, rfl, h1, hf⟩
        refine ifd (fun h2 => ?_) (fun h2 => ?_)
        · walk_at "ss"
          exact fin _ _ _ (by assumption)
        · walk_at "ss"
          exact fin _ _ _ (by assumption)
/-- what a law's policy is -/
def ActB : Act → Prop
  | .test _ => True
  | .set _ n => 0 ≤ n ∧ n ≤ 100
def PartB : Part → Prop
  | .act _ => False
  | .seq xs => ∀ x ∈ xs, ActB x
abbrev sp__law_policy : Sp := spS arNone fun _ H v => ∃ ps, PolAt H v ps ∧ (∀ p ∈ ps, PartB p) ∧ ps.length ≤ 3
theorem ok__law_policy (T : Txt w K mg a) : FnOk P w K mg base CX0 4 a._law_policy a.fd__law_policy ["state"] sp__law_policy := by
  have G__law_draw := ok__law_draw (P := P) (w := w) (base := base) T
  have G__law_pick := ok__law_pick (P := P) (w := w) (base := base) T
  have G__law_test := ok__law_test (P := P) (w := w) (base := base) T
  refine T.fn__law_policy.ok sc__law_policy (fun vs H Q E h => ?_) (fun cdv A outer s H vs Q E hr h => ?_)
  · obtain ⟨_, _, _, _, _, _, _, _, rfl, _, _, _, rfl, _⟩ := h
    rfl
  · obtain ⟨_, G, B, s, c, m, cells, _, rfl, sG, hs, g, rfl, k⟩ := h
    refine ⟨_, (pss_cons (ps_set (i := 1) sc__law_policy.nd rfl (Or.inl rfl) (pe_lst pa_nil))
  (pss_cons (ps_for PassesOwn.never rfl (pi_range1 rfl T.mg_range (pa_cons (pe_op op_add pe_int (pe_call G__law_draw (hr.mono (by first | decide | omega)) rfl T.mg__law_draw T.kp__law_draw T.bi__law_draw .nil pass0 (pa_cons (pv 0) (pa_cons pe_int pa_nil)))) pa_nil)) (pg_name (i := 2) sc__law_policy.nd rfl (Or.inl rfl))
  (pss_cons (ps_set (i := 3) sc__law_policy.nd rfl (Or.inl rfl) (pe_lst (pa_cons (pe_tup (pa_cons pe_str (pa_cons (pe_call G__law_test (hr.mono (by first | decide | omega)) rfl T.mg__law_test T.kp__law_test T.bi__law_test .nil pass0 (pa_cons (pv 0) pa_nil)) pa_nil))) pa_nil)))
  (C8.pss_cut (ps_if (pt_cmpR op_eq (pe_call G__law_draw (hr.mono (by first | decide | omega)) rfl T.mg__law_draw T.kp__law_draw T.bi__law_draw .nil pass0 (pa_cons (pv 0) (pa_cons pe_int pa_nil))) pe_int (nomark _))
  (pss_one (ps_expr (pe_bmK (K := K) PySem.F.plainAttrs_list PySem.F.slot_list_append PySem.F.type_list_append mt_append (pv 3) (pa_cons (pe_tup (pa_cons pe_str (pa_cons (pe_call G__law_pick (hr.mono (by first | decide | omega)) rfl T.mg__law_pick T.kp__law_pick T.bi__law_pick .nil pass0 (pa_cons (pv 0) (pa_cons (pe_lst (pa_cons pe_str (pa_cons pe_str (pa_cons pe_str pa_nil)))) pa_nil))) (pa_cons (pe_call G__law_draw (hr.mono (by first | decide | omega)) rfl T.mg__law_draw T.kp__law_draw T.bi__law_draw .nil pass0 (pa_cons (pv 0) (pa_cons pe_int pa_nil))) pa_nil)))) pa_nil))))
  pss_nil)
  (pss_cons (ps_expr (pe_bmK (K := K) PySem.F.plainAttrs_list PySem.F.slot_list_append PySem.F.type_list_append mt_append (pv 3) (pa_cons (pe_tup (pa_cons pe_str (pa_cons pe_str (pa_cons (pe_call G__law_draw (hr.mono (by first | decide | omega)) rfl T.mg__law_draw T.kp__law_draw T.bi__law_draw .nil pass0 (pa_cons (pv 0) (pa_cons pe_int pa_nil))) pa_nil)))) pa_nil)))
  (pss_one (ps_expr (pe_bmK (K := K) PySem.F.plainAttrs_list PySem.F.slot_list_append PySem.F.type_list_append mt_append (pv 1) (pa_cons (pe_tup (pa_cons pe_str (pa_cons (pv 3) pa_nil))) pa_nil))))))))
  (pss_one (ps_ret (pe_tup (pa_cons pe_str (pa_cons (pv 1) pa_nil))))))), ?_⟩
    walk_at "ss"
    rename_i lp H1 hs1
    clear hs
    refine w_for1 ?_
    walk_at "ss"
    refine w_draw hs1.m2.m2 g (by omega) fun d m1 c1 H2 hs2 g1 _ hd => ?_
    obtain ⟨d0, d1⟩ := hd (by omega)
    clear hs1 g
    walk_at "ss"
    refine w_forR (n := 1 + d) (by omega) (fun i σ' H' => ∃ (B2 : Hp) (m : Int) (cells : List Int) (us : List V) (ps : List Part) (v2 v3 : Option V), σ' = [some (.ref s), some (.ref lp), v2, v3] ∧ Same B B2 ∧ Hs B2 [(s, sto c m), (c, clo cells), (lp, .lst us)] H' ∧ Good m cells ∧ Row (PartAt (mix G B B2)) us ps ∧ (∀ p ∈ ps, PartB p) ∧ ps.length = i)
      (fun Q' q => q) (by omega) ⟨B, m1, c1, [], [], none, none, rfl, Same.refl _, hs2, g1, Row.nil, (fun _ z => nomatch z), rfl⟩ ?_ ?_
    · clear hs2 g1
      clear m1 c1 m cells
      rintro i σ' H3 hi ⟨B2, m, cells, us, ps, v2, v3, rfl, sm, hs3, g3, hro, hB, hlen⟩
      have hi3 : (i : Int) < 3 := by omega
      walk_at "ss"
      refine w_spM () sG sm hs3 g3 rfl (fun _ _ _ e ⟨t, h⟩ => ⟨t, h.same e⟩) fun B3 v m2 c2 H4 sm3 hs4 g4 ⟨t, ht⟩ => ?_
      clear hs3 g3
      have hro3 := hro.mono fun _ _ => PartAt.same (mix_mono (G := G) (B := B) sm3)
      have sm03 := sm.trans sm3
      walk_at "ss"
      rename_i tt H5 _ lr H6 hs6
      clear hs4
      -- the row is one's own; its first act stands
      obtain ⟨B4, sm4, htt, mm4, hs7⟩ := frz_mix (G := G) sm03 hs6.m1
      have hact : ActAt (mix G B B4) (.ref tt) (.test t) := ⟨tt, v, rfl, htt, ht.same mm4⟩
      have hro4 := hro3.mono fun _ _ => PartAt.same mm4
      have sm04 := sm03.trans sm4
      clear hs6 hro hro3
      refine w_cut (fun σ' H' => ∃ (B5 : Hp) (m : Int) (cells : List Int) (rs : List V) (xs : List Act), σ' = [some (.ref s), some (.ref lp), some (.int (i : Int)), some (.ref lr)] ∧ Same B B5 ∧ Hs B5 [(s, sto c m), (c, clo cells), (lp, .lst us), (lr, .lst rs)] H' ∧ Good m cells ∧ Row (PartAt (mix G B B5)) us ps ∧ Row (ActAt (mix G B B5)) rs xs ∧ (∀ x ∈ xs, ActB x) ∧ rs.length ≤ 2) ?_ ?_
      · walk_at "ss"
        have hs8 := hs7.m3.m3.m3
        clear hs7
        refine w_draw hs8 g4 (by omega) fun d2 m5 c5 H7 hs9 g5 _ _ => ?_
        clear hs8 g4
        walk_at "ss"
        refine ifd (fun h0 => ?_) (fun h0 => ?_)
        · walk_at "ss"
          rename_i l0 H8 hs10
          clear hs9
          refine w_pick hs10 g5 (by simp) (by simp) fun x m6 c6 H9 hx hs11 g6 => ?_
          clear hs10 g5
          obtain ⟨f, hf, rfl⟩ : ∃ f, f < 5 ∧ x = .str (fldN f) := by
            simp only [List.mem_cons, List.not_mem_nil, or_false] at hx
            rcases hx with rfl | rfl | rfl
            · exact ⟨2, by decide, rfl⟩
            · exact ⟨3, by decide, rfl⟩
            · exact ⟨4, by decide, rfl⟩
          walk_at "ss"
          refine w_draw hs11 g6 (by omega) fun n m7 c7 H10 hs12 g7 _ hn => ?_
          obtain ⟨n0, n1⟩ := hn (by omega)
          clear hs11 g6
          walk_at "ss"
          rename_i t3 H11 _ H12 hs13
          clear hs12
          obtain ⟨B5, sm5, ht3, mm5, hs14⟩ := frz_mix (G := G) sm04 hs13
          exact ⟨B5, m7, c7, [.ref tt] ++ [.ref t3], [.test t] ++ [.set f n], rfl, sm04.trans sm5, hs14, g7, hro4.mono fun _ _ => PartAt.same mm5, (Row.cons (hact.same mm5) Row.nil).snoc (show ActAt _ _ (.set f n) from ⟨t3, rfl, ht3, hf⟩), fun x hx => by
            rcases List.mem_append.mp hx with hx | hx
            · rw [List.mem_singleton.mp hx]
              exact True.intro
            · rw [List.mem_singleton.mp hx]
              exact ⟨n0, by omega⟩, Nat.le_refl _⟩
        · walk_at "ss"
          exact ⟨B4, m5, c5, [.ref tt], [.test t], rfl, sm04, hs9, g5, hro4, Row.cons hact Row.nil, fun x hx => by
            rw [List.mem_singleton.mp hx]
            exact True.intro, (by decide : 1 ≤ 2)⟩
      · clear hs7 g4 hro4 hact
        rintro σ' H7 ⟨B5, m5, c5, rs, xs, rfl, sm5, hs8, g5, hro5, hra, hab, hrz⟩
        have huz : us.length ≤ 3 := by
          rw [hro5.1, hlen]
          omega
        walk_at "ss"
        refine w_draw hs8 g5 (by omega) fun n m7 c7 H10 hs12 g7 _ hn => ?_
        obtain ⟨n0, n1⟩ := hn (by omega)
        clear hs8 g5
        walk_at "ss"
        rename_i t3 H11 _ H12 _ t4 H13 _ H14 hs15
        clear hs12
        -- the tuples, then the row itself stand
        have hs16 : Hs B5 ((t4, .tup [.str "seq", .ref lr]) :: (t3, .tup [.str "set", .str "port", .int n]) :: (s, sto c m7) :: (c, clo c7) :: (lp, .lst (us ++ [.ref t4])) :: (lr, .lst (rs ++ [.ref t3])) :: []) H14 := hs15
        obtain ⟨B6, sm6, ht4, mm6, hs17⟩ := frz_mix (G := G) sm5 hs16
        obtain ⟨B7, sm7, ht3, mm7, hs18⟩ := frz_mix (G := G) (sm5.trans sm6) hs17
        obtain ⟨B8, sm8, hlr, mm8, hs19⟩ := frz_mix (G := G) ((sm5.trans sm6).trans sm7) hs18.m3
        have mm68 := mm6.trans (mm7.trans mm8)
        have sm58 := sm6.trans (sm7.trans sm8)
        refine ⟨B8, m7, c7, us ++ [.ref t4], ps ++ [.seq (xs ++ [.set 1 n])], _, _, rfl, sm5.trans sm58, hs19, g7, (hro5.mono fun _ _ => PartAt.same mm68).snoc ?_, fun p hp => ?_, by rw [List.length_append, hlen]; rfl⟩
        · refine ⟨t4, lr, _, rfl, (mm7.trans mm8) _ _ ht4, hlr, (hra.mono fun _ _ => ActAt.same mm68).snoc (show ActAt _ _ (.set 1 n) from ⟨t3, rfl, mm8 _ _ ht3, by decide⟩), ?_⟩
          rw [List.length_append]
          have : ([V.ref t3] : List V).length = 1 := rfl
          omega
        · rcases List.mem_append.mp hp with hp | hp
          · exact hB p hp
          · rw [List.mem_singleton.mp hp]
            intro x hx
            rcases List.mem_append.mp hx with hx | hx
            · exact hab x hx
            · rw [List.mem_singleton.mp hx]
              exact ⟨n0, by omega⟩
    · clear hs2 g1
      rintro σ' H3 ⟨B2, m, cells, us, ps, v2, v3, rfl, sm, hs3, g3, hro, hB, hlen⟩
      walk_at "ss"
      rename_i t H4 hs4
      clear hs3
      obtain ⟨B3, sm3, ht, mm3, hs5⟩ := frz_mix (G := G) sm hs4
      obtain ⟨B4, sm4, hl, mm4, hs6⟩ := frz_mix (G := G) (sm.trans sm3) hs5.m2
      have mm := mm3.trans mm4
      have h3 : ps.length ≤ 3 := by omega
      refine k B4 _ m cells H4 (sm.trans (sm3.trans sm4)) hs6 g3 ⟨ps, ⟨t, lp, us, rfl, mm4 _ _ ht, hl, hro.mono fun _ _ => PartAt.same mm, ?_⟩, hB, h3⟩
      rw [hro.1]
      omega
end
local macro_rules | `(tactic| walk_at "v") => `(tactic| first | exact v0 | exact v1 | exact v2 | exact v3 | exact v4 | exact v5 | exact v6 | exact v7 | exact v8)
local macro_rules | `(tactic| walk_at "vs") => `(tactic| first | exact st0 | exact st1 | exact st2 | exact st3 | exact st4 | exact st5 | exact st6 | exact st7 | exact st8)
local macro_rules | `(tactic| walk_at "s") => `(tactic| first
  | with_reducible refine w_dget ?_
  | ((with_reducible refine' w_dgetZ ?h ?nd ?hk ?hv ?_); (case h => walk_at "g"); (case nd => walk_at "nd"); (case hk => walk_at "k"); (case hv => walk_at "v"))
  | ((with_reducible refine' w_dputZ ?hs ?h ?nd ?hk ?hv ?hu ?hl ?_); (case hs => assumption); (case h => walk_at "p"); (case nd => walk_at "nd"); (case hk => walk_at "k"); (case hv => walk_at "v"); (case hu => walk_at "vs"); (case hl => decide); intro _ _)
  | with_reducible refine w_gsub ?_
  | with_reducible refine w_setD ?_
  | with_reducible refine w_disp ?_
  | ((with_reducible refine' w_newP ?hs ?_); (case hs => assumption); intro _ _ _)
  | with_reducible refine w_pcons ?_
  | with_reducible refine w_pnil ?_)

local macro_rules | `(tactic| walk_at "s") => `(tactic| first
  | with_reducible refine w_nget ?_
  | with_reducible refine w_nin ?_
  | with_reducible refine w_nnot ?_
  | with_reducible refine w_nput ?_
  | with_reducible refine w_ndel ?_
  | with_reducible refine w_npop ?_
  | ((with_reducible refine' w_nnew ?hs ?_); (case hs => assumption); intro _ _ _))

def arInt (n : Int) (_ : Hp) (args : List V) : Prop := args = [.int n]
def EndB (x : E2) : Prop := 0 ≤ x.1 ∧ x.1 ≤ 100 ∧ 0 ≤ x.2 ∧ x.2 ≤ 100
def LkB (ls : List Lk) : Prop := ∀ l ∈ ls, EndB l.1 ∧ EndB l.2
def endK (x : E2) : IK := [.inl x.1, .inl x.2]
theorem kat_end {H : Hp} {p : Addr} {x : E2} (h : H p = some (endO x)) : KAt H p (endK x) := kat_ints (ns := [x.1, x.2]) h
theorem keyL_of {H : Hp} : ∀ {us : List V} {ls : List Lk}, LkL H us ls → Row (KeyAt H) us (ls.map itL)
  | _, _, .nil => Row.nil
  | _, _, .cons ⟨a, e, h⟩ t => Row.cons ⟨a, e, KAt.of h⟩ (keyL_of t)
theorem lkL_of {H : Hp} : ∀ {us : List V} {ls : List Lk}, Row (KeyAt H) us (ls.map itL) → LkL H us ls
  | [], [], _ => .nil
  | [], _ :: _, h => by cases h.1
  | _ :: _, [], h => by cases h.1
  | u :: us, l :: ls, h => by
    obtain ⟨a, e, hk⟩ := h.2 0 u (itL l) rfl rfl
    exact .cons ⟨a, e, hk.nk⟩ (lkL_of ⟨Nat.succ.inj h.1, fun i y z h1 h2 => h.2 (i + 1) y z (by simpa using h1) (by simpa using h2)⟩)
/-- a port that is free -/
theorem free_port {M : GM} {near : Int} (hM : M.length < 6) : ((List.range 6).map fun i : Nat => (1 : Int) + (i : Int)).filter (fun p => !(valG M [.inl near, .inl p]).isSome) ≠ [] := by
  intro h
  have all : ∀ k ∈ [0, 1, 2, 3, 4, 5].map (fun i : Nat => ([.inl near, .inl (1 + (i : Int))] : IK)), k ∈ M.map (·.1) := fun k hk => by
    obtain ⟨i, hi, rfl⟩ := List.mem_map.mp hk
    have h2 := List.filter_eq_nil_iff.mp h (1 + (i : Int)) (List.mem_map.mpr ⟨i, List.mem_range.mpr (by
      simp only [List.mem_cons, List.not_mem_nil, or_false] at hi
      omega), rfl⟩)
    refine valG_some.mp ?_
    cases hv : (valG M [.inl near, .inl (1 + (i : Int))]).isSome with
    | true => rfl
    | false =>
      rw [hv] at h2
      exact absurd rfl h2
  have nd : ([0, 1, 2, 3, 4, 5].map (fun i : Nat => ([.inl near, .inl (1 + (i : Int))] : IK))).Nodup := by
    simp
  have := nd.length_le_of_subset all
  rw [List.length_map, List.length_map] at this
  have e : ([0, 1, 2, 3, 4, 5] : List Nat).length = 6 := rfl
  omega
section
variable {P : Program} [IsP P] {w : World} {K : PySem.W.Frag} {mg : Str → Option Value} {base : Heap} {a : Ad}
abbrev sp__law_joined_graph : Sp := spS (fun (_ : Unit) => arInt 4) fun _ H v => ∃ cnt ls, GrAt H v cnt ls ∧ 1 ≤ cnt ∧ cnt ≤ 4 ∧ LkB ls
theorem ok__law_joined_graph (T : Txt w K mg a) : FnOk P w K mg base CX0 3 a._law_joined_graph a.fd__law_joined_graph ["state", "most"] sp__law_joined_graph := by
  have G__law_draw := ok__law_draw (P := P) (w := w) (base := base) T
  have G__law_pick := ok__law_pick (P := P) (w := w) (base := base) T
  refine T.fn__law_joined_graph.ok sc__law_joined_graph (fun vs H Q E h => ?_) (fun cdv A outer s H vs Q E hr h => ?_)
  · obtain ⟨_, _, _, _, _, _, _, _, rfl, _, _, _, rfl, _⟩ := h
    rfl
  · obtain ⟨_, G, B, s, c, m, cells, _, rfl, sG, hs, g, rfl, k⟩ := h
    refine ⟨_, (pss_cons (ps_set (i := 2) sc__law_joined_graph.nd rfl (Or.inl rfl) (pe_op op_add pe_int (pe_call G__law_draw (hr.mono (by first | decide | omega)) rfl T.mg__law_draw T.kp__law_draw T.bi__law_draw .nil pass0 (pa_cons (pv 0) (pa_cons (pv 1) pa_nil)))))
  (pss_cons (ps_set (i := 3) sc__law_joined_graph.nd rfl (Or.inl rfl) (pe_lst pa_nil))
  (pss_cons (ps_set (i := 4) sc__law_joined_graph.nd rfl (Or.inr rfl) (pe_nnew (w := w)))
  (pss_cons (ps_for PassesOwn.never rfl (pi_range2 rfl T.mg_range (pa_cons pe_int (pa_cons (pe_op op_add (pv 2) pe_int) pa_nil))) (pg_name (i := 5) sc__law_joined_graph.nd rfl (Or.inl rfl))
  (pss_cons (ps_set (i := 6) sc__law_joined_graph.nd rfl (Or.inr rfl) (pe_op op_add pe_int (pe_call G__law_draw (hr.mono (by first | decide | omega)) rfl T.mg__law_draw T.kp__law_draw T.bi__law_draw .nil pass0 (pa_cons (pv 0) (pa_cons (pe_op op_sub (pv 5) pe_int) pa_nil)))))
  (pss_cons (ps_setLc (i := 7) (own := [("port", 10)]) (g := (gName 10)) rfl sc__law_joined_graph.nd rfl rfl (sw_true rfl rfl rfl (by decide +kernel)) (pi_range2 rfl T.mg_range (pa_cons pe_int (pa_cons pe_int pa_nil))) (blkOk_by (own := [("port", 10)]) (N := N__law_joined_graph) (sc := defScope s__law_joined_graph) (by decide +kernel)) (fun _ _ _ _ _ => by exact (pg_name (i := 10) sc__law_joined_graph.nd rfl (Or.inl rfl))) (fun _ _ _ _ _ => by exact pts_one (pt_cmp (pc_nnot (w := w) (r64 hr) (pe_tup (pa_cons (pv 6) (pa_cons (pv 10) pa_nil))) (pv 4)))) (fun _ _ _ _ _ => by exact (pv 10)))
  (pss_cons (ps_par (i := 8) (j := 9) rfl sc__law_joined_graph.nd rfl rfl (by decide) rfl rfl (pa_cons (pe_tup (pa_cons (pv 6) (pa_cons (pe_call G__law_pick (hr.mono (by first | decide | omega)) rfl T.mg__law_pick T.kp__law_pick T.bi__law_pick .nil pass0 (pa_cons (pv 0) (pa_cons (pv 7) pa_nil))) pa_nil))) (pa_cons (pe_tup (pa_cons (pv 5) (pa_cons (pe_op op_add pe_int (pe_call G__law_draw (hr.mono (by first | decide | omega)) rfl T.mg__law_draw T.kp__law_draw T.bi__law_draw .nil pass0 (pa_cons (pv 0) (pa_cons pe_int pa_nil)))) pa_nil))) pa_nil)) (by rfl))
  (pss_cons (ps_nput (w := w) (r64 hr) (pv 4) (pv 8) pe_bl rfl)
  (pss_cons (ps_nput (w := w) (r64 hr) (pv 4) (pv 9) pe_bl rfl)
  (pss_one (ps_expr (pe_bmK (K := K) PySem.F.plainAttrs_list PySem.F.slot_list_append PySem.F.type_list_append mt_append (pv 3) (pa_cons (pe_tup (pa_cons (pv 8) (pa_cons (pv 9) pa_nil))) pa_nil))))))))))
  (C8.pss_cut (ps_if (PW.pt (pw_and (pt_cmpR op_gt (pv 2) pe_int (nomark _)) (pw_and1 (pt_cmpR op_eq (pe_call G__law_draw (hr.mono (by first | decide | omega)) rfl T.mg__law_draw T.kp__law_draw T.bi__law_draw .nil pass0 (pa_cons (pv 0) (pa_cons pe_int pa_nil))) pe_int (nomark _)))))
  (pss_cons (ps_par (i := 8) (j := 9) rfl sc__law_joined_graph.nd rfl rfl (by decide) rfl rfl (pa_cons (pe_tup (pa_cons pe_int (pa_cons (pe_op op_add pe_int (pe_call G__law_draw (hr.mono (by first | decide | omega)) rfl T.mg__law_draw T.kp__law_draw T.bi__law_draw .nil pass0 (pa_cons (pv 0) (pa_cons pe_int pa_nil)))) pa_nil))) (pa_cons (pe_tup (pa_cons (pv 2) (pa_cons (pe_op op_add pe_int (pe_call G__law_draw (hr.mono (by first | decide | omega)) rfl T.mg__law_draw T.kp__law_draw T.bi__law_draw .nil pass0 (pa_cons (pv 0) (pa_cons pe_int pa_nil)))) pa_nil))) pa_nil)) (by rfl))
  (pss_one (ps_if (PW.pt (pw_and (pt_cmp (pc_nnot (w := w) (r64 hr) (pv 8) (pv 4))) (pw_and1 (pt_cmp (pc_nnot (w := w) (r64 hr) (pv 9) (pv 4))))))
  (pss_one (ps_expr (pe_bmK (K := K) PySem.F.plainAttrs_list PySem.F.slot_list_append PySem.F.type_list_append mt_append (pv 3) (pa_cons (pe_tup (pa_cons (pv 8) (pa_cons (pv 9) pa_nil))) pa_nil))))
  pss_nil)))
  pss_nil)
  (pss_one (ps_ret (pe_tup (pa_cons pe_str (pa_cons (pv 2) (pa_cons (pe_callB (cr_sortN (K := K) (c := some 2) (sh := [some 2]) (r64 hr)) (by rfl) T.mg_sorted (by decide +kernel) (pa_cons (pv 3) pa_nil)) pa_nil))))))))))), ?_⟩
    walk_at "ss"
    refine w_draw hs g (by omega) fun d m1 c1 H1 hs1 g1 _ hd => ?_
    obtain ⟨d0, d1⟩ := hd (by omega)
    clear hs g
    walk_at "ss"
    rename_i ll H2 hsA ud H3 hs3
    clear hs1 hsA
    have hs5 : Hs B [(s, sto c m1), (c, clo c1), (ll, .lst []), (ud, DN w ud [])] H3 := hs3.sel [2, 3, 1, 0]
    clear hs3
    refine w_forR2 (lo := 2) (hi := 1 + d + 1) ⟨by decide, by decide, by omega, by omega⟩ (fun i σ' H' => ∃ (B2 : Hp) (m : Int) (cells : List Int) (us : List V) (ls : List Lk) (es : List Ent) (M : GM) (v5 v6 v7 v8 v9 v10 : Option V),
        σ' = [some (.ref s), some (.int 4), some (.int (1 + d)), some (.ref ll), some (.ref ud), v5, v6, v7, v8, v9, v10] ∧ Same B B2 ∧ Hs B2 [(s, sto c m), (c, clo cells), (ll, .lst us), (ud, DN w ud es)] H' ∧ Good m cells ∧ LkL (mix G B B2) us ls ∧ LkB ls ∧ ls.length = i ∧ EntG B2 es M ∧ M.length ≤ 2 * i)
      (fun Q' q => ?_) ⟨B, m1, c1, [], [], [], [], none, none, none, none, none, none, rfl, Same.refl _, hs5, g1, .nil, (fun _ z => nomatch z), rfl, EntG.nil, Nat.le_refl _⟩ ?_ ?_
    · walk_at "ss"
      exact q
    · clear hs5 g1
      clear m1 c1 m cells
      rintro i σ' H4 hi ⟨B2, m, cells, us, ls, es, M, v5, v6, v7, v8, v9, v10, rfl, sm, hs1, g1, hL, hB, hlen, heM, hMz⟩
      have hi3 : (i : Int) < 3 := by omega
      have huz : us.length ≤ 3 := by
        rw [LkL.len hL, hlen]
        omega
      walk_at "ss"
      refine w_draw hs1 g1 (by omega) fun nr m2 c2 H5 hs2 g2 _ hn => ?_
      obtain ⟨n0, n1⟩ := hn (by omega)
      clear hs1 g1
      walk_at "ss"
      refine w_lcG2 ?_
      walk_at "ss"
      refine ⟨1, 7, rfl, by decide, fun D hD => ?_⟩
      refine turns_rangeL (Body := LcBody (gName 10) _ (tVar 10) _ _ D) (fun j H' => Hs B2 ((D, .lst ((((List.range j).map fun i : Nat => (1 : Int) + (i : Int)).filter (fun p => !(valG M [.inl (1 + nr), .inl p]).isSome)).map V.int)) :: (s, sto c m2) :: (c, clo c2) :: (ll, .lst us) :: (ud, DN w ud es) :: []) H') (hs2.new hD) ?_ ?_
      · clear hs2 hD
        rintro j H' hj hs3
        walk_at "ss"
        refine ⟨rfl, ?_⟩
        walk_at "ss"
        rename_i tp H6 hs4
        have hst : ((List.range (j + 1)).map fun i : Nat => (1 : Int) + (i : Int)).filter (fun p => !(valG M [.inl (1 + nr), .inl p]).isSome) = ((List.range j).map fun i : Nat => (1 : Int) + (i : Int)).filter (fun p => !(valG M [.inl (1 + nr), .inl p]).isSome) ++ if (!(valG M [.inl (1 + nr), .inl (1 + (j : Int))]).isSome) = true then [1 + (j : Int)] else [] := by
          rw [List.range_succ, List.map_append, List.filter_append]
          congr 1
          rw [List.map_cons, List.map_nil, List.filter_cons]
          rfl
        have hlz : (((List.range j).map fun i : Nat => (1 : Int) + (i : Int)).filter (fun p => !(valG M [.inl (1 + nr), .inl p]).isSome)).length ≤ 6 := by
          refine Nat.le_trans (List.length_filter_le _ _) ?_
          rw [List.length_map, List.length_range]
          have : j < 6 := hj
          omega
        refine wg_in hs4 hs4.g5 heM (kat_end (x := (1 + nr, 1 + (j : Int))) hs4.g0) ?_
        show ∃ k, _
        cases hv : (valG M (endK (1 + nr, 1 + (j : Int)))).isSome with
        | true =>
          refine ⟨_, rfl, iteF ?_⟩
          rw [hst, if_neg (show ¬ (!(valG M [.inl (1 + nr), .inl (1 + (j : Int))]).isSome) = true by rw [show (valG M [.inl (1 + nr), .inl (1 + (j : Int))]).isSome = true from hv]; decide), List.append_nil]
          exact hs4.tl
        | false =>
          refine ⟨_, rfl, iteT ?_⟩
          walk_at "ss"
          refine ⟨_, hs4.g1, szl (by rw [List.length_map]; omega), ?_⟩
          rw [hst, if_pos (show (!(valG M [.inl (1 + nr), .inl (1 + (j : Int))]).isSome) = true by rw [show (valG M [.inl (1 + nr), .inl (1 + (j : Int))]).isSome = false from hv]; rfl), List.map_append]
          exact hs4.tl.p0 _
      · intro H' hs3
        clear hs2 hD
        have hfree := free_port (near := 1 + nr) (show M.length < 6 by omega)
        have hlz : (((List.range 6).map fun i : Nat => (1 : Int) + (i : Int)).filter (fun p => !(valG M [.inl (1 + nr), .inl p]).isSome)).length ≤ 6 := by
          refine Nat.le_trans (List.length_filter_le _ _) ?_
          rw [List.length_map, List.length_range]
          exact Nat.le_refl _
        have hmem : ∀ p ∈ ((List.range 6).map fun i : Nat => (1 : Int) + (i : Int)).filter (fun p => !(valG M [.inl (1 + nr), .inl p]).isSome), 1 ≤ p ∧ p ≤ 6 := fun p hp => by
          obtain ⟨i, hi, rfl⟩ := List.mem_map.mp (List.mem_filter.mp hp).1
          have := List.mem_range.mp hi
          omega
        rw [show ((7 : Int) - 1).toNat = 6 from rfl] at hs3
        generalize ((List.range 6).map fun i : Nat => (1 : Int) + (i : Int)).filter (fun p => !(valG M [.inl (1 + nr), .inl p]).isSome) = free at hs3 hfree hlz hmem
        walk_at "ss"
        refine w_pick hs3 g2 (fun z => hfree (List.map_eq_nil_iff.mp z)) (by rw [List.length_map]; omega) fun x m3 c3 H7 hx hs4 g3 => ?_
        clear hs3 g2
        obtain ⟨po, hpo, rfl⟩ := List.mem_map.mp hx
        obtain ⟨po0, po1⟩ := hmem po hpo
        walk_at "ss"
        rename_i t1 H8 hs5
        clear hs4
        refine w_draw hs5.m2.m2 g3 (by omega) fun q m4 c4 H9 hs6 g4 _ hq => ?_
        obtain ⟨q0, q1⟩ := hq (by omega)
        clear hs5 g3
        walk_at "ss"
        rename_i t2 H10 hs7
        clear hs6
        obtain ⟨B3, sm3, ht2, mm3, hs8⟩ := frz_mix (G := G) sm hs7
        obtain ⟨B4, sm4, ht1, mm4, hs9⟩ := frz_mix (G := G) (sm.trans sm3) hs8.m2
        have sm04 := sm.trans (sm3.trans sm4)
        have le4 := mix_le sG sm04
        have ht2' := mm4 _ _ ht2
        have k1 : KAt B4 t1 (endK (1 + nr, po)) := kat_end (x := (1 + nr, po)) (le4 _ _ ht1)
        have k2 : KAt B4 t2 (endK (2 + (i : Int), 1 + q)) := kat_end (x := (2 + (i : Int), 1 + q)) (le4 _ _ ht2')
        have heM4 := heM.same (sm3.trans sm4)
        clear hs7 hs8
        refine wg_put hs9 (.there (.there (.there .here))) heM4 k1 (by omega) fun H11 hs10 heM5 => ?_
        have z1 := putG_len (M := M) (k := endK (1 + nr, po)) (v := .bl true)
        generalize putG M (endK (1 + nr, po)) (.bl true) = M1 at heM5 z1
        walk_at "ss"
        refine wg_put hs10 (.there (.there (.there .here))) heM5 k2 (by omega) fun H12 hs11 heM6 => ?_
        have z2 := putG_len (M := M1) (k := endK (2 + (i : Int), 1 + q)) (v := .bl true)
        generalize putG M1 (endK (2 + (i : Int), 1 + q)) (.bl true) = M2 at heM6 z2
        clear hs9 hs10
        walk_at "ss"
        rename_i t3 H13 _ H14 hs12
        clear hs11
        obtain ⟨B5, sm5, ht3, mm5, hs13⟩ := frz_mix (G := G) sm04 hs12
        have hL5 := (hL.same (mm3.trans (mm4.trans mm5))).snoc (a := t3) (l := ((1 + nr, po), (2 + (i : Int), 1 + q))) (nk_mk ht3 (mm5 _ _ ht1) (mm5 _ _ ht2'))
        refine ⟨B5, m4, c4, _, _, _, M2, _, _, _, _, _, _, rfl, sm04.trans sm5, hs13, g4, hL5, fun l hl => ?_, by rw [List.length_append, hlen]; rfl, heM6.same sm5, by omega⟩
        rcases List.mem_append.mp hl with hl | hl
        · exact hB l hl
        · rw [List.mem_singleton.mp hl]
          exact ⟨⟨by show (0 : Int) ≤ 1 + nr; omega, by show 1 + nr ≤ (100 : Int); omega, by show (0 : Int) ≤ po; omega, by show po ≤ (100 : Int); omega⟩, ⟨by show (0 : Int) ≤ 2 + (i : Int); omega, by show 2 + (i : Int) ≤ 100; omega, by show (0 : Int) ≤ 1 + q; omega, by show 1 + q ≤ (100 : Int); omega⟩⟩
    · clear hs5 g1
      rintro σ' H4 ⟨B2, m, cells, us, ls, es, M, v5, v6, v7, v8, v9, v10, rfl, sm, hs1, g1, hL, hB, hlen, heM, hMz⟩
      have hlz : ls.length ≤ 3 := by omega
      have huz : us.length ≤ 3 := by
        rw [LkL.len hL]
        exact hlz
      refine w_cut (fun σ' H' => ∃ (B2 : Hp) (m : Int) (cells : List Int) (us : List V) (ls : List Lk) (es : List Ent) (v5 v6 v7 v8 v9 v10 : Option V),
        σ' = [some (.ref s), some (.int 4), some (.int (1 + d)), some (.ref ll), some (.ref ud), v5, v6, v7, v8, v9, v10] ∧ Same B B2 ∧ Hs B2 [(s, sto c m), (c, clo cells), (ll, .lst us), (ud, DN w ud es)] H' ∧ Good m cells ∧ LkL (mix G B B2) us ls ∧ LkB ls ∧ ls.length ≤ 4) ?_ ?_
      · walk_at "ss"
        refine ifd (fun h2 => ?_) (fun h2 => ?_)
        · walk_at "ss"
          refine w_draw hs1 g1 (by omega) fun e0 m2 c2 H5 hs2 g2 _ _ => ?_
          clear hs1 g1
          walk_at "ss"
          refine ifd (fun h0 => ?_) (fun h0 => ?_)
          · walk_at "ss"
            refine w_draw hs2 g2 (by omega) fun p m3 c3 H6 hs3 g3 _ hp => ?_
            obtain ⟨p0, p1⟩ := hp (by omega)
            clear hs2 g2
            walk_at "ss"
            rename_i t1 H7 hs4
            clear hs3
            refine w_draw hs4.m2.m2 g3 (by omega) fun q m4 c4 H8 hs5 g4 _ hq => ?_
            obtain ⟨q0, q1⟩ := hq (by omega)
            clear hs4 g3
            walk_at "ss"
            rename_i t2 H9 hs6
            clear hs5
            obtain ⟨B3, sm3, ht2, mm3, hs8⟩ := frz_mix (G := G) sm hs6
            obtain ⟨B4, sm4, ht1, mm4, hs9⟩ := frz_mix (G := G) (sm.trans sm3) hs8.m2
            have sm04 := sm.trans (sm3.trans sm4)
            have le4 := mix_le sG sm04
            have ht2' := mm4 _ _ ht2
            have k1 : KAt B4 t1 (endK (1, 1 + p)) := kat_end (x := (1, 1 + p)) (le4 _ _ ht1)
            have k2 : KAt B4 t2 (endK (1 + d, 1 + q)) := kat_end (x := (1 + d, 1 + q)) (le4 _ _ ht2')
            have heM4 := heM.same (sm3.trans sm4)
            have hL4 := hL.same (mm3.trans mm4)
            clear hs6 hs8
            refine wg_in hs9 hs9.g3 heM4 (k1.same hs9.same) ?_
            cases hv1 : (valG M (endK (1, 1 + p))).isSome with
            | true =>
              refine ⟨_, rfl, iteF (iteF ?_)⟩
              walk_at "ss"
              exact ⟨B4, m4, c4, us, ls, es, _, _, _, _, _, _, rfl, sm04, hs9, g4, hL4, hB, by omega⟩
            | false =>
              refine ⟨_, rfl, iteT ?_⟩
              walk_at "ss"
              refine wg_in hs9 hs9.g3 heM4 (k2.same hs9.same) ?_
              cases hv2 : (valG M (endK (1 + d, 1 + q))).isSome with
              | true =>
                refine ⟨_, rfl, iteF ?_⟩
                walk_at "ss"
                exact ⟨B4, m4, c4, us, ls, es, _, _, _, _, _, _, rfl, sm04, hs9, g4, hL4, hB, by omega⟩
              | false =>
                refine ⟨_, rfl, iteT ?_⟩
                walk_at "ss"
                rename_i t3 H13 _ H14 hs12
                obtain ⟨B5, sm5, ht3, mm5, hs13⟩ := frz_mix (G := G) sm04 hs12
                have hL5 := (hL4.same mm5).snoc (a := t3) (l := ((1, 1 + p), (1 + d, 1 + q))) (nk_mk ht3 (mm5 _ _ ht1) (mm5 _ _ ht2'))
                refine ⟨B5, m4, c4, _, _, es, _, _, _, _, _, _, rfl, sm04.trans sm5, hs13, g4, hL5, fun l hl => ?_, by rw [List.length_append]; show ls.length + 1 ≤ 4; omega⟩
                rcases List.mem_append.mp hl with hl | hl
                · exact hB l hl
                · rw [List.mem_singleton.mp hl]
                  exact ⟨⟨by show (0 : Int) ≤ 1; decide, by show (1 : Int) ≤ 100; decide, by show (0 : Int) ≤ 1 + p; omega, by show 1 + p ≤ (100 : Int); omega⟩, ⟨by show (0 : Int) ≤ 1 + d; omega, by show 1 + d ≤ (100 : Int); omega, by show (0 : Int) ≤ 1 + q; omega, by show 1 + q ≤ (100 : Int); omega⟩⟩
          · walk_at "ss"
            exact ⟨B2, m2, c2, us, ls, es, _, _, _, _, _, _, rfl, sm, hs2, g2, hL, hB, by omega⟩
        · walk_at "ss"
          exact ⟨B2, m, cells, us, ls, es, _, _, _, _, _, _, rfl, sm, hs1, g1, hL, hB, by omega⟩
      · clear hs1 g1 hL hB hlen heM
        rintro σ' H5 ⟨B2, m, cells, us, ls, es, v5, v6, v7, v8, v9, v10, rfl, sm, hs1, g1, hL, hB, hlz4⟩
        walk_at "ss"
        have le2 := mix_le sG sm
        have hrow := keyL_of hL
        refine w_sortK2 hs1 (SqL.of hs1.g2) (hrow.mono fun _ _ => KeyAt.mono fun _ _ e => hs1.same _ _ (le2 _ _ e)) (fun x hx => ?_) fun p ys H6 hpm hs2 _ => ?_
        · obtain ⟨l, _, rfl⟩ := List.mem_map.mp hx
          rfl
        obtain ⟨zs, hz1, hz2⟩ := row_perm hpm hrow
        obtain ⟨ls2, hp2, hz3⟩ : ∃ ls2 : List Lk, ls2.Perm ls ∧ zs = ls2.map Hb.itL := by
          have base : ∀ l : List Lk, Paired (fun (k : IK) (x : Lk) => k = Hb.itL x) (l.map Hb.itL) l := fun l => by
            induction l with
            | nil => exact .nil
            | cons x l ih => exact .cons rfl ih
          obtain ⟨ms, e1, e2⟩ := paired_perm hz1 (base ls)
          refine ⟨ms, e1, ?_⟩
          clear hz1 hz2 e1
          induction e2 with
          | nil => rfl
          | cons h _ ih => rw [h, ih]; rfl
        subst hz3
        clear hs1
        walk_at "ss"
        rename_i t H7 hs3
        clear hs2
        obtain ⟨B3, sm3, ht, mm3, hs4⟩ := frz_mix (G := G) sm hs3
        obtain ⟨B4, sm4, hl, mm4, hs5⟩ := frz_mix (G := G) (sm.trans sm3) hs4
        refine k B4 _ m cells H7 (sm.trans (sm3.trans sm4)) (hs5.sel [0, 1]) g1 ⟨1 + d, ls2, ⟨t, p, ys, rfl, mm4 _ _ ht, hl, (lkL_of hz2).same (mm3.trans mm4), ?_⟩, by omega, by omega, fun l hl => hB l (hp2.mem_iff.mp hl)⟩
        rw [hp2.length_eq]
        omega
end
local macro_rules | `(tactic| walk_at "v") => `(tactic| first | exact v0 | exact v1 | exact v2 | exact v3 | exact v4 | exact v5 | exact v6 | exact v7 | exact v8)
local macro_rules | `(tactic| walk_at "vs") => `(tactic| first | exact st0 | exact st1 | exact st2 | exact st3 | exact st4 | exact st5 | exact st6 | exact st7 | exact st8)
local macro_rules | `(tactic| walk_at "s") => `(tactic| first
  | with_reducible refine w_dget ?_
  | ((with_reducible refine' w_dgetZ ?h ?nd ?hk ?hv ?_); (case h => walk_at "g"); (case nd => walk_at "nd"); (case hk => walk_at "k"); (case hv => walk_at "v"))
  | ((with_reducible refine' w_dputZ ?hs ?h ?nd ?hk ?hv ?hu ?hl ?_); (case hs => assumption); (case h => walk_at "p"); (case nd => walk_at "nd"); (case hk => walk_at "k"); (case hv => walk_at "v"); (case hu => walk_at "vs"); (case hl => decide); intro _ _)
  | with_reducible refine w_gsub ?_
  | with_reducible refine w_setD ?_
  | with_reducible refine w_disp ?_
  | ((with_reducible refine' w_newP ?hs ?_); (case hs => assumption); intro _ _ _)
  | with_reducible refine w_pcons ?_
  | with_reducible refine w_pnil ?_)

local macro_rules | `(tactic| walk_at "s") => `(tactic| first
  | with_reducible refine w_nget ?_
  | with_reducible refine w_nin ?_
  | with_reducible refine w_nnot ?_
  | with_reducible refine w_nput ?_
  | with_reducible refine w_ndel ?_
  | with_reducible refine w_npop ?_
  | ((with_reducible refine' w_nnew ?hs ?_); (case hs => assumption); intro _ _ _))

/-! ## the law's own judging -/
theorem at4 {x y z u v : V} {xs : List V} : atI (x :: y :: z :: u :: v :: xs) 4 = some v := at_of (j := 4) rfl rfl
theorem at5 {x y z u v t : V} {xs : List V} : atI (x :: y :: z :: u :: v :: t :: xs) 5 = some t := at_of (j := 5) rfl rfl
local macro_rules | `(tactic| walk_at "s") => `(tactic| ((with_reducible refine' w_ixT ?h ?a ?_); (case h => walk_at "t"); (case a => first | exact at4 | exact at5)))
theorem form_data (p : Int) (h : List Int) : (nkK [.inl p, .inr h]).data = .tuple [.int p, .tuple (h.map .int)] := by
  have e2 : NestedKey.datas (h.map NestedKey.num) = h.map PyData.int := by
    induction h with
    | nil => rfl
    | cons x h ih =>
      rw [List.map_cons, List.map_cons, ← ih]
      rfl
  simp only [nkK, nkI, List.map_cons, List.map_nil, NestedKey.data, NestedKey.datas, e2]
theorem eqv_ints : ∀ ns ms : List Int, PyData.eqvAll (ns.map .int) (ms.map .int) = decide (ns = ms)
  | [], [] => rfl
  | [], _ :: _ => by simp [PyData.eqvAll]
  | _ :: _, [] => by simp [PyData.eqvAll]
  | n :: ns, m :: ms => by
    rw [List.map_cons, List.map_cons]
    simp only [PyData.eqvAll, PyData.eqv, eqv_ints ns ms]
    by_cases h : n = m
    · by_cases h2 : ns = ms
      · simp [h, h2]
      · simp [h, h2]
    · simp [h]
theorem eqv_form {k j : IK} (hk : FormK k) (hj : FormK j) : PyData.eqv (nkK k).data (nkK j).data = decide (k = j) := by
  obtain ⟨p, h, rfl, _⟩ := hk
  obtain ⟨q, i, rfl, _⟩ := hj
  rw [form_data, form_data]
  simp only [PyData.eqv, PyData.eqvAll, eqv_ints, Bool.and_true]
  by_cases e1 : p = q
  · by_cases e2 : h = i
    · simp [e1, e2]
    · simp [e1, e2]
  · simp [e1]
def memK (ks : List IK) (k : IK) : Bool := ks.any fun j => decide (j = k)
theorem memK_iff {ks : List IK} {k : IK} : memK ks k = true ↔ k ∈ ks := by
  unfold memK
  rw [List.any_eq_true]
  exact ⟨fun ⟨j, h1, h2⟩ => of_decide_eq_true h2 ▸ h1, fun h => ⟨k, h, decide_eq_true rfl⟩⟩
def condP (ver num : Int) (o : E2) (h : List Int) (one : Ev) : Bool := decide (one.ver = ver) && (decide (one.num = num) && (decide (one.sw = o.1) && memK one.sent [.inl o.2, .inr h]))
def beforeM (ls : List Lk) (evs : List Ev) (e : Ev) : List Nat := match peerM ls (e.sw, e.port) with
  | none => []
  | some o => (List.range evs.length).filter fun k => match evs[k]? with
    | some one => condP e.ver e.num o e.hdr one
    | none => false
section
variable {P : Program} [IsP P] {w : World} {K : PySem.W.Frag} {mg : Str → Option Value} {base : Heap} {a : Ad}
theorem w_inF {H : Hp} {Q : VK} {r t : Addr} {us : List V} {ks : List IK} {k : IK} (hr : H r = some (.lst us)) (hL : Row (KeyAt H) us ks) (hf : ∀ k ∈ ks, FormK k) (hk : KAt H t k) (hk2 : FormK k) (q : Q (.bl (memK ks k)) H) : rInDL K false (.ref t) (.ref r) H Q := by
  refine ⟨(nkK k).data, ks.map fun k => (nkK k).data, hk.nk.im.dp, sentD_dp hr hL, ?_, sentD_shp hf, ?_⟩
  · unfold SeqAt.shaped
    rw [(formK_data hk2).1, Bool.true_and]
    exact decide_eq_true (by have := (formK_data hk2).2; omega)
  have e : ((ks.map fun k => (nkK k).data).any fun z => PyData.eqv z (nkK k).data) = memK ks k := by
    rw [List.any_map, Bool.eq_iff_iff, List.any_eq_true, memK_iff]
    constructor
    · rintro ⟨j, hj, h⟩
      have h2 : PyData.eqv (nkK j).data (nkK k).data = true := h
      rw [eqv_form (hf j hj) hk2] at h2
      rw [← of_decide_eq_true h2]
      exact hj
    · intro h
      refine ⟨k, h, ?_⟩
      show PyData.eqv (nkK k).data (nkK k).data = true
      rw [eqv_form hk2 hk2]
      exact decide_eq_true rfl
  rw [e]
  exact q
def sp__law_before : Sp := fun vs H Q _ => ∃ (g v : V) (rl : Addr) (cnt : Int) (ls : List Lk) (us : List V) (evs : List Ev) (e : Ev), vs = [g, .ref rl, v] ∧ GrAt H g cnt ls ∧ H rl = some (.lst us) ∧ Row (EvAt H) us evs ∧ (∀ x ∈ evs, EvOk x) ∧ us.length ≤ 100 ∧ EvAt H v e ∧ EvOk e ∧
  ∀ l H', Same H H' → H l = none → H' l = some (.lst ((beforeM ls evs e).map fun k : Nat => V.int (k : Int))) → Q (.ref l) H'
theorem ok__law_before (T : Txt w K mg a) : FnOk P w K mg base CX0 2 a._law_before a.fd__law_before ["graph", "rows", "event"] sp__law_before := by
  have G_peer := ok_peer (P := P) (w := w) (base := base) T
  refine T.fn__law_before.ok sc__law_before (fun vs H Q E h => ?_) (fun cdv A outer s H vs Q E hr h => ?_)
  · obtain ⟨_, _, _, _, _, _, _, _, rfl, _⟩ := h
    rfl
  · obtain ⟨_, _, rl, cnt, ls, us, evs, e, rfl, ⟨g, lr, lus, rfl, hg, hlr, hL, hlz⟩, hrl, hro, hok, hz, ⟨p, th, lse, use, rfl, hp, hth, hls, hrs⟩, ok, k⟩ := h
    refine ⟨_, (pss_cons (ps_set (i := 3) sc__law_before.nd rfl (Or.inl rfl) (pe_call G_peer (hr.mono (by first | decide | omega)) rfl T.mg_peer T.kp_peer T.bi_peer .nil pass0 (pa_cons (pe_ix (ix_tupK (K := K)) (pv 0) pe_int (fun _ _ => rfl)) (pa_cons (pe_tup (pa_cons (pe_ix (ix_tupK (K := K)) (pv 2) pe_int (fun _ _ => rfl)) (pa_cons (pe_ix (ix_tupK (K := K)) (pv 2) pe_int (fun _ _ => rfl)) pa_nil))) pa_nil))))
  (pss_cons (ps_set (i := 4) sc__law_before.nd rfl (Or.inl rfl) (pe_lst pa_nil))
  (pss_cons (ps_for PassesOwn.never rfl (pi_range1 rfl T.mg_range (pa_cons (pe_callB (call_lenK (K := K)) (by rfl) T.mg_len PySem.boot_len (pa_cons (pv 1) pa_nil)) pa_nil)) (pg_name (i := 5) sc__law_before.nd rfl (Or.inl rfl))
  (pss_cons (ps_set (i := 6) sc__law_before.nd rfl (Or.inl rfl) (pe_ix (ix_listK (K := K)) (pv 1) (pv 5) (fun _ _ => rfl)))
  (pss_one (ps_if (PW.pt (pw_and (pt_cmpR op_notNQ (pv 3) pe_non (nomark _)) (pw_and (pt_cmpR op_eq (pe_ix (ix_tupK (K := K)) (pv 6) pe_int (fun _ _ => rfl)) (pe_ix (ix_tupK (K := K)) (pv 2) pe_int (fun _ _ => rfl)) (nomark _)) (pw_and (pt_cmpR op_eq (pe_ix (ix_tupK (K := K)) (pv 6) pe_int (fun _ _ => rfl)) (pe_ix (ix_tupK (K := K)) (pv 2) pe_int (fun _ _ => rfl)) (nomark _)) (pw_and (pt_cmpR op_eq (pe_ix (ix_tupK (K := K)) (pv 6) pe_int (fun _ _ => rfl)) (pe_ix (ix_tupK (K := K)) (pv 3) pe_int (fun _ _ => rfl)) (nomark _)) (pw_and1 (pt_cmpR (op_inDL (K := K) (r65 hr)) (pe_tup (pa_cons (pe_ix (ix_tupK (K := K)) (pv 3) pe_int (fun _ _ => rfl)) (pa_cons (pe_ix (ix_tupK (K := K)) (pv 2) pe_int (fun _ _ => rfl)) pa_nil))) (pe_ix (ix_tupK (K := K)) (pv 6) pe_int (fun _ _ => rfl)) (by rfl))))))))
  (pss_one (ps_expr (pe_bmK (K := K) PySem.F.plainAttrs_list PySem.F.slot_list_append PySem.F.type_list_append mt_append (pv 4) (pa_cons (pv 5) pa_nil))))
  pss_nil))))
  (pss_one (ps_ret (pv 4)))))), ?_⟩
    have hs := Hs.start H
    walk_at "ss"
    rename_i te H1 hs1
    clear hs
    have hte : H1 te = some (endO (e.sw, e.port)) := hs1.g0
    have sm1 := hs1.same
    refine ⟨lr, te, lus, ls, (e.sw, e.port), rfl, sm1 _ _ hlr, hL.same sm1, hte, fun vo hvo => ?_⟩
    clear hs1
    have hs1 := Hs.start H1
    walk_at "ss"
    rename_i fd0 H2 hs2
    clear hs1
    let sel : Nat → Bool := fun k => match evs[k]? with
      | some one => (match peerM ls (e.sw, e.port) with | none => false | some o => condP e.ver e.num o e.hdr one)
      | none => false
    have hsel : beforeM ls evs e = (List.range evs.length).filter sel := by
      unfold beforeM
      cases hp0 : peerM ls (e.sw, e.port) with
      | none =>
        refine (List.filter_eq_nil_iff.mpr fun k _ => ?_).symm
        show ¬ sel k = true
        have : sel k = false := by
          show (match evs[k]? with | some one => (match peerM ls (e.sw, e.port) with | none => false | some o => condP e.ver e.num o e.hdr one) | none => false) = false
          rw [hp0]
          cases evs[k]? <;> rfl
        rw [this]
        decide
      | some o =>
        refine List.filter_congr fun k _ => ?_
        show _ = (match evs[k]? with | some one => (match peerM ls (e.sw, e.port) with | none => false | some o => condP e.ver e.num o e.hdr one) | none => false)
        rw [hp0]
    refine w_forR (n := (us.length : Int)) (by omega) (fun i σ' H' => ∃ (B : Hp) (v5 v6 : Option V), σ' = [some (.ref g), some (.ref rl), some (.ref p), some vo, some (.ref fd0), v5, v6] ∧ Same H1 B ∧ Hs B [(fd0, .lst (((List.range i).filter sel).map fun k : Nat => V.int (k : Int)))] H') (fun Q' q => ?_) (by omega) ⟨H1, none, none, rfl, Same.refl _, hs2⟩ ?_ ?_
    · walk_at "ss"
      have hrl2 : H2 rl = some (.lst us) := hs2.same _ _ (sm1 _ _ hrl)
      refine w_len (SqL.of hrl2) ?_
      exact q
    · clear hs2
      rintro i σ' H3 hi ⟨B, v5, v6, rfl, sm, hs3⟩
      have smB := sm1.trans sm
      have hiu : us[i]? = some (us[i]'(by omega)) := List.getElem?_eq_getElem _
      generalize us[i]'(by omega) = u at hiu
      obtain ⟨one, hone, hev1⟩ := hro.get hiu
      obtain ⟨p1, th1, ls1, us1, rfl, hp1, hth1, hls1, hrs1⟩ := hev1
      have ok1 := hok one (List.mem_of_getElem? hone)
      have hst : ((List.range (i + 1)).filter sel).map (fun k : Nat => V.int (k : Int)) = ((List.range i).filter sel).map (fun k : Nat => V.int (k : Int)) ++ if sel i = true then [V.int (i : Int)] else [] := by
        rw [List.range_succ, List.filter_append, List.map_append, List.filter_cons]
        by_cases h : sel i = true
        · rw [if_pos h, if_pos h]
          rfl
        · rw [if_neg h, if_neg h]
          rfl
      have hseli : sel i = match peerM ls (e.sw, e.port) with | none => false | some o => condP e.ver e.num o e.hdr one := by
        show (match evs[i]? with | some one => (match peerM ls (e.sw, e.port) with | none => false | some o => condP e.ver e.num o e.hdr one) | none => false) = _
        rw [hone]
      have hlen : (((List.range i).filter sel).map fun k : Nat => V.int (k : Int)).length ≤ 100 := by
        rw [List.length_map]
        refine Nat.le_trans (List.length_filter_le _ _) ?_
        rw [List.length_range]
        omega
      have no : sel i = false → ∀ H5 v5 v6, Hs B [(fd0, .lst (((List.range i).filter sel).map fun k : Nat => V.int (k : Int)))] H5 → ∃ (B : Hp) (v5' v6' : Option V), [some (.ref g), some (.ref rl), some (.ref p), some vo, some (.ref fd0), v5, v6] = [some (.ref g), some (.ref rl), some (.ref p), some vo, some (.ref fd0), v5', v6'] ∧ Same H1 B ∧ Hs B [(fd0, .lst (((List.range (i + 1)).filter sel).map fun k : Nat => V.int (k : Int)))] H5 := fun hn H5 v5 v6 h => ⟨B, v5, v6, rfl, sm, by
        rw [hst, hn, if_neg (by decide), List.append_nil]
        exact h⟩
      walk_at "ss"
      have hrl3 : H3 rl = some (.lst us) := hs3.same _ _ (smB _ _ hrl)
      refine w_ixL (SqL.of hrl3) (at_of (j := i) rfl hiu) ?_
      walk_at "ss"
      cases hpe : peerM ls (e.sw, e.port) with
      | none =>
        rw [hpe] at hvo hseli
        cases hvo
        refine ifn (fun z => absurd rfl z) (fun _ => ?_)
        walk_at "ss"
        exact no hseli _ _ _ hs3
      | some o =>
        rw [hpe] at hvo hseli
        obtain ⟨q, rfl, hq⟩ := hvo
        have hseli2 : sel i = condP e.ver e.num o e.hdr one := hseli
        have hp1B : B p1 = some (.tup [.int one.sw, .int one.port, .int one.ver, .int one.num, .ref th1, .ref ls1]) := smB _ _ hp1
        have hq3 : H3 q = some (.tup [.int o.1, .int o.2]) := hs3.same _ _ (sm _ _ hq)
        have hp3 : H3 p = some (.tup [.int e.sw, .int e.port, .int e.ver, .int e.num, .ref th, .ref lse]) := hs3.same _ _ (smB _ _ hp)
        have hp13 : H3 p1 = some (.tup [.int one.sw, .int one.port, .int one.ver, .int one.num, .ref th1, .ref ls1]) := hs3.same _ _ (smB _ _ hp1)
        refine ifn (fun _ => ?_) (fun z => nomatch z)
        walk_at "ss"
        refine ifd (fun h1 => ?_) (fun h1 => ?_)
        · walk_at "ss"
          refine ifd (fun h2 => ?_) (fun h2 => ?_)
          · walk_at "ss"
            refine ifd (fun h3 => ?_) (fun h3 => ?_)
            · walk_at "ss"
              rename_i tt H4 hs4
              have hth4 : H4 th = some (.tup (e.hdr.map V.int)) := hs4.same _ _ (smB _ _ hth)
              have hkt : KAt H4 tt [.inl o.2, .inr e.hdr] := ⟨_, hs4.g0, .cons rfl (.cons ⟨th, rfl, hth4⟩ .nil)⟩
              refine w_inF (hs4.same _ _ (smB _ _ hls1)) (hrs1.mono fun _ _ => KeyAt.mono fun _ _ e => hs4.same _ _ (smB _ _ e)) ok1.fm hkt ⟨_, _, rfl, ok.h3⟩ ?_
              have hc : sel i = memK one.sent [.inl o.2, .inr e.hdr] := by
                rw [hseli2]
                unfold condP
                rw [decide_eq_true h1, decide_eq_true h2, decide_eq_true h3]
                rfl
              cases hm : memK one.sent [.inl o.2, .inr e.hdr] with
              | true =>
                rw [hm] at hc
                refine ⟨_, rfl, iteT ?_⟩
                have hs5 := hs4.tl
                clear hs3 hs4
                walk_at "ss"
                rename_i H5 hs6
                refine ⟨B, _, _, rfl, sm, ?_⟩
                rw [hst, hc, if_pos rfl]
                exact hs6
              | false =>
                rw [hm] at hc
                refine ⟨_, rfl, iteF ?_⟩
                walk_at "ss"
                exact no hc _ _ _ hs4.tl
            · walk_at "ss"
              exact no (by rw [hseli2]; unfold condP; rw [decide_eq_false h3]; simp) _ _ _ hs3
          · walk_at "ss"
            exact no (by rw [hseli2]; unfold condP; rw [decide_eq_false h2]; simp) _ _ _ hs3
        · walk_at "ss"
          exact no (by rw [hseli2]; unfold condP; rw [decide_eq_false h1]; simp) _ _ _ hs3
    · rintro σ' H3 ⟨B, v5, v6, rfl, sm, hs3⟩
      walk_at "ss"
      refine k fd0 H3 (sm1.trans (sm.trans hs3.same)) ((sm1.trans sm).free (hs3.out _ List.mem_cons_self)) ?_
      have e2 : Int.toNat (us.length : Int) = evs.length := by rw [Int.toNat_natCast, hro.1]
      rw [e2, ← hsel] at hs3
      exact hs3.g0
end
local macro_rules | `(tactic| walk_at "v") => `(tactic| first | exact v0 | exact v1 | exact v2 | exact v3 | exact v4 | exact v5 | exact v6 | exact v7 | exact v8)
local macro_rules | `(tactic| walk_at "vs") => `(tactic| first | exact st0 | exact st1 | exact st2 | exact st3 | exact st4 | exact st5 | exact st6 | exact st7 | exact st8)
local macro_rules | `(tactic| walk_at "s") => `(tactic| first
  | with_reducible refine w_dget ?_
  | ((with_reducible refine' w_dgetZ ?h ?nd ?hk ?hv ?_); (case h => walk_at "g"); (case nd => walk_at "nd"); (case hk => walk_at "k"); (case hv => walk_at "v"))
  | ((with_reducible refine' w_dputZ ?hs ?h ?nd ?hk ?hv ?hu ?hl ?_); (case hs => assumption); (case h => walk_at "p"); (case nd => walk_at "nd"); (case hk => walk_at "k"); (case hv => walk_at "v"); (case hu => walk_at "vs"); (case hl => decide); intro _ _)
  | with_reducible refine w_gsub ?_
  | with_reducible refine w_setD ?_
  | with_reducible refine w_disp ?_
  | ((with_reducible refine' w_newP ?hs ?_); (case hs => assumption); intro _ _ _)
  | with_reducible refine w_pcons ?_
  | with_reducible refine w_pnil ?_)

local macro_rules | `(tactic| walk_at "s") => `(tactic| first
  | with_reducible refine w_nget ?_
  | with_reducible refine w_nin ?_
  | with_reducible refine w_nnot ?_
  | with_reducible refine w_nput ?_
  | with_reducible refine w_ndel ?_
  | with_reducible refine w_npop ?_
  | ((with_reducible refine' w_nnew ?hs ?_); (case hs => assumption); intro _ _ _))

local macro_rules | `(tactic| walk_at "s") => `(tactic| ((with_reducible refine' w_ixT ?h ?a ?_); (case h => walk_at "t"); (case a => first | exact at4 | exact at5)))
theorem map_at {α β : Type} {f : α → β} {l : List α} {i : Nat} {y : β} (h : (l.map f)[i]? = some y) : ∃ x, l[i]? = some x ∧ y = f x := by
  rw [List.getElem?_map] at h
  obtain ⟨x, h1, h2⟩ := Option.map_eq_some_iff.mp h
  exact ⟨x, h1, h2.symm⟩
def knownL (ls : List Lk) (pre : List Ev) (dv : List (Option Int)) (e : Ev) : List Int := (beforeM ls pre e).filterMap fun k => (dv[k]?).join
def depthL (ls : List Lk) (pre : List Ev) (dv : List (Option Int)) (e : Ev) : Option Int := if e.port = 0 then some 1 else ((knownL ls pre dv e).min?).map (· + 1)
def sameL (pre : List Ev) (e : Ev) : List Ev := pre.filter fun one => decide (one.num = e.num)
def bad1 (cnt : Int) (pm : PM) (e : Ev) : Bool := decide (e.sw < 1) || (decide (cnt < e.sw) || !(getP pm e.ver).isSome)
def bad2 (pm : PM) (e : Ev) : Bool := match getP pm e.ver with
  | some ps => decide ((0 : Int) < (e.sent.length : Int)) && !PyData.eqv (sentD e.sent) (sentD (doesM ps e.sw e.port e.hdr))
  | none => false
def bad3 (pre : List Ev) (e : Ev) : Bool := decide ((0 : Int) < (((sameL pre e).filter fun one => !decide (one.ver = e.ver)).length : Int)) || (decide (e.port = 0) && decide ((0 : Int) < ((sameL pre e).length : Int)))
def ruleD : Option Int → Int
  | none => 4
  | some d => if d > 12 then 5 else 0
def ruleL (cnt : Int) (pm : PM) (pre : List Ev) (e : Ev) (d : Option Int) : Int := if bad1 cnt pm e = true then 1 else (if bad2 pm e = true then 2 else (if bad3 pre e = true then 3 else ruleD d))
theorem w_ifS3 {c : TT} {t : TS} {D : Ends} {σ : L2.St} {H : Hp} (M : Hp → Prop) (h2 : ∀ H1, M H1 → D.nx σ H1) (h1 : (∀ H1, M H1 → D.nx σ H1) → c σ H fun b H1 => if b = true then t D σ H1 else tNext D σ H1) : tIfS c t tNext D σ H := h1 h2
theorem w_lcFil {α : Type} {K : PySem.W.Frag} {σ : L2.St} {H : Hp} {Q : VK} {tl : TE} {te : TE} {tt : TT} {j : Nat} {vs : List Nat} {a : Addr} {us : List V} {R : V → α → Prop} {xs : List α} (q : α → Bool) (hx : SqL K H a us) (hz : us.length ≤ 1000000) (hro : Row R us xs)
    (htl : ∀ Q : VK, Q (.ref a) H → tl σ H Q) (hw : ∀ v, wipe ((wipe σ vs).set j (some v)) vs = wipe σ vs)
    (he : ∀ (u : V) (x : α) (H' : Hp) (Nx : Hp → Prop) (Ap : VK), R u x → x ∈ xs → Same H H' → (q x = false → ∀ H2, Same H' H2 → Nx H2) → (q x = true → ∀ H2, Same H' H2 → Ap u H2) → tt ((wipe σ vs).set j (some u)) H' fun b H2 => if b = true then te ((wipe σ vs).set j (some u)) H2 Ap else Nx H2)
    (hq : ∀ D acc H', Hs H [(D, .lst acc)] H' → Row R acc (xs.filter q) → Q (.ref D) H') : tLc (iList K tl) (gName j) tt te vs σ H Q := by
  let f : Nat → Option V := fun i => us[i]?.bind fun u => xs[i]?.bind fun x => if q x = true then some u else none
  have hf : ∀ (i : Nat) x u, us[i]? = some u → xs[i]? = some x → f i = if q x = true then some u else none := fun i x u h1 h2 => by
    show (us[i]?.bind fun u => xs[i]?.bind fun x => if q x = true then some u else none) = _
    rw [h1, h2]
    rfl
  refine w_lcIx f hx hz htl hw (fun i u H' Nx Ap hu sm hN hA => ?_) fun D acc H' hs hacc => hq D acc H' hs (by rw [hacc]; exact row_filter hro q f hf)
  obtain ⟨x, hxi, hr⟩ := hro.get hu
  have e1 := hf i x u hu hxi
  refine he u x H' Nx Ap hr (List.mem_of_getElem? hxi) sm (fun h => hN (by rw [e1, h]; rfl)) fun h => hA u (by rw [e1, h]; rfl)
section
variable {P : Program} [IsP P] {w : World} {K : PySem.W.Frag} {mg : Str → Option Value} {base : Heap} {a : Ad}
def sp__law_broken : Sp := fun vs H Q _ => ∃ (B : Hp) (g v : V) (pd rl dl : Addr) (cnt : Int) (ls : List Lk) (pm : PM) (us : List V) (pre : List Ev) (dv : List (Option Int)) (e : Ev), vs = [g, .ref pd, .ref rl, v, .ref dl] ∧ Hs B [(dl, .lst (dv.map optI))] H ∧ GrAt B g cnt ls ∧ PolsAt B pd pm ∧ B rl = some (.lst us) ∧ Row (EvAt B) us pre ∧ (∀ x ∈ pre, EvOk x) ∧ us.length ≤ 100 ∧ dv.length = pre.length ∧ EvAt B v e ∧ EvOk e ∧
  ∀ H', Hs B [(dl, .lst ((dv ++ [depthL ls pre dv e]).map optI))] H' → Q (.int (ruleL cnt pm pre e (depthL ls pre dv e))) H'
theorem ok__law_broken (T : Txt w K mg a) : FnOk P w K mg base CX0 9 a._law_broken a.fd__law_broken ["graph", "policies", "rows", "event", "depths"] sp__law_broken := by
  have G__law_before := ok__law_before (P := P) (w := w) (base := base) T
  have G_does := ok_does (P := P) (w := w) (base := base) T
  refine T.fn__law_broken.ok sc__law_broken (fun vs H Q E h => ?_) (fun cdv A outer s H vs Q E hr h => ?_)
  · obtain ⟨_, _, _, _, _, _, _, _, _, _, _, _, _, rfl, _⟩ := h
    rfl
  · obtain ⟨B, _, _, pd, rl, dl, cnt, ls, pm, us, pre, dv, e, rfl, hs, hg, hpd, hrl, hro, hok, hz, hdz, ⟨p, th, lse, use, rfl, hp, hth, hls, hrs⟩, ok, k⟩ := h
    obtain ⟨g, lr, lus, rfl, hgt, hlr, hL, hlz⟩ := hg
    obtain ⟨kvs, hkv, hpv⟩ := hpd
    have hu := hu_of hr
    refine ⟨_, (pss_cons (ps_asg (pv 3) (pg_tupK (K := K) rfl (pgs_cons (pg_name (i := 5) sc__law_broken.nd rfl (Or.inl rfl)) (pgs_cons (pg_name (i := 6) sc__law_broken.nd rfl (Or.inl rfl)) (pgs_cons (pg_name (i := 7) sc__law_broken.nd rfl (Or.inr rfl)) (pgs_cons (pg_name (i := 8) sc__law_broken.nd rfl (Or.inr rfl)) (pgs_cons (pg_name (i := 9) sc__law_broken.nd rfl (Or.inl rfl)) (pgs_cons (pg_name (i := 10) sc__law_broken.nd rfl (Or.inl rfl)) pgs_nil))))))))
  (pss_cons (ps_set (i := 11) sc__law_broken.nd rfl (Or.inl rfl) pe_int)
  (C8.pss_cut (ps_if (pt_cmpR op_ne (pv 6) pe_int (nomark _))
  (pss_cons (ps_setLc (i := 12) (own := [("k", 14)]) (g := (gName 14)) rfl sc__law_broken.nd rfl rfl (sw_true rfl rfl rfl (by decide +kernel)) (pi_listK (K := K) (pe_call G__law_before (hr.mono (by first | decide | omega)) rfl T.mg__law_before T.kp__law_before T.bi__law_before .nil pass0 (pa_cons (pv 0) (pa_cons (pv 2) (pa_cons (pv 3) pa_nil))))) (blkOk_by (own := [("k", 14)]) (N := N__law_broken) (sc := defScope s__law_broken) (by decide +kernel)) (fun _ _ _ _ _ => by exact (pg_name (i := 14) sc__law_broken.nd rfl (Or.inl rfl))) (fun _ _ _ _ _ => by exact pts_one (pt_cmpR op_notNQ (pe_ix (ix_listK (K := K)) (pv 4) (pv 14) (fun _ _ => rfl)) pe_non (nomark _))) (fun _ _ _ _ _ => by exact (pe_ix (ix_listK (K := K)) (pv 4) (pv 14) (fun _ _ => rfl))))
  (pss_one (ps_set (i := 11) sc__law_broken.nd rfl (Or.inl rfl) (pe_ifExp (pt_cmpR op_gt (pe_callB (call_lenK (K := K)) (by rfl) T.mg_len PySem.boot_len (pa_cons (pv 12) pa_nil)) pe_int (nomark _)) (pe_op op_add (pe_callB (cr_minK (K := K) rfl) (by rfl) T.mg_min (by decide +kernel) (pa_cons (pv 12) pa_nil)) pe_int) pe_non))))
  pss_nil)
  (pss_cons (ps_expr (pe_bmK (K := K) PySem.F.plainAttrs_list PySem.F.slot_list_append PySem.F.type_list_append mt_append (pv 4) (pa_cons (pv 11) pa_nil)))
  (pss_cons (ps_if (PW.pt (pw_or (pt_cmpR op_lt (pv 5) pe_int (nomark _)) (pw_or (pt_cmpR op_gt (pv 5) (pe_ix (ix_tupK (K := K)) (pv 0) pe_int (fun _ _ => rfl)) (nomark _)) (pw_or1 (pt_cmp (pc_dnotin hu (pv 7) (pv 1)))))))
  (pss_one (ps_ret pe_int))
  pss_nil)
  (pss_cons (ps_if (PW.pt (pw_and (pt_cmpR op_gt (pe_callB (call_lenK (K := K)) (by rfl) T.mg_len PySem.boot_len (pa_cons (pv 10) pa_nil)) pe_int (nomark _)) (pw_and1 (pt_cmpR (op_neDK (K := K) hr.units) (pv 10) (pe_call G_does (hr.mono (by first | decide | omega)) rfl T.mg_does T.kp_does T.bi_does .nil pass0 (pa_cons (pe_dget hu (pv 1) (pv 7) (fun _ _ => rfl)) (pa_cons (pv 5) (pa_cons (pv 6) (pa_cons (pv 9) pa_nil))))) (nomark _)))))
  (pss_one (ps_ret pe_int))
  pss_nil)
  (pss_cons (ps_setLc (i := 13) (own := [("one", 15)]) (g := (gName 15)) rfl sc__law_broken.nd rfl rfl (sw_true rfl rfl rfl (by decide +kernel)) (pi_listK (K := K) (pv 2)) (blkOk_by (own := [("one", 15)]) (N := N__law_broken) (sc := defScope s__law_broken) (by decide +kernel)) (fun _ _ _ _ _ => by exact (pg_name (i := 15) sc__law_broken.nd rfl (Or.inl rfl))) (fun _ _ _ _ _ => by exact pts_one (pt_cmpR op_eq (pe_ix (ix_tupK (K := K)) (pv 15) pe_int (fun _ _ => rfl)) (pv 8) (nomark _))) (fun _ _ _ _ _ => by exact (pv 15)))
  (pss_cons (ps_if (PW.pt (pw_or (pt_cmpR op_gt (pe_callB (call_lenK (K := K)) (by rfl) T.mg_len PySem.boot_len (pa_cons (pe_lc (own := [("one", 15)]) (g := (gName 15)) rfl sc__law_broken.nd (pi_listK (K := K) (pv 13)) (blkOk_by (own := [("one", 15)]) (N := N__law_broken) (sc := defScope s__law_broken) (by decide +kernel)) (fun _ _ _ _ _ => by exact (pg_name (i := 15) sc__law_broken.nd rfl (Or.inl rfl))) (fun _ _ _ _ _ => by exact pts_one (pt_cmpR op_ne (pe_ix (ix_tupK (K := K)) (pv 15) pe_int (fun _ _ => rfl)) (pv 7) (nomark _))) (fun _ _ _ _ _ => by exact (pv 15))) pa_nil)) pe_int (nomark _)) (pw_or1 (PW.pt (pw_and (pt_cmpR op_eq (pv 6) pe_int (nomark _)) (pw_and1 (pt_cmpR op_gt (pe_callB (call_lenK (K := K)) (by rfl) T.mg_len PySem.boot_len (pa_cons (pv 13) pa_nil)) pe_int (nomark _))))))))
  (pss_one (ps_ret pe_int))
  pss_nil)
  (pss_one (ps_ret (pe_ifExp (pt_cmpR op_isNQ (pv 11) pe_non (nomark _)) pe_int (pe_ifExp (pt_cmpR op_gt (pv 11) pe_int (nomark _)) pe_int pe_int)))))))))))), ?_⟩
    walk_at "ss"
    refine w_cut (fun σ' H' => ∃ v12 v13 v14 v15 : Option V, σ' = [some (.ref g), some (.ref pd), some (.ref rl), some (.ref p), some (.ref dl), some (.int e.sw), some (.int e.port), some (.int e.ver), some (.int e.num), some (.ref th), some (.ref lse), some (optI (depthL ls pre dv e)), v12, v13, v14, v15] ∧ Hs B [(dl, .lst (dv.map optI))] H') ?_ ?_
    · walk_at "ss"
      refine ifn (fun h0 => ?_) (fun h0 => ?_)
      · walk_at "ss"
        refine w_lcS ?_
        walk_at "ss"
        have hp2 : EvAt B (.ref p) e := ⟨p, th, lse, use, rfl, hp, hth, hls, hrs⟩
        refine ⟨.ref g, .ref p, rl, cnt, ls, us, pre, e, rfl, GrAt.same hs.same ⟨g, lr, lus, rfl, hgt, hlr, hL, hlz⟩, hs.same _ _ hrl, hro.mono fun _ _ => EvAt.same hs.same, hok, hz, hp2.same hs.same, ok, fun l H1 sm1 hn1 hl1 => ?_⟩
        have hs1 := Hs_own hs sm1 hn1 hl1
        clear hs
        have hbz : (beforeM ls pre e).length ≤ 100 := by
          unfold beforeM
          cases peerM ls (e.sw, e.port) with
          | none => exact Nat.zero_le _
          | some o =>
            refine Nat.le_trans (List.length_filter_le _ _) ?_
            rw [List.length_range, ← hro.1]
            exact hz
        have hbl : ∀ i k, (beforeM ls pre e)[i]? = some k → k < dv.length := fun i k hk => by
          have hm := List.mem_of_getElem? hk
          unfold beforeM at hm
          cases hpe : peerM ls (e.sw, e.port) with
          | none =>
            rw [hpe] at hm
            cases hm
          | some o =>
            rw [hpe] at hm
            rw [hdz]
            exact List.mem_range.mp (List.mem_filter.mp hm).1
        have hdl1 : H1 dl = some (.lst (dv.map optI)) := hs1.g1
        refine w_lcIx (us := (beforeM ls pre e).map fun k : Nat => V.int (k : Int)) (fun i => (((beforeM ls pre e)[i]?.bind fun k => (dv[k]?).join).map V.int)) (SqL.of hl1) (by rw [List.length_map]; omega) (fun Q' q => q) (fun _ => rfl) (fun i u H' Nx Ap hu sm' hN hA => ?_) fun D acc H2 hs2 hacc => ?_
        · obtain ⟨k0, hk0, rfl⟩ := map_at hu
          have hlt := hbl i k0 hk0
          have hdk : dv[k0]? = some (dv[k0]'hlt) := List.getElem?_eq_getElem _
          generalize dv[k0]'hlt = dk at hdk
          have a1 : atI (dv.map optI) (k0 : Int) = some (optI dk) := at_of (j := k0) rfl (by rw [List.getElem?_map, hdk]; rfl)
          have hdl' : H' dl = some (.lst (dv.map optI)) := sm' _ _ hdl1
          have efi : ((beforeM ls pre e)[i]?.bind fun k => (dv[k]?).join).map V.int = dk.map V.int := by
            rw [hk0]
            show ((dv[k0]?).join).map V.int = _
            rw [hdk]
            rfl
          walk_at "ss"
          cases dk with
          | none =>
            refine ifn (fun z => absurd rfl z) (fun _ => ?_)
            exact hN efi H' (Same.refl _)
          | some d0 =>
            refine ifn (fun _ => ?_) (fun z => nomatch z)
            walk_at "ss"
            exact hA (.int d0) efi H' (Same.refl _)
        · have ek : acc = (knownL ls pre dv e).map V.int := by
            rw [hacc]
            unfold knownL
            rw [List.length_map, List.map_filterMap]
            have key : ∀ l : List Nat, (List.range l.length).filterMap (fun i => ((l[i]?.bind fun k => (dv[k]?).join).map V.int)) = l.filterMap fun k => ((dv[k]?).join).map V.int := fun l => by
              induction l with
              | nil => rfl
              | cons x l ih =>
                rw [List.length_cons, List.range_succ_eq_map, List.filterMap_cons, List.filterMap_cons, List.filterMap_map]
                have : ((fun i => (((x :: l)[i]?.bind fun k => (dv[k]?).join).map V.int)) ∘ Nat.succ) = fun i => ((l[i]?.bind fun k => (dv[k]?).join).map V.int) := rfl
                rw [this, ih]
                rfl
            exact key _
          have hs3 := hs1.add hs2
          clear hs1 hs2
          rw [ek] at hs3
          walk_at "ss"
          have e1 : depthL ls pre dv e = ((knownL ls pre dv e).min?).map (· + 1) := if_neg h0
          rw [List.length_map]
          refine ifd (fun hk => ?_) (fun hk => ?_)
          · walk_at "ss"
            refine ⟨D, knownL ls pre dv e, rfl, SqL.of hs3.g0, by omega, fun m hm hmin => ?_⟩
            have e2 : (knownL ls pre dv e).min? = some m := List.min?_eq_some_iff.mpr ⟨hm, fun y hy => hmin y hy⟩
            rw [e2] at e1
            rw [e1]
            walk_at "ss"
            exact ⟨_, _, _, _, rfl, hs3.tl.tl⟩
          · walk_at "ss"
            have e2 : knownL ls pre dv e = [] := List.length_eq_zero_iff.mp (by omega)
            rw [e2] at e1
            rw [e1]
            exact ⟨_, _, _, _, rfl, hs3.tl.tl⟩
      · walk_at "ss"
        have e1 : depthL ls pre dv e = some 1 := if_pos h0
        rw [e1]
        exact ⟨_, _, _, _, rfl, hs⟩
    · clear hs
      rintro σ' H1 ⟨v12, v13, v14, v15, rfl, hs⟩
      have hdz2 : (dv.map optI).length < sizeLine := szl (by rw [List.length_map, hdz, ← hro.1]; omega)
      walk_at "ss"
      rename_i H2 hs2
      clear hs
      have edv : dv.map optI ++ [optI (depthL ls pre dv e)] = (dv ++ [depthL ls pre dv e]).map optI := by
        rw [List.map_append]
        rfl
      rw [edv] at hs2
      generalize hdd : depthL ls pre dv e = d at hs2 k
      have hv : (valV kvs (Sum.inl e.ver)).isSome = (getP pm e.ver).isSome := by
        rcases pols_val hpv e.ver with ⟨h1, h2⟩ | ⟨_, _, h1, h2, _⟩
        · rw [h1, h2]
          rfl
        · rw [h1, h2]
          rfl
      have r1 : bad1 cnt pm e = true → ruleL cnt pm pre e d = 1 := fun h => if_pos h
      have fin1 : bad1 cnt pm e = true → ∀ H', Hs B [(dl, .lst ((dv ++ [d]).map optI))] H' → Q (.int 1) H' := fun h H' hs' => by
        have := k H' hs'
        rw [r1 h] at this
        exact this
      refine ifd (fun h1 => ?_) (fun h1 => ?_)
      · walk_at "ss"
        exact fin1 (by unfold bad1; rw [decide_eq_true h1]; rfl) _ hs2
      walk_at "ss"
      refine ifd (fun h2 => ?_) (fun h2 => ?_)
      · walk_at "ss"
        exact fin1 (by unfold bad1; rw [decide_eq_true h2]; simp) _ hs2
      walk_at "ss"
      rw [hv]
      cases hgp : getP pm e.ver with
      | none =>
        refine iteT ?_
        walk_at "ss"
        exact fin1 (by unfold bad1; rw [hgp]; simp) _ hs2
      | some ps =>
        refine iteF ?_
        have n1 : bad1 cnt pm e = false := by
          unfold bad1
          rw [decide_eq_false h1, decide_eq_false h2, hgp]
          rfl
        have r2 : ruleL cnt pm pre e d = if bad2 pm e = true then 2 else (if bad3 pre e = true then 3 else ruleD d) := if_neg (by rw [n1]; decide)
        rw [r2] at k
        have eb2 : bad2 pm e = (decide ((0 : Int) < (e.sent.length : Int)) && !PyData.eqv (sentD e.sent) (sentD (doesM ps e.sw e.port e.hdr))) := by
          unfold bad2
          rw [hgp]
        have fin2 : bad2 pm e = true → ∀ H', Hs B [(dl, .lst ((dv ++ [d]).map optI))] H' → Q (.int 2) H' := fun h H' hs' => by
          have := k H' hs'
          rw [if_pos h] at this
          exact this
        refine w_next ?_
        with_reducible refine w_seq ?_
        refine w_ifS3 (fun H3 => bad2 pm e = false ∧ Hs B [(dl, .lst ((dv ++ [d]).map optI))] H3) ?_ ?_
        · clear hs2
          rintro H3 ⟨hb2, hs3⟩
          rw [if_neg (by rw [hb2]; decide)] at k
          walk_at "ss"
          refine w_lcFil (fun one => decide (one.num = e.num)) (SqL.of (hs3.same _ _ hrl)) (by omega) hro (fun Q' q => ?_) (fun _ => rfl) (fun u one H' Nx Ap hu2 _ sm' hN hA => ?_) fun D acc H4 hs4 hacc => ?_
          · walk_at "ss"
            exact q
          · obtain ⟨p1, th1, ls1, us1, rfl, hp1, _⟩ := hu2
            have hp1' : H' p1 = some (.tup [.int one.sw, .int one.port, .int one.ver, .int one.num, .ref th1, .ref ls1]) := sm' _ _ (hs3.same _ _ hp1)
            walk_at "ss"
            refine ifd (fun h => ?_) (fun h => ?_)
            · walk_at "ss"
              exact hA (decide_eq_true h) _ (Same.refl _)
            · exact hN (decide_eq_false h) _ (Same.refl _)
          · have hs5 := hs3.add hs4
            clear hs3 hs4
            have haz : acc.length ≤ 100 := by
              rw [hacc.1]
              refine Nat.le_trans (List.length_filter_le _ _) ?_
              rw [← hro.1]
              exact hz
            walk_at "ss"
            refine w_lcFil (fun one => !decide (one.ver = e.ver)) (SqL.of hs5.g0) (by omega) hacc (fun Q' q => ?_) (fun _ => rfl) (fun u one H' Nx Ap hu2 _ sm' hN hA => ?_) fun D2 acc2 H6 hs6 hacc2 => ?_
            · walk_at "ss"
              exact q
            · obtain ⟨p1, th1, ls1, us1, rfl, hp1, _⟩ := hu2
              have hp1' : H' p1 = some (.tup [.int one.sw, .int one.port, .int one.ver, .int one.num, .ref th1, .ref ls1]) := sm' _ _ (hs5.same _ _ hp1)
              walk_at "ss"
              refine ifn (fun h => ?_) (fun h => ?_)
              · walk_at "ss"
                exact hA (by rw [decide_eq_false h]; rfl) _ (Same.refl _)
              · exact hN (by rw [decide_eq_true h]; rfl) _ (Same.refl _)
            · have hs7 := hs5.add hs6
              clear hs5 hs6
              have hD : H6 D = some (.lst acc) := hs7.g1
              have fin : ∀ r : Int, (if bad3 pre e = true then 3 else ruleD d) = r → Q (.int r) H6 := fun r h => by
                have := k H6 hs7.tl.tl
                rw [h] at this
                exact this
              have l1 : acc.length = (sameL pre e).length := hacc.1
              have l2 : acc2.length = ((sameL pre e).filter fun one => !decide (one.ver = e.ver)).length := hacc2.1
              walk_at "ss"
              rw [l2]
              refine ifd (fun h3 => ?_) (fun h3 => ?_)
              · walk_at "ss"
                refine fin 3 (if_pos ?_)
                unfold bad3
                rw [decide_eq_true h3]
                rfl
              · walk_at "ss"
                have e3 : bad3 pre e = (decide (e.port = 0) && decide ((0 : Int) < ((sameL pre e).length : Int))) := by
                  unfold bad3
                  rw [decide_eq_false h3]
                  rfl
                refine ifd (fun e0 => ?_) (fun e0 => ?_)
                · walk_at "ss"
                  rw [l1]
                  refine ifd (fun e4 => ?_) (fun e4 => ?_)
                  · walk_at "ss"
                    refine fin 3 (if_pos ?_)
                    rw [e3, decide_eq_true e0, decide_eq_true e4]
                    rfl
                  · have n3 : bad3 pre e = false := by
                      rw [e3, decide_eq_false e4, Bool.and_false]
                    rw [n3] at fin
                    walk_at "ss"
                    cases d with
                    | none =>
                      refine iteT ?_
                      walk_at "ss"
                      exact fin 4 rfl
                    | some d0 =>
                      refine iteF ?_
                      have eo : optI (some d0) = V.int d0 := rfl
                      rw [eo]
                      walk_at "ss"
                      refine ifd (p := (12 : Int) < d0) (fun e5 => ?_) (fun e5 => ?_)
                      · walk_at "ss"
                        exact fin 5 (if_pos e5)
                      · walk_at "ss"
                        exact fin 0 (if_neg e5)
                · refine iteF ?_
                  have n3 : bad3 pre e = false := by
                    rw [e3, decide_eq_false e0, Bool.false_and]
                  rw [n3] at fin
                  walk_at "ss"
                  cases d with
                  | none =>
                    refine iteT ?_
                    walk_at "ss"
                    exact fin 4 rfl
                  | some d0 =>
                    refine iteF ?_
                    have eo : optI (some d0) = V.int d0 := rfl
                    rw [eo]
                    walk_at "ss"
                    refine ifd (p := (12 : Int) < d0) (fun e5 => ?_) (fun e5 => ?_)
                    · walk_at "ss"
                      exact fin 5 (if_pos e5)
                    · walk_at "ss"
                      exact fin 0 (if_neg e5)
        · intro G
          refine w_and ?_
          walk_at "ss"
          rw [hrs.1]
          refine ifd (fun h3 => ?_) (fun h3 => ?_)
          · walk_at "ss"
            rcases pols_val hpv e.ver with ⟨h1, h2⟩ | ⟨ps', u, h1, h2, h3'⟩
            · rw [h1] at hgp
              cases hgp
            rw [h1] at hgp
            cases hgp
            refine ⟨pd, u, rfl, .inl ⟨kvs, Sum.inl e.ver, .inl (hs2.same _ _ hkv), rfl, h2.symm⟩, ?_⟩
            walk_at "ss"
            refine ⟨u, th, ps, e.sw, e.port, e.hdr, rfl, h3'.same hs2.same, hs2.same _ _ hth, ok.h3, fun l us' H3 sm2 hn2 hl2 hr2 => ?_⟩
            have hs3 := (Hs_own hs2 sm2 hn2 hl2).tl
            clear hs2
            have sm := hs3.same
            refine ⟨sentD e.sent, sentD (doesM ps e.sw e.port e.hdr), sentD_dp (sm _ _ hls) (hrs.mono fun _ _ => KeyAt.mono fun _ _ => sm _ _), sentD_dp hl2 hr2, sentD_shp ok.fm, sentD_shp (does_form ok.h3), ?_⟩
            refine ⟨_, rfl, ?_⟩
            cases hE : PyData.eqv (sentD e.sent) (sentD (doesM ps e.sw e.port e.hdr)) with
            | true =>
              refine iteF ?_
              exact G _ ⟨by rw [eb2, hE, decide_eq_true h3]; rfl, hs3⟩
            | false =>
              refine iteT ?_
              walk_at "ss"
              exact fin2 (by rw [eb2, hE, decide_eq_true h3]; rfl) _ hs3
          · exact G _ ⟨by rw [eb2, decide_eq_false h3]; rfl, hs2⟩
end
local macro_rules | `(tactic| walk_at "v") => `(tactic| first | exact v0 | exact v1 | exact v2 | exact v3 | exact v4 | exact v5 | exact v6 | exact v7 | exact v8)
local macro_rules | `(tactic| walk_at "vs") => `(tactic| first | exact st0 | exact st1 | exact st2 | exact st3 | exact st4 | exact st5 | exact st6 | exact st7 | exact st8)
local macro_rules | `(tactic| walk_at "s") => `(tactic| first
  | with_reducible refine w_dget ?_
  | ((with_reducible refine' w_dgetZ ?h ?nd ?hk ?hv ?_); (case h => walk_at "g"); (case nd => walk_at "nd"); (case hk => walk_at "k"); (case hv => walk_at "v"))
  | ((with_reducible refine' w_dputZ ?hs ?h ?nd ?hk ?hv ?hu ?hl ?_); (case hs => assumption); (case h => walk_at "p"); (case nd => walk_at "nd"); (case hk => walk_at "k"); (case hv => walk_at "v"); (case hu => walk_at "vs"); (case hl => decide); intro _ _)
  | with_reducible refine w_gsub ?_
  | with_reducible refine w_setD ?_
  | with_reducible refine w_disp ?_
  | ((with_reducible refine' w_newP ?hs ?_); (case hs => assumption); intro _ _ _)
  | with_reducible refine w_pcons ?_
  | with_reducible refine w_pnil ?_)

local macro_rules | `(tactic| walk_at "s") => `(tactic| first
  | with_reducible refine w_nget ?_
  | with_reducible refine w_nin ?_
  | with_reducible refine w_nnot ?_
  | with_reducible refine w_nput ?_
  | with_reducible refine w_ndel ?_
  | with_reducible refine w_npop ?_
  | ((with_reducible refine' w_nnew ?hs ?_); (case hs => assumption); intro _ _ _))

local macro_rules | `(tactic| walk_at "s") => `(tactic| ((with_reducible refine' w_ixT ?h ?a ?_); (case h => walk_at "t"); (case a => first | exact at4 | exact at5)))
def dueM (cnt : Int) (ls : List Lk) (pm : PM) : List Ev → List (Option Int) → List Ev → Option (Int × Nat)
  | _, _, [] => none
  | pre, dv, e :: es => if 0 < ruleL cnt pm pre e (depthL ls pre dv e) then some (ruleL cnt pm pre e (depthL ls pre dv e), pre.length) else dueM cnt ls pm (pre ++ [e]) (dv ++ [depthL ls pre dv e]) es
/-! ## the judge finds what is due -/
abbrev ZS := List (Ev × Int)
def kz (zs : ZS) (ver num : Int) (o : E2) (h : List Int) : List Int := (zs.filter fun z => condP ver num o h z.1).map (·.2)
theorem min_snoc (l : List Int) (d : Int) : (l ++ [d]).min? = some (min d (l.min?.getD d)) := by
  cases l with
  | nil =>
    show some d = some (min d d)
    rw [Int.min_self]
  | cons x l =>
    show some ((l ++ [d]).foldl min x) = some (min d (l.foldl min x))
    rw [List.foldl_append]
    show some (min (l.foldl min x) d) = _
    rw [Int.min_comm]
theorem range_fm {α β : Type} (f : α → Option β) (l : List α) : (List.range l.length).filterMap (fun i => l[i]?.bind f) = l.filterMap f := by
  induction l with
  | nil => rfl
  | cons x l ih =>
    rw [List.length_cons, List.range_succ_eq_map, List.filterMap_cons, List.filterMap_cons, List.filterMap_map]
    have : ((fun i => ((x :: l)[i]?.bind f)) ∘ Nat.succ) = fun i => (l[i]?.bind f) := rfl
    rw [this, ih]
    rfl
theorem knownL_kz (ls : List Lk) (zs : ZS) (e : Ev) : knownL ls (zs.map (·.1)) (zs.map fun z => some z.2) e = match peerM ls (e.sw, e.port) with
    | none => []
    | some o => kz zs e.ver e.num o e.hdr := by
  unfold knownL beforeM
  cases peerM ls (e.sw, e.port) with
  | none => rfl
  | some o =>
    show List.filterMap _ (List.filter _ _) = kz zs e.ver e.num o e.hdr
    rw [List.filterMap_filter, List.length_map]
    have h1 : (fun i : Nat => if (match (zs.map fun z : Ev × Int => z.1)[i]? with | some one => condP e.ver e.num o e.hdr one | none => false) = true then ((zs.map fun z : Ev × Int => some z.2)[i]?).join else none) = fun i : Nat => (zs[i]?.bind fun z : Ev × Int => if condP e.ver e.num o e.hdr z.1 = true then some z.2 else none) := by
      funext i
      rw [List.getElem?_map, List.getElem?_map]
      cases zs[i]? with
      | none => rfl
      | some z => rfl
    refine (congrArg (fun f => List.filterMap f (List.range zs.length)) h1).trans ?_
    rw [range_fm]
    clear h1
    unfold kz
    induction zs with
    | nil => rfl
    | cons z zs ih =>
      rw [List.filterMap_cons, List.filter_cons]
      cases condP e.ver e.num o e.hdr z.1 with
      | true =>
        rw [if_pos rfl, if_pos rfl, List.map_cons, ← ih]
      | false =>
        rw [if_neg (by decide), if_neg (by decide), ← ih]
theorem kz_snoc (zs : ZS) (ver num : Int) (o : E2) (h : List Int) (e : Ev) (d : Int) : kz (zs ++ [(e, d)]) ver num o h = kz zs ver num o h ++ (if condP ver num o h e = true then [d] else []) := by
  unfold kz
  rw [List.filter_append, List.map_append]
  congr 1
  rw [List.filter_cons]
  cases condP ver num o h e with
  | true => rfl
  | false => rfl
theorem place_inj {v n v' n' : Int} {o o' : E2} {h h' : List Int} (z : placeK v n o h = placeK v' n' o' h') : v = v' ∧ n = n' ∧ o = o' ∧ h = h' := by
  unfold placeK at z
  injection z with a1 z
  injection z with a2 z
  injection z with a3 z
  injection z with a4 z
  injection a1 with a1
  injection a2 with a2
  injection a3 with a3
  injection a4 with a4
  injection a3 with a3 b3
  injection b3 with b3
  exact ⟨a1, a2, Prod.ext a3 b3, a4⟩
theorem dmP_fold (v n sw d : Int) (j : IK) : ∀ (ks : List IK) (dm : IK → Option Int), (ks.foldl (dmP v n sw d) dm) j = if (ks.any fun k => decide (j = placeK v n (sw, portOf k) (hdrOf k))) = true then some (min d ((dm j).getD d)) else dm j
  | [], dm => rfl
  | k :: ks, dm => by
    rw [List.foldl_cons, dmP_fold v n sw d j ks, List.any_cons]
    by_cases hk : j = placeK v n (sw, portOf k) (hdrOf k)
    · rw [decide_eq_true hk, Bool.true_or, if_pos rfl]
      have e1 : dmP v n sw d dm k j = some (min d ((dm j).getD d)) := if_pos hk
      rw [e1]
      show (if _ then some (min d (min d ((dm j).getD d))) else _) = _
      have e2 : min d (min d ((dm j).getD d)) = min d ((dm j).getD d) := by omega
      rw [e2]
      split
      · rfl
      · rfl
    · have e1 : dmP v n sw d dm k j = dm j := if_neg hk
      rw [e1, decide_eq_false hk, Bool.false_or]
theorem dmU_at {e : Ev} (ok : EvOk e) (d : Int) (dm : IK → Option Int) (ver num : Int) (o : E2) (h : List Int) : dmU e d dm (placeK ver num o h) = if condP ver num o h e = true then some (min d ((dm (placeK ver num o h)).getD d)) else dm (placeK ver num o h) := by
  unfold dmU
  rw [dmP_fold]
  have e1 : (e.sent.any fun k => decide (placeK ver num o h = placeK e.ver e.num (e.sw, portOf k) (hdrOf k))) = condP ver num o h e := by
    rw [Bool.eq_iff_iff, List.any_eq_true]
    unfold condP
    rw [Bool.and_eq_true, Bool.and_eq_true, Bool.and_eq_true, decide_eq_true_eq, decide_eq_true_eq, decide_eq_true_eq, memK_iff]
    constructor
    · rintro ⟨k, hk, hz⟩
      obtain ⟨p, hh, rfl, _⟩ := ok.fm k hk
      obtain ⟨a1, a2, a3, a4⟩ := place_inj (of_decide_eq_true hz)
      refine ⟨a1.symm, a2.symm, by rw [a3], ?_⟩
      rw [a3, a4]
      exact hk
    · rintro ⟨a1, a2, a3, a4⟩
      exact ⟨_, a4, decide_eq_true (by rw [a1, a2, a3]; rfl)⟩
  rw [e1]
structure Inv (zs : ZS) (vm : Int → Option Int) (dm : IK → Option Int) : Prop where
  d : ∀ ver num o h, dm (placeK ver num o h) = (kz zs ver num o h).min?
  v0 : ∀ n, vm n = none → ∀ z ∈ zs, z.1.num ≠ n
  v1 : ∀ n v, vm n = some v → (∃ z ∈ zs, z.1.num = n) ∧ ∀ z ∈ zs, z.1.num = n → z.1.ver = v
theorem Inv.depth {zs : ZS} {vm : Int → Option Int} {dm : IK → Option Int} (i : Inv zs vm dm) (ls : List Lk) (e : Ev) : depthL ls (zs.map (·.1)) (zs.map fun z => some z.2) e = depthM ls dm e := by
  unfold depthL depthM
  rw [knownL_kz]
  by_cases h0 : e.port = 0
  · rw [if_pos h0, if_pos h0]
  · rw [if_neg h0, if_neg h0]
    cases peerM ls (e.sw, e.port) with
    | none => rfl
    | some o =>
      show ((kz zs e.ver e.num o e.hdr).min?).map _ = (dm (placeK e.ver e.num o e.hdr)).map _
      rw [i.d]
theorem bad1_eq (cnt : Int) (pm : PM) (e : Ev) : bad1 cnt pm e = !knownM cnt pm e := by
  unfold bad1 knownM
  by_cases h1 : e.sw < 1
  · rw [decide_eq_true h1, decide_eq_false (show ¬ 1 ≤ e.sw by omega)]
    rfl
  · rw [decide_eq_false h1, decide_eq_true (show 1 ≤ e.sw by omega)]
    by_cases h2 : cnt < e.sw
    · rw [decide_eq_true h2, decide_eq_false (show ¬ e.sw ≤ cnt by omega)]
      rfl
    · rw [decide_eq_false h2, decide_eq_true (show e.sw ≤ cnt by omega)]
      cases (getP pm e.ver).isSome with
      | true => rfl
      | false => rfl
theorem bad2_eq (pm : PM) (e : Ev) : bad2 pm e = !rightP pm e := by
  unfold bad2 rightP
  cases getP pm e.ver with
  | none => rfl
  | some ps =>
    show (decide ((0 : Int) < (e.sent.length : Int)) && !PyData.eqv (sentD e.sent) (sentD (doesM ps e.sw e.port e.hdr))) = !(rightM ps e)
    unfold rightM
    cases e.sent with
    | nil => rfl
    | cons k ks =>
      have e1 : PyData.eqv (sentD (k :: ks)) (.list []) = false := rfl
      rw [e1, decide_eq_true (by rw [List.length_cons]; omega), Bool.true_and, Bool.false_or]
theorem Inv.bad {zs : ZS} {vm : Int → Option Int} {dm : IK → Option Int} (i : Inv zs vm dm) (e : Ev) : bad3 (zs.map (·.1)) e = !agreeM vm e := by
  unfold bad3 agreeM
  have mem : ∀ x, x ∈ sameL (zs.map (·.1)) e ↔ ∃ z ∈ zs, z.1 = x ∧ x.num = e.num := fun x => by
    unfold sameL
    rw [List.mem_filter, decide_eq_true_eq, List.mem_map]
    exact ⟨fun ⟨⟨z, h1, h2⟩, h3⟩ => ⟨z, h1, h2, h3⟩, fun ⟨z, h1, h2, h3⟩ => ⟨⟨z, h1, h2⟩, h3⟩⟩
  cases hv : vm e.num with
  | none =>
    have hn : sameL (zs.map (·.1)) e = [] := List.eq_nil_iff_forall_not_mem.mpr fun x hx => by
      obtain ⟨z, h1, h2, h3⟩ := (mem x).mp hx
      exact i.v0 _ hv z h1 (by rw [h2, h3])
    rw [hn]
    show (_ || (_ && false)) = false
    rw [Bool.and_false]
    rfl
  | some v =>
    obtain ⟨⟨z, hz, hzn⟩, hall⟩ := i.v1 _ _ hv
    have hm : z.1 ∈ sameL (zs.map (·.1)) e := (mem _).mpr ⟨z, hz, rfl, hzn⟩
    have hpos : (0 : Int) < ((sameL (zs.map (·.1)) e).length : Int) := by
      have := List.length_pos_of_mem hm
      omega
    rw [decide_eq_true hpos, Bool.and_true]
    show _ = !(decide (v = e.ver) && !decide (e.port = 0))
    by_cases hve : v = e.ver
    · have hf : (sameL (zs.map (·.1)) e).filter (fun one => !decide (one.ver = e.ver)) = [] := by
        rw [List.filter_eq_nil_iff]
        intro x hx
        obtain ⟨z', h1, h2, h3⟩ := (mem x).mp hx
        have := hall z' h1 (by rw [h2, h3])
        rw [decide_eq_true (by rw [← h2, this, hve])]
        decide
      rw [hf, decide_eq_true hve, Bool.true_and, Bool.not_not]
      rfl
    · have hm2 : z.1 ∈ (sameL (zs.map (·.1)) e).filter (fun one => !decide (one.ver = e.ver)) := List.mem_filter.mpr ⟨hm, by
        rw [decide_eq_false (by rw [hall z hz hzn]; exact hve)]
        rfl⟩
      rw [decide_eq_true (show (0 : Int) < _ by have := List.length_pos_of_mem hm2; omega), decide_eq_false hve]
      rfl
theorem Inv.step {zs : ZS} {vm : Int → Option Int} {dm : IK → Option Int} (i : Inv zs vm dm) {e : Ev} (ok : EvOk e) (d : Int) (ha : agreeM vm e = true) : Inv (zs ++ [(e, d)]) (vmU vm e) (dmU e d dm) := by
  refine ⟨fun ver num o h => ?_, fun n hn z hz => ?_, fun n v hn => ?_⟩
  · rw [dmU_at ok, kz_snoc, i.d]
    cases condP ver num o h e with
    | true => rw [if_pos rfl, if_pos rfl, min_snoc]
    | false => rw [if_neg (by decide), if_neg (by decide), List.append_nil]
  · unfold vmU at hn
    split at hn
    · cases hn
    · rename_i hne
      rcases List.mem_append.mp hz with h | h
      · exact i.v0 n hn z h
      · cases List.mem_singleton.mp h
        exact fun q => hne q.symm
  · unfold vmU at hn
    split at hn
    · rename_i hne
      cases hn
      refine ⟨⟨(e, d), List.mem_append_right _ (List.mem_singleton.mpr rfl), hne.symm⟩, fun z hz hzn => ?_⟩
      rcases List.mem_append.mp hz with h | h
      · unfold agreeM at ha
        cases hv : vm e.num with
        | none => exact absurd (hzn.trans hne) (i.v0 _ hv z h)
        | some v =>
          rw [hv] at ha
          have := (i.v1 _ _ hv).2 z h (hzn.trans hne)
          rw [this]
          exact of_decide_eq_true (Bool.and_eq_true_iff.mp ha).1
      · cases List.mem_singleton.mp h
        rfl
    · rename_i hne
      obtain ⟨⟨z, h1, h2⟩, h3⟩ := i.v1 _ _ hn
      refine ⟨⟨z, List.mem_append_left _ h1, h2⟩, fun z' hz' hzn => ?_⟩
      rcases List.mem_append.mp hz' with h | h
      · exact h3 z' h hzn
      · cases List.mem_singleton.mp h
        exact absurd hzn.symm hne
theorem rule_eq (cnt : Int) (pm : PM) {zs : ZS} {vm : Int → Option Int} {dm : IK → Option Int} (i : Inv zs vm dm) (d : Option Int) (e : Ev) : (brokenM cnt pm vm d e = none ∧ ruleL cnt pm (zs.map (·.1)) e d = 0 ∧ agreeM vm e = true) ∨ ∃ r, brokenM cnt pm vm d e = some r ∧ ruleL cnt pm (zs.map (·.1)) e d = r ∧ 0 < r := by
  unfold brokenM ruleL
  rw [bad1_eq, bad2_eq, i.bad]
  cases knownM cnt pm e with
  | false => exact .inr ⟨1, rfl, rfl, by decide⟩
  | true =>
    cases rightP pm e with
    | false => exact .inr ⟨2, rfl, rfl, by decide⟩
    | true =>
      cases agreeM vm e with
      | false => exact .inr ⟨3, rfl, rfl, by decide⟩
      | true =>
        cases d with
        | none => exact .inr ⟨4, rfl, rfl, by decide⟩
        | some n =>
          by_cases h : n > 12
          · refine .inr ⟨5, ?_, ?_, by decide⟩
            · show (if n > 12 then some 5 else none) = _
              exact if_pos h
            · show (if n > 12 then (5 : Int) else 0) = _
              exact if_pos h
          · refine .inl ⟨?_, ?_, rfl⟩
            · show (if n > 12 then some (5 : Int) else none) = _
              exact if_neg h
            · show (if n > 12 then (5 : Int) else 0) = _
              exact if_neg h
theorem judge_due (cnt : Int) (ls : List Lk) (pm : PM) : ∀ (es : List Ev) (zs : ZS) (vm : Int → Option Int) (dm : IK → Option Int), (∀ e ∈ es, EvOk e) → Inv zs vm dm → judgeM cnt ls pm vm dm zs.length es = dueM cnt ls pm (zs.map (·.1)) (zs.map fun z => some z.2) es
  | [], _, _, _, _, _ => rfl
  | e :: es, zs, vm, dm, ok, i => by
    rw [dueM, i.depth ls e]
    rcases rule_eq cnt pm i (depthM ls dm e) e with ⟨h1, h2, h3⟩ | ⟨r, h1, h2, h3⟩
    · obtain ⟨d, hd⟩ := broken_none h1
      rw [judgeM_step h1, h2, hd, if_neg (by decide)]
      have := judge_due cnt ls pm es (zs ++ [(e, d)]) (vmU vm e) (dmU e d dm) (fun x hx => ok x (List.mem_cons_of_mem _ hx)) (i.step (ok e (List.mem_cons_self ..)) d h3)
      rw [List.length_append, List.map_append, List.map_append] at this
      exact this
    · rw [judgeM, h1, h2, if_pos h3, List.length_map]
theorem judge_due0 (cnt : Int) (ls : List Lk) (pm : PM) {es : List Ev} (ok : ∀ e ∈ es, EvOk e) : judgeM cnt ls pm (fun _ => none) (fun _ => none) 0 es = dueM cnt ls pm [] [] es :=
  judge_due cnt ls pm es [] _ _ ok ⟨fun _ _ _ _ => rfl, fun _ _ _ h => (nomatch h), fun _ _ h => (nomatch h)⟩
section
variable {P : Program} [IsP P] {w : World} {K : PySem.W.Frag} {mg : Str → Option Value} {base : Heap} {a : Ad}
def sp__law_due : Sp := fun vs H Q _ => ∃ (g : V) (pd el : Addr) (cnt : Int) (ls : List Lk) (pm : PM) (us : List V) (evs : List Ev), vs = [g, .ref pd, .ref el] ∧ GrAt H g cnt ls ∧ PolsAt H pd pm ∧ H el = some (.lst us) ∧ Row (EvAt H) us evs ∧ (∀ e ∈ evs, EvOk e) ∧ us.length ≤ 100 ∧
  ∀ v H', Same H H' → JrAt H' v (dueM cnt ls pm [] [] evs) → Q v H'
theorem ok__law_due (T : Txt w K mg a) : FnOk P w K mg base CX0 10 a._law_due a.fd__law_due ["graph", "policies", "events"] sp__law_due := by
  have G__law_broken := ok__law_broken (P := P) (w := w) (base := base) T
  refine T.fn__law_due.ok sc__law_due (fun vs H Q E h => ?_) (fun cdv A outer s H vs Q E hr h => ?_)
  · obtain ⟨_, _, _, _, _, _, _, _, rfl, _⟩ := h
    rfl
  · obtain ⟨g, pd, el, cnt, ls, pm, us, evs, rfl, hg, hpd, hel, hro, hok, hz, k⟩ := h
    have hu := hu_of hr
    refine ⟨_, (pss_cons (ps_set (i := 3) sc__law_due.nd rfl (Or.inl rfl) (pe_lst pa_nil))
  (pss_cons (ps_set (i := 4) sc__law_due.nd rfl (Or.inl rfl) pe_non)
  (pss_cons (ps_for PassesOwn.never rfl (pi_range1 rfl T.mg_range (pa_cons (pe_callB (call_lenK (K := K)) (by rfl) T.mg_len PySem.boot_len (pa_cons (pv 2) pa_nil)) pa_nil)) (pg_name (i := 5) sc__law_due.nd rfl (Or.inl rfl))
  (pss_cons (ps_set (i := 6) sc__law_due.nd rfl (Or.inl rfl) (pe_call G__law_broken (hr.mono (by first | decide | omega)) rfl T.mg__law_broken T.kp__law_broken T.bi__law_broken .nil pass0 (pa_cons (pv 0) (pa_cons (pv 1) (pa_cons (pe_slice (sl_listK (K := K)) (pv 2) po_none (po_some (pv 5))) (pa_cons (pe_ix (ix_listK (K := K)) (pv 2) (pv 5) (fun _ _ => rfl)) (pa_cons (pv 3) pa_nil)))))))
  (pss_one (ps_if (PW.pt (pw_and (pt_cmpR op_gt (pv 6) pe_int (nomark _)) (pw_and1 (pt_cmpR op_isNQ (pv 4) pe_non (nomark _)))))
  (pss_one (ps_set (i := 4) sc__law_due.nd rfl (Or.inl rfl) (pe_tup (pa_cons (pv 6) (pa_cons (pv 5) pa_nil)))))
  pss_nil))))
  (pss_one (ps_ret (pv 4)))))), ?_⟩
    have hs := Hs.start H
    walk_at "ss"
    rename_i dl H1 hs1
    clear hs
    refine w_forR (n := (us.length : Int)) (by omega) (fun i σ' H' => ∃ (B : Hp) (dv : List (Option Int)) (fd : Option (Int × Nat)) (f : V) (v5 v6 : Option V),
        σ' = [some g, some (.ref pd), some (.ref el), some (.ref dl), some f, v5, v6] ∧ Same H B ∧ Hs B [(dl, .lst (dv.map optI))] H' ∧ dv.length = i ∧ JrAt B f fd ∧ i ≤ us.length ∧
        dueM cnt ls pm [] [] evs = fd.or (dueM cnt ls pm (evs.take i) dv (evs.drop i)))
      (fun Q' q => ?_) (by omega) ⟨H, [], none, .non, none, none, rfl, Same.refl _, hs1, rfl, rfl, Nat.zero_le _, rfl⟩ ?_ ?_
    · walk_at "ss"
      exact q
    · rintro i σ' H2 hi ⟨B, dv, fd, f, v5, v6, rfl, sm, hs2, hdz, hfd, hil, hj⟩
      have hlt : i < us.length := by omega
      obtain ⟨e, hei, hev⟩ := hro.get (List.getElem?_eq_getElem hlt)
      have hui : us[i]? = some us[i] := List.getElem?_eq_getElem hlt
      generalize us[i] = u at hui hev
      have ok := hok e (List.mem_of_getElem? hei)
      have hdrop : evs.drop i = e :: evs.drop (i + 1) := by
        obtain ⟨h1, h2⟩ := List.getElem?_eq_some_iff.mp hei
        rw [← h2, List.drop_eq_getElem_cons h1]
      have htk : evs.take (i + 1) = evs.take i ++ [e] := by
        rw [List.take_add_one, hei]
        rfl
      have htl : (evs.take i).length = i := by
        rw [List.length_take, ← hro.1]
        omega
      rw [hdrop, dueM] at hj
      walk_at "ss"
      refine w_slL hs2 (SqL.of (hs2.same _ _ (sm _ _ hel))) fun l1 H3 hs3 => ?_
      clear hs2
      have ecut : cutV us none (some (i : Int)) = us.take i := cut_to i rfl
      rw [ecut] at hs3
      obtain ⟨B2, sm2, hl1, hs4⟩ := frz_hs hs3
      clear hs3
      have smB := sm.trans sm2
      have a1 : atI us (i : Int) = some u := at_of (j := i) rfl hui
      have hel4 : H3 el = some (.lst us) := hs4.same _ _ (smB _ _ hel)
      walk_at "ss"
      refine ⟨B2, g, u, pd, l1, dl, cnt, ls, pm, us.take i, evs.take i, dv, e, rfl, hs4, hg.same smB, hpd.same smB, hl1, (hro.take i).mono fun _ _ => EvAt.same smB, fun x hx => hok x (List.mem_of_mem_take hx), by rw [List.length_take]; omega, by rw [htl, hdz], hev.same smB, ok, fun H4 hs5 => ?_⟩
      clear hs4 hel4
      generalize hd : depthL ls (evs.take i) dv e = d at hs5 hj
      generalize ruleL cnt pm (evs.take i) e d = r at hj
      walk_at "ss"
      have hdz3 : (dv ++ [d]).length = i + 1 := by
        rw [List.length_append, hdz]
        rfl
      have hfd2 : JrAt B2 f fd := by
        cases fd with
        | none => exact hfd
        | some x =>
          obtain ⟨t, rfl, ht⟩ := hfd
          exact ⟨t, rfl, sm2 _ _ ht⟩
      clear hfd
      rw [← htk, htl] at hj
      refine ifd (fun h0 => ?_) (fun h0 => ?_)
      · rw [if_pos h0] at hj
        walk_at "ss"
        cases fd with
        | none =>
          cases hfd2
          refine iteT ?_
          walk_at "ss"
          rename_i t H5 hs6
          obtain ⟨B3, sm3, ht, hs7⟩ := frz_hs hs6
          exact ⟨B3, dv ++ [d], some (r, i), .ref t, _, _, rfl, smB.trans sm3, hs7, hdz3, ⟨t, rfl, ht⟩, hlt, hj⟩
        | some x =>
          obtain ⟨t, rfl, ht⟩ := hfd2
          refine iteF ?_
          walk_at "ss"
          exact ⟨B2, dv ++ [d], some x, .ref t, _, _, rfl, smB, hs5, hdz3, ⟨t, rfl, ht⟩, hlt, hj⟩
      · rw [if_neg h0] at hj
        refine iteF ?_
        walk_at "ss"
        exact ⟨B2, dv ++ [d], fd, f, _, _, rfl, smB, hs5, hdz3, hfd2, hlt, hj⟩
    · rintro σ' H2 ⟨B, dv, fd, f, v5, v6, rfl, sm, hs2, hdz, hfd, hil, hj⟩
      walk_at "ss"
      have ez : ((us.length : Int)).toNat = evs.length := by
        rw [← hro.1]
        rfl
      rw [ez, List.drop_length, List.take_length] at hj
      have e2 : dueM cnt ls pm [] [] evs = fd := by
        rw [hj]
        show fd.or none = fd
        cases fd with
        | none => rfl
        | some x => rfl
      refine k f H2 (sm.trans hs2.same) ?_
      rw [e2]
      cases fd with
      | none => exact hfd
      | some x =>
        obtain ⟨t, rfl, ht⟩ := hfd
        exact ⟨t, rfl, hs2.same _ _ ht⟩
end
local macro_rules | `(tactic| walk_at "v") => `(tactic| first | exact v0 | exact v1 | exact v2 | exact v3 | exact v4 | exact v5 | exact v6 | exact v7 | exact v8)
local macro_rules | `(tactic| walk_at "vs") => `(tactic| first | exact st0 | exact st1 | exact st2 | exact st3 | exact st4 | exact st5 | exact st6 | exact st7 | exact st8)
local macro_rules | `(tactic| walk_at "s") => `(tactic| first
  | with_reducible refine w_dget ?_
  | ((with_reducible refine' w_dgetZ ?h ?nd ?hk ?hv ?_); (case h => walk_at "g"); (case nd => walk_at "nd"); (case hk => walk_at "k"); (case hv => walk_at "v"))
  | ((with_reducible refine' w_dputZ ?hs ?h ?nd ?hk ?hv ?hu ?hl ?_); (case hs => assumption); (case h => walk_at "p"); (case nd => walk_at "nd"); (case hk => walk_at "k"); (case hv => walk_at "v"); (case hu => walk_at "vs"); (case hl => decide); intro _ _)
  | with_reducible refine w_gsub ?_
  | with_reducible refine w_setD ?_
  | with_reducible refine w_disp ?_
  | ((with_reducible refine' w_newP ?hs ?_); (case hs => assumption); intro _ _ _)
  | with_reducible refine w_pcons ?_
  | with_reducible refine w_pnil ?_)

local macro_rules | `(tactic| walk_at "s") => `(tactic| first
  | with_reducible refine w_nget ?_
  | with_reducible refine w_nin ?_
  | with_reducible refine w_nnot ?_
  | with_reducible refine w_nput ?_
  | with_reducible refine w_ndel ?_
  | with_reducible refine w_npop ?_
  | ((with_reducible refine' w_nnew ?hs ?_); (case hs => assumption); intro _ _ _))

local macro_rules | `(tactic| walk_at "s") => `(tactic| ((with_reducible refine' w_ixT ?h ?a ?_); (case h => walk_at "t"); (case a => first | exact at4 | exact at5)))
/-! ## bounds -/
def IB (n : Int) : Prop := 0 ≤ n ∧ n ≤ 100
def KB (k : IK) : Prop := ∃ (p : Int) (h : List Int), k = [.inl p, .inr h] ∧ h.length = 3 ∧ IB p ∧ ∀ x ∈ h, IB x
structure EvB (e : Ev) : Prop where
  sw : IB e.sw
  port : IB e.port
  ver : IB e.ver
  num : IB e.num
  h3 : e.hdr.length = 3
  hd : ∀ x ∈ e.hdr, IB x
  fm : ∀ k ∈ e.sent, KB k
  few : e.sent.length ≤ 3
theorem EvB.ok {e : Ev} (h : EvB e) : EvOk e := ⟨h.h3, fun k hk => by
  obtain ⟨p, hh, e1, e2, _⟩ := h.fm k hk
  exact ⟨p, hh, e1, e2⟩, Nat.le_trans h.few (by decide)⟩
structure PmB (pm : PM) : Prop where
  ne : pm ≠ []
  len : pm.length ≤ 8
  all : ∀ x ∈ pm, IB x.1 ∧ (∀ p ∈ x.2, PartB p) ∧ x.2.length ≤ 3
theorem seqM_bound : ∀ {xs : List Act} {s s' : S5}, (∀ x ∈ xs, ActB x) → (∀ x ∈ s, IB x) → seqM xs s = some s' → ∀ x ∈ s', IB x
  | [], s, s', _, hs, e => by
    cases e
    exact hs
  | x :: xs, s, s', hb, hs, e => by
    have e2 : (actM x s).bind (seqM xs) = some s' := e
    obtain ⟨s1, h1, h2⟩ := Option.bind_eq_some_iff.mp e2
    refine seqM_bound (fun y hy => hb y (List.mem_cons_of_mem _ hy)) ?_ h2
    have hx := hb x (List.mem_cons_self ..)
    cases x with
    | test t =>
      have e3 : (if holds t s = true then some s else none) = some s1 := h1
      by_cases hc : holds t s = true
      · rw [if_pos hc] at e3
        cases e3
        exact hs
      · rw [if_neg hc] at e3
        cases e3
    | set f n =>
      have e3 : some (s.set f n) = some s1 := h1
      cases e3
      intro y hy
      rcases List.mem_or_eq_of_mem_set hy with h | h
      · exact hs y h
      · rw [h]
        exact hx
theorem does_bound {ps : List Part} {sw port : Int} {h : List Int} (hl : h.length = 3) (hb : ∀ p ∈ ps, PartB p) (h1 : IB sw) (h2 : IB port) (h3 : ∀ x ∈ h, IB x) : ∀ k ∈ doesM ps sw port h, KB k := fun k hk => by
  unfold doesM at hk
  obtain ⟨s, hs, rfl⟩ := List.mem_map.mp ((srtK_perm _).mem_iff.mp hk)
  have h5 := pol_len (show (sw :: port :: h).length = 5 by rw [List.length_cons, List.length_cons, hl]) hs
  have hs2 : s ∈ ps.filterMap fun p => partM p (sw :: port :: h) := by
    rcases (dd_mem _ _ _).mp hs with z | z
    · cases z
    · exact z
  obtain ⟨p, hp, hps⟩ := List.mem_filterMap.mp hs2
  have hall : ∀ x ∈ s, IB x := by
    have := hb p hp
    cases p with
    | act x => exact this.elim
    | seq xs =>
      refine seqM_bound this (fun x hx => ?_) hps
      rcases List.mem_cons.mp hx with rfl | hx
      · exact h1
      · rcases List.mem_cons.mp hx with rfl | hx
        · exact h2
        · exact h3 x hx
  refine ⟨_, _, rfl, by rw [List.length_drop, h5], ?_, fun x hx => hall x (List.mem_of_mem_drop hx)⟩
  rw [List.getD_eq_getElem?_getD, List.getElem?_eq_getElem (show 1 < s.length by omega)]
  exact hall _ (List.getElem_mem _)
theorem getP_mem {pm : PM} {v : Int} {ps : List Part} (h : getP pm v = some ps) : ∃ x ∈ pm, x.2 = ps := by
  unfold getP at h
  obtain ⟨x, h1, h2⟩ := Option.map_eq_some_iff.mp h
  exact ⟨x, List.mem_of_find?_eq_some h1, h2⟩
theorem getP_some {pm : PM} {v : Int} (h : v ∈ pm.map (·.1)) : ∃ ps, getP pm v = some ps := by
  obtain ⟨x, hx, rfl⟩ := List.mem_map.mp h
  unfold getP
  cases hf : pm.find? fun y => decide (y.1 = x.1) with
  | none =>
    have := List.find?_eq_none.mp hf x hx
    exact absurd (decide_eq_true rfl) this
  | some y => exact ⟨y.2, rfl⟩
theorem keys_map {H : Hp} {kvs : List (Key × V)} {pm : PM} (h : Paired (fun kv x => kv.1 = Sum.inl x.1 ∧ PolAt H kv.2 x.2) kvs pm) : kvs.map (·.1) = (pm.map (·.1)).map Sum.inl := by
  induction h with
  | nil => rfl
  | cons h _ ih => rw [List.map_cons, List.map_cons, List.map_cons, ih, h.1]
/-- all that is there, but for what is owned -/
theorem all_in {B H : Hp} {L : List (Addr × HO)} (hs : Hs B L H) : ∃ B2, Same B B2 ∧ Hs B2 L H ∧ ∀ p o, H p = some o → p ∉ L.map (·.1) → B2 p = some o := by
  have h := (show Hs B (L ++ []) H by rw [List.append_nil]; exact hs).frame L
  exact ⟨around L H, h.1, h.2.1, fun p o e n => by rw [around_out n]; exact e⟩
theorem not_owned {B H : Hp} {L : List (Addr × HO)} (hs : Hs B L H) {p : Addr} {o : HO} (h : H p = some o) (n : ∀ e ∈ L, e.2 ≠ o) : p ∉ L.map (·.1) := fun z => by
  obtain ⟨e, he, rfl⟩ := List.mem_map.mp z
  have := hs.at_ e he
  rw [this] at h
  exact n e he (Option.some.inj h)
theorem w_lcAll {K : PySem.W.Frag} {σ : L2.St} {H : Hp} {Q : VK} {tl : TE} {te : TE} {tt : TT} {g : TG} {vs : List Nat} {a : Addr} {us : List V} (R : Hp → V → Prop) (hm : ∀ H1 H2 v, (∀ p xs, H1 p = some (.tup xs) → H2 p = some (.tup xs)) → R H1 v → R H2 v) (hx : SqL K H a us) (hz : us.length ≤ 1000000)
    (htl : ∀ Q : VK, Q (.ref a) H → tl σ H Q)
    (he : ∀ (i : Nat) (u : V) (H' : Hp) (Nx : Hp → Prop) (Ap : VK), us[i]? = some u → Same H H' → (∀ H2, Same H' H2 → Nx H2) → (∀ y H2, Same H' H2 → R H2 y → Ap y H2) → g u (wipe σ vs) H' fun σ2 H2 => wipe σ2 vs = wipe σ vs ∧ tt σ2 H2 fun b H3 => if b = true then te σ2 H3 Ap else Nx H3)
    (hq : ∀ D acc H', Hs H [(D, .lst acc)] H' → (∀ v ∈ acc, R H' v) → acc.length ≤ us.length → Q (.ref D) H') : tLc (iList K tl) g tt te vs σ H Q := by
  refine w_lcLR (htl _ (w_listR hx fun D hD => ?_))
  refine turns_list (Body := LcBody g tt te vs σ D) (fun i H' => ∃ acc, Hs H [(D, .lst acc)] H' ∧ (∀ v ∈ acc, R H' v) ∧ acc.length ≤ i) ⟨[], (Hs.start H).new hD, (fun _ z => nomatch z), Nat.le_refl _⟩ (fun i H' _ ⟨_, h, _⟩ => h.same.seq hx) ?_ ?_
  · rintro i u H' hu ⟨acc, h1, h2, h3⟩
    have hi := (List.getElem?_eq_some_iff.mp hu).1
    refine he i u H' _ _ hu h1.same (fun H2 s2 => ?_) fun y H2 s2 r => ?_
    · exact ⟨acc, h1.keep s2, fun v hv => hm _ _ v (fun a xs e => s2 _ _ e) (h2 v hv), by omega⟩
    · have hD3 : H2 D = some (.lst acc) := s2 _ _ h1.g0
      refine ⟨acc, hD3, szl (by omega), acc ++ [y], (h1.keep s2).p0 _, fun v hv => ?_, by rw [List.length_append]; show acc.length + 1 ≤ i + 1; omega⟩
      refine hm H2 _ v (fun a xs => tup_but hD3 (fun _ z => by cases z) a xs) ?_
      rcases List.mem_append.mp hv with hv | hv
      · exact hm _ _ v (fun a xs e => s2 _ _ e) (h2 v hv)
      · rw [List.mem_singleton.mp hv]
        exact r
  · rintro H' ⟨acc, h1, h2, h3⟩
    exact hq D acc H' h1 h2 h3
/-- a pick from a row of one's own that stays -/
theorem w_pickR {B H : Hp} {Q : VK} {E : XK} {s c r : Addr} {m : Int} {cells : List Int} {xs : List V} {R : List (Addr × HO)} (hs : Hs B ((s, sto c m) :: (c, clo cells) :: (r, .lst xs) :: R) H) (g : Good m cells) (hne : xs ≠ []) (hl : xs.length ≤ 1000)
    (q : ∀ (x : V) m' cells' H', x ∈ xs → Hs B ((s, sto c m') :: (c, clo cells') :: (r, .lst xs) :: R) H' → Good m' cells' → Q x H') : sp__law_pick [.ref s, .ref r] H Q E := by
  have fr : ∃ B', B' = around [(s, sto c m), (c, clo cells)] H ∧ Same B B' ∧ Hs B' [(s, sto c m), (c, clo cells)] H ∧ ∀ A' H', Hs B' A' H' → Hs B (A' ++ (r, .lst xs) :: R) H' := ⟨_, rfl, hs.frame [(s, sto c m), (c, clo cells)]⟩
  obtain ⟨B', eB, smB, h1, back⟩ := fr
  have hr : B' r = some (.lst xs) := by
    rw [eB, around_out fun z => ?_]
    · exact hs.g2
    · have nd := hs.nd
      rw [List.map_cons, List.map_cons, List.map_cons, List.nodup_cons, List.nodup_cons] at nd
      rcases List.mem_cons.mp z with z | z
      · exact nd.1 (List.mem_cons_of_mem _ (show s ∈ r :: R.map (·.1) from (show r = s from z) ▸ List.mem_cons_self ..))
      · exact nd.2.1 (show c ∈ r :: R.map (·.1) from (show r = c from List.mem_singleton.mp z) ▸ List.mem_cons_self ..)
  exact ⟨xs, B', B', s, c, m, cells, _, rfl, Same.refl _, h1, g, ⟨r, rfl, hr, hne, hl⟩, fun B2 v m' cells' H' sm h2 g2 hv => q v m' cells' H' hv (back _ _ (Hs.base sm h2)) g2⟩
def GoalAt (H : Hp) (v : V) : Prop := ∃ (t q qh : Addr) (x : E2) (h : List Int), v = .ref t ∧ H t = some (.tup [.ref q, .ref qh]) ∧ H q = some (endO x) ∧ H qh = some (.tup (h.map V.int)) ∧ IB x.1 ∧ IB x.2 ∧ h.length = 3 ∧ ∀ y ∈ h, IB y
theorem peer_bound {ls : List Lk} {x o : E2} (hb : LkB ls) (h : peerM ls x = some o) : EndB o := by
  unfold peerM at h
  obtain ⟨l, h1, h2⟩ := Option.map_eq_some_iff.mp h
  have := hb l (List.mem_of_find?_eq_some h1)
  rw [← h2]
  split
  · exact this.2
  · exact this.1
theorem tup_free {B H : Hp} {s c el p : Addr} {m : Int} {cells : List Int} {us xs : List V} (hs : Hs B [(s, sto c m), (c, clo cells), (el, .lst us)] H) (h : H p = some (.tup xs)) : p ∉ [(s, sto c m), (c, clo cells), (el, HO.lst us)].map (·.1) :=
  not_owned hs h fun e he z => by
    rcases List.mem_cons.mp he with rfl | he
    · cases z
    · rcases List.mem_cons.mp he with rfl | he
      · cases z
      · cases List.mem_singleton.mp he
        cases z
section
variable {P : Program} [IsP P] {w : World} {K : PySem.W.Frag} {mg : Str → Option Value} {base : Heap} {a : Ad}
def sp__law_grown : Sp := fun vs H Q _ => ∃ (B : Hp) (s c : Addr) (m : Int) (cells : List Int) (g : V) (pd : Addr) (cnt : Int) (ls : List Lk) (pm : PM), vs = [.ref s, g, .ref pd] ∧ Hs B [(s, sto c m), (c, clo cells)] H ∧ Good m cells ∧ GrAt B g cnt ls ∧ 1 ≤ cnt ∧ cnt ≤ 4 ∧ LkB ls ∧ PolsAt B pd pm ∧ PmB pm ∧
  ∀ B2 el us evs m' cells' H', Same B B2 → Hs B2 [(s, sto c m'), (c, clo cells')] H' → Good m' cells' → B2 el = some (.lst us) → Row (EvAt B2) us evs → (∀ e ∈ evs, EvB e) → us.length ≤ 8 → Q (.ref el) H'
theorem ok__law_grown (T : Txt w K mg a) : FnOk P w K mg base CX0 9 a._law_grown a.fd__law_grown ["state", "graph", "policies"] sp__law_grown := by
  have G__law_draw := ok__law_draw (P := P) (w := w) (base := base) T
  have G__law_pick := ok__law_pick (P := P) (w := w) (base := base) T
  have G_does := ok_does (P := P) (w := w) (base := base) T
  have G_peer := ok_peer (P := P) (w := w) (base := base) T
  refine T.fn__law_grown.ok sc__law_grown (fun vs H Q E h => ?_) (fun cdv A outer s H vs Q E hr h => ?_)
  · obtain ⟨_, _, _, _, _, _, _, _, _, _, rfl, _⟩ := h
    rfl
  · obtain ⟨B, s, c, m, cells, g, pd, cnt, ls, pm, rfl, hs, gd, hg, c1, c4, hlb, hpd, hpm, k⟩ := h
    have hu := hu_of hr
    refine ⟨_, (pss_cons (ps_set (i := 3) sc__law_grown.nd rfl (Or.inl rfl) (pe_lst pa_nil))
  (pss_cons (ps_for PassesOwn.never rfl (pi_range1 rfl T.mg_range (pa_cons (pe_call G__law_draw (hr.mono (by first | decide | omega)) rfl T.mg__law_draw T.kp__law_draw T.bi__law_draw .nil pass0 (pa_cons (pv 0) (pa_cons pe_int pa_nil))) pa_nil)) (pg_name (i := 4) sc__law_grown.nd rfl (Or.inl rfl))
  (pss_cons (ps_set (i := 5) sc__law_grown.nd rfl (Or.inl rfl) (pe_call G__law_pick (hr.mono (by first | decide | omega)) rfl T.mg__law_pick T.kp__law_pick T.bi__law_pick .nil pass0 (pa_cons (pv 0) (pa_cons (pe_callB (call_sortedDI rfl) (by rfl) T.mg_sorted (by decide +kernel) (pa_cons (pv 2) pa_nil)) pa_nil))))
  (pss_cons (ps_set (i := 6) sc__law_grown.nd rfl (Or.inl rfl) (pe_tup (pa_cons (pe_call G__law_draw (hr.mono (by first | decide | omega)) rfl T.mg__law_draw T.kp__law_draw T.bi__law_draw .nil pass0 (pa_cons (pv 0) (pa_cons pe_int pa_nil))) (pa_cons (pe_call G__law_draw (hr.mono (by first | decide | omega)) rfl T.mg__law_draw T.kp__law_draw T.bi__law_draw .nil pass0 (pa_cons (pv 0) (pa_cons pe_int pa_nil))) (pa_cons (pe_call G__law_draw (hr.mono (by first | decide | omega)) rfl T.mg__law_draw T.kp__law_draw T.bi__law_draw .nil pass0 (pa_cons (pv 0) (pa_cons pe_int pa_nil))) pa_nil)))))
  (pss_cons (ps_set (i := 7) sc__law_grown.nd rfl (Or.inl rfl) (pe_tup (pa_cons (pe_op op_add pe_int (pe_call G__law_draw (hr.mono (by first | decide | omega)) rfl T.mg__law_draw T.kp__law_draw T.bi__law_draw .nil pass0 (pa_cons (pv 0) (pa_cons (pe_ix (ix_tupK (K := K)) (pv 1) pe_int (fun _ _ => rfl)) pa_nil)))) (pa_cons pe_int (pa_cons (pv 5) (pa_cons (pe_op op_add (pv 4) pe_int) (pa_cons (pv 6) pa_nil)))))))
  (C8.pss_cut (ps_if (PW.pt (pw_and (pt_cmpR op_gt (pe_callB (call_lenK (K := K)) (by rfl) T.mg_len PySem.boot_len (pa_cons (pv 3) pa_nil)) pe_int (nomark _)) (pw_and1 (pt_cmpR op_gt (pe_call G__law_draw (hr.mono (by first | decide | omega)) rfl T.mg__law_draw T.kp__law_draw T.bi__law_draw .nil pass0 (pa_cons (pv 0) (pa_cons pe_int pa_nil))) pe_int (nomark _)))))
  (pss_cons (ps_set (i := 8) sc__law_grown.nd rfl (Or.inr rfl) (pe_call G__law_pick (hr.mono (by first | decide | omega)) rfl T.mg__law_pick T.kp__law_pick T.bi__law_pick .nil pass0 (pa_cons (pv 0) (pa_cons (pv 3) pa_nil))))
  (pss_cons (ps_setLc (i := 9) (own := [("port", 12), ("other", 13)]) (g := (gTup K 2 (gCons (gName 12) (gCons (gName 13) gNil)))) rfl sc__law_grown.nd rfl rfl (sw_true rfl rfl rfl (by decide +kernel)) (pi_listK (K := K) (pe_ix (ix_tupK (K := K)) (pv 8) pe_int (fun _ _ => rfl))) (blkOk_by (own := [("port", 12), ("other", 13)]) (N := N__law_grown) (sc := defScope s__law_grown) (by decide +kernel)) (fun _ _ _ _ _ => by exact (pg_tupK (K := K) rfl (pgs_cons (pg_name (i := 12) sc__law_grown.nd rfl (Or.inl rfl)) (pgs_cons (pg_name (i := 13) sc__law_grown.nd rfl (Or.inl rfl)) pgs_nil)))) (fun _ _ _ _ _ => by exact pts_one (pt_cmpR op_notNQ (pe_call G_peer (hr.mono (by first | decide | omega)) rfl T.mg_peer T.kp_peer T.bi_peer .nil pass0 (pa_cons (pe_ix (ix_tupK (K := K)) (pv 1) pe_int (fun _ _ => rfl)) (pa_cons (pe_tup (pa_cons (pe_ix (ix_tupK (K := K)) (pv 8) pe_int (fun _ _ => rfl)) (pa_cons (pv 12) pa_nil))) pa_nil))) pe_non (nomark _))) (fun _ _ _ _ _ => by exact (pe_tup (pa_cons (pe_call G_peer (hr.mono (by first | decide | omega)) rfl T.mg_peer T.kp_peer T.bi_peer .nil pass0 (pa_cons (pe_ix (ix_tupK (K := K)) (pv 1) pe_int (fun _ _ => rfl)) (pa_cons (pe_tup (pa_cons (pe_ix (ix_tupK (K := K)) (pv 8) pe_int (fun _ _ => rfl)) (pa_cons (pv 12) pa_nil))) pa_nil))) (pa_cons (pv 13) pa_nil)))))
  (pss_one (ps_if (pt_cmpR op_gt (pe_callB (call_lenK (K := K)) (by rfl) T.mg_len PySem.boot_len (pa_cons (pv 9) pa_nil)) pe_int (nomark _))
  (pss_cons (ps_asg (pe_call G__law_pick (hr.mono (by first | decide | omega)) rfl T.mg__law_pick T.kp__law_pick T.bi__law_pick .nil pass0 (pa_cons (pv 0) (pa_cons (pv 9) pa_nil))) (pg_tupK (K := K) rfl (pgs_cons (pg_name (i := 10) sc__law_grown.nd rfl (Or.inl rfl)) (pgs_cons (pg_name (i := 6) sc__law_grown.nd rfl (Or.inl rfl)) pgs_nil))))
  (pss_one (ps_set (i := 7) sc__law_grown.nd rfl (Or.inl rfl) (pe_tup (pa_cons (pe_ix (ix_tupK (K := K)) (pv 10) pe_int (fun _ _ => rfl)) (pa_cons (pe_ix (ix_tupK (K := K)) (pv 10) pe_int (fun _ _ => rfl)) (pa_cons (pe_ix (ix_tupK (K := K)) (pv 8) pe_int (fun _ _ => rfl)) (pa_cons (pe_ix (ix_tupK (K := K)) (pv 8) pe_int (fun _ _ => rfl)) (pa_cons (pv 6) pa_nil)))))))))
  pss_nil))))
  pss_nil)
  (pss_cons (ps_set (i := 11) sc__law_grown.nd rfl (Or.inl rfl) (pe_call G_does (hr.mono (by first | decide | omega)) rfl T.mg_does T.kp_does T.bi_does .nil pass0 (pa_cons (pe_dget hu (pv 2) (pe_ix (ix_tupK (K := K)) (pv 7) pe_int (fun _ _ => rfl)) (fun _ _ => rfl)) (pa_cons (pe_ix (ix_tupK (K := K)) (pv 7) pe_int (fun _ _ => rfl)) (pa_cons (pe_ix (ix_tupK (K := K)) (pv 7) pe_int (fun _ _ => rfl)) (pa_cons (pe_ix (ix_tupK (K := K)) (pv 7) pe_int (fun _ _ => rfl)) pa_nil))))))
  (pss_one (ps_expr (pe_bmK (K := K) PySem.F.plainAttrs_list PySem.F.slot_list_append PySem.F.type_list_append mt_append (pv 3) (pa_cons (pe_op (op_catAK (K := K)) (pv 7) (pe_tup (pa_cons (pe_ifExp (pt_cmpR op_gt (pe_call G__law_draw (hr.mono (by first | decide | omega)) rfl T.mg__law_draw T.kp__law_draw T.bi__law_draw .nil pass0 (pa_cons (pv 0) (pa_cons pe_int pa_nil))) pe_int (nomark _)) (pv 11) (pe_lst pa_nil)) pa_nil))) pa_nil))))))))))
  (pss_one (ps_ret (pv 3))))), ?_⟩
    walk_at "ss"
    rename_i el H1 hs1
    clear hs
    refine w_for1 ?_
    walk_at "ss"
    refine w_draw (hs1.sel [1, 2, 0]) gd (by omega) fun d m1 c1' H2 hs2 g2 _ hd => ?_
    obtain ⟨d0, d1⟩ := hd (by omega)
    clear hs1 gd
    walk_at "ss"
    refine w_forR (n := d) (by omega) (fun i σ' H' => ∃ (B2 : Hp) (m : Int) (cells : List Int) (us : List V) (evs : List Ev) (v4 v5 v6 v7 v8 v9 v10 v11 v12 v13 : Option V),
        σ' = [some (.ref s), some g, some (.ref pd), some (.ref el), v4, v5, v6, v7, v8, v9, v10, v11, v12, v13] ∧ Same B B2 ∧ Hs B2 [(s, sto c m), (c, clo cells), (el, .lst us)] H' ∧ Good m cells ∧ Row (EvAt B2) us evs ∧ (∀ e ∈ evs, EvB e) ∧ (∀ e ∈ evs, ∃ ps, getP pm e.ver = some ps) ∧ us.length = i)
      (fun Q' q => q) (by omega) ⟨B, m1, c1', [], [], none, none, none, none, none, none, none, none, none, none, rfl, Same.refl _, hs2, g2, Row.nil, (fun _ z => nomatch z), (fun _ z => nomatch z), rfl⟩ ?_ ?_
    · clear hs2 g2
      rintro i σ' H3 hi ⟨B2, m, cells, us, evs, v4, v5, v6, v7, v8, v9, v10, v11, v12, v13, rfl, sm, hs, gd, hro, hev, hvp, hlen⟩
      obtain ⟨gp, lr, lus, rfl, hgt, hlr, hL, hlz⟩ := hg
      obtain ⟨kvs, hkv, hpv⟩ := hpd
      walk_at "ss"
      refine ⟨pd, kvs, pm.map (·.1), rfl, .inl (hs.same _ _ (sm _ _ hkv)), keys_map hpv, by rw [List.length_map]; exact Nat.lt_of_le_of_lt hpm.len (by decide), fun ys p hys _ hpn => ?_⟩
      have hs3 := hs.new (o := .lst (ys.map V.int)) hpn
      clear hs
      have hyz : ys.length ≤ 8 := by
        have := hys.length_eq
        rw [List.length_map] at this
        rw [this]
        exact hpm.len
      walk_at "ss"
      refine w_pick hs3 gd (fun z => ?_) (by rw [List.length_map]; omega) fun x m2 cells2 H4 hx hs4 g4 => ?_
      · have h1 : ys = [] := List.map_eq_nil_iff.mp z
        rw [h1] at hys
        have h2 := hys.symm.eq_nil
        exact hpm.ne (List.map_eq_nil_iff.mp h2)
      clear hs3 gd
      obtain ⟨ver, hver, rfl⟩ := List.mem_map.mp hx
      have hver2 := hys.mem_iff.mp hver
      obtain ⟨ps0, hps0⟩ := getP_some hver2
      have hverB : IB ver := by
        obtain ⟨x, hx1, hx2⟩ := List.mem_map.mp hver2
        rw [← hx2]
        exact (hpm.all x hx1).1
      walk_at "ss"
      refine w_draw hs4 g4 (by omega) fun a1 m5 c5 H5 hs5 g5 _ ha1 => ?_
      clear hs4 g4
      walk_at "ss"
      refine w_draw hs5 g5 (by omega) fun a2 m6 c6 H6 hs6 g6 _ ha2 => ?_
      clear hs5 g5
      walk_at "ss"
      refine w_draw hs6 g6 (by omega) fun a3 m7 c7 H7 hs7 g7 _ ha3 => ?_
      clear hs6 g6
      have b1 := ha1 (by omega)
      have b2 := ha2 (by omega)
      have b3 := ha3 (by omega)
      clear ha1 ha2 ha3
      walk_at "ss"
      rename_i th0 H8 hs8
      clear hs7
      have hgt' : H8 gp = some (.tup [.str "graph", .int cnt, .ref lr]) := hs8.same _ _ (sm _ _ hgt)
      walk_at "ss"
      refine w_draw hs8.m2.m2 g7 (by omega) fun q m8 c8 H9 hs9 g8 _ hq => ?_
      obtain ⟨q0, q1⟩ := hq (by omega)
      clear hs8 g7 hgt'
      walk_at "ss"
      rename_i pl H10 hs10
      clear hs9
      obtain ⟨B3, sm3, hpl, hs11⟩ := frz_hs hs10
      obtain ⟨B4, sm4, hth, hs12⟩ := frz_hs (hs11.sel [2, 0, 1, 3])
      clear hs10 hs11
      have sm04 := sm.trans (sm3.trans sm4)
      have sm24 := sm3.trans sm4
      refine w_cut (fun σ' H' => ∃ (B2 : Hp) (m : Int) (cells : List Int) (pl th : Addr) (w0 w1 w2 w3 : Int) (h : List Int) (v5 v6 v8 v9 v10 v11 v12 v13 : Option V),
        σ' = [some (.ref s), some (.ref gp), some (.ref pd), some (.ref el), some (.int (i : Int)), v5, v6, some (.ref pl), v8, v9, v10, v11, v12, v13] ∧ Same B B2 ∧ Hs B2 [(s, sto c m), (c, clo cells), (el, .lst us)] H' ∧ Good m cells ∧ Row (EvAt B2) us evs ∧ 
        B2 pl = some (.tup [.int w0, .int w1, .int w2, .int w3, .ref th]) ∧ B2 th = some (.tup (h.map V.int)) ∧ IB w0 ∧ IB w1 ∧ IB w2 ∧ IB w3 ∧ h.length = 3 ∧ (∀ y ∈ h, IB y) ∧ ∃ ps, getP pm w2 = some ps) ?_ ?_
      · have hpl4 := sm4 _ _ hpl
        have hro4 := hro.mono fun _ _ => EvAt.same sm24
        have fall : ∀ (B5 : Hp) (m : Int) (cells : List Int) (H' : Hp) (v5 v6 v8 v9 v10 v11 v12 v13 : Option V) (D : L2.St → Hp → Prop), Same B4 B5 → Hs B5 [(s, sto c m), (c, clo cells), (el, .lst us)] H' → Good m cells → (∀ σ' H', (∃ (B2 : Hp) (m : Int) (cells : List Int) (pl th : Addr) (w0 w1 w2 w3 : Int) (h : List Int) (v5 v6 v8 v9 v10 v11 v12 v13 : Option V),
        σ' = [some (.ref s), some (.ref gp), some (.ref pd), some (.ref el), some (.int (i : Int)), v5, v6, some (.ref pl), v8, v9, v10, v11, v12, v13] ∧ Same B B2 ∧ Hs B2 [(s, sto c m), (c, clo cells), (el, .lst us)] H' ∧ Good m cells ∧ Row (EvAt B2) us evs ∧ 
        B2 pl = some (.tup [.int w0, .int w1, .int w2, .int w3, .ref th]) ∧ B2 th = some (.tup (h.map V.int)) ∧ IB w0 ∧ IB w1 ∧ IB w2 ∧ IB w3 ∧ h.length = 3 ∧ (∀ y ∈ h, IB y) ∧ ∃ ps, getP pm w2 = some ps) → D σ' H') → D [some (.ref s), some (.ref gp), some (.ref pd), some (.ref el), some (.int (i : Int)), v5, v6, some (.ref pl), v8, v9, v10, v11, v12, v13] H' := fun B5 m cells H' v5 v6 v8 v9 v10 v11 v12 v13 D smx hsx gx k2 =>
          k2 _ _ ⟨B5, m, cells, pl, th0, 1 + q, 0, ver, (i : Int) + 1, [a1, a2, a3], _, _, _, _, _, _, _, _, rfl, sm04.trans smx, hsx, gx, hro4.mono fun _ _ => EvAt.same smx, smx _ _ hpl4, smx _ _ hth, ⟨by omega, by omega⟩, ⟨by decide, by decide⟩, hverB, ⟨by omega, by omega⟩, rfl, fun y hy => by
            simp only [List.mem_cons, List.not_mem_nil, or_false] at hy
            rcases hy with rfl | rfl | rfl
            · exact ⟨b1.1, by omega⟩
            · exact ⟨b2.1, by omega⟩
            · exact ⟨b3.1, by omega⟩, ps0, hps0⟩
        walk_at "ss"
        refine ifd (fun hpos => ?_) (fun _ => ?_)
        · walk_at "ss"
          refine w_draw hs12 g8 (by omega) fun r3 m9 c9 H11 hs13 g9 _ _ => ?_
          clear hs12 g8
          walk_at "ss"
          refine ifd (fun h0 => ?_) (fun h0 => ?_)
          · walk_at "ss"
            refine w_pickR hs13 g9 (fun z => by rw [z] at hpos; exact absurd hpos (by decide)) (by omega) fun x m10 c10 H12 hx hs14 g10 => ?_
            clear hs13 g9
            obtain ⟨j, hj⟩ := List.mem_iff_getElem?.mp hx
            obtain ⟨one, hone, p1, th1, ls1, us1, rfl, hp1, hth1, hls1, hrs1⟩ := hro4.get hj
            have hob := hev one (List.mem_of_getElem? hone)
            have hop := hvp one (List.mem_of_getElem? hone)
            have hp1' := hs14.same _ _ hp1
            have hls1' := hs14.same _ _ hls1
            have hgt4 := hs14.same _ _ (sm04 _ _ hgt)
            have hlr4 := hs14.same _ _ (sm04 _ _ hlr)
            have hL4 := hL.same (sm04.trans hs14.same)
            have huz1 : us1.length ≤ 3 := by
              rw [hrs1.1]
              exact hob.few
            walk_at "ss"
            refine w_lcAll GoalAt (fun H1 H2 v e => ?_) (SqL.of hls1') (by omega) (fun Q' q => ?_) (fun j2 u H' Nx Ap hu2 sm' hN hA => ?_) fun D acc H13 hsD hacc haz => ?_
            · rintro ⟨t, q, qh, x, h, rfl, z1, z2, z3, z4⟩
              exact ⟨t, q, qh, x, h, rfl, e _ _ z1, e _ _ z2, e _ _ z3, z4⟩
            · walk_at "ss"
              exact q
            · obtain ⟨key, hkj, pk, rfl, vsq, hq, hpq⟩ := hrs1.get hu2
              obtain ⟨pt, hh, rfl, hh3, hpt, hhb⟩ := hob.fm key (List.mem_of_getElem? hkj)
              obtain ⟨v1, v2, rfl, hv1, hv2⟩ : ∃ v1 v2, vsq = [v1, v2] ∧ ItAt B4 v1 (.inl pt) ∧ ItAt B4 v2 (.inr hh) := by
                cases hpq with
                | cons a1 r1 =>
                  cases r1 with
                  | cons a2 r2 =>
                    cases r2
                    exact ⟨_, _, rfl, a1, a2⟩
              cases hv1
              obtain ⟨qh, rfl, hqh⟩ := hv2
              have hsI := Hs.start H'
              have hq' : H' pk = some (.tup [.int pt, .ref qh]) := sm' _ _ (hs14.same _ _ hq)
              have hp1'' := sm' _ _ hp1'
              have hgt5 := sm' _ _ hgt4
              refine w_gtup (SqT.of hq') rfl ?_
              walk_at "ss"
              refine ⟨rfl, ?_⟩
              walk_at "ss"
              rename_i t1 H14 hs15
              have e15 := hs15.same
              refine ⟨lr, t1, lus, ls, (one.sw, pt), rfl, e15 _ _ (sm' _ _ hlr4), hL4.same (sm'.trans e15), hs15.g0, fun v hv => ?_⟩
              walk_at "ss"
              cases hpe : peerM ls (one.sw, pt) with
              | none =>
                rw [hpe] at hv
                cases hv
                refine iteF ?_
                exact hN _ e15
              | some o =>
                rw [hpe] at hv
                obtain ⟨qe, rfl, hqe⟩ := hv
                refine iteT ?_
                walk_at "ss"
                rename_i t2 H15 hs16
                clear hs15
                have e16 := hs16.same
                refine ⟨lr, t2, lus, ls, (one.sw, pt), rfl, e16 _ _ (sm' _ _ hlr4), hL4.same (sm'.trans e16), hs16.g0, fun v2 hv2 => ?_⟩
                rw [hpe] at hv2
                obtain ⟨qe2, rfl, hqe2⟩ := hv2
                clear hs16
                have hsJ := Hs.start H15
                walk_at "ss"
                rename_i t3 H16 hs17
                have e17 := hs17.same
                have hob2 := peer_bound hlb hpe
                exact hA _ _ (e16.trans e17) ⟨t3, qe2, qh, o, hh, rfl, hs17.g0, e17 _ _ hqe2, (e16.trans e17) _ _ (sm' _ _ (hs14.same _ _ hqh)), ⟨hob2.1, hob2.2.1⟩, ⟨hob2.2.2.1, hob2.2.2.2⟩, hh3, hhb⟩
            · have hs15 := hs14.add hsD
              clear hs14 hp1' hls1' hgt4 hlr4 hL4
              obtain ⟨B5, sm5, hD5, hs16⟩ := frz_hs hs15
              clear hs15
              obtain ⟨B6, sm6, hs17, all6⟩ := all_in hs16
              clear hs16
              have sm46 := sm5.trans sm6
              have up : ∀ p xs, H13 p = some (.tup xs) → B6 p = some (.tup xs) := fun p xs e => all6 _ _ e (tup_free hs17 e)
              have hacc6 : ∀ v ∈ acc, GoalAt B6 v := fun v hv => by
                obtain ⟨t, q, qh, x, h, z0, z1, z2, z3, z4⟩ := hacc v hv
                exact ⟨t, q, qh, x, h, z0, up _ _ z1, up _ _ z2, up _ _ z3, z4⟩
              have hD6 := sm6 _ _ hD5
              have hDH := hs17.same _ _ hD6
              walk_at "ss"
              refine ifd (fun hk => ?_) (fun hk => ?_)
              · walk_at "ss"
                refine w_spS acc hs17 g10 ⟨D, rfl, hD6, fun z => by rw [z] at hk; exact absurd hk (by decide), by omega⟩ (fun _ _ _ _ h => h) fun B7 v m11 c11 H14 sm7 hs18 g11 hv => ?_
                clear hs17 hDH
                obtain ⟨t, qq, qh, x, h, rfl, z1, z2, z3, zx1, zx2, zh, zb⟩ := hacc6 v hv
                refine w_gtup (SqT.of (hs18.same _ _ (sm7 _ _ z1))) rfl ?_
                walk_at "ss"
                have hqq : H14 qq = some (.tup [.int x.1, .int x.2]) := hs18.same _ _ (sm7 _ _ z2)
                have hp1x := hs18.same _ _ (sm7 _ _ (sm46 _ _ hp1))
                walk_at "ss"
                rename_i pl2 H15 hs19
                clear hs18
                obtain ⟨B8, sm8, hpl2, hs20⟩ := frz_hs hs19
                have sm48 := sm46.trans (sm7.trans sm8)
                exact ⟨B8, m11, c11, pl2, qh, x.1, x.2, one.ver, one.num, h, _, _, _, _, _, _, _, _, rfl, sm04.trans sm48, hs20, g11, hro4.mono fun _ _ => EvAt.same sm48, hpl2, sm8 _ _ (sm7 _ _ z3), zx1, zx2, hob.ver, hob.num, zh, zb, hop⟩
              · walk_at "ss"
                exact fall B6 m10 c10 _ _ _ _ _ _ _ _ _ _ sm46 hs17 g10 fun _ _ z => z
          · walk_at "ss"
            exact fall B4 m9 c9 _ _ _ _ _ _ _ _ _ _ (Same.refl _) hs13 g9 fun _ _ z => z
        · refine iteF ?_
          walk_at "ss"
          exact fall B4 m8 c8 _ _ _ _ _ _ _ _ _ _ (Same.refl _) hs12 g8 fun _ _ z => z
      · clear hs12 g8 hro
        rintro σ' H11 ⟨B2, m, cells, pl, th, w0, w1, w2, w3, h, v5, v6, v8, v9, v10, v11, v12, v13, rfl, sm, hs1, g1, hro, hpl, hth, b0, b1, b2, b3, h3, hbh, ps, hps⟩
        have hpl' := hs1.same _ _ hpl
        rcases pols_val hpv w2 with ⟨z1, z2⟩ | ⟨ps', u, z1, z2, z3⟩
        · rw [z1] at hps
          cases hps
        rw [z1] at hps
        cases hps
        walk_at "ss"
        refine ⟨pd, u, rfl, .inl ⟨kvs, Sum.inl w2, .inl (hs1.same _ _ (sm _ _ hkv)), rfl, z2.symm⟩, ?_⟩
        walk_at "ss"
        refine ⟨u, th, ps, w0, w1, h, rfl, z3.same (sm.trans hs1.same), hs1.same _ _ hth, h3, fun l us' H12 sm2 hn2 hl2 hr2 => ?_⟩
        have hs2 := Hs_own hs1 sm2 hn2 hl2
        clear hs1 hpl'
        obtain ⟨B3, sm3, hl3, hs3⟩ := frz_hs hs2
        clear hs2
        obtain ⟨B4, sm4, hs4, all4⟩ := all_in hs3
        clear hs3
        have sm24 := sm3.trans sm4
        have hr4 : Row (KeyAt B4) us' (doesM ps w0 w1 h) := hr2.mono fun _ _ => KeyAt.mono fun p xs e => all4 _ _ e (tup_free hs4 e)
        have hl4 := sm4 _ _ hl3
        have hpl4 := sm24 _ _ hpl
        have hth4 := sm24 _ _ hth
        have hpl' := hs4.same _ _ hpl4
        have hpp : (∀ p ∈ ps, PartB p) ∧ ps.length ≤ 3 := by
          obtain ⟨x, hx, e⟩ := getP_mem z1
          rw [← e]
          exact (hpm.all x hx).2
        walk_at "ss"
        refine w_draw hs4 g1 (by omega) fun r5 m9 c9 H13 hs5 g9 _ _ => ?_
        clear hs4 g1 hpl'
        have hpl' := hs5.same _ _ hpl4
        have huz8 : us.length < 8 := by omega
        walk_at "ss"
        have hro4 := hro.mono fun _ _ => EvAt.same sm24
        refine ifd (fun h0 => ?_) (fun h0 => ?_)
        · walk_at "ss"
          rename_i t1 H14 hs6
          refine ⟨pl, t1, _, _, rfl, rfl, SqT.of (hs6.same _ _ hpl4), SqT.of hs6.g0, sz (by simp), (fun z => nomatch z), (fun _ z => nomatch z), fun _ _ p hp => ?_⟩
          have hs7 := hs6.new (o := .tup ([.int w0, .int w1, .int w2, .int w3, .ref th] ++ [.ref l])) hp
          clear hs5 hs6 hpl'
          have huz9 : us.length + 1 < sizeLine := szl (by omega)
          walk_at "ss"
          rename_i H15 hs8
          clear hs7
          obtain ⟨B5, sm5, hp5, hs9⟩ := frz_hs hs8
          clear hs8
          have hs10 := hs9.tl
          clear hs9
          have sm25 := sm24.trans sm5
          refine ⟨B5, m9, c9, us ++ [.ref p], evs ++ [{ sw := w0, port := w1, ver := w2, num := w3, hdr := h, sent := doesM ps w0 w1 h }], _, _, _, _, _, _, _, _, _, _, rfl, sm.trans sm25, hs10, g9, (hro4.mono fun _ _ => EvAt.same sm5).snoc (show EvAt B5 (.ref p) { sw := w0, port := w1, ver := w2, num := w3, hdr := h, sent := doesM ps w0 w1 h } from ⟨p, th, l, us', rfl, hp5, sm5 _ _ hth4, sm5 _ _ hl4, hr4.mono fun _ _ => KeyAt.mono fun _ _ => sm5 _ _⟩), fun x hx => ?_, fun x hx => ?_, by rw [List.length_append, hlen]; rfl⟩
          · rcases List.mem_append.mp hx with hx | hx
            · exact hev x hx
            · rw [List.mem_singleton.mp hx]
              exact ⟨b0, b1, b2, b3, h3, hbh, does_bound h3 hpp.1 b0 b1 hbh, Nat.le_trans does_few hpp.2⟩
          · rcases List.mem_append.mp hx with hx | hx
            · exact hvp x hx
            · rw [List.mem_singleton.mp hx]
              exact ⟨_, z1⟩
        · walk_at "ss"
          rename_i l0 H99 hs99 t1 H14 hs6
          refine ⟨pl, t1, _, _, rfl, rfl, SqT.of (hs6.same _ _ hpl4), SqT.of hs6.g0, sz (by simp), (fun z => nomatch z), (fun _ z => nomatch z), fun _ _ p hp => ?_⟩
          have hs7 := hs6.new (o := .tup ([.int w0, .int w1, .int w2, .int w3, .ref th] ++ [.ref l0])) hp
          clear hs5 hs6 hs99 hpl'
          have huz9 : us.length + 1 < sizeLine := szl (by omega)
          walk_at "ss"
          rename_i H15 hs8
          clear hs7
          obtain ⟨B5, sm5, hp5, hs9⟩ := frz_hs hs8
          clear hs8
          obtain ⟨B6, sm6, hl6, hs10⟩ := frz_hs hs9.tl
          clear hs9
          have sm46 := sm5.trans sm6
          have sm26 := sm24.trans sm46
          refine ⟨B6, m9, c9, us ++ [.ref p], evs ++ [{ sw := w0, port := w1, ver := w2, num := w3, hdr := h, sent := [] }], _, _, _, _, _, _, _, _, _, _, rfl, sm.trans sm26, hs10, g9, (hro4.mono fun _ _ => EvAt.same sm46).snoc (show EvAt B6 (.ref p) { sw := w0, port := w1, ver := w2, num := w3, hdr := h, sent := [] } from ⟨p, th, l0, [], rfl, sm6 _ _ hp5, sm46 _ _ hth4, hl6, Row.nil⟩), fun x hx => ?_, fun x hx => ?_, by rw [List.length_append, hlen]; rfl⟩
          · rcases List.mem_append.mp hx with hx | hx
            · exact hev x hx
            · rw [List.mem_singleton.mp hx]
              exact ⟨b0, b1, b2, b3, h3, hbh, (fun _ z => nomatch z), (by decide : 0 ≤ 3)⟩
          · rcases List.mem_append.mp hx with hx | hx
            · exact hvp x hx
            · rw [List.mem_singleton.mp hx]
              exact ⟨_, z1⟩
    · rintro σ' H3 ⟨B2, m, cells, us, evs, v4, v5, v6, v7, v8, v9, v10, v11, v12, v13, rfl, sm, hs, gd, hro, hev, hvp, hlen⟩
      walk_at "ss"
      obtain ⟨B3, sm3, hel, hs3⟩ := frz_hs (hs.sel [2, 0, 1])
      exact k B3 el us evs m cells H3 (sm.trans sm3) hs3 gd hel (hro.mono fun _ _ => EvAt.same sm3) hev (by omega)
end
local macro_rules | `(tactic| walk_at "v") => `(tactic| first | exact v0 | exact v1 | exact v2 | exact v3 | exact v4 | exact v5 | exact v6 | exact v7 | exact v8)
local macro_rules | `(tactic| walk_at "vs") => `(tactic| first | exact st0 | exact st1 | exact st2 | exact st3 | exact st4 | exact st5 | exact st6 | exact st7 | exact st8)
local macro_rules | `(tactic| walk_at "s") => `(tactic| first
  | with_reducible refine w_dget ?_
  | ((with_reducible refine' w_dgetZ ?h ?nd ?hk ?hv ?_); (case h => walk_at "g"); (case nd => walk_at "nd"); (case hk => walk_at "k"); (case hv => walk_at "v"))
  | ((with_reducible refine' w_dputZ ?hs ?h ?nd ?hk ?hv ?hu ?hl ?_); (case hs => assumption); (case h => walk_at "p"); (case nd => walk_at "nd"); (case hk => walk_at "k"); (case hv => walk_at "v"); (case hu => walk_at "vs"); (case hl => decide); intro _ _)
  | with_reducible refine w_gsub ?_
  | with_reducible refine w_setD ?_
  | with_reducible refine w_disp ?_
  | ((with_reducible refine' w_newP ?hs ?_); (case hs => assumption); intro _ _ _)
  | with_reducible refine w_pcons ?_
  | with_reducible refine w_pnil ?_)

local macro_rules | `(tactic| walk_at "s") => `(tactic| first
  | with_reducible refine w_nget ?_
  | with_reducible refine w_nin ?_
  | with_reducible refine w_nnot ?_
  | with_reducible refine w_nput ?_
  | with_reducible refine w_ndel ?_
  | with_reducible refine w_npop ?_
  | ((with_reducible refine' w_nnew ?hs ?_); (case hs => assumption); intro _ _ _))

/-! ## an event turned -/
abbrev evT (e : Ev) (th ls : Addr) : List V := [.int e.sw, .int e.port, .int e.ver, .int e.num, .ref th, .ref ls]
structure VAt (B : Hp) (k : Int) (v : V) : Prop where
  n : k ≤ 3 → ∃ n, v = .int n ∧ IB n
  h : k = 4 → ∃ (th : Addr) (h : List Int), v = .ref th ∧ B th = some (.tup (h.map V.int)) ∧ h.length = 3 ∧ ∀ x ∈ h, IB x
  l : k = 5 → ∃ (l : Addr) (us : List V) (ks : List IK), v = .ref l ∧ B l = some (.lst us) ∧ Row (KeyAt B) us ks ∧ (∀ k ∈ ks, KB k) ∧ ks.length ≤ 3
theorem set_ev {B : Hp} {t th ls : Addr} {us : List V} {e : Ev} {k : Int} {v : V} (hth : B th = some (.tup (e.hdr.map V.int))) (hls : B ls = some (.lst us)) (hr : Row (KeyAt B) us e.sent) (hb : EvB e) (k0 : 0 ≤ k) (k6 : k < 6) (hv : VAt B k v)
    (ht : B t = some (.tup ((evT e th ls).take k.toNat ++ [v] ++ (evT e th ls).drop (k.toNat + 1)))) : ∃ e', EvAt B (.ref t) e' ∧ EvB e' := by
  have hc : k = 0 ∨ k = 1 ∨ k = 2 ∨ k = 3 ∨ k = 4 ∨ k = 5 := by omega
  rcases hc with rfl | rfl | rfl | rfl | rfl | rfl
  · obtain ⟨n, rfl, hn⟩ := hv.n (by decide)
    exact ⟨{ e with sw := n }, ⟨t, th, ls, us, rfl, ht, hth, hls, hr⟩, { hb with sw := hn }⟩
  · obtain ⟨n, rfl, hn⟩ := hv.n (by decide)
    exact ⟨{ e with port := n }, ⟨t, th, ls, us, rfl, ht, hth, hls, hr⟩, { hb with port := hn }⟩
  · obtain ⟨n, rfl, hn⟩ := hv.n (by decide)
    exact ⟨{ e with ver := n }, ⟨t, th, ls, us, rfl, ht, hth, hls, hr⟩, { hb with ver := hn }⟩
  · obtain ⟨n, rfl, hn⟩ := hv.n (by decide)
    exact ⟨{ e with num := n }, ⟨t, th, ls, us, rfl, ht, hth, hls, hr⟩, { hb with num := hn }⟩
  · obtain ⟨th2, h, rfl, h1, h2, h3⟩ := hv.h rfl
    exact ⟨{ e with hdr := h }, ⟨t, th2, ls, us, rfl, ht, h1, hls, hr⟩, { hb with h3 := h2, hd := h3 }⟩
  · obtain ⟨l2, us2, ks, rfl, h1, h2, h3, h4⟩ := hv.l rfl
    exact ⟨{ e with sent := ks }, ⟨t, th, l2, us2, rfl, ht, hth, h1, h2⟩, { hb with fm := h3, few := h4 }⟩
theorem w_catT {K : PySem.W.Frag} {B H : Hp} {L : List (Addr × HO)} {Q : VK} {a b : Addr} {xs ys : List V} (hs : Hs B L H) (ha : B a = some (.tup xs)) (hb : B b = some (.tup ys)) (hz : xs.length + ys.length ≤ 100) (q : ∀ p B2 H', Same B B2 → Hs B2 L H' → B2 p = some (.tup (xs ++ ys)) → Q (.ref p) H') : rCatA K (.ref a) (.ref b) H Q := by
  refine ⟨a, b, xs, ys, rfl, rfl, SqT.of (hs.same _ _ ha), SqT.of (hs.same _ _ hb), Nat.le_trans hz (by decide), fun z => ?_, fun _ z => ?_, fun _ _ p hp => ?_⟩
  · subst z
    exact q b B H (Same.refl _) hs hb
  · subst z
    exact q a B H (Same.refl _) hs (by rw [List.append_nil]; exact ha)
  · obtain ⟨B2, sm, h1, h2⟩ := frz_hs (hs.new (o := .tup (xs ++ ys)) hp)
    exact q p B2 _ sm h2 h1
theorem w_slT {K : PySem.W.Frag} {B H : Hp} {L : List (Addr × HO)} {Q : VK} {p : Addr} {xs : List V} {lo hi : Option Int} (hs : Hs B L H) (h : B p = some (.tup xs)) (hw : ¬ (HT.sIx xs.length 0 lo = 0 ∧ HT.sIx xs.length xs.length hi = xs.length)) (q : ∀ l B2 H', Same B B2 → Hs B2 L H' → B2 l = some (.tup (cutV xs lo hi)) → Q (.ref l) H') : rSlA K (.ref p) lo hi H Q :=
  w_slA hs (SqT.of (hs.same _ _ h)) hw fun l H' h1 => by
    obtain ⟨B2, sm, h2, h3⟩ := frz_hs h1
    exact q l B2 H' sm h3 h2
section
variable {P : Program} [IsP P] {w : World} {K : PySem.W.Frag} {mg : Str → Option Value} {base : Heap} {a : Ad}
def sp__law_turned : Sp := fun vs H Q _ => ∃ (B : Hp) (s c : Addr) (m : Int) (cells : List Int) (el : Addr) (us : List V) (evs : List Ev), vs = [.ref s, .ref el] ∧ Hs B [(s, sto c m), (c, clo cells)] H ∧ Good m cells ∧ B el = some (.lst us) ∧ Row (EvAt B) us evs ∧ (∀ e ∈ evs, EvB e) ∧ us.length ≤ 8 ∧
  ∀ B2 el us evs m' cells' H', Same B B2 → Hs B2 [(s, sto c m'), (c, clo cells')] H' → Good m' cells' → B2 el = some (.lst us) → Row (EvAt B2) us evs → (∀ e ∈ evs, EvB e) → us.length ≤ 8 → Q (.ref el) H'
theorem ok__law_turned (T : Txt w K mg a) : FnOk P w K mg base CX0 3 a._law_turned a.fd__law_turned ["state", "events"] sp__law_turned := by
  have G__law_draw := ok__law_draw (P := P) (w := w) (base := base) T
  have G__law_pick := ok__law_pick (P := P) (w := w) (base := base) T
  refine T.fn__law_turned.ok sc__law_turned (fun vs H Q E h => ?_) (fun cdv A outer s H vs Q E hr h => ?_)
  · obtain ⟨_, _, _, _, _, _, _, _, rfl, _⟩ := h
    rfl
  · obtain ⟨B, s, c, m, cells, el, us, evs, rfl, hs, gd, hel, hro, hev, hz, k⟩ := h
    have hu := hu_of hr
    refine ⟨_, (pss_cons (ps_if (pt_cmpR op_eq (pe_callB (call_lenK (K := K)) (by rfl) T.mg_len PySem.boot_len (pa_cons (pv 1) pa_nil)) pe_int (nomark _))
  (pss_one (ps_ret (pv 1)))
  pss_nil)
  (pss_cons (ps_set (i := 2) sc__law_turned.nd rfl (Or.inl rfl) (pe_call G__law_draw (hr.mono (by first | decide | omega)) rfl T.mg__law_draw T.kp__law_draw T.bi__law_draw .nil pass0 (pa_cons (pv 0) (pa_cons (pe_callB (call_lenK (K := K)) (by rfl) T.mg_len PySem.boot_len (pa_cons (pv 1) pa_nil)) pa_nil))))
  (pss_cons (ps_set (i := 3) sc__law_turned.nd rfl (Or.inl rfl) (pe_ix (ix_listK (K := K)) (pv 1) (pv 2) (fun _ _ => rfl)))
  (pss_cons (ps_set (i := 4) sc__law_turned.nd rfl (Or.inl rfl) (pe_call G__law_draw (hr.mono (by first | decide | omega)) rfl T.mg__law_draw T.kp__law_draw T.bi__law_draw .nil pass0 (pa_cons (pv 0) (pa_cons pe_int pa_nil))))
  (pss_cons (ps_set (i := 5) sc__law_turned.nd rfl (Or.inl rfl) (pe_call G__law_pick (hr.mono (by first | decide | omega)) rfl T.mg__law_pick T.kp__law_pick T.bi__law_pick .nil pass0 (pa_cons (pv 0) (pa_cons (pe_lst (pa_cons pe_int (pa_cons pe_int (pa_cons pe_int (pa_cons pe_int (pa_cons pe_int pa_nil)))))) pa_nil))))
  (C8.pss_cut (ps_if (pt_cmpR op_eq (pv 4) pe_int (nomark _))
  (pss_one (ps_set (i := 5) sc__law_turned.nd rfl (Or.inl rfl) (pe_tup (pa_cons (pe_call G__law_draw (hr.mono (by first | decide | omega)) rfl T.mg__law_draw T.kp__law_draw T.bi__law_draw .nil pass0 (pa_cons (pv 0) (pa_cons pe_int pa_nil))) (pa_cons (pe_call G__law_draw (hr.mono (by first | decide | omega)) rfl T.mg__law_draw T.kp__law_draw T.bi__law_draw .nil pass0 (pa_cons (pv 0) (pa_cons pe_int pa_nil))) (pa_cons (pe_call G__law_draw (hr.mono (by first | decide | omega)) rfl T.mg__law_draw T.kp__law_draw T.bi__law_draw .nil pass0 (pa_cons (pv 0) (pa_cons pe_int pa_nil))) pa_nil))))))
  pss_nil)
  (C8.pss_cut (ps_if (pt_cmpR op_eq (pv 4) pe_int (nomark _))
  (pss_one (ps_set (i := 5) sc__law_turned.nd rfl (Or.inl rfl) (pe_lst (pa_cons (pe_tup (pa_cons (pe_call G__law_draw (hr.mono (by first | decide | omega)) rfl T.mg__law_draw T.kp__law_draw T.bi__law_draw .nil pass0 (pa_cons (pv 0) (pa_cons pe_int pa_nil))) (pa_cons (pe_tup (pa_cons pe_int (pa_cons pe_int (pa_cons pe_int pa_nil)))) pa_nil))) pa_nil))))
  pss_nil)
  (pss_one (ps_ret (pe_op op_cat (pe_op op_cat (pe_slice (sl_listK (K := K)) (pv 1) po_none (po_some (pv 2))) (pe_lst (pa_cons (pe_op (op_catAK (K := K)) (pe_op (op_catAK (K := K)) (pe_slice (sl_tupAK (K := K)) (pv 3) po_none (po_some (pv 4))) (pe_tup (pa_cons (pv 5) pa_nil))) (pe_slice (sl_tupAK (K := K)) (pv 3) (po_some (pe_op op_add (pv 4) pe_int)) po_none)) pa_nil))) (pe_slice (sl_listK (K := K)) (pv 1) (po_some (pe_op op_add (pv 2) pe_int)) po_none))))))))))), ?_⟩
    have helH := hs.same _ _ hel
    walk_at "ss"
    refine ifd (fun h0 => ?_) (fun h0 => ?_)
    · walk_at "ss"
      exact k B el us evs m cells H (Same.refl _) hs gd hel hro hev hz
    walk_at "ss"
    refine w_draw hs gd (by omega) fun at' m1 c1 H1 hs1 g1 _ hat => ?_
    obtain ⟨t0, t1⟩ := hat (by omega)
    clear hs gd helH
    have helH := hs1.same _ _ hel
    have hlt : at'.toNat < us.length := by omega
    obtain ⟨e, hei, p, th, ls1, us1, hue, hp, hth, hls, hrs⟩ := hro.get (List.getElem?_eq_getElem hlt)
    have a1 : atI us at' = some (.ref p) := at_of (j := at'.toNat) (by omega) (by rw [List.getElem?_eq_getElem hlt, hue])
    have hb := hev e (List.mem_of_getElem? hei)
    walk_at "ss"
    refine w_draw hs1 g1 (by omega) fun kk m2 c2 H2 hs2 g2 _ hkk => ?_
    obtain ⟨k0, k6⟩ := hkk (by omega)
    clear hs1 g1 helH
    walk_at "ss"
    rename_i l0 H3 hs3
    clear hs2
    refine w_pick hs3 g2 (by simp) (by simp) fun x m3 c3 H4 hx hs4 g3 => ?_
    clear hs3 g2
    obtain ⟨n, rfl, hn⟩ : ∃ n, x = .int n ∧ IB n := by
      simp only [List.mem_cons, List.not_mem_nil, or_false] at hx
      rcases hx with rfl | rfl | rfl | rfl | rfl
      · exact ⟨0, rfl, by decide, by decide⟩
      · exact ⟨1, rfl, by decide, by decide⟩
      · exact ⟨2, rfl, by decide, by decide⟩
      · exact ⟨3, rfl, by decide, by decide⟩
      · exact ⟨9, rfl, by decide, by decide⟩
    walk_at "ss"
    refine w_cut (fun σ' H' => ∃ (B2 : Hp) (m : Int) (cells : List Int) (v : V), σ' = [some (.ref s), some (.ref el), some (.int at'), some (.ref p), some (.int kk), some v] ∧ Same B B2 ∧ Hs B2 [(s, sto c m), (c, clo cells)] H' ∧ Good m cells ∧ (kk ≤ 3 → ∃ n, v = .int n ∧ IB n) ∧ (kk = 4 → ∃ (th : Addr) (h : List Int), v = .ref th ∧ B2 th = some (.tup (h.map V.int)) ∧ h.length = 3 ∧ ∀ x ∈ h, IB x)) ?_ ?_
    · walk_at "ss"
      refine ifd (fun h4 => ?_) (fun h4 => ?_)
      · walk_at "ss"
        refine w_draw hs4 g3 (by omega) fun b1 m5 c5 H5 hs5 g5 _ hb1 => ?_
        clear hs4 g3
        walk_at "ss"
        refine w_draw hs5 g5 (by omega) fun b2 m6 c6 H6 hs6 g6 _ hb2 => ?_
        clear hs5 g5
        walk_at "ss"
        refine w_draw hs6 g6 (by omega) fun b3 m7 c7 H7 hs7 g7 _ hb3 => ?_
        clear hs6 g6
        have d1 := hb1 (by omega)
        have d2 := hb2 (by omega)
        have d3 := hb3 (by omega)
        walk_at "ss"
        rename_i t H8 hs8
        obtain ⟨B3, sm3, ht, hs9⟩ := frz_hs hs8
        refine ⟨B3, m7, c7, .ref t, rfl, sm3, hs9, g7, fun z => by omega, fun _ => ⟨t, [b1, b2, b3], rfl, ht, rfl, fun y hy => ?_⟩⟩
        simp only [List.mem_cons, List.not_mem_nil, or_false] at hy
        rcases hy with rfl | rfl | rfl
        · exact ⟨d1.1, by omega⟩
        · exact ⟨d2.1, by omega⟩
        · exact ⟨d3.1, by omega⟩
      · walk_at "ss"
        exact ⟨B, m3, c3, .int n, rfl, Same.refl _, hs4, g3, fun _ => ⟨n, rfl, hn⟩, fun z => absurd z h4⟩
    · clear hs4 g3
      rintro σ' H5 ⟨B2, m, cells, v, rfl, sm, hs1, g1, hv1, hv2⟩
      refine w_cut (fun σ' H' => ∃ (B2 : Hp) (m : Int) (cells : List Int) (v : V), σ' = [some (.ref s), some (.ref el), some (.int at'), some (.ref p), some (.int kk), some v] ∧ Same B B2 ∧ Hs B2 [(s, sto c m), (c, clo cells)] H' ∧ Good m cells ∧ VAt B2 kk v) ?_ ?_
      · walk_at "ss"
        refine ifd (fun h5 => ?_) (fun h5 => ?_)
        · walk_at "ss"
          refine w_draw hs1 g1 (by omega) fun b1 m5 c5 H6 hs5 g5 _ hb1 => ?_
          clear hs1 g1
          have d1 := hb1 (by omega)
          walk_at "ss"
          rename_i t1 H7 _ t2 H8 _ l1 H9 hs8
          obtain ⟨B3, sm3, hl1, hs9⟩ := frz_hs hs8
          obtain ⟨B4, sm4, ht2, hs10⟩ := frz_hs hs9
          obtain ⟨B5, sm5, ht1, hs11⟩ := frz_hs hs10
          refine ⟨B5, m5, c5, .ref l1, rfl, sm.trans (sm3.trans (sm4.trans sm5)), hs11, g5, fun z => by omega, fun z => by omega, fun _ => ⟨l1, [.ref t2], [[.inl b1, .inr [0, 0, 0]]], rfl, sm5 _ _ (sm4 _ _ hl1), Row.cons ⟨t2, rfl, _, sm5 _ _ ht2, .cons rfl (.cons ⟨t1, rfl, ht1⟩ .nil)⟩ Row.nil, fun kx hkx => ?_, (by decide : 1 ≤ 3)⟩⟩
          cases List.mem_singleton.mp hkx
          exact ⟨b1, [0, 0, 0], rfl, rfl, ⟨d1.1, by omega⟩, fun y hy => by
            simp only [List.mem_cons, List.not_mem_nil, or_false] at hy
            rcases hy with rfl | rfl | rfl <;> exact ⟨by decide, by decide⟩⟩
        · walk_at "ss"
          exact ⟨B2, m, cells, v, rfl, sm, hs1, g1, hv1, hv2, fun z => absurd z h5⟩
      · clear hs1 g1 hv1 hv2 sm
        clear B2
        rintro σ' H6 ⟨B2, m, cells, v, rfl, sm, hs1, g1, hv⟩
        have helH := hs1.same _ _ (sm _ _ hel)
        have hpH := hs1.same _ _ (sm _ _ hp)
        walk_at "ss"
        rename_i l1 H7 hs2
        clear hs1 helH hpH
        have ek : kk = (kk.toNat : Int) := by omega
        have eA : cutV (evT e th ls1) none (some kk) = (evT e th ls1).take kk.toNat := cut_to kk.toNat ek
        have eB : cutV (evT e th ls1) (some (kk + 1)) none = (evT e th ls1).drop (kk.toNat + 1) := cut_from (kk.toNat + 1) (by omega)
        have l6 : (evT e th ls1).length = 6 := rfl
        refine w_slT hs2 (sm _ _ hp) (fun z => ?_) fun q1 B3 H8 sm3 hs3 hq1 => ?_
        · have := z.2
          rw [l6, ek, HT.sIx_nat] at this
          omega
        clear hs2
        rw [eA] at hq1
        walk_at "ss"
        rename_i q2 H9 hs4
        clear hs3
        obtain ⟨B4, sm4, hq2, hs5⟩ := frz_hs hs4
        clear hs4
        refine w_catT hs5 (sm4 _ _ hq1) hq2 (by rw [List.length_take, l6]; show min kk.toNat 6 + 1 ≤ 100; omega) fun q3 B5 H10 sm5 hs6 hq3 => ?_
        clear hs5
        have smp := sm.trans (sm3.trans (sm4.trans sm5))
        have hpH := hs6.same _ _ (smp _ _ hp)
        walk_at "ss"
        refine w_slT hs6 (smp _ _ hp) (fun z => ?_) fun q4 B6 H11 sm6 hs7 hq4 => ?_
        · have := z.1
          rw [l6, show kk + 1 = ((kk.toNat + 1 : Nat) : Int) by omega, HT.sIx_nat] at this
          omega
        clear hs6 hpH
        rw [eB] at hq4
        refine w_catT hs7 (sm6 _ _ hq3) hq4 (by rw [List.length_append, List.length_take, List.length_drop, l6]; show min kk.toNat 6 + 1 + _ ≤ 100; omega) fun q5 B7 H12 sm7 hs8 hq5 => ?_
        clear hs7
        have sm27 := sm3.trans (sm4.trans (sm5.trans (sm6.trans sm7)))
        have smB := sm.trans sm27
        have helH := hs8.same _ _ (smB _ _ hel)
        have hv7 : VAt B7 kk v := ⟨hv.n, fun z => by
          obtain ⟨th, h, z1, z2, z3⟩ := hv.h z
          exact ⟨th, h, z1, sm27 _ _ z2, z3⟩, fun z => by
          obtain ⟨l, us, ks, z1, z2, z3, z4⟩ := hv.l z
          exact ⟨l, us, ks, z1, sm27 _ _ z2, z3.mono fun _ _ => KeyAt.mono fun _ _ => sm27 _ _, z4⟩⟩
        obtain ⟨e', he1, he2⟩ := set_ev (smB _ _ hth) (smB _ _ hls) (hrs.mono fun _ _ => KeyAt.mono fun _ _ => smB _ _) hb k0 k6 hv7 hq5
        walk_at "ss"
        rename_i l2 H13 hs9
        clear hs8 helH
        have zc : (cutV us none (some at')).length ≤ 8 := Nat.le_trans cut_len hz
        have zd : (cutV us (some (at' + 1)) none).length ≤ 8 := Nat.le_trans cut_len hz
        refine w_cat hs9 hs9.g1 hs9.g0 (sz (by show _ + 1 ≤ _; omega)) fun l3 H14 hs10 => ?_
        clear hs9
        have helH := hs10.same _ _ (smB _ _ hel)
        walk_at "ss"
        rename_i l4 H15 hs11 l5 H16 hs12
        clear hs10 helH hs11
        obtain ⟨B8, sm8, hl5, hs13⟩ := frz_hs hs12
        clear hs12
        have sm08 := smB.trans sm8
        have hro8 := hro.mono fun _ _ => EvAt.same sm08
        have eC : cutV us none (some at') = us.take at'.toNat := cut_to at'.toNat (by omega)
        have eD : cutV us (some (at' + 1)) none = us.drop (at'.toNat + 1) := cut_from (at'.toNat + 1) (by omega)
        rw [eC, eD] at hl5
        have row8 := ((hro8.take at'.toNat).app (Row.cons (he1.same sm8) Row.nil)).app (hro8.drop (at'.toNat + 1))
        refine k B8 l5 _ _ m cells H16 sm08 (hs13.sel [4, 5]) g1 hl5 row8 (fun x hx => ?_) ?_
        · rcases List.mem_append.mp hx with hx | hx
          · rcases List.mem_append.mp hx with hx | hx
            · exact hev x (List.mem_of_mem_take hx)
            · rw [List.mem_singleton.mp hx]
              exact he2
          · exact hev x (List.mem_of_mem_drop hx)
        · rw [List.length_append, List.length_append, List.length_take, List.length_drop]
          show min at'.toNat us.length + 1 + _ ≤ 8
          omega
end
local macro_rules | `(tactic| walk_at "v") => `(tactic| first | exact v0 | exact v1 | exact v2 | exact v3 | exact v4 | exact v5 | exact v6 | exact v7 | exact v8)
local macro_rules | `(tactic| walk_at "vs") => `(tactic| first | exact st0 | exact st1 | exact st2 | exact st3 | exact st4 | exact st5 | exact st6 | exact st7 | exact st8)
local macro_rules | `(tactic| walk_at "s") => `(tactic| first
  | with_reducible refine w_dget ?_
  | ((with_reducible refine' w_dgetZ ?h ?nd ?hk ?hv ?_); (case h => walk_at "g"); (case nd => walk_at "nd"); (case hk => walk_at "k"); (case hv => walk_at "v"))
  | ((with_reducible refine' w_dputZ ?hs ?h ?nd ?hk ?hv ?hu ?hl ?_); (case hs => assumption); (case h => walk_at "p"); (case nd => walk_at "nd"); (case hk => walk_at "k"); (case hv => walk_at "v"); (case hu => walk_at "vs"); (case hl => decide); intro _ _)
  | with_reducible refine w_gsub ?_
  | with_reducible refine w_setD ?_
  | with_reducible refine w_disp ?_
  | ((with_reducible refine' w_newP ?hs ?_); (case hs => assumption); intro _ _ _)
  | with_reducible refine w_pcons ?_
  | with_reducible refine w_pnil ?_)

local macro_rules | `(tactic| walk_at "s") => `(tactic| first
  | with_reducible refine w_nget ?_
  | with_reducible refine w_nin ?_
  | with_reducible refine w_nnot ?_
  | with_reducible refine w_nput ?_
  | with_reducible refine w_ndel ?_
  | with_reducible refine w_npop ?_
  | ((with_reducible refine' w_nnew ?hs ?_); (case hs => assumption); intro _ _ _))

/-! ## what repr shows -/
structure Sh (D b : Nat) (d : PyData) : Prop where
  lay : d.canLay0 = true
  dep : d.depth ≤ D
  sho : d.showable = true
  blk : d.bulk ≤ b
  lvs : d.leavesShort 13 = true
theorem Sh.mono {D D' b b' : Nat} (h1 : D ≤ D') (h2 : b ≤ b') {d : PyData} (h : Sh D b d) : Sh D' b' d := ⟨h.lay, Nat.le_trans h.dep h1, h.sho, Nat.le_trans h.blk h2, h.lvs⟩
structure ShA (D b : Nat) (xs : List PyData) : Prop where
  lay : PyData.canLayAll0 xs = true
  dep : PyData.depthAll xs ≤ D
  sho : PyData.showableAll xs = true
  blk : PyData.bulkAll xs ≤ b
  lvs : PyData.leavesShortAll 13 xs = true
theorem ShA.nil {D b : Nat} : ShA D b [] := ⟨rfl, Nat.zero_le _, rfl, Nat.zero_le _, rfl⟩
theorem ShA.cons {D b c : Nat} {x : PyData} {xs : List PyData} (h : Sh D b x) (t : ShA D c xs) : ShA D (b + 1 + c) (x :: xs) := by
  have h1 := h.dep
  have h2 := t.dep
  have h3 := h.blk
  have h4 := t.blk
  refine ⟨?_, ?_, ?_, ?_, ?_⟩
  · simp only [PyData.canLayAll0, h.lay, t.lay, Bool.and_self]
  · simp only [PyData.depthAll]
    omega
  · simp only [PyData.showableAll, h.sho, t.sho, Bool.and_self]
  · simp only [PyData.bulkAll]
    omega
  · simp only [PyData.leavesShortAll, h.lvs, t.lvs, Bool.and_self]
theorem ShA.all {D b : Nat} : ∀ {xs : List PyData}, (∀ x ∈ xs, Sh D b x) → ShA D (xs.length * (b + 1)) xs
  | [], _ => ShA.nil
  | x :: xs, h => by
    have := (h x (List.mem_cons_self ..)).dep
    have t := ShA.cons (h x (List.mem_cons_self ..)) (ShA.all fun y hy => h y (List.mem_cons_of_mem _ hy))
    rw [List.length_cons, Nat.add_mul, Nat.one_mul, Nat.add_comm]
    exact t
theorem Sh.tup {D b : Nat} {xs : List PyData} (h : ShA D b xs) : Sh (D + 1) b (.tuple xs) := by
  have := h.dep
  exact ⟨by simp only [PyData.canLay0, h.lay], by simp only [PyData.depth]; omega, by simp only [PyData.showable, h.sho], by simp only [PyData.bulk]; exact h.blk, by simp only [PyData.leavesShort, h.lvs]⟩
theorem Sh.lst {D b : Nat} {xs : List PyData} (h : ShA D b xs) : Sh (D + 1) b (.list xs) := by
  have := h.dep
  exact ⟨by simp only [PyData.canLay0, h.lay], by simp only [PyData.depth]; omega, by simp only [PyData.showable, h.sho], by simp only [PyData.bulk]; exact h.blk, by simp only [PyData.leavesShort, h.lvs]⟩
theorem small_ints : ∀ n : Fin 101, (PyData.int ((n.val : Nat) : Int)).showable = true ∧ (PyData.int ((n.val : Nat) : Int)).leavesShort 13 = true := by decide +kernel
theorem Sh.int {n : Int} (h : IB n) : Sh 0 0 (.int n) := by
  have := small_ints ⟨n.toNat, by have := h.2; omega⟩
  have e : ((n.toNat : Nat) : Int) = n := by have := h.1; omega
  rw [e] at this
  exact ⟨rfl, Nat.le_refl _, this.1, Nat.le_refl _, this.2⟩
theorem Sh.ints {ns : List Int} (h : ∀ x ∈ ns, IB x) : Sh 1 (ns.length * 1) (.tuple (ns.map .int)) := by
  have := Sh.tup (ShA.all (D := 0) (b := 0) (xs := ns.map .int) fun d hd => by
    obtain ⟨x, hx, rfl⟩ := List.mem_map.mp hd
    exact Sh.int (h x hx))
  rw [List.length_map] at this
  exact this
def evD (e : Ev) : PyData := .tuple [.int e.sw, .int e.port, .int e.ver, .int e.num, .tuple (e.hdr.map .int), sentD e.sent]
def evsD (evs : List Ev) : PyData := .list (evs.map evD)
theorem sh_key {k : IK} (h : KB k) : Sh 2 10 (nkK k).data := by
  obtain ⟨p, hh, rfl, h3, hp, hb⟩ := h
  rw [form_data]
  have h1 := Sh.ints hb
  rw [h3] at h1
  exact (Sh.tup (ShA.cons ((Sh.int hp).mono (Nat.zero_le 1) (Nat.le_refl 0)) (ShA.cons h1 (ShA.nil (b := 0))))).mono (by decide) (by decide)
theorem sh_sent {ks : List IK} (h : ∀ k ∈ ks, KB k) (hl : ks.length ≤ 3) : Sh 3 40 (sentD ks) := by
  have := Sh.lst (ShA.all (D := 2) (b := 10) (xs := ks.map fun k => (nkK k).data) fun d hd => by
    obtain ⟨k, hk, rfl⟩ := List.mem_map.mp hd
    exact sh_key (h k hk))
  rw [List.length_map] at this
  exact this.mono (by decide) (by omega)
theorem sh_ev {e : Ev} (h : EvB e) : Sh 4 100 (evD e) := by
  have h1 := Sh.ints h.hd
  rw [h.h3] at h1
  have i0 : ∀ {n : Int}, IB n → Sh 3 0 (.int n) := fun z => (Sh.int z).mono (by decide) (Nat.le_refl 0)
  exact (Sh.tup (ShA.cons (i0 h.sw) (ShA.cons (i0 h.port) (ShA.cons (i0 h.ver) (ShA.cons (i0 h.num) (ShA.cons (h1.mono (by decide) (Nat.le_refl _)) (ShA.cons (sh_sent h.fm h.few) (ShA.nil (b := 0))))))))).mono (by decide) (by decide)
theorem evs_shows {evs : List Ev} (h : ∀ e ∈ evs, EvB e) (hl : evs.length ≤ 8) : Shows (evsD evs) := by
  have := Sh.lst (ShA.all (D := 4) (b := 100) (xs := evs.map evD) fun d hd => by
    obtain ⟨e, he, rfl⟩ := List.mem_map.mp hd
    exact sh_ev (h e he))
  rw [List.length_map] at this
  exact ⟨this.lay, Nat.le_trans this.dep (by decide), this.sho, Nat.le_trans this.blk (by omega), this.lvs⟩
theorem ev_dp {K : PySem.W.Frag} {H : Hp} {v : V} {e : Ev} (h : EvAt H v e) : Dp K H v (evD e) := by
  obtain ⟨p, th, ls, us, rfl, hp, hth, hls, hrs⟩ := h
  have hints : ∀ ns : List Int, DpAll K H (ns.map V.int) (ns.map PyData.int) := fun ns => by
    induction ns with
    | nil => exact .nil
    | cons n ns ih => exact .cons (.int n) ih
  exact .tup (SqT.of hp) (.cons (.int _) (.cons (.int _) (.cons (.int _) (.cons (.int _) (.cons (.tup (SqT.of hth) (hints _)) (.cons (sentD_dp hls hrs) .nil))))))
theorem evs_dp {K : PySem.W.Frag} {H : Hp} {l : Addr} {us : List V} {evs : List Ev} (hl : H l = some (.lst us)) (hr : Row (EvAt H) us evs) : Dp K H (.ref l) (evsD evs) := .lst (SqL.of hl) (hr.dpAll (d := evD) fun _ _ h => ev_dp h)
def jrD : Option (Int × Nat) → PyData
  | none => .none
  | some (r, i) => .tuple [.int r, .int (i : Int)]
theorem jr_dp {K : PySem.W.Frag} {H : Hp} {v : V} : ∀ {o : Option (Int × Nat)}, JrAt H v o → Dp K H v (jrD o)
  | none, h => by
    cases h
    exact .non
  | some (r, i), ⟨t, h1, h2⟩ => by
    subst h1
    exact .tup (SqT.of h2) (.cons (.int _) (.cons (.int _) .nil))
theorem JrAt.same {H H' : Hp} (e : Same H H') {v : V} : ∀ {o : Option (Int × Nat)}, JrAt H v o → JrAt H' v o
  | none, h => h
  | some (_, _), ⟨t, h1, h2⟩ => ⟨t, h1, e _ _ h2⟩
theorem jr_shp : ∀ o : Option (Int × Nat), SeqAt.shaped (jrD o) = true
  | none => rfl
  | some (r, i) => by simp [jrD, SeqAt.shaped, PyData.canLay0, PyData.canLayAll0, PyData.depth, PyData.depthAll]
theorem put_new {kvs : List (Key × V)} {k : Key} {v : V} (h : ∀ x ∈ kvs, x.1 ≠ k) : putK kvs k v = kvs ++ [(k, v)] := by
  unfold putK
  have e : (kvs.any fun kv => decide (kv.1 = k)) = false := by
    rw [List.any_eq_false]
    intro x hx z
    exact h x hx (of_decide_eq_true z)
  rw [e]
  rfl
section
variable {P : Program} [IsP P] {w : World} {K : PySem.W.Frag} {mg : Str → Option Value} {base : Heap} {a : Ad}
def sp_law (K : PySem.W.Frag) : Sp := fun vs H Q _ => ∃ (x : Addr) (ns : List Int), vs = [.ref x] ∧ SqL K H x (ns.map V.int) ∧ ns.length ≤ 63 ∧ ∀ H', Q (.bl true) H'
theorem ok_law (T : Txt w K mg a) : LawRun P w K mg base 14 a.law a.fd_law ["script"] (sp_law K) := by
  have G__law_state := ok__law_state (P := P) (w := w) (base := base) T
  have G__law_draw := ok__law_draw (P := P) (w := w) (base := base) T
  have G__law_joined_graph := ok__law_joined_graph (P := P) (w := w) (base := base) T
  have G__law_policy := ok__law_policy (P := P) (w := w) (base := base) T
  have G__law_grown := ok__law_grown (P := P) (w := w) (base := base) T
  have G__law_turned := ok__law_turned (P := P) (w := w) (base := base) T
  have G__law_due := ok__law_due (P := P) (w := w) (base := base) T
  have G_judge := ok_judge (P := P) (w := w) (base := base) T
  refine law_run (k := 13) T.fn_law sc_law (fun vs H Q E h => ?_) (fun cdv s H vs Q E hr h => ?_)
  · obtain ⟨_, _, rfl, _⟩ := h
    rfl
  · obtain ⟨x, ns, rfl, hx, hl, k⟩ := h
    have hu := hu_of hr
    refine ⟨_, (pss_cons (ps_set (i := 1) sc_law.nd rfl (Or.inl rfl) (pe_call G__law_state (hr.mono (by first | decide | omega)) rfl T.mg__law_state T.kp__law_state T.bi__law_state .nil pass0 (pa_cons (pv 0) pa_nil)))
  (pss_cons (ps_set (i := 2) sc_law.nd rfl (Or.inl rfl) (pe_call G__law_joined_graph (hr.mono (by first | decide | omega)) rfl T.mg__law_joined_graph T.kp__law_joined_graph T.bi__law_joined_graph .nil pass0 (pa_cons (pv 1) (pa_cons pe_int pa_nil))))
  (pss_cons (ps_set (i := 3) sc_law.nd rfl (Or.inl rfl) pe_dnewK)
  (pss_cons (ps_for PassesOwn.never rfl (pi_range1 rfl T.mg_range (pa_cons (pe_op op_add pe_int (pe_call G__law_draw (hr.mono (by first | decide | omega)) rfl T.mg__law_draw T.kp__law_draw T.bi__law_draw .nil pass0 (pa_cons (pv 1) (pa_cons pe_int pa_nil)))) pa_nil)) (pg_name (i := 4) sc_law.nd rfl (Or.inl rfl))
  (pss_one (ps_dput hu (pv 3) (pe_op op_add (pv 4) pe_int) (pe_call G__law_policy (hr.mono (by first | decide | omega)) rfl T.mg__law_policy T.kp__law_policy T.bi__law_policy .nil pass0 (pa_cons (pv 1) pa_nil)) rfl)))
  (pss_cons (ps_set (i := 5) sc_law.nd rfl (Or.inl rfl) (pe_call G__law_grown (hr.mono (by first | decide | omega)) rfl T.mg__law_grown T.kp__law_grown T.bi__law_grown .nil pass0 (pa_cons (pv 1) (pa_cons (pv 2) (pa_cons (pv 3) pa_nil)))))
  (pss_cons (ps_for PassesOwn.never rfl (pi_range1 rfl T.mg_range (pa_cons pe_int pa_nil)) (pg_name (i := 6) sc_law.nd rfl (Or.inl rfl))
  (pss_cons (ps_set (i := 7) sc_law.nd rfl (Or.inl rfl) (pe_callB (call_reprDK (K := K) rfl hr.units) (by rfl) T.mg_repr (by decide +kernel) (pa_cons (pv 5) pa_nil)))
  (pss_cons (ps_if (PW.pt (pw_or (pt_cmpR (op_neDK (K := K) hr.units) (pe_call G_judge (hr.mono (by first | decide | omega)) rfl T.mg_judge T.kp_judge T.bi_judge .nil pass0 (pa_cons (pv 2) (pa_cons (pv 3) (pa_cons (pv 5) pa_nil)))) (pe_call G__law_due (hr.mono (by first | decide | omega)) rfl T.mg__law_due T.kp__law_due T.bi__law_due .nil pass0 (pa_cons (pv 2) (pa_cons (pv 3) (pa_cons (pv 5) pa_nil)))) (nomark _)) (pw_or1 (pt_cmpR op_ne (pe_callB (call_reprDK (K := K) rfl hr.units) (by rfl) T.mg_repr (by decide +kernel) (pa_cons (pv 5) pa_nil)) (pv 7) (nomark _)))))
  (pss_one (ps_ret pe_bl))
  pss_nil)
  (pss_one (ps_set (i := 5) sc_law.nd rfl (Or.inl rfl) (pe_call G__law_turned (hr.mono (by first | decide | omega)) rfl T.mg__law_turned T.kp__law_turned T.bi__law_turned .nil pass0 (pa_cons (pv 1) (pa_cons (pv 5) pa_nil))))))))
  (pss_one (ps_ret pe_bl)))))))), ?_⟩
    walk_at "ss"
    refine ⟨x, ns, rfl, hx, by omega, fun st c m cells H1 hs1 g => ?_⟩
    walk_at "ss"
    refine w_spS () hs1 g rfl (fun H1 H2 v e h => ?_) fun B1 gv m1 c1 H2 sm1 hs2 g1 hgr => ?_
    · obtain ⟨cnt, ls, z1, z2⟩ := h
      exact ⟨cnt, ls, z1.same e, z2⟩
    obtain ⟨cnt, ls, hgr, cn1, cn4, hlb⟩ := hgr
    clear hs1 g
    walk_at "ss"
    rename_i pd H3 hs3
    clear hs2
    refine w_for1 ?_
    walk_at "ss"
    refine w_draw hs3.m2.m2 g1 (by omega) fun d m2 c2 H4 hs4 g2 _ hd => ?_
    obtain ⟨d0, d1⟩ := hd (by omega)
    clear hs3 g1
    have hs5 : Hs B1 [(st, sto c m2), (c, clo c2), (pd, .dK [])] H4 := hs4
    clear hs4
    walk_at "ss"
    refine w_forR (n := 1 + d) (by omega) (fun i σ' H' => ∃ (B2 : Hp) (m : Int) (cells : List Int) (kvs : List (Key × V)) (pm : PM) (v4 v5 v6 v7 : Option V), σ' = [some (.ref x), some (.ref st), some gv, some (.ref pd), v4, v5, v6, v7] ∧ Same B1 B2 ∧ Hs B2 [(st, sto c m), (c, clo cells), (pd, .dK kvs)] H' ∧ Good m cells ∧ Paired (fun kv x => kv.1 = Sum.inl x.1 ∧ PolAt B2 kv.2 x.2) kvs pm ∧ pm.length = i ∧ ∀ x ∈ pm, (1 ≤ x.1 ∧ x.1 ≤ (i : Int)) ∧ (∀ p ∈ x.2, PartB p) ∧ x.2.length ≤ 3)
      (fun Q' q => q) (by omega) ⟨B1, m2, c2, [], [], none, none, none, none, rfl, Same.refl _, hs5, g2, .nil, rfl, (fun _ z => nomatch z)⟩ ?_ ?_
    · clear hs5 g2
      rintro i σ' H5 hi ⟨B2, m, cells, kvs, pm, v4, v5, v6, v7, rfl, sm, hs6, g3, hpv, hlen, hall⟩
      walk_at "ss"
      refine w_spS () hs6 g3 rfl (fun H1 H2 v e h => ?_) fun B3 pv m3 c3 H6 sm3 hs7 g4 hpp => ?_
      · obtain ⟨ps, z1, z2⟩ := h
        exact ⟨ps, z1.same e, z2⟩
      obtain ⟨ps, hps, hpb, hpl⟩ := hpp
      clear hs6 g3
      walk_at "ss"
      have hkl : kvs.length = i := by
        have := congrArg List.length (keys_map hpv)
        rw [List.length_map, List.length_map, List.length_map, hlen] at this
        exact this
      refine w_dputI hs7 (by walk_at "p") (szl (by omega)) fun H7 hs8 => ?_
      clear hs7
      have enew : putK kvs (Sum.inl ((i : Int) + 1)) pv = kvs ++ [(Sum.inl ((i : Int) + 1), pv)] := put_new fun kv hkv z => by
        have key : ∀ {kvs : List (Key × V)} {pm : PM}, Paired (fun kv x => kv.1 = Sum.inl x.1 ∧ PolAt B2 kv.2 x.2) kvs pm → ∀ kv ∈ kvs, ∃ x ∈ pm, kv.1 = Sum.inl x.1 := fun {kvs pm} h => by
          induction h with
          | nil => exact fun _ z => nomatch z
          | cons h _ ih =>
            intro kv hkv
            rcases List.mem_cons.mp hkv with rfl | hkv
            · exact ⟨_, List.mem_cons_self .., h.1⟩
            · obtain ⟨x, h1, h2⟩ := ih kv hkv
              exact ⟨x, List.mem_cons_of_mem _ h1, h2⟩
        obtain ⟨x, hx, hxe⟩ := key hpv kv hkv
        have := (hall x hx).1
        rw [z] at hxe
        have e2 : (i : Int) + 1 = x.1 := Sum.inl.inj hxe
        omega
      rw [enew] at hs8
      refine ⟨B3, m3, c3, _, pm ++ [((i : Int) + 1, ps)], _, _, _, _, rfl, sm.trans sm3, hs8, g4, Paired.snoc (Paired.mono (fun _ _ h => ⟨h.1, h.2.same sm3⟩) hpv) ⟨rfl, hps⟩, by rw [List.length_append, hlen]; rfl, fun x hx => ?_⟩
      rcases List.mem_append.mp hx with hx | hx
      · have := hall x hx
        exact ⟨⟨this.1.1, by omega⟩, this.2⟩
      · rw [List.mem_singleton.mp hx]
        exact ⟨⟨by show (1 : Int) ≤ (i : Int) + 1; omega, by show (i : Int) + 1 ≤ ((i + 1 : Nat) : Int); omega⟩, hpb, hpl⟩
    · clear hs5 g2
      rintro σ' H5 ⟨B2, m, cells, kvs, pm, v4, v5, v6, v7, rfl, sm, hs6, g3, hpv, hlen, hall⟩
      obtain ⟨B3, sm3, hpd, hs7⟩ := frz_hs (hs6.sel [2, 0, 1])
      clear hs6
      have hpols : PolsAt B3 pd pm := ⟨kvs, hpd, Paired.mono (fun _ _ h => ⟨h.1, h.2.same sm3⟩) hpv⟩
      have hpmB : PmB pm := ⟨fun z => by rw [z] at hlen; have : (1 + d).toNat = 0 := hlen.symm; omega, by omega, fun x hx => by
        have := hall x hx
        exact ⟨⟨by omega, by omega⟩, this.2⟩⟩
      have hgr3 := hgr.same (sm.trans sm3)
      walk_at "ss"
      refine ⟨B3, st, c, m, cells, gv, pd, cnt, ls, pm, rfl, hs7, g3, hgr3, cn1, cn4, hlb, hpols, hpmB, fun B4 el us evs m5 c5 H6 sm4 hs8 g5 hel hro hev hz => ?_⟩
      clear hs7 g3
      walk_at "ss"
      refine w_forR (n := 4) (by decide) (fun i σ' H' => ∃ (B5 : Hp) (el : Addr) (us : List V) (evs : List Ev) (m : Int) (cells : List Int) (v6 v7 : Option V), σ' = [some (.ref x), some (.ref st), some gv, some (.ref pd), v4, some (.ref el), v6, v7] ∧ Same B3 B5 ∧ Hs B5 [(st, sto c m), (c, clo cells)] H' ∧ Good m cells ∧ B5 el = some (.lst us) ∧ Row (EvAt B5) us evs ∧ (∀ e ∈ evs, EvB e) ∧ us.length ≤ 8)
        (fun Q' q => ?_) (by decide) ⟨B4, el, us, evs, m5, c5, v6, v7, rfl, sm4, hs8, g5, hel, hro, hev, hz⟩ ?_ ?_
      · walk_at "ss"
        exact q
      · clear hs8 g5 hel hro hev hz
        rintro j σ' H7 hj ⟨B5, el, us, evs, m, cells, w6, w7, rfl, sm5, hs9, g6, hel, hro, hev, hz⟩
        have helH := hs9.same _ _ hel
        have hroH := hro.mono fun _ _ => EvAt.same hs9.same
        have hsh := evs_shows hev (by rw [← hro.1]; exact hz)
        walk_at "ss"
        refine ⟨el, evsD evs, rfl, evs_dp helH hroH, hsh, ?_⟩
        walk_at "ss"
        have hok : ∀ e ∈ evs, EvOk e := fun e he => (hev e he).ok
        refine ⟨gv, pd, el, cnt, ls, pm, us, evs, rfl, hgr3.same (sm5.trans hs9.same), hpols.same (sm5.trans hs9.same), helH, hroH, hok, by omega, fun v1 H8 sm8 hv1 => ?_⟩
        have hs10 := hs9.keep sm8
        clear hs9
        walk_at "ss"
        refine ⟨gv, pd, el, cnt, ls, pm, us, evs, rfl, hgr3.same (sm5.trans hs10.same), hpols.same (sm5.trans hs10.same), sm8 _ _ helH, hroH.mono fun _ _ => EvAt.same sm8, hok, by omega, fun v2 H9 sm9 hv2 => ?_⟩
        have hs11 := hs10.keep sm9
        clear hs10
        rw [← judge_due0 cnt ls pm hok] at hv2
        walk_at "ss"
        refine w_neRefl (jr_dp (hv1.same sm9)) (jr_dp hv2) (jr_shp _) ?_
        walk_at "ss"
        refine ⟨el, evsD evs, rfl, evs_dp (sm9 _ _ (sm8 _ _ helH)) (hroH.mono fun _ _ => EvAt.same (sm8.trans sm9)), hsh, ?_⟩
        walk_at "ss"
        refine w_ne rfl ?_
        rw [decide_eq_true rfl]
        refine ⟨_, rfl, iteF ?_⟩
        walk_at "ss"
        refine ⟨B5, st, c, m, cells, el, us, evs, rfl, hs11, g6, hel, hro, hev, hz, fun B6 el2 us2 evs2 m9 c9 H10 sm10 hs12 g9 hel2 hro2 hev2 hz2 => ?_⟩
        clear hs11
        walk_at "ss"
        exact ⟨B6, el2, us2, evs2, m9, c9, _, _, rfl, sm5.trans sm10, hs12, g9, hel2, hro2, hev2, hz2⟩
      · rintro σ' H7 ⟨B5, el, us, evs, m, cells, w6, w7, rfl, sm5, hs9, g6, hel, hro, hev, hz⟩
        walk_at "ss"
        exact k _
end
theorem all_mk {l : PySem.W.OpenLaw} {w : World} {K : PySem.W.Frag} {h : Heap} {mg : Str → Option Value} {fa : Addr} (hl : l.prog = PySem.Challenge.pw_hangbridge_k16_events_are_judged) (X : K.In h) (G : h.Ns mainGlobals mg) (hfa : mg "law" = some (.ref fa))
    {A_peer A_test_holds A_with_number A_after_star A_after A_after_any A_does A_is_known A_is_right A_agrees A_depth_of A_broken_rule A_judge A__law_state A__law_draw A__law_pick A__law_joined_graph A__law_test A__law_policy A__law_before A__law_broken A__law_due A__law_grown A__law_turned A_law A_FIELD_PLACES : Addr} {od_peer an_peer od_test_holds an_test_holds od_with_number an_with_number od_after_star an_after_star od_after an_after od_after_any an_after_any od_does an_does od_is_known an_is_known od_is_right an_is_right od_agrees an_agrees od_depth_of an_depth_of od_broken_rule an_broken_rule od_judge an_judge od__law_state an__law_state od__law_draw an__law_draw od__law_pick an__law_pick od__law_joined_graph an__law_joined_graph od__law_test an__law_test od__law_policy an__law_policy od__law_before an__law_before od__law_broken an__law_broken od__law_due an__law_due od__law_grown an__law_grown od__law_turned an__law_turned od_law an_law : Option Addr} {sl_peer sl_test_holds sl_with_number sl_after_star sl_after sl_after_any sl_does sl_is_known sl_is_right sl_agrees sl_depth_of sl_broken_rule sl_judge sl__law_state sl__law_draw sl__law_pick sl__law_joined_graph sl__law_test sl__law_policy sl__law_before sl__law_broken sl__law_due sl__law_grown sl__law_turned sl_law : Array (Option Value)} {oc_peer kV_peer dc_peer pm_peer cd_peer ct_peer oc_test_holds kV_test_holds dc_test_holds pm_test_holds cd_test_holds ct_test_holds oc_with_number kV_with_number dc_with_number pm_with_number cd_with_number ct_with_number oc_after_star kV_after_star dc_after_star pm_after_star cd_after_star ct_after_star oc_after kV_after dc_after pm_after cd_after ct_after oc_after_any kV_after_any dc_after_any pm_after_any cd_after_any ct_after_any oc_does kV_does dc_does pm_does cd_does ct_does oc_is_known kV_is_known dc_is_known pm_is_known cd_is_known ct_is_known oc_is_right kV_is_right dc_is_right pm_is_right cd_is_right ct_is_right oc_agrees kV_agrees dc_agrees pm_agrees cd_agrees ct_agrees oc_depth_of kV_depth_of dc_depth_of pm_depth_of cd_depth_of ct_depth_of oc_broken_rule kV_broken_rule dc_broken_rule pm_broken_rule cd_broken_rule ct_broken_rule oc_judge kV_judge dc_judge pm_judge cd_judge ct_judge oc__law_state kV__law_state dc__law_state pm__law_state cd__law_state ct__law_state oc__law_draw kV__law_draw dc__law_draw pm__law_draw cd__law_draw ct__law_draw oc__law_pick kV__law_pick dc__law_pick pm__law_pick cd__law_pick ct__law_pick oc__law_joined_graph kV__law_joined_graph dc__law_joined_graph pm__law_joined_graph cd__law_joined_graph ct__law_joined_graph oc__law_test kV__law_test dc__law_test pm__law_test cd__law_test ct__law_test oc__law_policy kV__law_policy dc__law_policy pm__law_policy cd__law_policy ct__law_policy oc__law_before kV__law_before dc__law_before pm__law_before cd__law_before ct__law_before oc__law_broken kV__law_broken dc__law_broken pm__law_broken cd__law_broken ct__law_broken oc__law_due kV__law_due dc__law_due pm__law_due cd__law_due ct__law_due oc__law_grown kV__law_grown dc__law_grown pm__law_grown cd__law_grown ct__law_grown oc__law_turned kV__law_turned dc__law_turned pm__law_turned cd__law_turned ct__law_turned oc_law kV_law dc_law pm_law cd_law ct_law : Value} {tk_OUTSIDE tk_FIELD_PLACES_switch tk_FIELD_PLACES_port tk_FIELD_PLACES_src tk_FIELD_PLACES_dst tk_FIELD_PLACES_kind tk_MOST_DEPTH : Tok} {es_FIELD_PLACES : Array DictEntry} {n_FIELD_PLACES : Nat}
        (h_apeer : PySem.W.nsIn K mainGlobals "peer" = some (some (.ref A_peer)))
    (h_lpeer : K.lookup A_peer = some ⟨oc_peer, od_peer, .func (PySem.W.fnOf "peer" "peer" (defArgs s_peer) (defBody s_peer) (defScope s_peer) .none kV_peer dc_peer pm_peer an_peer cd_peer ct_peer), sl_peer⟩)
    (h_cdpeer : PySem.W.codeIn K cd_peer "peer" = true)
    (h_kpeer : PySem.W.keepIn K (.ref A_peer) = true)
    (h_atest_holds : PySem.W.nsIn K mainGlobals "test_holds" = some (some (.ref A_test_holds)))
    (h_ltest_holds : K.lookup A_test_holds = some ⟨oc_test_holds, od_test_holds, .func (PySem.W.fnOf "test_holds" "test_holds" (defArgs s_test_holds) (defBody s_test_holds) (defScope s_test_holds) .none kV_test_holds dc_test_holds pm_test_holds an_test_holds cd_test_holds ct_test_holds), sl_test_holds⟩)
    (h_cdtest_holds : PySem.W.codeIn K cd_test_holds "test_holds" = true)
    (h_ktest_holds : PySem.W.keepIn K (.ref A_test_holds) = true)
    (h_awith_number : PySem.W.nsIn K mainGlobals "with_number" = some (some (.ref A_with_number)))
    (h_lwith_number : K.lookup A_with_number = some ⟨oc_with_number, od_with_number, .func (PySem.W.fnOf "with_number" "with_number" (defArgs s_with_number) (defBody s_with_number) (defScope s_with_number) .none kV_with_number dc_with_number pm_with_number an_with_number cd_with_number ct_with_number), sl_with_number⟩)
    (h_cdwith_number : PySem.W.codeIn K cd_with_number "with_number" = true)
    (h_kwith_number : PySem.W.keepIn K (.ref A_with_number) = true)
    (h_aafter_star : PySem.W.nsIn K mainGlobals "after_star" = some (some (.ref A_after_star)))
    (h_lafter_star : K.lookup A_after_star = some ⟨oc_after_star, od_after_star, .func (PySem.W.fnOf "after_star" "after_star" (defArgs s_after_star) (defBody s_after_star) (defScope s_after_star) .none kV_after_star dc_after_star pm_after_star an_after_star cd_after_star ct_after_star), sl_after_star⟩)
    (h_cdafter_star : PySem.W.codeIn K cd_after_star "after_star" = true)
    (h_kafter_star : PySem.W.keepIn K (.ref A_after_star) = true)
    (h_aafter : PySem.W.nsIn K mainGlobals "after" = some (some (.ref A_after)))
    (h_lafter : K.lookup A_after = some ⟨oc_after, od_after, .func (PySem.W.fnOf "after" "after" (defArgs s_after) (defBody s_after) (defScope s_after) .none kV_after dc_after pm_after an_after cd_after ct_after), sl_after⟩)
    (h_cdafter : PySem.W.codeIn K cd_after "after" = true)
    (h_kafter : PySem.W.keepIn K (.ref A_after) = true)
    (h_aafter_any : PySem.W.nsIn K mainGlobals "after_any" = some (some (.ref A_after_any)))
    (h_lafter_any : K.lookup A_after_any = some ⟨oc_after_any, od_after_any, .func (PySem.W.fnOf "after_any" "after_any" (defArgs s_after_any) (defBody s_after_any) (defScope s_after_any) .none kV_after_any dc_after_any pm_after_any an_after_any cd_after_any ct_after_any), sl_after_any⟩)
    (h_cdafter_any : PySem.W.codeIn K cd_after_any "after_any" = true)
    (h_kafter_any : PySem.W.keepIn K (.ref A_after_any) = true)
    (h_adoes : PySem.W.nsIn K mainGlobals "does" = some (some (.ref A_does)))
    (h_ldoes : K.lookup A_does = some ⟨oc_does, od_does, .func (PySem.W.fnOf "does" "does" (defArgs s_does) (defBody s_does) (defScope s_does) .none kV_does dc_does pm_does an_does cd_does ct_does), sl_does⟩)
    (h_cddoes : PySem.W.codeIn K cd_does "does" = true)
    (h_kdoes : PySem.W.keepIn K (.ref A_does) = true)
    (h_ais_known : PySem.W.nsIn K mainGlobals "is_known" = some (some (.ref A_is_known)))
    (h_lis_known : K.lookup A_is_known = some ⟨oc_is_known, od_is_known, .func (PySem.W.fnOf "is_known" "is_known" (defArgs s_is_known) (defBody s_is_known) (defScope s_is_known) .none kV_is_known dc_is_known pm_is_known an_is_known cd_is_known ct_is_known), sl_is_known⟩)
    (h_cdis_known : PySem.W.codeIn K cd_is_known "is_known" = true)
    (h_kis_known : PySem.W.keepIn K (.ref A_is_known) = true)
    (h_ais_right : PySem.W.nsIn K mainGlobals "is_right" = some (some (.ref A_is_right)))
    (h_lis_right : K.lookup A_is_right = some ⟨oc_is_right, od_is_right, .func (PySem.W.fnOf "is_right" "is_right" (defArgs s_is_right) (defBody s_is_right) (defScope s_is_right) .none kV_is_right dc_is_right pm_is_right an_is_right cd_is_right ct_is_right), sl_is_right⟩)
    (h_cdis_right : PySem.W.codeIn K cd_is_right "is_right" = true)
    (h_kis_right : PySem.W.keepIn K (.ref A_is_right) = true)
    (h_aagrees : PySem.W.nsIn K mainGlobals "agrees" = some (some (.ref A_agrees)))
    (h_lagrees : K.lookup A_agrees = some ⟨oc_agrees, od_agrees, .func (PySem.W.fnOf "agrees" "agrees" (defArgs s_agrees) (defBody s_agrees) (defScope s_agrees) .none kV_agrees dc_agrees pm_agrees an_agrees cd_agrees ct_agrees), sl_agrees⟩)
    (h_cdagrees : PySem.W.codeIn K cd_agrees "agrees" = true)
    (h_kagrees : PySem.W.keepIn K (.ref A_agrees) = true)
    (h_adepth_of : PySem.W.nsIn K mainGlobals "depth_of" = some (some (.ref A_depth_of)))
    (h_ldepth_of : K.lookup A_depth_of = some ⟨oc_depth_of, od_depth_of, .func (PySem.W.fnOf "depth_of" "depth_of" (defArgs s_depth_of) (defBody s_depth_of) (defScope s_depth_of) .none kV_depth_of dc_depth_of pm_depth_of an_depth_of cd_depth_of ct_depth_of), sl_depth_of⟩)
    (h_cddepth_of : PySem.W.codeIn K cd_depth_of "depth_of" = true)
    (h_kdepth_of : PySem.W.keepIn K (.ref A_depth_of) = true)
    (h_abroken_rule : PySem.W.nsIn K mainGlobals "broken_rule" = some (some (.ref A_broken_rule)))
    (h_lbroken_rule : K.lookup A_broken_rule = some ⟨oc_broken_rule, od_broken_rule, .func (PySem.W.fnOf "broken_rule" "broken_rule" (defArgs s_broken_rule) (defBody s_broken_rule) (defScope s_broken_rule) .none kV_broken_rule dc_broken_rule pm_broken_rule an_broken_rule cd_broken_rule ct_broken_rule), sl_broken_rule⟩)
    (h_cdbroken_rule : PySem.W.codeIn K cd_broken_rule "broken_rule" = true)
    (h_kbroken_rule : PySem.W.keepIn K (.ref A_broken_rule) = true)
    (h_ajudge : PySem.W.nsIn K mainGlobals "judge" = some (some (.ref A_judge)))
    (h_ljudge : K.lookup A_judge = some ⟨oc_judge, od_judge, .func (PySem.W.fnOf "judge" "judge" (defArgs s_judge) (defBody s_judge) (defScope s_judge) .none kV_judge dc_judge pm_judge an_judge cd_judge ct_judge), sl_judge⟩)
    (h_cdjudge : PySem.W.codeIn K cd_judge "judge" = true)
    (h_kjudge : PySem.W.keepIn K (.ref A_judge) = true)
    (h_a_law_state : PySem.W.nsIn K mainGlobals "_law_state" = some (some (.ref A__law_state)))
    (h_l_law_state : K.lookup A__law_state = some ⟨oc__law_state, od__law_state, .func (PySem.W.fnOf "_law_state" "_law_state" (defArgs s__law_state) (defBody s__law_state) (defScope s__law_state) .none kV__law_state dc__law_state pm__law_state an__law_state cd__law_state ct__law_state), sl__law_state⟩)
    (h_cd_law_state : PySem.W.codeIn K cd__law_state "_law_state" = true)
    (h_k_law_state : PySem.W.keepIn K (.ref A__law_state) = true)
    (h_a_law_draw : PySem.W.nsIn K mainGlobals "_law_draw" = some (some (.ref A__law_draw)))
    (h_l_law_draw : K.lookup A__law_draw = some ⟨oc__law_draw, od__law_draw, .func (PySem.W.fnOf "_law_draw" "_law_draw" (defArgs s__law_draw) (defBody s__law_draw) (defScope s__law_draw) .none kV__law_draw dc__law_draw pm__law_draw an__law_draw cd__law_draw ct__law_draw), sl__law_draw⟩)
    (h_cd_law_draw : PySem.W.codeIn K cd__law_draw "_law_draw" = true)
    (h_k_law_draw : PySem.W.keepIn K (.ref A__law_draw) = true)
    (h_a_law_pick : PySem.W.nsIn K mainGlobals "_law_pick" = some (some (.ref A__law_pick)))
    (h_l_law_pick : K.lookup A__law_pick = some ⟨oc__law_pick, od__law_pick, .func (PySem.W.fnOf "_law_pick" "_law_pick" (defArgs s__law_pick) (defBody s__law_pick) (defScope s__law_pick) .none kV__law_pick dc__law_pick pm__law_pick an__law_pick cd__law_pick ct__law_pick), sl__law_pick⟩)
    (h_cd_law_pick : PySem.W.codeIn K cd__law_pick "_law_pick" = true)
    (h_k_law_pick : PySem.W.keepIn K (.ref A__law_pick) = true)
    (h_a_law_joined_graph : PySem.W.nsIn K mainGlobals "_law_joined_graph" = some (some (.ref A__law_joined_graph)))
    (h_l_law_joined_graph : K.lookup A__law_joined_graph = some ⟨oc__law_joined_graph, od__law_joined_graph, .func (PySem.W.fnOf "_law_joined_graph" "_law_joined_graph" (defArgs s__law_joined_graph) (defBody s__law_joined_graph) (defScope s__law_joined_graph) .none kV__law_joined_graph dc__law_joined_graph pm__law_joined_graph an__law_joined_graph cd__law_joined_graph ct__law_joined_graph), sl__law_joined_graph⟩)
    (h_cd_law_joined_graph : PySem.W.codeIn K cd__law_joined_graph "_law_joined_graph" = true)
    (h_k_law_joined_graph : PySem.W.keepIn K (.ref A__law_joined_graph) = true)
    (h_a_law_test : PySem.W.nsIn K mainGlobals "_law_test" = some (some (.ref A__law_test)))
    (h_l_law_test : K.lookup A__law_test = some ⟨oc__law_test, od__law_test, .func (PySem.W.fnOf "_law_test" "_law_test" (defArgs s__law_test) (defBody s__law_test) (defScope s__law_test) .none kV__law_test dc__law_test pm__law_test an__law_test cd__law_test ct__law_test), sl__law_test⟩)
    (h_cd_law_test : PySem.W.codeIn K cd__law_test "_law_test" = true)
    (h_k_law_test : PySem.W.keepIn K (.ref A__law_test) = true)
    (h_a_law_policy : PySem.W.nsIn K mainGlobals "_law_policy" = some (some (.ref A__law_policy)))
    (h_l_law_policy : K.lookup A__law_policy = some ⟨oc__law_policy, od__law_policy, .func (PySem.W.fnOf "_law_policy" "_law_policy" (defArgs s__law_policy) (defBody s__law_policy) (defScope s__law_policy) .none kV__law_policy dc__law_policy pm__law_policy an__law_policy cd__law_policy ct__law_policy), sl__law_policy⟩)
    (h_cd_law_policy : PySem.W.codeIn K cd__law_policy "_law_policy" = true)
    (h_k_law_policy : PySem.W.keepIn K (.ref A__law_policy) = true)
    (h_a_law_before : PySem.W.nsIn K mainGlobals "_law_before" = some (some (.ref A__law_before)))
    (h_l_law_before : K.lookup A__law_before = some ⟨oc__law_before, od__law_before, .func (PySem.W.fnOf "_law_before" "_law_before" (defArgs s__law_before) (defBody s__law_before) (defScope s__law_before) .none kV__law_before dc__law_before pm__law_before an__law_before cd__law_before ct__law_before), sl__law_before⟩)
    (h_cd_law_before : PySem.W.codeIn K cd__law_before "_law_before" = true)
    (h_k_law_before : PySem.W.keepIn K (.ref A__law_before) = true)
    (h_a_law_broken : PySem.W.nsIn K mainGlobals "_law_broken" = some (some (.ref A__law_broken)))
    (h_l_law_broken : K.lookup A__law_broken = some ⟨oc__law_broken, od__law_broken, .func (PySem.W.fnOf "_law_broken" "_law_broken" (defArgs s__law_broken) (defBody s__law_broken) (defScope s__law_broken) .none kV__law_broken dc__law_broken pm__law_broken an__law_broken cd__law_broken ct__law_broken), sl__law_broken⟩)
    (h_cd_law_broken : PySem.W.codeIn K cd__law_broken "_law_broken" = true)
    (h_k_law_broken : PySem.W.keepIn K (.ref A__law_broken) = true)
    (h_a_law_due : PySem.W.nsIn K mainGlobals "_law_due" = some (some (.ref A__law_due)))
    (h_l_law_due : K.lookup A__law_due = some ⟨oc__law_due, od__law_due, .func (PySem.W.fnOf "_law_due" "_law_due" (defArgs s__law_due) (defBody s__law_due) (defScope s__law_due) .none kV__law_due dc__law_due pm__law_due an__law_due cd__law_due ct__law_due), sl__law_due⟩)
    (h_cd_law_due : PySem.W.codeIn K cd__law_due "_law_due" = true)
    (h_k_law_due : PySem.W.keepIn K (.ref A__law_due) = true)
    (h_a_law_grown : PySem.W.nsIn K mainGlobals "_law_grown" = some (some (.ref A__law_grown)))
    (h_l_law_grown : K.lookup A__law_grown = some ⟨oc__law_grown, od__law_grown, .func (PySem.W.fnOf "_law_grown" "_law_grown" (defArgs s__law_grown) (defBody s__law_grown) (defScope s__law_grown) .none kV__law_grown dc__law_grown pm__law_grown an__law_grown cd__law_grown ct__law_grown), sl__law_grown⟩)
    (h_cd_law_grown : PySem.W.codeIn K cd__law_grown "_law_grown" = true)
    (h_k_law_grown : PySem.W.keepIn K (.ref A__law_grown) = true)
    (h_a_law_turned : PySem.W.nsIn K mainGlobals "_law_turned" = some (some (.ref A__law_turned)))
    (h_l_law_turned : K.lookup A__law_turned = some ⟨oc__law_turned, od__law_turned, .func (PySem.W.fnOf "_law_turned" "_law_turned" (defArgs s__law_turned) (defBody s__law_turned) (defScope s__law_turned) .none kV__law_turned dc__law_turned pm__law_turned an__law_turned cd__law_turned ct__law_turned), sl__law_turned⟩)
    (h_cd_law_turned : PySem.W.codeIn K cd__law_turned "_law_turned" = true)
    (h_k_law_turned : PySem.W.keepIn K (.ref A__law_turned) = true)
    (h_alaw : PySem.W.nsIn K mainGlobals "law" = some (some (.ref A_law)))
    (h_llaw : K.lookup A_law = some ⟨oc_law, od_law, .func (PySem.W.fnOf "law" "law" (defArgs s_law) (defBody s_law) (defScope s_law) .none kV_law dc_law pm_law an_law cd_law ct_law), sl_law⟩)
    (h_cdlaw : PySem.W.codeIn K cd_law "law" = true)
    (h_klaw : PySem.W.keepIn K (.ref A_law) = true)
    (h_gOUTSIDE : PySem.W.nsIn K mainGlobals "OUTSIDE" = some (some (.int 0 tk_OUTSIDE)))
    (h_gFIELD_PLACES : PySem.W.nsIn K mainGlobals "FIELD_PLACES" = some (some (.ref A_FIELD_PLACES)))
    (h_lFIELD_PLACES : K.lookup A_FIELD_PLACES = some ⟨.type "dict", none, .dict es_FIELD_PLACES n_FIELD_PLACES, #[]⟩)
    (h_kFIELD_PLACES : PySem.W.KeysLit w.params es_FIELD_PLACES.toList)
    (h_nFIELD_PLACES_switch : PySem.W.nsIn K A_FIELD_PLACES "switch" = some (some (.int 0 tk_FIELD_PLACES_switch)))
    (h_nFIELD_PLACES_port : PySem.W.nsIn K A_FIELD_PLACES "port" = some (some (.int 1 tk_FIELD_PLACES_port)))
    (h_nFIELD_PLACES_src : PySem.W.nsIn K A_FIELD_PLACES "src" = some (some (.int 2 tk_FIELD_PLACES_src)))
    (h_nFIELD_PLACES_dst : PySem.W.nsIn K A_FIELD_PLACES "dst" = some (some (.int 3 tk_FIELD_PLACES_dst)))
    (h_nFIELD_PLACES_kind : PySem.W.nsIn K A_FIELD_PLACES "kind" = some (some (.int 4 tk_FIELD_PLACES_kind)))
    (h_gMOST_DEPTH : PySem.W.nsIn K mainGlobals "MOST_DEPTH" = some (some (.int 12 tk_MOST_DEPTH)))
    (h_bany : PySem.W.nsIn K mainGlobals "any" = some none)
    (h_ball : PySem.W.nsIn K mainGlobals "all" = some none)
    (h_blist : PySem.W.nsIn K mainGlobals "list" = some none)
    (h_bsorted : PySem.W.nsIn K mainGlobals "sorted" = some none)
    (h_benumerate : PySem.W.nsIn K mainGlobals "enumerate" = some none)
    (h_bmin : PySem.W.nsIn K mainGlobals "min" = some none)
    (h_babs : PySem.W.nsIn K mainGlobals "abs" = some none)
    (h_bint : PySem.W.nsIn K mainGlobals "int" = some none)
    (h_blen : PySem.W.nsIn K mainGlobals "len" = some none)
    (h_brange : PySem.W.nsIn K mainGlobals "range" = some none)
    (h_bmax : PySem.W.nsIn K mainGlobals "max" = some none)
    (h_brepr : PySem.W.nsIn K mainGlobals "repr" = some none) :
    ∃ fd : FuncData, (∀ (s : Shared) (v : Value), BindsTo s fd ⟨[v], []⟩ [("script", v)]) ∧ ∀ base : Heap, K.In base → base.Ns mainGlobals mg → LawRun l.prog w K mg base 14 fa fd ["script"] (sp_law K) := by
  haveI : IsP l.prog := ⟨hl⟩
  have e := hfa.symm.trans (PySem.W.mg_of X G h_alaw)
  have e2 : fa = A_law := Value.ref.inj (Option.some.inj e)
  rw [e2]
  have T : Txt w K mg ⟨A_peer, (PySem.W.fnOf "peer" "peer" (defArgs s_peer) (defBody s_peer) (defScope s_peer) .none kV_peer dc_peer pm_peer an_peer cd_peer ct_peer), A_test_holds, (PySem.W.fnOf "test_holds" "test_holds" (defArgs s_test_holds) (defBody s_test_holds) (defScope s_test_holds) .none kV_test_holds dc_test_holds pm_test_holds an_test_holds cd_test_holds ct_test_holds), A_with_number, (PySem.W.fnOf "with_number" "with_number" (defArgs s_with_number) (defBody s_with_number) (defScope s_with_number) .none kV_with_number dc_with_number pm_with_number an_with_number cd_with_number ct_with_number), A_after_star, (PySem.W.fnOf "after_star" "after_star" (defArgs s_after_star) (defBody s_after_star) (defScope s_after_star) .none kV_after_star dc_after_star pm_after_star an_after_star cd_after_star ct_after_star), A_after, (PySem.W.fnOf "after" "after" (defArgs s_after) (defBody s_after) (defScope s_after) .none kV_after dc_after pm_after an_after cd_after ct_after), A_after_any, (PySem.W.fnOf "after_any" "after_any" (defArgs s_after_any) (defBody s_after_any) (defScope s_after_any) .none kV_after_any dc_after_any pm_after_any an_after_any cd_after_any ct_after_any), A_does, (PySem.W.fnOf "does" "does" (defArgs s_does) (defBody s_does) (defScope s_does) .none kV_does dc_does pm_does an_does cd_does ct_does), A_is_known, (PySem.W.fnOf "is_known" "is_known" (defArgs s_is_known) (defBody s_is_known) (defScope s_is_known) .none kV_is_known dc_is_known pm_is_known an_is_known cd_is_known ct_is_known), A_is_right, (PySem.W.fnOf "is_right" "is_right" (defArgs s_is_right) (defBody s_is_right) (defScope s_is_right) .none kV_is_right dc_is_right pm_is_right an_is_right cd_is_right ct_is_right), A_agrees, (PySem.W.fnOf "agrees" "agrees" (defArgs s_agrees) (defBody s_agrees) (defScope s_agrees) .none kV_agrees dc_agrees pm_agrees an_agrees cd_agrees ct_agrees), A_depth_of, (PySem.W.fnOf "depth_of" "depth_of" (defArgs s_depth_of) (defBody s_depth_of) (defScope s_depth_of) .none kV_depth_of dc_depth_of pm_depth_of an_depth_of cd_depth_of ct_depth_of), A_broken_rule, (PySem.W.fnOf "broken_rule" "broken_rule" (defArgs s_broken_rule) (defBody s_broken_rule) (defScope s_broken_rule) .none kV_broken_rule dc_broken_rule pm_broken_rule an_broken_rule cd_broken_rule ct_broken_rule), A_judge, (PySem.W.fnOf "judge" "judge" (defArgs s_judge) (defBody s_judge) (defScope s_judge) .none kV_judge dc_judge pm_judge an_judge cd_judge ct_judge), A__law_state, (PySem.W.fnOf "_law_state" "_law_state" (defArgs s__law_state) (defBody s__law_state) (defScope s__law_state) .none kV__law_state dc__law_state pm__law_state an__law_state cd__law_state ct__law_state), A__law_draw, (PySem.W.fnOf "_law_draw" "_law_draw" (defArgs s__law_draw) (defBody s__law_draw) (defScope s__law_draw) .none kV__law_draw dc__law_draw pm__law_draw an__law_draw cd__law_draw ct__law_draw), A__law_pick, (PySem.W.fnOf "_law_pick" "_law_pick" (defArgs s__law_pick) (defBody s__law_pick) (defScope s__law_pick) .none kV__law_pick dc__law_pick pm__law_pick an__law_pick cd__law_pick ct__law_pick), A__law_joined_graph, (PySem.W.fnOf "_law_joined_graph" "_law_joined_graph" (defArgs s__law_joined_graph) (defBody s__law_joined_graph) (defScope s__law_joined_graph) .none kV__law_joined_graph dc__law_joined_graph pm__law_joined_graph an__law_joined_graph cd__law_joined_graph ct__law_joined_graph), A__law_test, (PySem.W.fnOf "_law_test" "_law_test" (defArgs s__law_test) (defBody s__law_test) (defScope s__law_test) .none kV__law_test dc__law_test pm__law_test an__law_test cd__law_test ct__law_test), A__law_policy, (PySem.W.fnOf "_law_policy" "_law_policy" (defArgs s__law_policy) (defBody s__law_policy) (defScope s__law_policy) .none kV__law_policy dc__law_policy pm__law_policy an__law_policy cd__law_policy ct__law_policy), A__law_before, (PySem.W.fnOf "_law_before" "_law_before" (defArgs s__law_before) (defBody s__law_before) (defScope s__law_before) .none kV__law_before dc__law_before pm__law_before an__law_before cd__law_before ct__law_before), A__law_broken, (PySem.W.fnOf "_law_broken" "_law_broken" (defArgs s__law_broken) (defBody s__law_broken) (defScope s__law_broken) .none kV__law_broken dc__law_broken pm__law_broken an__law_broken cd__law_broken ct__law_broken), A__law_due, (PySem.W.fnOf "_law_due" "_law_due" (defArgs s__law_due) (defBody s__law_due) (defScope s__law_due) .none kV__law_due dc__law_due pm__law_due an__law_due cd__law_due ct__law_due), A__law_grown, (PySem.W.fnOf "_law_grown" "_law_grown" (defArgs s__law_grown) (defBody s__law_grown) (defScope s__law_grown) .none kV__law_grown dc__law_grown pm__law_grown an__law_grown cd__law_grown ct__law_grown), A__law_turned, (PySem.W.fnOf "_law_turned" "_law_turned" (defArgs s__law_turned) (defBody s__law_turned) (defScope s__law_turned) .none kV__law_turned dc__law_turned pm__law_turned an__law_turned cd__law_turned ct__law_turned), A_law, (PySem.W.fnOf "law" "law" (defArgs s_law) (defBody s_law) (defScope s_law) .none kV_law dc_law pm_law an_law cd_law ct_law), A_FIELD_PLACES⟩ := {
    fn_peer := fun_mk (st := s_peer) h_lpeer h_cdpeer h_kpeer
    bi_peer := (fun_mk (st := s_peer) h_lpeer h_cdpeer h_kpeer).binds (ps := ["links", "end"]) fun _ _ _ _ _ _ us hl => match us, hl with | [_, _], _ => rfl
    mg_peer := PySem.W.mg_of X G h_apeer
    kp_peer := h_kpeer
    fn_test_holds := fun_mk (st := s_test_holds) h_ltest_holds h_cdtest_holds h_ktest_holds
    bi_test_holds := (fun_mk (st := s_test_holds) h_ltest_holds h_cdtest_holds h_ktest_holds).binds (ps := ["test", "state"]) fun _ _ _ _ _ _ us hl => match us, hl with | [_, _], _ => rfl
    mg_test_holds := PySem.W.mg_of X G h_atest_holds
    kp_test_holds := h_ktest_holds
    fn_with_number := fun_mk (st := s_with_number) h_lwith_number h_cdwith_number h_kwith_number
    bi_with_number := (fun_mk (st := s_with_number) h_lwith_number h_cdwith_number h_kwith_number).binds (ps := ["state", "field", "number"]) fun _ _ _ _ _ _ us hl => match us, hl with | [_, _, _], _ => rfl
    mg_with_number := PySem.W.mg_of X G h_awith_number
    kp_with_number := h_kwith_number
    fn_after_star := fun_mk (st := s_after_star) h_lafter_star h_cdafter_star h_kafter_star
    bi_after_star := (fun_mk (st := s_after_star) h_lafter_star h_cdafter_star h_kafter_star).binds (ps := ["policy", "state"]) fun _ _ _ _ _ _ us hl => match us, hl with | [_, _], _ => rfl
    mg_after_star := PySem.W.mg_of X G h_aafter_star
    kp_after_star := h_kafter_star
    fn_after := fun_mk (st := s_after) h_lafter h_cdafter h_kafter
    bi_after := (fun_mk (st := s_after) h_lafter h_cdafter h_kafter).binds (ps := ["policy", "state"]) fun _ _ _ _ _ _ us hl => match us, hl with | [_, _], _ => rfl
    mg_after := PySem.W.mg_of X G h_aafter
    kp_after := h_kafter
    fn_after_any := fun_mk (st := s_after_any) h_lafter_any h_cdafter_any h_kafter_any
    bi_after_any := (fun_mk (st := s_after_any) h_lafter_any h_cdafter_any h_kafter_any).binds (ps := ["policies", "states"]) fun _ _ _ _ _ _ us hl => match us, hl with | [_, _], _ => rfl
    mg_after_any := PySem.W.mg_of X G h_aafter_any
    kp_after_any := h_kafter_any
    fn_does := fun_mk (st := s_does) h_ldoes h_cddoes h_kdoes
    bi_does := (fun_mk (st := s_does) h_ldoes h_cddoes h_kdoes).binds (ps := ["policy", "switch", "port", "header"]) fun _ _ _ _ _ _ us hl => match us, hl with | [_, _, _, _], _ => rfl
    mg_does := PySem.W.mg_of X G h_adoes
    kp_does := h_kdoes
    fn_is_known := fun_mk (st := s_is_known) h_lis_known h_cdis_known h_kis_known
    bi_is_known := (fun_mk (st := s_is_known) h_lis_known h_cdis_known h_kis_known).binds (ps := ["graph", "policies", "event"]) fun _ _ _ _ _ _ us hl => match us, hl with | [_, _, _], _ => rfl
    mg_is_known := PySem.W.mg_of X G h_ais_known
    kp_is_known := h_kis_known
    fn_is_right := fun_mk (st := s_is_right) h_lis_right h_cdis_right h_kis_right
    bi_is_right := (fun_mk (st := s_is_right) h_lis_right h_cdis_right h_kis_right).binds (ps := ["policies", "event"]) fun _ _ _ _ _ _ us hl => match us, hl with | [_, _], _ => rfl
    mg_is_right := PySem.W.mg_of X G h_ais_right
    kp_is_right := h_kis_right
    fn_agrees := fun_mk (st := s_agrees) h_lagrees h_cdagrees h_kagrees
    bi_agrees := (fun_mk (st := s_agrees) h_lagrees h_cdagrees h_kagrees).binds (ps := ["versions", "event"]) fun _ _ _ _ _ _ us hl => match us, hl with | [_, _], _ => rfl
    mg_agrees := PySem.W.mg_of X G h_aagrees
    kp_agrees := h_kagrees
    fn_depth_of := fun_mk (st := s_depth_of) h_ldepth_of h_cddepth_of h_kdepth_of
    bi_depth_of := (fun_mk (st := s_depth_of) h_ldepth_of h_cddepth_of h_kdepth_of).binds (ps := ["graph", "depths", "event"]) fun _ _ _ _ _ _ us hl => match us, hl with | [_, _, _], _ => rfl
    mg_depth_of := PySem.W.mg_of X G h_adepth_of
    kp_depth_of := h_kdepth_of
    fn_broken_rule := fun_mk (st := s_broken_rule) h_lbroken_rule h_cdbroken_rule h_kbroken_rule
    bi_broken_rule := (fun_mk (st := s_broken_rule) h_lbroken_rule h_cdbroken_rule h_kbroken_rule).binds (ps := ["graph", "policies", "versions", "depth", "event"]) fun _ _ _ _ _ _ us hl => match us, hl with | [_, _, _, _, _], _ => rfl
    mg_broken_rule := PySem.W.mg_of X G h_abroken_rule
    kp_broken_rule := h_kbroken_rule
    fn_judge := fun_mk (st := s_judge) h_ljudge h_cdjudge h_kjudge
    bi_judge := (fun_mk (st := s_judge) h_ljudge h_cdjudge h_kjudge).binds (ps := ["graph", "policies", "events"]) fun _ _ _ _ _ _ us hl => match us, hl with | [_, _, _], _ => rfl
    mg_judge := PySem.W.mg_of X G h_ajudge
    kp_judge := h_kjudge
    fn__law_state := fun_mk (st := s__law_state) h_l_law_state h_cd_law_state h_k_law_state
    bi__law_state := (fun_mk (st := s__law_state) h_l_law_state h_cd_law_state h_k_law_state).binds (ps := ["script"]) fun _ _ _ _ _ _ us hl => match us, hl with | [_], _ => rfl
    mg__law_state := PySem.W.mg_of X G h_a_law_state
    kp__law_state := h_k_law_state
    fn__law_draw := fun_mk (st := s__law_draw) h_l_law_draw h_cd_law_draw h_k_law_draw
    bi__law_draw := (fun_mk (st := s__law_draw) h_l_law_draw h_cd_law_draw h_k_law_draw).binds (ps := ["state", "many"]) fun _ _ _ _ _ _ us hl => match us, hl with | [_, _], _ => rfl
    mg__law_draw := PySem.W.mg_of X G h_a_law_draw
    kp__law_draw := h_k_law_draw
    fn__law_pick := fun_mk (st := s__law_pick) h_l_law_pick h_cd_law_pick h_k_law_pick
    bi__law_pick := (fun_mk (st := s__law_pick) h_l_law_pick h_cd_law_pick h_k_law_pick).binds (ps := ["state", "row"]) fun _ _ _ _ _ _ us hl => match us, hl with | [_, _], _ => rfl
    mg__law_pick := PySem.W.mg_of X G h_a_law_pick
    kp__law_pick := h_k_law_pick
    fn__law_joined_graph := fun_mk (st := s__law_joined_graph) h_l_law_joined_graph h_cd_law_joined_graph h_k_law_joined_graph
    bi__law_joined_graph := (fun_mk (st := s__law_joined_graph) h_l_law_joined_graph h_cd_law_joined_graph h_k_law_joined_graph).binds (ps := ["state", "most"]) fun _ _ _ _ _ _ us hl => match us, hl with | [_, _], _ => rfl
    mg__law_joined_graph := PySem.W.mg_of X G h_a_law_joined_graph
    kp__law_joined_graph := h_k_law_joined_graph
    fn__law_test := fun_mk (st := s__law_test) h_l_law_test h_cd_law_test h_k_law_test
    bi__law_test := (fun_mk (st := s__law_test) h_l_law_test h_cd_law_test h_k_law_test).binds (ps := ["state"]) fun _ _ _ _ _ _ us hl => match us, hl with | [_], _ => rfl
    mg__law_test := PySem.W.mg_of X G h_a_law_test
    kp__law_test := h_k_law_test
    fn__law_policy := fun_mk (st := s__law_policy) h_l_law_policy h_cd_law_policy h_k_law_policy
    bi__law_policy := (fun_mk (st := s__law_policy) h_l_law_policy h_cd_law_policy h_k_law_policy).binds (ps := ["state"]) fun _ _ _ _ _ _ us hl => match us, hl with | [_], _ => rfl
    mg__law_policy := PySem.W.mg_of X G h_a_law_policy
    kp__law_policy := h_k_law_policy
    fn__law_before := fun_mk (st := s__law_before) h_l_law_before h_cd_law_before h_k_law_before
    bi__law_before := (fun_mk (st := s__law_before) h_l_law_before h_cd_law_before h_k_law_before).binds (ps := ["graph", "rows", "event"]) fun _ _ _ _ _ _ us hl => match us, hl with | [_, _, _], _ => rfl
    mg__law_before := PySem.W.mg_of X G h_a_law_before
    kp__law_before := h_k_law_before
    fn__law_broken := fun_mk (st := s__law_broken) h_l_law_broken h_cd_law_broken h_k_law_broken
    bi__law_broken := (fun_mk (st := s__law_broken) h_l_law_broken h_cd_law_broken h_k_law_broken).binds (ps := ["graph", "policies", "rows", "event", "depths"]) fun _ _ _ _ _ _ us hl => match us, hl with | [_, _, _, _, _], _ => rfl
    mg__law_broken := PySem.W.mg_of X G h_a_law_broken
    kp__law_broken := h_k_law_broken
    fn__law_due := fun_mk (st := s__law_due) h_l_law_due h_cd_law_due h_k_law_due
    bi__law_due := (fun_mk (st := s__law_due) h_l_law_due h_cd_law_due h_k_law_due).binds (ps := ["graph", "policies", "events"]) fun _ _ _ _ _ _ us hl => match us, hl with | [_, _, _], _ => rfl
    mg__law_due := PySem.W.mg_of X G h_a_law_due
    kp__law_due := h_k_law_due
    fn__law_grown := fun_mk (st := s__law_grown) h_l_law_grown h_cd_law_grown h_k_law_grown
    bi__law_grown := (fun_mk (st := s__law_grown) h_l_law_grown h_cd_law_grown h_k_law_grown).binds (ps := ["state", "graph", "policies"]) fun _ _ _ _ _ _ us hl => match us, hl with | [_, _, _], _ => rfl
    mg__law_grown := PySem.W.mg_of X G h_a_law_grown
    kp__law_grown := h_k_law_grown
    fn__law_turned := fun_mk (st := s__law_turned) h_l_law_turned h_cd_law_turned h_k_law_turned
    bi__law_turned := (fun_mk (st := s__law_turned) h_l_law_turned h_cd_law_turned h_k_law_turned).binds (ps := ["state", "events"]) fun _ _ _ _ _ _ us hl => match us, hl with | [_, _], _ => rfl
    mg__law_turned := PySem.W.mg_of X G h_a_law_turned
    kp__law_turned := h_k_law_turned
    fn_law := fun_mk (st := s_law) h_llaw h_cdlaw h_klaw
    bi_law := (fun_mk (st := s_law) h_llaw h_cdlaw h_klaw).binds (ps := ["script"]) fun _ _ _ _ _ _ us hl => match us, hl with | [_], _ => rfl
    mg_law := PySem.W.mg_of X G h_alaw
    kp_law := h_klaw
    mg_OUTSIDE := ⟨_, PySem.W.mg_of X G h_gOUTSIDE⟩
    mg_FIELD_PLACES := PySem.W.mg_of X G h_gFIELD_PLACES
    kd_FIELD_PLACES_switch := ⟨_, _, _, h_lFIELD_PLACES, h_kFIELD_PLACES, h_nFIELD_PLACES_switch, ⟨_, rfl⟩⟩
    kd_FIELD_PLACES_port := ⟨_, _, _, h_lFIELD_PLACES, h_kFIELD_PLACES, h_nFIELD_PLACES_port, ⟨_, rfl⟩⟩
    kd_FIELD_PLACES_src := ⟨_, _, _, h_lFIELD_PLACES, h_kFIELD_PLACES, h_nFIELD_PLACES_src, ⟨_, rfl⟩⟩
    kd_FIELD_PLACES_dst := ⟨_, _, _, h_lFIELD_PLACES, h_kFIELD_PLACES, h_nFIELD_PLACES_dst, ⟨_, rfl⟩⟩
    kd_FIELD_PLACES_kind := ⟨_, _, _, h_lFIELD_PLACES, h_kFIELD_PLACES, h_nFIELD_PLACES_kind, ⟨_, rfl⟩⟩
    mg_MOST_DEPTH := ⟨_, PySem.W.mg_of X G h_gMOST_DEPTH⟩
    mg_any := PySem.W.mg_none_of X G h_bany
    mg_all := PySem.W.mg_none_of X G h_ball
    mg_list := PySem.W.mg_none_of X G h_blist
    mg_sorted := PySem.W.mg_none_of X G h_bsorted
    mg_enumerate := PySem.W.mg_none_of X G h_benumerate
    mg_min := PySem.W.mg_none_of X G h_bmin
    mg_abs := PySem.W.mg_none_of X G h_babs
    mg_int := PySem.W.mg_none_of X G h_bint
    mg_len := PySem.W.mg_none_of X G h_blen
    mg_range := PySem.W.mg_none_of X G h_brange
    mg_max := PySem.W.mg_none_of X G h_bmax
    mg_repr := PySem.W.mg_none_of X G h_brepr }
  exact ⟨_, fun s v => .of_eq rfl, fun base _ _ => ok_law T⟩
theorem walk {l : PySem.W.OpenLaw} {q : Program} {loose : List Str} {XP : (Str → Option Value) → Heap → Prop} {YP : World → Heap → Prop} {d : DefRec} {K : Params → PySem.W.Frag} (hn : l.most = some 63) (hdf : d.params.defaults = [])
    (hY : ∀ (w : World) (h : Heap), YP w h → (K w.params).In h)
    (F : ∀ (w : World) (mg : Str → Option Value) (fa : Addr) (h : Heap), (K w.params).In h → h.Ns mainGlobals mg → mg d.name = some (.ref fa) →
      ∃ fd : FuncData, (∀ (s : Shared) (u : Value), BindsTo s fd ⟨[u], []⟩ [("script", u)]) ∧ ∀ base : Heap, (K w.params).In base → base.Ns mainGlobals mg → LawRun l.prog w (K w.params) mg base 14 fa fd ["script"] (sp_law (K w.params))) :
    PySem.W.WalkO q loose XP YP l.row.toRowW d [] (fun f vs => PySem.call f vs) :=
  walk_run (n := 63) (k := 14) (x := "script") (sp := fun w => sp_law (K w.params)) hn (by decide) hdf ⟨rfl, by decide, by decide⟩ hY F (fun _ _ a ns hl _ hS => ⟨a, ns, rfl, hS, hl, fun _ => rfl⟩)
end K16

open PySem PySem.W PyProof.Rows in
set_option maxRecDepth 100000 in
set_option maxHeartbeats 0 in
theorem PySem.Challenge.cw_hangbridge_k16_events_are_judged_holds : PySem.Challenge.rw_hangbridge_k16_events_are_judged.Holds := by
  w_on; o_law; k_head; (case hw => w_witness2)
  k_fill
  refine K16.walk (l := PySem.Challenge.rw_hangbridge_k16_events_are_judged) rfl rfl (fun w h Y => PySem.W.kIn_of Y) ?F
  case F =>
    intro w mg fa h KX G hmg
    refine' K16.all_mk (l := PySem.Challenge.rw_hangbridge_k16_events_are_judged) rfl KX G hmg ?h_apeer ?h_lpeer ?h_cdpeer ?h_kpeer ?h_atest_holds ?h_ltest_holds ?h_cdtest_holds ?h_ktest_holds ?h_awith_number ?h_lwith_number ?h_cdwith_number ?h_kwith_number ?h_aafter_star ?h_lafter_star ?h_cdafter_star ?h_kafter_star ?h_aafter ?h_lafter ?h_cdafter ?h_kafter ?h_aafter_any ?h_lafter_any ?h_cdafter_any ?h_kafter_any ?h_adoes ?h_ldoes ?h_cddoes ?h_kdoes ?h_ais_known ?h_lis_known ?h_cdis_known ?h_kis_known ?h_ais_right ?h_lis_right ?h_cdis_right ?h_kis_right ?h_aagrees ?h_lagrees ?h_cdagrees ?h_kagrees ?h_adepth_of ?h_ldepth_of ?h_cddepth_of ?h_kdepth_of ?h_abroken_rule ?h_lbroken_rule ?h_cdbroken_rule ?h_kbroken_rule ?h_ajudge ?h_ljudge ?h_cdjudge ?h_kjudge ?h_a_law_state ?h_l_law_state ?h_cd_law_state ?h_k_law_state ?h_a_law_draw ?h_l_law_draw ?h_cd_law_draw ?h_k_law_draw ?h_a_law_pick ?h_l_law_pick ?h_cd_law_pick ?h_k_law_pick ?h_a_law_joined_graph ?h_l_law_joined_graph ?h_cd_law_joined_graph ?h_k_law_joined_graph ?h_a_law_test ?h_l_law_test ?h_cd_law_test ?h_k_law_test ?h_a_law_policy ?h_l_law_policy ?h_cd_law_policy ?h_k_law_policy ?h_a_law_before ?h_l_law_before ?h_cd_law_before ?h_k_law_before ?h_a_law_broken ?h_l_law_broken ?h_cd_law_broken ?h_k_law_broken ?h_a_law_due ?h_l_law_due ?h_cd_law_due ?h_k_law_due ?h_a_law_grown ?h_l_law_grown ?h_cd_law_grown ?h_k_law_grown ?h_a_law_turned ?h_l_law_turned ?h_cd_law_turned ?h_k_law_turned ?h_alaw ?h_llaw ?h_cdlaw ?h_klaw ?h_gOUTSIDE ?h_gFIELD_PLACES ?h_lFIELD_PLACES ?h_kFIELD_PLACES ?h_nFIELD_PLACES_switch ?h_nFIELD_PLACES_port ?h_nFIELD_PLACES_src ?h_nFIELD_PLACES_dst ?h_nFIELD_PLACES_kind ?h_gMOST_DEPTH ?h_bany ?h_ball ?h_blist ?h_bsorted ?h_benumerate ?h_bmin ?h_babs ?h_bint ?h_blen ?h_brange ?h_bmax ?h_brepr
    (case h_apeer => k_is)
    (case h_lpeer => k_is)
    (case h_cdpeer => k_is)
    (case h_kpeer => k_is)
    (case h_atest_holds => k_is)
    (case h_ltest_holds => k_is)
    (case h_cdtest_holds => k_is)
    (case h_ktest_holds => k_is)
    (case h_awith_number => k_is)
    (case h_lwith_number => k_is)
    (case h_cdwith_number => k_is)
    (case h_kwith_number => k_is)
    (case h_aafter_star => k_is)
    (case h_lafter_star => k_is)
    (case h_cdafter_star => k_is)
    (case h_kafter_star => k_is)
    (case h_aafter => k_is)
    (case h_lafter => k_is)
    (case h_cdafter => k_is)
    (case h_kafter => k_is)
    (case h_aafter_any => k_is)
    (case h_lafter_any => k_is)
    (case h_cdafter_any => k_is)
    (case h_kafter_any => k_is)
    (case h_adoes => k_is)
    (case h_ldoes => k_is)
    (case h_cddoes => k_is)
    (case h_kdoes => k_is)
    (case h_ais_known => k_is)
    (case h_lis_known => k_is)
    (case h_cdis_known => k_is)
    (case h_kis_known => k_is)
    (case h_ais_right => k_is)
    (case h_lis_right => k_is)
    (case h_cdis_right => k_is)
    (case h_kis_right => k_is)
    (case h_aagrees => k_is)
    (case h_lagrees => k_is)
    (case h_cdagrees => k_is)
    (case h_kagrees => k_is)
    (case h_adepth_of => k_is)
    (case h_ldepth_of => k_is)
    (case h_cddepth_of => k_is)
    (case h_kdepth_of => k_is)
    (case h_abroken_rule => k_is)
    (case h_lbroken_rule => k_is)
    (case h_cdbroken_rule => k_is)
    (case h_kbroken_rule => k_is)
    (case h_ajudge => k_is)
    (case h_ljudge => k_is)
    (case h_cdjudge => k_is)
    (case h_kjudge => k_is)
    (case h_a_law_state => k_is)
    (case h_l_law_state => k_is)
    (case h_cd_law_state => k_is)
    (case h_k_law_state => k_is)
    (case h_a_law_draw => k_is)
    (case h_l_law_draw => k_is)
    (case h_cd_law_draw => k_is)
    (case h_k_law_draw => k_is)
    (case h_a_law_pick => k_is)
    (case h_l_law_pick => k_is)
    (case h_cd_law_pick => k_is)
    (case h_k_law_pick => k_is)
    (case h_a_law_joined_graph => k_is)
    (case h_l_law_joined_graph => k_is)
    (case h_cd_law_joined_graph => k_is)
    (case h_k_law_joined_graph => k_is)
    (case h_a_law_test => k_is)
    (case h_l_law_test => k_is)
    (case h_cd_law_test => k_is)
    (case h_k_law_test => k_is)
    (case h_a_law_policy => k_is)
    (case h_l_law_policy => k_is)
    (case h_cd_law_policy => k_is)
    (case h_k_law_policy => k_is)
    (case h_a_law_before => k_is)
    (case h_l_law_before => k_is)
    (case h_cd_law_before => k_is)
    (case h_k_law_before => k_is)
    (case h_a_law_broken => k_is)
    (case h_l_law_broken => k_is)
    (case h_cd_law_broken => k_is)
    (case h_k_law_broken => k_is)
    (case h_a_law_due => k_is)
    (case h_l_law_due => k_is)
    (case h_cd_law_due => k_is)
    (case h_k_law_due => k_is)
    (case h_a_law_grown => k_is)
    (case h_l_law_grown => k_is)
    (case h_cd_law_grown => k_is)
    (case h_k_law_grown => k_is)
    (case h_a_law_turned => k_is)
    (case h_l_law_turned => k_is)
    (case h_cd_law_turned => k_is)
    (case h_k_law_turned => k_is)
    (case h_alaw => k_is)
    (case h_llaw => k_is)
    (case h_cdlaw => k_is)
    (case h_klaw => k_is)
    (case h_gOUTSIDE => k_is)
    (case h_gFIELD_PLACES => k_is)
    (case h_lFIELD_PLACES => k_is)
    (case h_kFIELD_PLACES => repeat' first | exact True.intro | exact ⟨_, _, rfl, rfl⟩ | constructor)
    (case h_nFIELD_PLACES_switch => k_is)
    (case h_nFIELD_PLACES_port => k_is)
    (case h_nFIELD_PLACES_src => k_is)
    (case h_nFIELD_PLACES_dst => k_is)
    (case h_nFIELD_PLACES_kind => k_is)
    (case h_gMOST_DEPTH => k_is)
    (case h_bany => k_is)
    (case h_ball => k_is)
    (case h_blist => k_is)
    (case h_bsorted => k_is)
    (case h_benumerate => k_is)
    (case h_bmin => k_is)
    (case h_babs => k_is)
    (case h_bint => k_is)
    (case h_blen => k_is)
    (case h_brange => k_is)
    (case h_bmax => k_is)
    (case h_brepr => k_is)
