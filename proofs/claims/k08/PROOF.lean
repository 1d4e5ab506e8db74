import PyProof.Rows.All
import Wide.All
import OpenK.AllK
import Wide.FinOn
import HandS.ForMost
import HandS.Flow
import HandS.More
import HandS.IsInst
import HandS.Wide
import HandS.Style
import HandS.FStr
import HandS.Exc
import HandS.ExcInit
import HandS.ExcOwn
import HandS.ExcField
import HandS.ExcIs
import HandS.ClsMeth
import HandS.Codes
import HandS.TryOnly
import HandS.WordsExc
import KE.KExcIs
import KE.KIsAll
import HandS.Small
import KE.KeyNested
import KE.KDictKeyed
import HandS.SortOrd
import HandS.SortRule
import HandS.Dict
import HandS.Iter
import HandS.Conv
import HandS.Deep
import KE.DataMinMax
import KE.SortData
import HandS.TupSets
import HandS.SetBool
import HandS.Zip
import HandS.Star
import HandS.SetKeys
import HandS.DictComp
import HandS.SortInts
import PySem.Challenge.RW_hangbridge_k08_tables_of_switches
set_option Elab.async false
set_option maxRecDepth 100000
set_option maxHeartbeats 4000000
/-! A heap as what stood and what is our own; steps of readings over it. -/
namespace Hb
open PySem L2

/-- B stood and is kept; L are our own objects, each once -/
structure Hs (B : Hp) (L : List (Addr × HO)) (H : Hp) : Prop where
  same : Same B H
  nd : (L.map (·.1)).Nodup
  out : ∀ e ∈ L, B e.1 = none
  at_ : ∀ e ∈ L, H e.1 = some e.2

section
variable {B H H' : Hp} {L R A : List (Addr × HO)} {p l : Addr} {o o' : HO} {i : Nat}
theorem Hs.start (H : Hp) : Hs H [] H := ⟨Same.refl H, List.nodup_nil, (fun _ h => nomatch h), (fun _ h => nomatch h)⟩
theorem Hs.of_same (h : Same B H) : Hs B [] H := ⟨h, List.nodup_nil, (fun _ h => nomatch h), (fun _ h => nomatch h)⟩
theorem Hs.get (hs : Hs B L H) (h : L[i]? = some (p, o)) : H p = some o := hs.at_ (p, o) (List.mem_of_getElem? h)
theorem Hs.mem (hs : Hs B L H) (h : (p, o) ∈ L) : H p = some o := hs.at_ (p, o) h
theorem Hs.g0 (hs : Hs B ((p, o) :: L) H) : H p = some o := hs.get (i := 0) rfl
theorem Hs.g1 {x} (hs : Hs B (x :: (p, o) :: L) H) : H p = some o := hs.get (i := 1) rfl
theorem Hs.g2 {x y} (hs : Hs B (x :: y :: (p, o) :: L) H) : H p = some o := hs.get (i := 2) rfl
theorem Hs.g3 {x y z} (hs : Hs B (x :: y :: z :: (p, o) :: L) H) : H p = some o := hs.get (i := 3) rfl
theorem Hs.g4 {x y z w} (hs : Hs B (x :: y :: z :: w :: (p, o) :: L) H) : H p = some o := hs.get (i := 4) rfl
theorem Hs.g5 {x y z w v} (hs : Hs B (x :: y :: z :: w :: v :: (p, o) :: L) H) : H p = some o := hs.get (i := 5) rfl
theorem Hs.g6 {x y z w v u} (hs : Hs B (x :: y :: z :: w :: v :: u :: (p, o) :: L) H) : H p = some o := hs.get (i := 6) rfl
theorem Hs.g7 {x y z w v u t} (hs : Hs B (x :: y :: z :: w :: v :: u :: t :: (p, o) :: L) H) : H p = some o := hs.get (i := 7) rfl
theorem Hs.g8 {x y z w v u t s} (hs : Hs B (x :: y :: z :: w :: v :: u :: t :: s :: (p, o) :: L) H) : H p = some o := hs.get (i := 8) rfl
theorem Hs.g9 {x y z w v u t s r} (hs : Hs B (x :: y :: z :: w :: v :: u :: t :: s :: r :: (p, o) :: L) H) : H p = some o := hs.get (i := 9) rfl
theorem Hs.g10 {x y z w v u t s r q} (hs : Hs B (x :: y :: z :: w :: v :: u :: t :: s :: r :: q :: (p, o) :: L) H) : H p = some o := hs.get (i := 10) rfl
theorem Hs.g11 {x y z w v u t s r q n} (hs : Hs B (x :: y :: z :: w :: v :: u :: t :: s :: r :: q :: n :: (p, o) :: L) H) : H p = some o := hs.get (i := 11) rfl
theorem Hs.g12 {x y z w v u t s r q n m} (hs : Hs B (x :: y :: z :: w :: v :: u :: t :: s :: r :: q :: n :: m :: (p, o) :: L) H) : H p = some o := hs.get (i := 12) rfl
theorem Hs.g13 {x y z w v u t s r q n m k} (hs : Hs B (x :: y :: z :: w :: v :: u :: t :: s :: r :: q :: n :: m :: k :: (p, o) :: L) H) : H p = some o := hs.get (i := 13) rfl
theorem Hs.g14 {x y z w v u t s r q n m k j} (hs : Hs B (x :: y :: z :: w :: v :: u :: t :: s :: r :: q :: n :: m :: k :: j :: (p, o) :: L) H) : H p = some o := hs.get (i := 14) rfl
theorem Hs.g15 {x y z w v u t s r q n m k j h} (hs : Hs B (x :: y :: z :: w :: v :: u :: t :: s :: r :: q :: n :: m :: k :: j :: h :: (p, o) :: L) H) : H p = some o := hs.get (i := 15) rfl
theorem Hs.sql {K : PySem.W.Frag} {xs : List V} (hs : Hs B L H) (h : SqL K B p xs) : SqL K H p xs := hs.same.seq h
theorem Hs.old (hs : Hs B L H) (h : B p = some o) : H p = some o := hs.same _ _ h
theorem Hs.fresh (hs : Hs B L H) (h : H p = none) : p ∉ L.map (·.1) := fun m => by
  obtain ⟨e, he, rfl⟩ := List.mem_map.mp m
  rw [hs.at_ e he] at h
  cases h
/-- a new object -/
theorem Hs.new (hs : Hs B L H) (h : H p = none) : Hs B ((p, o) :: L) (upd H p o) := by
  have hf := hs.fresh h
  refine ⟨fun b u e => ?_, ?_, fun e he => ?_, fun e he => ?_⟩
  · rw [upd_ne (ne_of_none (hs.same b u e) h)]
    exact hs.same b u e
  · rw [List.map_cons, List.nodup_cons]
    exact ⟨hf, hs.nd⟩
  · rcases List.mem_cons.mp he with rfl | he
    · exact hs.same.free h
    · exact hs.out e he
  · rcases List.mem_cons.mp he with rfl | he
    · exact upd_same
    · rw [upd_ne (ne_of_none (hs.at_ e he) h)]
      exact hs.at_ e he
theorem set_fst : ∀ {L : List (Addr × HO)} {i : Nat} {p : Addr} {o o' : HO}, L[i]? = some (p, o) → (L.set i (p, o')).map (·.1) = L.map (·.1)
  | [], _, _, _, _, h => by simp at h
  | x :: L, 0, p, o, o', h => by
    have e : x = (p, o) := by simpa using h
    subst e
    rfl
  | x :: L, i + 1, p, o, o', h => by
    have := set_fst (L := L) (i := i) (o' := o') (by simpa using h)
    show _ :: ((L.set i (p, o')).map (·.1)) = _ :: L.map (·.1)
    rw [this]
theorem nd_only : ∀ {L : List (Addr × HO)} {e : Addr × HO} {i : Nat} {p : Addr} {o o' : HO}, (L.map (·.1)).Nodup → L[i]? = some (p, o) → e ∈ L.set i (p, o') → e = (p, o') ∨ (e ∈ L ∧ e.1 ≠ p)
  | [], _, _, _, _, _, _, h, _ => by simp at h
  | x :: L, e, 0, p, o, o', nd, h, m => by
    have ex : x = (p, o) := by simpa using h
    subst ex
    rcases List.mem_cons.mp m with rfl | m
    · exact .inl rfl
    · refine .inr ⟨List.mem_cons_of_mem _ m, fun q => ?_⟩
      rw [List.map_cons, List.nodup_cons] at nd
      exact nd.1 (List.mem_map.mpr ⟨e, m, q⟩)
  | x :: L, e, i + 1, p, o, o', nd, h, m => by
    rw [List.map_cons, List.nodup_cons] at nd
    have h' : L[i]? = some (p, o) := by simpa using h
    rcases List.mem_cons.mp m with rfl | m
    · refine .inr ⟨List.mem_cons_self, fun q => ?_⟩
      exact nd.1 (List.mem_map.mpr ⟨(p, o), List.mem_of_getElem? h', q.symm⟩)
    · rcases nd_only nd.2 h' m with r | ⟨r, q⟩
      · exact .inl r
      · exact .inr ⟨List.mem_cons_of_mem _ r, q⟩
/-- a store to one's own object -/
theorem Hs.put (hs : Hs B L H) (h : L[i]? = some (p, o)) : Hs B (L.set i (p, o')) (upd H p o') := by
  have hp : B p = none := hs.out (p, o) (List.mem_of_getElem? h)
  refine ⟨fun b u e => ?_, ?_, fun e he => ?_, fun e he => ?_⟩
  · have n : b ≠ p := fun q => by
      rw [q, hp] at e
      cases e
    rw [upd_ne n]
    exact hs.same b u e
  · rw [set_fst h]
    exact hs.nd
  · rcases nd_only hs.nd h he with rfl | ⟨m, _⟩
    · exact hp
    · exact hs.out e m
  · rcases nd_only hs.nd h he with rfl | ⟨m, q⟩
    · exact upd_same
    · rw [upd_ne q]
      exact hs.at_ e m
theorem Hs.p0 (o' : HO) (hs : Hs B ((p, o) :: L) H) : Hs B ((p, o') :: L) (upd H p o') := hs.put (i := 0) rfl
theorem Hs.p1 (o' : HO) {x} (hs : Hs B (x :: (p, o) :: L) H) : Hs B (x :: (p, o') :: L) (upd H p o') := hs.put (i := 1) rfl
theorem Hs.p2 (o' : HO) {x y} (hs : Hs B (x :: y :: (p, o) :: L) H) : Hs B (x :: y :: (p, o') :: L) (upd H p o') := hs.put (i := 2) rfl
theorem Hs.p3 (o' : HO) {x y z} (hs : Hs B (x :: y :: z :: (p, o) :: L) H) : Hs B (x :: y :: z :: (p, o') :: L) (upd H p o') := hs.put (i := 3) rfl
theorem Hs.p4 (o' : HO) {x y z w} (hs : Hs B (x :: y :: z :: w :: (p, o) :: L) H) : Hs B (x :: y :: z :: w :: (p, o') :: L) (upd H p o') := hs.put (i := 4) rfl
theorem Hs.p5 (o' : HO) {x y z w v} (hs : Hs B (x :: y :: z :: w :: v :: (p, o) :: L) H) : Hs B (x :: y :: z :: w :: v :: (p, o') :: L) (upd H p o') := hs.put (i := 5) rfl
theorem Hs.p6 (o' : HO) {x y z w v u} (hs : Hs B (x :: y :: z :: w :: v :: u :: (p, o) :: L) H) : Hs B (x :: y :: z :: w :: v :: u :: (p, o') :: L) (upd H p o') := hs.put (i := 6) rfl
theorem Hs.p7 (o' : HO) {x y z w v u t} (hs : Hs B (x :: y :: z :: w :: v :: u :: t :: (p, o) :: L) H) : Hs B (x :: y :: z :: w :: v :: u :: t :: (p, o') :: L) (upd H p o') := hs.put (i := 7) rfl
/-- L with o' in the place of o at p -/
inductive Put : List (Addr × HO) → Addr → HO → HO → List (Addr × HO) → Prop
  | here {p : Addr} {o o' : HO} {L : List (Addr × HO)} : Put ((p, o) :: L) p o o' ((p, o') :: L)
  | there {p : Addr} {o o' : HO} {x : Addr × HO} {L L' : List (Addr × HO)} : Put L p o o' L' → Put (x :: L) p o o' (x :: L')
theorem Put.ix {L' : List (Addr × HO)} (h : Put L p o o' L') : ∃ i : Nat, L[i]? = some (p, o) ∧ L' = L.set i (p, o') := by
  induction h with
  | here => exact ⟨0, rfl, rfl⟩
  | there _ ih =>
    obtain ⟨i, h1, h2⟩ := ih
    exact ⟨i + 1, by simpa using h1, by rw [h2]; rfl⟩
theorem Hs.puts {L' : List (Addr × HO)} (hs : Hs B L H) (h : Put L p o o' L') : Hs B L' (upd H p o') := by
  obtain ⟨i, h1, rfl⟩ := h.ix
  exact hs.put h1
theorem Hs.gets {L' : List (Addr × HO)} (hs : Hs B L H) (h : Put L p o o' L') : H p = some o := by
  obtain ⟨i, h1, _⟩ := h.ix
  exact hs.get h1
/-- any part of our own, in any order -/
theorem Hs.sub (hs : Hs B L H) (h : R.Sublist L) : Hs B R H :=
  ⟨hs.same, hs.nd.sublist (h.map _), fun e he => hs.out e (h.subset he), fun e he => hs.at_ e (h.subset he)⟩
theorem Hs.perm (hs : Hs B L H) (h : R.Perm L) : Hs B R H :=
  ⟨hs.same, (h.map (·.1)).nodup_iff.mpr hs.nd, fun e he => hs.out e (h.subset he), fun e he => hs.at_ e (h.subset he)⟩
theorem Hs.tl {x} (hs : Hs B (x :: L) H) : Hs B L H := hs.sub (List.sublist_cons_self _ _)
/-- the i-th ahead -/
theorem up_perm : ∀ {L : List (Addr × HO)} {i : Nat} {x : Addr × HO}, L[i]? = some x → (x :: L.eraseIdx i).Perm L
  | [], _, _, h => by simp at h
  | y :: L, 0, x, h => by
    have e : y = x := by simpa using h
    subst e
    exact .refl _
  | y :: L, i + 1, x, h => (List.Perm.swap y x _).trans ((up_perm (L := L) (i := i) (by simpa using h)).cons y)
theorem Hs.up (i : Nat) (hs : Hs B L H) {x} (h : L[i]? = some x := by rfl) : Hs B (x :: L.eraseIdx i) H := by
  exact hs.perm (up_perm h)
theorem Hs.del (i : Nat) (hs : Hs B L H) : Hs B (L.eraseIdx i) H := hs.sub (List.eraseIdx_sublist _ _)
theorem Hs.m1 {a b} (hs : Hs B (a :: b :: L) H) : Hs B (b :: a :: L) H := hs.up 1
theorem Hs.m2 {a b c} (hs : Hs B (a :: b :: c :: L) H) : Hs B (c :: a :: b :: L) H := hs.up 2
theorem Hs.m3 {a b c d} (hs : Hs B (a :: b :: c :: d :: L) H) : Hs B (d :: a :: b :: c :: L) H := hs.up 3
theorem Hs.m4 {a b c d e} (hs : Hs B (a :: b :: c :: d :: e :: L) H) : Hs B (e :: a :: b :: c :: d :: L) H := hs.up 4
theorem Hs.m5 {a b c d e f} (hs : Hs B (a :: b :: c :: d :: e :: f :: L) H) : Hs B (f :: a :: b :: c :: d :: e :: L) H := hs.up 5
theorem Hs.m6 {a b c d e f g} (hs : Hs B (a :: b :: c :: d :: e :: f :: g :: L) H) : Hs B (g :: a :: b :: c :: d :: e :: f :: L) H := hs.up 6
theorem Hs.m7 {a b c d e f g h} (hs : Hs B (a :: b :: c :: d :: e :: f :: g :: h :: L) H) : Hs B (h :: a :: b :: c :: d :: e :: f :: g :: L) H := hs.up 7
theorem Hs.d1 {a b} (hs : Hs B (a :: b :: L) H) : Hs B (a :: L) H := hs.del 1
theorem Hs.d2 {a b c} (hs : Hs B (a :: b :: c :: L) H) : Hs B (a :: b :: L) H := hs.del 2
theorem Hs.d3 {a b c d} (hs : Hs B (a :: b :: c :: d :: L) H) : Hs B (a :: b :: c :: L) H := hs.del 3
theorem Hs.d4 {a b c d e} (hs : Hs B (a :: b :: c :: d :: e :: L) H) : Hs B (a :: b :: c :: d :: L) H := hs.del 4
theorem Hs.d5 {a b c d e f} (hs : Hs B (a :: b :: c :: d :: e :: f :: L) H) : Hs B (a :: b :: c :: d :: e :: L) H := hs.del 5
theorem Hs.d6 {a b c d e f g} (hs : Hs B (a :: b :: c :: d :: e :: f :: g :: L) H) : Hs B (a :: b :: c :: d :: e :: f :: L) H := hs.del 6
theorem sel_mem {idx : List Nat} {e : Addr × HO} (h : e ∈ idx.filterMap (fun i => L[i]?)) : ∃ i ∈ idx, L[i]? = some e := by
  obtain ⟨i, hi, e⟩ := List.mem_filterMap.mp h
  exact ⟨i, hi, e⟩
theorem sel_nd (nd : (L.map (·.1)).Nodup) : ∀ {idx : List Nat}, idx.Nodup → ((idx.filterMap (fun i => L[i]?)).map (·.1)).Nodup
  | [], _ => List.nodup_nil
  | i :: idx, h => by
    rw [List.nodup_cons] at h
    rw [List.filterMap_cons]
    cases e : L[i]? with
    | none => exact sel_nd nd h.2
    | some x =>
      rw [List.map_cons, List.nodup_cons]
      refine ⟨fun m => ?_, sel_nd nd h.2⟩
      obtain ⟨y, hy, q⟩ := List.mem_map.mp m
      obtain ⟨j, hj, ej⟩ := sel_mem hy
      have a : (L.map (·.1))[i]? = some x.1 := by rw [List.getElem?_map, e]; rfl
      have b : (L.map (·.1))[j]? = some x.1 := by rw [List.getElem?_map, ej]; exact congrArg some q
      rw [nd_ix nd a b] at h
      exact h.1 hj
/-- some of our own, by places -/
theorem Hs.sel (hs : Hs B L H) (idx : List Nat) (h : idx.Nodup := by decide) : Hs B (idx.filterMap (fun i => L[i]?)) H :=
  ⟨hs.same, sel_nd hs.nd h, fun e he => by
    obtain ⟨i, _, q⟩ := sel_mem he
    exact hs.out e (List.mem_of_getElem? q), fun e he => by
    obtain ⟨i, _, q⟩ := sel_mem he
    exact hs.at_ e (List.mem_of_getElem? q)⟩
/-- a callee that owns A; what else is ours stands for it -/
def around (A : List (Addr × HO)) (H : Hp) : Hp := fun a => if a ∈ A.map (·.1) then none else H a
theorem around_out {a : Addr} (h : a ∉ A.map (·.1)) : around A H a = H a := if_neg h
theorem Hs.frame (A : List (Addr × HO)) (hs : Hs B (A ++ R) H) : Same B (around A H) ∧ Hs (around A H) A H ∧ ∀ A' H', Hs (around A H) A' H' → Hs B (A' ++ R) H' := by
  have nd := hs.nd
  rw [List.map_append, List.nodup_append] at nd
  obtain ⟨n1, n2, n3⟩ := nd
  have sb : Same B (around A H) := fun b u e => by
    rw [around_out fun m => ?_]
    · exact hs.same b u e
    · obtain ⟨z, hz, rfl⟩ := List.mem_map.mp m
      rw [hs.out z (List.mem_append_left _ hz)] at e
      cases e
  refine ⟨sb, ⟨fun b u e => ?_, n1, fun e he => if_pos (List.mem_map.mpr ⟨e, he, rfl⟩), fun e he => hs.at_ e (List.mem_append_left _ he)⟩, fun A' H' h => ?_⟩
  · unfold around at e
    split at e
    · cases e
    · exact e
  · have fr : ∀ e ∈ R, around A H e.1 = some e.2 := fun e he => by
      rw [around_out fun m => n3 _ m _ (List.mem_map.mpr ⟨e, he, rfl⟩) rfl]
      exact hs.at_ e (List.mem_append_right _ he)
    refine ⟨fun b u e => h.same b u (sb b u e), ?_, fun e he => ?_, fun e he => ?_⟩
    · rw [List.map_append, List.nodup_append]
      refine ⟨h.nd, n2, fun a ha b hb q => ?_⟩
      subst q
      obtain ⟨x, hx, rfl⟩ := List.mem_map.mp ha
      obtain ⟨y, hy, q⟩ := List.mem_map.mp hb
      have h1 := h.out x hx
      have h2 := fr y hy
      rw [q, h1] at h2
      cases h2
    · rcases List.mem_append.mp he with he | he
      · exact sb.free (h.out e he)
      · exact hs.out e (List.mem_append_right _ he)
    · rcases List.mem_append.mp he with he | he
      · exact h.at_ e he
      · exact h.same _ _ (fr e he)
theorem Hs.frame1 {x} (hs : Hs B (x :: R) H) : ∃ B', Same B B' ∧ Hs B' [x] H ∧ ∀ A' H', Hs B' A' H' → Hs B (A' ++ R) H' := ⟨_, hs.frame [x]⟩
theorem Hs.frame2 {x y} (hs : Hs B (x :: y :: R) H) : ∃ B', Same B B' ∧ Hs B' [x, y] H ∧ ∀ A' H', Hs B' A' H' → Hs B (A' ++ R) H' := ⟨_, hs.frame [x, y]⟩
theorem Hs.frame3 {x y z} (hs : Hs B (x :: y :: z :: R) H) : ∃ B', Same B B' ∧ Hs B' [x, y, z] H ∧ ∀ A' H', Hs B' A' H' → Hs B (A' ++ R) H' := ⟨_, hs.frame [x, y, z]⟩
theorem Hs.frame4 {x y z w} (hs : Hs B (x :: y :: z :: w :: R) H) : ∃ B', Same B B' ∧ Hs B' [x, y, z, w] H ∧ ∀ A' H', Hs B' A' H' → Hs B (A' ++ R) H' := ⟨_, hs.frame [x, y, z, w]⟩
theorem Hs.frame5 {x y z w v} (hs : Hs B (x :: y :: z :: w :: v :: R) H) : ∃ B', Same B B' ∧ Hs B' [x, y, z, w, v] H ∧ ∀ A' H', Hs B' A' H' → Hs B (A' ++ R) H' := ⟨_, hs.frame [x, y, z, w, v]⟩
theorem Hs.frame6 {x y z w v u} (hs : Hs B (x :: y :: z :: w :: v :: u :: R) H) : ∃ B', Same B B' ∧ Hs B' [x, y, z, w, v, u] H ∧ ∀ A' H', Hs B' A' H' → Hs B (A' ++ R) H' := ⟨_, hs.frame [x, y, z, w, v, u]⟩
/-- a callee that only makes objects -/
theorem Hs.add {N : List (Addr × HO)} (hs : Hs B L H) (h : Hs H N H') : Hs B (N ++ L) H' := by
  refine ⟨fun b u e => h.same b u (hs.same b u e), ?_, fun e he => ?_, fun e he => ?_⟩
  · rw [List.map_append, List.nodup_append]
    refine ⟨h.nd, hs.nd, fun a ha b hb q => ?_⟩
    subst q
    obtain ⟨x, hx, rfl⟩ := List.mem_map.mp ha
    obtain ⟨y, hy, q⟩ := List.mem_map.mp hb
    have h1 := h.out x hx
    have h2 := hs.at_ y hy
    rw [q, h1] at h2
    cases h2
  · rcases List.mem_append.mp he with he | he
    · exact hs.same.free (h.out e he)
    · exact hs.out e he
  · rcases List.mem_append.mp he with he | he
    · exact h.at_ e he
    · exact h.same _ _ (hs.at_ e he)
/-- a new object that nobody changes any more: it stands -/
theorem Hs.freeze (hs : Hs B ((p, o) :: L) H) : Same B (upd B p o) ∧ Hs (upd B p o) L H := by
  have hp := hs.out (p, o) List.mem_cons_self
  have nd := hs.nd
  rw [List.map_cons, List.nodup_cons] at nd
  refine ⟨fun b u e => ?_, ⟨fun b u e => ?_, nd.2, fun e he => ?_, fun e he => hs.at_ e (List.mem_cons_of_mem _ he)⟩⟩
  · rw [upd_ne (ne_of_none e hp)]
    exact e
  · unfold upd at e
    split at e
    · next q =>
      subst q
      cases e
      exact hs.g0
    · exact hs.same b u e
  · have n : e.1 ≠ p := fun q => nd.1 (by rw [← q]; exact List.mem_map.mpr ⟨e, he, rfl⟩)
    rw [upd_ne n]
    exact hs.out e (List.mem_cons_of_mem _ he)
end

/-! ### steps: a reading's head, what is left -/
section
variable {K : PySem.W.Frag} {σ : St} {H : Hp} {Q : VK} {D : Ends} {ta tb tc te tv to ti : TE} {t u tr : TS} {c d : TT} {r r' : R2} {g : TG} {i : Nat} {v x y : V} {E : XK} {ts : TA} {f m : Str} {p : Addr}
theorem w_var (h : σ[i]? = some (some v)) (q : Q v H) : tVar i σ H Q := ⟨v, h, q⟩
theorem w_c (q : Q v H) : tC v σ H Q := q
theorem w_seq (q : t { D with nx := u D } σ H) : tSeq t u D σ H := q
theorem w_next (q : D.nx σ H) : tNext D σ H := q
theorem w_brk (q : D.bk σ H) : tBreak D σ H := q
theorem w_cont (q : D.ct σ H) : tCont D σ H := q
theorem w_drop (q : te σ H fun _ H1 => D.nx σ H1) : tDrop te D σ H := q
theorem w_ret (q : te σ H D.rt) : tRet te D σ H := q
theorem w_retN (q : D.rt .non H) : tRetN D σ H := q
theorem w_asg (q : te σ H fun x H1 => g x σ H1 D.nx) : tAsg te g D σ H := q
theorem w_name {Q : St → Hp → Prop} (q : Q (σ.set i (some v)) H) : gName i v σ H Q := q
theorem w_if (q : c σ H fun b H1 => if b = true then t D σ H1 else u D σ H1) : tIfS c t u D σ H := q
theorem w_test {Q : Bool → Hp → Prop} (q : te σ H fun x H1 => ∃ k, x = .bl k ∧ Q k H1) : tTest te σ H Q := q
theorem w_B {Q : Bool → Hp → Prop} (q : te σ H fun x H1 => ∃ k, x = .bl k ∧ Q k H1) : tB te σ H Q := q
theorem w_exb {b : Bool} {P : Bool → Prop} (q : P b) : ∃ k, V.bl b = .bl k ∧ P k := ⟨b, rfl, q⟩
theorem w_not {Q : Bool → Hp → Prop} (q : c σ H fun b H1 => Q (!b) H1) : tNot c σ H Q := q
theorem w_and {Q : Bool → Hp → Prop} (q : c σ H fun b H1 => if b = true then d σ H1 Q else Q false H1) : tAnd c d σ H Q := q
theorem w_or {Q : Bool → Hp → Prop} (q : c σ H fun b H1 => if b = true then Q true H1 else d σ H1 Q) : tOr c d σ H Q := q
theorem w_andV (q : ta σ H fun x H1 => ∃ k, x = .bl k ∧ if k = true then tb σ H1 Q else Q (.bl false) H1) : tAndV ta tb σ H Q := q
theorem w_orV (q : ta σ H fun x H1 => ∃ k, x = .bl k ∧ if k = true then Q (.bl true) H1 else tb σ H1 Q) : tOrV ta tb σ H Q := q
theorem w_notV (q : ta σ H fun x H1 => ∃ k, x = .bl k ∧ Q (.bl (!k)) H1) : tNotV ta σ H Q := q
theorem w_ifE (q : c σ H fun b H1 => if b = true then ta σ H1 Q else tb σ H1 Q) : tIf c ta tb σ H Q := q
theorem w_op (q : ta σ H fun x H1 => tb σ H1 fun y H2 => r x y H2 Q) : tOp r ta tb σ H Q := q
theorem w_un {r : V → Hp → VK → Prop} (q : ta σ H fun x H1 => r x H1 Q) : tUn r ta σ H Q := q
theorem w_chain (q : ta σ H fun x H1 => tb σ H1 fun y H2 => r x y H2 fun z H3 => ∃ k, z = .bl k ∧ if k = true then tc σ H3 fun w H4 => r' y w H4 Q else Q (.bl false) H3) : tChain r r' ta tb tc σ H Q := q
theorem w_I0 {g : Int → Int → V} {a b : Int} (q : Q (g a b) H) : rI0 g (.int a) (.int b) H Q := ⟨a, b, rfl, rfl, q⟩
theorem w_I {C : Int → Int → Prop} {g : Int → Int → V} {a b : Int} (h : C a b) (q : Q (g a b) H) : rI C g (.int a) (.int b) H Q := ⟨a, b, rfl, rfl, h, q⟩
theorem w_U {g : Int → V} {a : Int} (q : Q (g a) H) : rU g (.int a) H Q := ⟨a, rfl, q⟩
theorem w_eqI {a b : Int} (q : Q (.bl (decide (a = b))) H) : rEq (.int a) (.int b) H Q := ⟨rfl, by
  have e : decide (V.int a = V.int b) = decide (a = b) := by
    rw [dec_int]
    by_cases h : a = b
    · rw [decide_eq_true h]
      exact beq_iff_eq.mpr h
    · rw [decide_eq_false h]
      exact beq_eq_false_iff_ne.mpr h
  rw [e]
  exact q⟩
theorem w_neI {a b : Int} (q : Q (.bl (!decide (a = b))) H) : rNe (.int a) (.int b) H Q := ⟨rfl, by
  have e : decide (V.int a = V.int b) = decide (a = b) := by
    rw [dec_int]
    by_cases h : a = b
    · rw [decide_eq_true h]
      exact beq_iff_eq.mpr h
    · rw [decide_eq_false h]
      exact beq_eq_false_iff_ne.mpr h
  rw [e]
  exact q⟩
theorem w_eq (h : scal x y = true) (q : Q (.bl (decide (x = y))) H) : rEq x y H Q := ⟨h, q⟩
theorem w_ne (h : scal x y = true) (q : Q (.bl (!decide (x = y))) H) : rNe x y H Q := ⟨h, q⟩
theorem w_ixL {xs : List V} {j : Int} (h : SqL K H p xs) (a : atI xs j = some v) (q : Q v H) : rIxL K (.ref p) (.int j) H Q := ⟨p, xs, j, v, rfl, rfl, h, a, q⟩
theorem w_ixT {xs : List V} {j : Int} (h : SqT K H p xs) (a : atI xs j = some v) (q : Q v H) : rIxT K (.ref p) (.int j) H Q := ⟨p, xs, j, v, rfl, rfl, h, a, q⟩
theorem at0 {x : V} {xs : List V} : atI (x :: xs) 0 = some x := at_of (j := 0) rfl rfl
theorem at1 {x y : V} {xs : List V} : atI (x :: y :: xs) 1 = some y := at_of (j := 1) rfl rfl
theorem at2 {x y z : V} {xs : List V} : atI (x :: y :: z :: xs) 2 = some z := at_of (j := 2) rfl rfl
theorem at3 {x y z u : V} {xs : List V} : atI (x :: y :: z :: u :: xs) 3 = some u := at_of (j := 3) rfl rfl
/-- a field's value -/
def Fl (K : PySem.W.Frag) (f : Str) (x : V) (H : Hp) (Q : VK) : Prop := ∃ a C dx fs v, x = .ref a ∧ H a = some (.ins C dx fs) ∧ Cls K C ∧ NoAttr K C f ∧ fs.lookup f = some v ∧ Q v H
theorem w_fld (q : ta σ H fun x H1 => Fl K f x H1 Q) : tFld K ta f σ H Q := q
theorem w_fl {C dx : Addr} {fs : List (Str × V)} (h : H p = some (.ins C dx fs)) (hc : Cls K C) (hn : NoAttr K C f) (hl : fs.lookup f = some v) (q : Q v H) : Fl K f (.ref p) H Q := ⟨p, C, dx, fs, v, rfl, h, hc, hn, hl, q⟩
/-- a field's store -/
def Fs (K : PySem.W.Frag) (f : Str) (y x : V) (H : Hp) (R : Hp → Prop) : Prop := ∃ a C dx fs, x = .ref a ∧ H a = some (.ins C dx fs) ∧ Cls K C ∧ NoAttr K C f ∧ fs.length < 1000 ∧ R (upd H a (.ins C dx (putF f y fs)))
theorem w_sfld (q : tv σ H fun y H1 => ta σ H1 fun x H2 => Fs K f y x H2 (D.nx σ)) : sFld K ta tv f D σ H := q
theorem w_fs {R : Hp → Prop} {C dx : Addr} {fs : List (Str × V)} (h : H p = some (.ins C dx fs)) (hc : Cls K C) (hn : NoAttr K C f) (hl : fs.length < 1000) (q : R (upd H p (.ins C dx (putF f y fs)))) : Fs K f y (.ref p) H R := ⟨p, C, dx, fs, rfl, h, hc, hn, hl, q⟩
theorem lk0 {k : Str} {v : V} {r : List (Str × V)} : ((k, v) :: r).lookup k = some v := by simp [List.lookup]
theorem lk1 {k k' : Str} {v w : V} {r : List (Str × V)} (h : ¬ k = k') (q : r.lookup k = some w) : ((k', v) :: r).lookup k = some w := by
  have e : (k == k') = false := beq_eq_false_iff_ne.mpr h
  show (match k == k' with | true => some v | false => List.lookup k r) = some w
  rw [e]
  exact q
theorem lkn {k k' : Str} {v : V} {r : List (Str × V)} (h : ¬ k = k') (q : r.lookup k = none) : ((k', v) :: r).lookup k = none := by
  have e : (k == k') = false := beq_eq_false_iff_ne.mpr h
  show (match k == k' with | true => some v | false => List.lookup k r) = none
  rw [e]
  exact q
theorem lke {k : Str} : ([] : List (Str × V)).lookup k = none := rfl
theorem pu0 {k : Str} {v w : V} {r : List (Str × V)} : putF k w ((k, v) :: r) = (k, w) :: r := by
  show (if k = k then _ else _) = _
  rw [if_pos rfl]
theorem pu1 {k k' : Str} {v w : V} {r : List (Str × V)} (h : ¬ k' = k) : putF k w ((k', v) :: r) = (k', v) :: putF k w r := by
  show (if k' = k then _ else _) = _
  rw [if_neg h]
theorem pu2 {k k' : Str} {v w : V} {r r' : List (Str × V)} (h : ¬ k' = k) (q : putF k w r = r') : putF k w ((k', v) :: r) = (k', v) :: r' := by
  rw [pu1 h, q]
theorem pue {k : Str} {w : V} : putF k w [] = [(k, w)] := rfl
theorem w_yes {Q : Bool → Hp → Prop} (q : Q true H) : tYes σ H Q := q
theorem w_nil {Q : List V → Hp → Prop} (q : Q [] H) : tNil σ H Q := q
theorem w_cons {Q : List V → Hp → Prop} (q : ta σ H fun x H1 => ts σ H1 fun xs H2 => Q (x :: xs) H2) : tCons ta ts σ H Q := q
theorem w_cb {r : List V → Hp → VK → Prop} (q : ts σ H fun vs H1 => r vs H1 Q) : tCB r ts σ H Q := q
theorem w_call {sp : Sp} {dvs : List V} (q : ts σ H fun vs H1 => sp (vs ++ dvs) H1 Q E) : tCall sp dvs E ts σ H Q := q
/-- a new instance -/
def Mkr (C : Addr) (sp : Sp) (vs : List V) (E : XK) (Q : VK) (H : Hp) : Prop := ∀ x dx, H x = none → H dx = none → dx ≠ x → sp (.ref x :: vs) (upd (upd H dx (.own x)) x (.ins C dx [])) (fun v H2 => v = .non ∧ Q (.ref x) H2) E
theorem w_make {C : Addr} {sp : Sp} {dvs : List V} (q : ts σ H fun vs H1 => Mkr C sp (vs ++ dvs) E Q H1) : tMake C sp dvs E ts σ H Q := q
theorem w_mkr {C : Addr} {sp : Sp} {vs : List V} {B : Hp} {L : List (Addr × HO)} (hs : Hs B L H) (q : ∀ x dx H', Hs B ((x, .ins C dx []) :: L) H' → sp (.ref x :: vs) H' (fun v H2 => v = .non ∧ Q (.ref x) H2) E) : Mkr C sp vs E Q H := fun x dx hx hd ne =>
  q x dx _ ((hs.new hd).new (p := x) (by rw [upd_ne ne.symm]; exact hx)).d1
/-- an own method's receiver -/
def Rc (m : Str) (C : Addr) (x : V) (H : Hp) (R : Prop) : Prop := ∃ a dx fs, x = .ref a ∧ H a = some (.ins C dx fs) ∧ fs.lookup m = none ∧ R
theorem w_meth {C : Addr} {sp : Sp} {dvs : List V} (q : ta σ H fun x H1 => Rc m C x H1 (ts σ H1 fun vs H2 => sp (x :: (vs ++ dvs)) H2 Q E)) : tMeth C m sp dvs E ta ts σ H Q := by
  revert q
  unfold tMeth Rc
  exact id
theorem w_rc {C dx : Addr} {fs : List (Str × V)} {R : Prop} (h : H p = some (.ins C dx fs)) (hl : fs.lookup m = none) (q : R) : Rc m C (.ref p) H R := ⟨p, dx, fs, rfl, h, hl, q⟩
theorem w_bm {T : String} {r : V → List V → Hp → VK → Prop} (q : to σ H fun x H1 => tyV K T x H1 ∧ ts σ H1 fun xs H2 => r x xs H2 Q) : tBM K T r to ts σ H Q := q
theorem w_bm0 {T : String} {r : V → List V → Hp → VK → Prop} (q : to σ H fun x H1 => tyV K T x H1 ∧ r x [] H1 Q) : tBM0 K T r to σ H Q := q
theorem w_tyL {xs : List V} {R : Prop} (h : SqL K H p xs) (q : R) : tyV K "list" (.ref p) H ∧ R := ⟨.inl ⟨rfl, _, h⟩, q⟩
theorem w_tyS {s : Str} {R : Prop} (q : R) : tyV K "str" (.str s) H ∧ R := ⟨rfl, q⟩
/-- a new list, a new tuple -/
def NewL (Q : VK) (xs : List V) (H : Hp) : Prop := xs.length ≤ sizeLine ∧ ∀ p, H p = none → Q (.ref p) (upd H p (.lst xs))
def NewT (Q : VK) (xs : List V) (H : Hp) : Prop := xs.length ≤ sizeLine ∧ ∀ p, H p = none → Q (.ref p) (upd H p (.tup xs))
theorem w_tup (q : ts σ H fun xs H1 => NewT Q xs H1) : tTup ts σ H Q := q
theorem w_lst (q : ts σ H fun xs H1 => NewL Q xs H1) : tLst ts σ H Q := q
theorem w_new {B : Hp} {L : List (Addr × HO)} {o : HO} (hs : Hs B L H) (q : ∀ p H', Hs B ((p, o) :: L) H' → Q (.ref p) H') : ∀ p, H p = none → Q (.ref p) (upd H p o) := fun p hp => q p _ (hs.new hp)
theorem w_newL {B : Hp} {L : List (Addr × HO)} {xs : List V} (hs : Hs B L H) (hl : xs.length ≤ sizeLine) (q : ∀ p H', Hs B ((p, .lst xs) :: L) H' → Q (.ref p) H') : NewL Q xs H := ⟨hl, w_new hs q⟩
theorem w_newT {B : Hp} {L : List (Addr × HO)} {xs : List V} (hs : Hs B L H) (hl : xs.length ≤ sizeLine) (q : ∀ p H', Hs B ((p, .tup xs) :: L) H' → Q (.ref p) H') : NewT Q xs H := ⟨hl, w_new hs q⟩
theorem w_sl {r : V → Option Int → Option Int → Hp → VK → Prop} {tl th : TO} (q : te σ H fun x H1 => tl σ H1 fun l H2 => th σ H2 fun u H3 => r x l u H3 Q) : tSl r te tl th σ H Q := q
theorem w_noPart {Q : Option Int → Hp → Prop} (q : Q none H) : tNoPart σ H Q := q
theorem w_part {Q : Option Int → Hp → Prop} (q : te σ H fun x H1 => ∃ i, x = .int i ∧ Q (some i) H1) : tPart te σ H Q := q
theorem w_exi {b : Int} {P : Int → Prop} (q : P b) : ∃ k, V.int b = .int k ∧ P k := ⟨b, rfl, q⟩
theorem w_slL {B : Hp} {L : List (Addr × HO)} {xs : List V} {lo hi : Option Int} (hs : Hs B L H) (h : SqL K H p xs) (q : ∀ l H', Hs B ((l, .lst (cutV xs lo hi)) :: L) H' → Q (.ref l) H') : rSlL K (.ref p) lo hi H Q := ⟨p, xs, rfl, h, w_new hs q⟩
theorem w_cat {B : Hp} {L : List (Addr × HO)} {a b : Addr} {xs ys : List V} (hs : Hs B L H) (ha : H a = some (.lst xs)) (hb : H b = some (.lst ys)) (hl : xs.length + ys.length ≤ sizeLine) (q : ∀ l H', Hs B ((l, .lst (xs ++ ys)) :: L) H' → Q (.ref l) H') : rCat (.ref a) (.ref b) H Q :=
  ⟨a, b, xs, ys, rfl, rfl, ha, hb, hl, w_new hs q⟩
/-! #### calls of built-ins -/
def rLen (K : PySem.W.Frag) : List V → Hp → VK → Prop := fun xs H Q => ∃ p ys, xs = [.ref p] ∧ (SqL K H p ys ∨ SqT K H p ys) ∧ Q (.int ys.length) H
theorem call_lenQ {X : Cx} : CallR X (.builtin "len") (rLen X.K) := call_len_seq
theorem w_len {xs : List V} (h : SqL K H p xs) (q : Q (.int xs.length) H) : rLen K [.ref p] H Q := ⟨p, xs, rfl, .inl h, q⟩
theorem w_lenT {xs : List V} (h : SqT K H p xs) (q : Q (.int xs.length) H) : rLen K [.ref p] H Q := ⟨p, xs, rfl, .inr h, q⟩
def rAbs : List V → Hp → VK → Prop := fun xs H Q => ∃ i, xs = [.int i] ∧ Q (.int (if i < 0 then -i else i)) H
theorem call_absQ {X : Cx} : CallR X (.builtin "abs") rAbs := call_abs
theorem w_abs {a : Int} (q : Q (.int (if a < 0 then -a else a)) H) : rAbs [.int a] H Q := ⟨a, rfl, q⟩
def rInt : List V → Hp → VK → Prop := fun xs H Q => (∃ i, xs = [.int i] ∧ Q (.int i) H) ∨ ∃ k, xs = [.bl k] ∧ Q (.int (if k then 1 else 0)) H
theorem call_intQ {X : Cx} : CallR X (.type "int") rInt := call_int1
theorem w_int {a : Int} (q : Q (.int a) H) : rInt [.int a] H Q := .inl ⟨a, rfl, q⟩
theorem w_intB {b : Bool} (q : Q (.int (if b then 1 else 0)) H) : rInt [.bl b] H Q := .inr ⟨b, rfl, q⟩
def rStr : List V → Hp → VK → Prop := fun xs H Q => ∃ i, xs = [.int i] ∧ i.natAbs.log2 < 1920 ∧ Q (.str (toString i)) H
theorem call_strQ {X : Cx} : CallR X (.type "str") rStr := call_str_int
theorem w_str {a : Int} (h : a.natAbs < 2 ^ 64) (q : Q (.str (toString a)) H) : rStr [.int a] H Q := ⟨a, rfl, Nat.lt_of_lt_of_le (PySem.Flt.log2_lt_of (by decide) h) (by decide), q⟩
def rAddS : R2 := fun x y H Q => ∃ i j, x = .str i ∧ y = .str j ∧ i.length + j.length ≤ sizeLine ∧ Q (.str (i ++ j)) H
theorem op_addS {X : Cx} : OpR X (binaryOp .Add) rAddS := op_add_str
theorem w_addS {a b : Str} (h : a.length + b.length ≤ sizeLine) (q : Q (.str (a ++ b)) H) : rAddS (.str a) (.str b) H Q := ⟨a, b, rfl, rfl, h, q⟩
/-! #### methods of lists -/
section
variable {B : Hp} {L L' : List (Addr × HO)} {l : Addr} {xs : List V}
theorem w_app (hs : Hs B L H) (h : Put L l (.lst xs) (.lst (xs ++ [y])) L') (hl : xs.length < sizeLine) (q : ∀ H', Hs B L' H' → Q .non H') : rAppend (.ref l) [y] H Q := ⟨l, xs, y, rfl, rfl, hs.gets h, hl, q _ (hs.puts h)⟩
theorem w_clear (hs : Hs B L H) (h : Put L l (.lst xs) (.lst []) L') (q : ∀ H', Hs B L' H' → Q .non H') : rClear (.ref l) [] H Q := ⟨l, xs, rfl, rfl, hs.gets h, q _ (hs.puts h)⟩
theorem six_nat {n k : Nat} {j : Int} (e : j = (k : Int)) (h : k < n) : seqIndex? j n = some k := by
  subst e
  unfold seqIndex?
  have h1 : ¬ (k : Int) < 0 := by omega
  have h2 : (k : Int) < (n : Int) := by omega
  simp only [if_neg h1]
  simp [h2]
theorem w_popAt {k : Nat} {j : Int} (hs : Hs B L H) (h : Put L l (.lst xs) (.lst (xs.eraseIdx k)) L') (e : j = (k : Int)) (hk : xs[k]? = some y) (hz : xs.length ≤ sizeLine) (q : ∀ H', Hs B L' H' → Q y H') : rPopAt (.ref l) [.int j] H Q := by
  have hk' := (List.getElem?_eq_some_iff.mp hk).1
  have h63 := line63
  refine ⟨l, xs, j, k, y, rfl, rfl, hs.gets h, by omega, ?_, six_nat e hk', hk, q _ (hs.puts h)⟩
  have : xs.length < 2 ^ 63 := Nat.lt_of_le_of_lt hz h63
  omega
def rInsert : V → List V → Hp → VK → Prop := fun x vs H Q => ∃ (l : Addr) (xs : List V) (i : Int) (y : V), x = .ref l ∧ vs = [.int i, y] ∧ H l = some (.lst xs) ∧ xs.length < sizeLine ∧ 0 ≤ i ∧ i < 2 ^ 63 ∧ Q .non (upd H l (.lst (xs.take i.toNat ++ [y] ++ xs.drop i.toNat)))
theorem mt_insertQ {X : Cx} : MtR X "list.insert" rInsert := mt_insert
theorem w_insert0 (hs : Hs B L H) (h : Put L l (.lst xs) (.lst (y :: xs)) L') (hl : xs.length < sizeLine) (q : ∀ H', Hs B L' H' → Q .non H') : rInsert (.ref l) [.int 0, y] H Q :=
  ⟨l, xs, 0, y, rfl, rfl, hs.gets h, hl, by decide, by decide, q _ (hs.puts h)⟩
def rDelL (x y : V) (H : Hp) (R : Hp → Prop) : Prop := ∃ (l : Addr) (xs : List V) (i : Int) (k : Nat), x = .ref l ∧ y = .int i ∧ H l = some (.lst xs) ∧ -(2 ^ 63) ≤ i ∧ i < 2 ^ 63 ∧ seqIndex? i xs.length = some k ∧ R (upd H l (.lst (xs.eraseIdx k)))
theorem w_delL0 (q : to σ H fun x H1 => ti σ H1 fun y H2 => rDelL x y H2 (D.nx σ)) : tDelL to ti D σ H := q
theorem w_delL {k : Nat} {j : Int} {R : Hp → Prop} (hs : Hs B L H) (h : Put L l (.lst xs) (.lst (xs.eraseIdx k)) L') (e : j = (k : Int)) (hk : k < xs.length) (hz : xs.length ≤ sizeLine) (q : ∀ H', Hs B L' H' → R H') : rDelL (.ref l) (.int j) H R := by
  have h63 := line63
  refine ⟨l, xs, j, k, rfl, rfl, hs.gets h, by omega, ?_, six_nat e hk, q _ (hs.puts h)⟩
  have : xs.length < 2 ^ 63 := Nat.lt_of_le_of_lt hz h63
  omega
theorem w_setL {k : Nat} {j : Int} {R : Hp → Prop} (hs : Hs B L H) (h : Put L l (.lst xs) (.lst (xs.set k y)) L') (e : j = (k : Int)) (hk : k < xs.length) (q : ∀ H', Hs B L' H' → R H') : rSetL (.ref l) (.int j) y H R := by
  refine ⟨l, xs, j, k, rfl, rfl, hs.gets h, ?_, q _ (hs.puts h)⟩
  subst e
  unfold ixN
  rw [if_pos (by omega), if_pos (by omega)]
  simp
/-- a field's store -/
theorem w_fsP {R : Hp → Prop} {C dx : Addr} {fs gs : List (Str × V)} (hs : Hs B L H) (h : Put L p (.ins C dx fs) (.ins C dx gs) L') (hc : Cls K C) (hn : NoAttr K C f) (hl : fs.length < 1000) (hg : putF f y fs = gs) (q : ∀ H', Hs B L' H' → R H') : Fs K f y (.ref p) H R := by
  subst hg
  exact w_fs (hs.gets h) hc hn hl (q _ (hs.puts h))
/-! #### loops -/
theorem w_forL {tl : TE} {a : Addr} {tb : TS} (hx : SqL K H a xs) (Pv : Nat → St → Hp → Prop) (htl : ∀ Q : VK, Q (.ref a) H → tl σ H Q) (h0 : Pv 0 σ H) (hl : ∀ i σ H, i ≤ xs.length → Pv i σ H → SqL K H a xs)
    (hs : ∀ i x σ H, xs[i]? = some x → Pv i σ H → g x σ H fun σ2 H2 => tb { D with nx := Pv (i + 1), ct := Pv (i + 1), bk := D.nx } σ2 H2) (hd : ∀ σ H, Pv xs.length σ H → D.nx σ H) : tFor (iList K tl) g tb D σ H :=
  htl _ ⟨a, rfl, ⟨xs, hx⟩, for_list Pv h0 hl hs hd⟩
theorem w_forR {ta : TA} {tb : TS} {n : Int} (hn : n < 2 ^ 62) (Pv : Nat → St → Hp → Prop) (hta : ∀ Q : List V → Hp → Prop, Q [.int n] H → ta σ H Q) (hm : -(2 ^ 62) ≤ n) (h0 : Pv 0 σ H)
    (hs : ∀ (i : Nat) σ H, (i : Int) < n → Pv i σ H → g (.int (i : Int)) σ H fun σ2 H2 => tb { D with nx := Pv (i + 1), ct := Pv (i + 1), bk := D.nx } σ2 H2) (hd : ∀ σ H, Pv n.toNat σ H → D.nx σ H) : tFor (iRng1 ta) g tb D σ H :=
  hta _ ⟨n, rfl, hm, hn, for_range (lo := 0) (n := n.toNat) Pv h0 (fun i σ' H' hi p => by
    have e0 : (0 : Int) + (i : Int) = (i : Int) := Int.zero_add _
    rw [e0]
    exact hs i σ' H' (by omega) p) hd⟩
/-- [e for x in xs] over a list -/
theorem w_lc {tl : TE} {a : Addr} {vs : List Nat} {tt : TT} (hx : SqL K H a xs) (Pv : Addr → Nat → Hp → Prop) (htl : ∀ Q : VK, Q (.ref a) H → tl σ H Q) (h0 : ∀ D, H D = none → Pv D 0 (upd H D (.lst []))) (hl : ∀ D i H, i ≤ xs.length → Pv D i H → SqL K H a xs)
    (hs : ∀ D i x H, xs[i]? = some x → Pv D i H → g x (wipe σ vs) H fun σ2 H2 => wipe σ2 vs = wipe σ vs ∧ tt σ2 H2 fun b H3 =>
      if b = true then te σ2 H3 fun y H4 => ∃ acc, H4 D = some (.lst acc) ∧ acc.length < sizeLine ∧ Pv D (i + 1) (upd H4 D (.lst (acc ++ [y]))) else Pv D (i + 1) H3) (hd : ∀ D H, Pv D xs.length H → Q (.ref D) H) : tLc (iList K tl) g tt te vs σ H Q :=
  htl _ ⟨a, rfl, ⟨xs, hx⟩, fun D hD => lc_list (Pv D) (h0 D hD) (hl D) (hs D) (hd D)⟩
end
theorem w_sub {R : St → Hp → Prop} {tset : TSet} (q : to σ H fun o H1 => ti σ H1 fun i H2 => tset o i v H2 fun H3 => R σ H3) : gSub to ti tset v σ H R := q
/-- a while's body, at the measure m -/
def LpB (W : Nat → St → Hp → Prop) (m : Nat) (D : Ends) (tb : TS) (σ : St) (H1 : Hp) : Prop := ∃ N : St → Hp → Prop, (∀ σ' H', N σ' H' → ∃ m', m' < m ∧ W m' σ' H') ∧ tb { D with nx := N, ct := N, bk := D.nx } σ H1
theorem w_while {c : TT} {tb : TS} {D : Ends} {σ : St} {H : Hp} (W : Nat → St → Hp → Prop) (m : Nat) (h0 : W m σ H)
    (hs : ∀ m σ H, W m σ H → c σ H fun b H1 => if b = true then LpB W m D tb σ H1 else D.nx σ H1) : tWhile c tb D σ H := ⟨W, ⟨m, h0⟩, hs⟩
theorem w_lpb {W : Nat → St → Hp → Prop} {m : Nat} {D : Ends} {tb : TS} {σ : St} {H : Hp} (q : tb { D with nx := fun σ' H' => ∃ m', m' < m ∧ W m' σ' H', ct := fun σ' H' => ∃ m', m' < m ∧ W m' σ' H', bk := D.nx } σ H) : LpB W m D tb σ H := ⟨_, fun _ _ h => h, q⟩
end
theorem ifd {p A B : Prop} [Decidable p] (h1 : p → A) (h2 : ¬ p → B) : if decide p = true then A else B := by
  by_cases h : p
  · rw [decide_eq_true h]
    exact iteT (h1 h)
  · rw [decide_eq_false h]
    exact iteF (h2 h)
theorem ifn {p A B : Prop} [Decidable p] (h1 : ¬ p → A) (h2 : p → B) : if (!decide p) = true then A else B := by
  by_cases h : p
  · rw [decide_eq_true h]
    exact iteF (h2 h)
  · rw [decide_eq_false h]
    exact iteT (h1 h)
theorem ifb {b : Bool} {A B : Prop} (h1 : b = true → A) (h2 : b = false → B) : if b = true then A else B := by
  cases b with
  | true => exact iteT (h1 rfl)
  | false => exact iteF (h2 rfl)
theorem eraseIdx_map {α β : Type} (f : α → β) : ∀ (l : List α) (k : Nat), (l.map f).eraseIdx k = (l.eraseIdx k).map f
  | [], _ => rfl
  | _ :: _, 0 => rfl
  | x :: l, k + 1 => congrArg (f x :: ·) (eraseIdx_map f l k)
theorem sz {n : Nat} (h : n ≤ 1000000) : n ≤ sizeLine := Nat.le_trans h (by decide)
theorem szl {n : Nat} (h : n ≤ 1000000) : n < sizeLine := Nat.lt_of_le_of_lt h (by decide)
theorem take_min {α : Type} (xs : List α) (n : Nat) : xs.take (min n xs.length) = xs.take n := by
  by_cases h : n ≤ xs.length
  · rw [Nat.min_eq_left h]
  · rw [Nat.min_eq_right (by omega), List.take_length, List.take_of_length_le (by omega)]
theorem drop_min {α : Type} (xs : List α) (n : Nat) : xs.drop (min n xs.length) = xs.drop n := by
  by_cases h : n ≤ xs.length
  · rw [Nat.min_eq_left h]
  · rw [Nat.min_eq_right (by omega), List.drop_length, List.drop_of_length_le (by omega)]
theorem cut_to {xs : List V} {j : Int} (n : Nat) (e : j = (n : Int)) : cutV xs none (some j) = xs.take n := by
  subst e
  unfold cutV
  rw [HT.sIx_none, HT.sIx_nat, List.drop_zero, Nat.sub_zero, take_min]
theorem cut_from {xs : List V} {j : Int} (n : Nat) (e : j = (n : Int)) : cutV xs (some j) none = xs.drop n := by
  subst e
  unfold cutV
  rw [HT.sIx_none, HT.sIx_nat, drop_min, List.take_of_length_le]
  rw [List.length_drop]
  omega
theorem cut_len {xs : List V} {lo hi : Option Int} : (cutV xs lo hi).length ≤ xs.length := by
  unfold cutV
  rw [List.length_take, List.length_drop]
  omega
theorem cut_all {xs : List V} : cutV xs none none = xs := by
  unfold cutV HT.sIx
  simp
/-! ### lists of texts, of ints, as data -/
theorem dpa_str {K : PySem.W.Frag} {H : Hp} : ∀ xs : List Str, DpAll K H (xs.map V.str) (xs.map PyData.str)
  | [] => .nil
  | x :: xs => .cons (.str x) (dpa_str xs)
theorem dpa_int {K : PySem.W.Frag} {H : Hp} : ∀ xs : List Int, DpAll K H (xs.map V.int) (xs.map PyData.int)
  | [] => .nil
  | x :: xs => .cons (.int x) (dpa_int xs)
theorem depth_str : ∀ xs : List Str, PyData.depthAll (xs.map PyData.str) ≤ 1
  | [] => by simp [PyData.depthAll]
  | x :: xs => by
    have := depth_str xs
    simp [PyData.depthAll, PyData.depth] at this ⊢
    omega
theorem lay_str : ∀ xs : List Str, (∀ x ∈ xs, PyData.strOk x = true) → PyData.canLayAll0 (xs.map PyData.str) = true
  | [], _ => by simp [PyData.canLayAll0]
  | x :: xs, h => by
    have h1 := h x List.mem_cons_self
    have h2 := lay_str xs fun y hy => h y (List.mem_cons_of_mem _ hy)
    simp only [List.map_cons, PyData.canLayAll0, PyData.canLay0, h1, h2, Bool.and_self]
theorem shp_str {xs : List Str} (h : ∀ x ∈ xs, PyData.strOk x = true) : SeqAt.shaped (.list (xs.map PyData.str)) = true := by
  have e := depth_str xs
  have l := lay_str xs h
  unfold SeqAt.shaped PyData.canLay0 PyData.depth
  rw [l]
  simp only [Bool.true_and, decide_eq_true_eq]
  omega
theorem w_neS {K : PySem.W.Frag} {H : Hp} {Q : VK} {p q : Addr} {xs : List Str} (h1 : SqL K H p (xs.map V.str)) (h2 : SqL K H q (xs.map V.str)) (hk : ∀ x ∈ xs, PyData.strOk x = true) (k : Q (.bl false) H) : rNeD K (.ref p) (.ref q) H Q :=
  ⟨_, _, .lst h1 (dpa_str xs), .lst h2 (dpa_str xs), shp_str hk, shp_str hk, by
    rw [SeqAt.eqv_refl _ (by have := shp_str hk; unfold SeqAt.shaped at this; exact (Bool.and_eq_true_iff.mp this).1)]
    exact k⟩
theorem w_isi {K : PySem.W.Frag} {H : Hp} {Q : VK} {b : Bool} (k : Q (.bl true) H) : rIsi K [.bl b, .ty "bool"] H Q :=
  ⟨_, _, _, _, true, rfl, .ty "bool", .base (.bl b), kit_ty (by decide +kernel), k⟩
theorem w_neB {a b : Bool} {H : Hp} {Q : VK} (q : Q (.bl (!decide (a = b))) H) : rNe (.bl a) (.bl b) H Q := ⟨rfl, by
  have e : decide (V.bl a = V.bl b) = decide (a = b) := by cases a <;> cases b <;> decide
  rw [e]
  exact q⟩
end Hb

set_option Elab.async false
set_option maxRecDepth 100000
set_option maxHeartbeats 4000000
/-! More steps: dicts, fields changed by an operator, ranges, and an own exception with a field. -/
namespace Hb
open PySem L2 ClX

section
variable {K : PySem.W.Frag} {σ : St} {H : Hp} {Q : VK} {D : Ends} {ta tb td tc te tv ty to ti : TE} {t u tr : TS} {g : TG} {i : Nat} {v x y : V} {E : XK} {ts : TA} {f m : Str} {p : Addr} {B : Hp} {L L' : List (Addr × HO)}
/-! ### dicts with keys that are ints -/
def RDin (x y : V) (H : Hp) (Q : VK) : Prop := ∃ a o, x = .ref a ∧ DGet H a y o ∧ Q (.bl o.isSome) H
def RDni (x y : V) (H : Hp) (Q : VK) : Prop := ∃ a o, x = .ref a ∧ DGet H a y o ∧ Q (.bl (!o.isSome)) H
theorem w_din (q : ty σ H fun y H1 => td σ H1 fun x H2 => RDin x y H2 Q) : tDIn ty td σ H Q := q
theorem w_dni (q : ty σ H fun y H1 => td σ H1 fun x H2 => RDni x y H2 Q) : tDNotIn ty td σ H Q := q
theorem w_dinI {kvs : List (Key × V)} {n : Int} (h : H p = some (.dK kvs)) (q : Q (.bl (valV kvs (Sum.inl n)).isSome) H) : RDin (.ref p) (.int n) H Q := ⟨p, _, rfl, DGet.k (k := Sum.inl n) h, q⟩
theorem w_dniI {kvs : List (Key × V)} {n : Int} (h : H p = some (.dK kvs)) (q : Q (.bl (!(valV kvs (Sum.inl n)).isSome)) H) : RDni (.ref p) (.int n) H Q := ⟨p, _, rfl, DGet.k (k := Sum.inl n) h, q⟩
def RDput (x y v : V) (H : Hp) (R : Hp → Prop) : Prop := ∃ a H4, x = .ref a ∧ DPut H a y v H4 ∧ R H4
theorem w_dput (q : tv σ H fun v H1 => td σ H1 fun x H2 => ty σ H2 fun y H3 => RDput x y v H3 (D.nx σ)) : sDPut td ty tv D σ H := q
theorem w_dputI {kvs : List (Key × V)} {n : Int} {R : Hp → Prop} (hs : Hs B L H) (h : Put L p (.dK kvs) (.dK (putK kvs (Sum.inl n) v)) L') (hl : kvs.length < sizeLine) (q : ∀ H', Hs B L' H' → R H') : RDput (.ref p) (.int n) v H R :=
  ⟨p, _, rfl, DPut.k (k := Sum.inl n) (hs.gets h) hl, q _ (hs.puts h)⟩
def RPopA (x : V) (H : Hp) (R : Addr → Prop) : Prop := ∃ a, x = .ref a ∧ IsD H a ∧ R a
def RPopB (a : Addr) (y : V) (H : Hp) (Q : VK) : Prop := ∃ kvs k v, H a = some (.dK kvs) ∧ y = kV k ∧ valV kvs k = some v ∧ Q v (upd H a (.dK (dropK kvs k)))
theorem w_dpop (q : td σ H fun x H1 => RPopA x H1 fun a => ty σ H1 fun y H2 => RPopB a y H2 Q) : tDPop1 td ty σ H Q := q
theorem w_dpopA {kvs : List (Key × V)} {R : Addr → Prop} (h : H p = some (.dK kvs)) (q : R p) : RPopA (.ref p) H R := ⟨p, rfl, .inl ⟨kvs, .inl h⟩, q⟩
theorem w_dpopB {kvs : List (Key × V)} {n : Int} (hs : Hs B L H) (h : Put L p (.dK kvs) (.dK (dropK kvs (Sum.inl n))) L') (hv : valV kvs (Sum.inl n) = some v) (q : ∀ H', Hs B L' H' → Q v H') : RPopB p (.int n) H Q :=
  ⟨kvs, Sum.inl n, v, hs.gets h, rfl, hv, q _ (hs.puts h)⟩
def NewD (Q : VK) (H : Hp) : Prop := ∀ p, H p = none → Q (.ref p) (upd H p (.dK []))
theorem w_dnew (q : NewD Q H) : tDNewK σ H Q := q
theorem w_newD (hs : Hs B L H) (q : ∀ p H', Hs B ((p, .dK []) :: L) H' → Q (.ref p) H') : NewD Q H := w_new hs q
/-! ### o.f op= e -/
def FA1 (K : PySem.W.Frag) (f : Str) (x : V) (H : Hp) (R : Addr → Addr → V → Prop) : Prop := ∃ a C dx fs v, x = .ref a ∧ H a = some (.ins C dx fs) ∧ Cls K C ∧ NoAttr K C f ∧ fs.lookup f = some v ∧ R a C v
def FA2 (f : Str) (a C : Addr) (z : V) (H : Hp) (R : Hp → Prop) : Prop := ∃ dx' fs', H a = some (.ins C dx' fs') ∧ fs'.length < 1000 ∧ R (upd H a (.ins C dx' (putF f z fs')))
theorem w_faug {rd : V → V → Hp → VK → Prop} (q : ta σ H fun x H1 => FA1 K f x H1 fun a C v => tv σ H1 fun y H2 => rd v y H2 fun z H3 => FA2 f a C z H3 (D.nx σ)) : sFldAug K ta tv rd f D σ H := by
  revert q
  unfold sFldAug FA1 FA2
  exact id
theorem w_fa1 {C dx : Addr} {fs : List (Str × V)} {R : Addr → Addr → V → Prop} (h : H p = some (.ins C dx fs)) (hc : Cls K C) (hn : NoAttr K C f) (hl : fs.lookup f = some v) (q : R p C v) : FA1 K f (.ref p) H R := ⟨p, C, dx, fs, v, rfl, h, hc, hn, hl, q⟩
theorem w_fa2 {R : Hp → Prop} {C dx : Addr} {fs gs : List (Str × V)} (hs : Hs B L H) (h : Put L p (.ins C dx fs) (.ins C dx gs) L') (hl : fs.length < 1000) (hg : putF f v fs = gs) (q : ∀ H', Hs B L' H' → R H') : FA2 f p C v H R := by
  subst hg
  exact ⟨dx, fs, hs.gets h, hl, q _ (hs.puts h)⟩
theorem w_rAdd {a b : Int} (q : Q (.int (a + b)) H) : rAdd (.int a) (.int b) H Q := ⟨a, b, rfl, rfl, q⟩
theorem w_rSub {a b : Int} (q : Q (.int (a - b)) H) : rSub (.int a) (.int b) H Q := ⟨a, b, rfl, rfl, q⟩
/-! ### built-ins -/
def rMax2 : List V → Hp → VK → Prop := fun xs H Q => ∃ i j, xs = [.int i, .int j] ∧ Q (.int (if j > i then j else i)) H
def rMin2 : List V → Hp → VK → Prop := fun xs H Q => ∃ i j, xs = [.int i, .int j] ∧ Q (.int (if j < i then j else i)) H
theorem call_maxQ {X : Cx} (hc : X.calm = true) : CallR X (.builtin "max") rMax2 := call_max2 hc
theorem call_minQ {X : Cx} (hc : X.calm = true) : CallR X (.builtin "min") rMin2 := call_min2 hc
theorem w_max {a b : Int} (q : Q (.int (if b > a then b else a)) H) : rMax2 [.int a, .int b] H Q := ⟨a, b, rfl, q⟩
theorem w_min {a b : Int} (q : Q (.int (if b < a then b else a)) H) : rMin2 [.int a, .int b] H Q := ⟨a, b, rfl, q⟩
def rIsN : R2 := fun x y H Q => y = .non ∧ Q (.bl (decide (x = .non))) H
def rNotN : R2 := fun x y H Q => y = .non ∧ Q (.bl (!decide (x = .non))) H
theorem op_isNQ {X : Cx} : OpR X (compareOp .Is) rIsN := op_isN
theorem op_notNQ {X : Cx} : OpR X (compareOp .IsNot) rNotN := op_notN
theorem w_isN (q : Q (.bl (decide (x = .non))) H) : rIsN x .non H Q := ⟨rfl, q⟩
theorem w_notN (q : Q (.bl (!decide (x = .non))) H) : rNotN x .non H Q := ⟨rfl, q⟩
theorem w_eqD {a b : Addr} {d e : PyData} (h1 : Dp K H (.ref a) d) (h2 : Dp K H (.ref b) e) (s1 : SeqAt.shaped d = true) (s2 : SeqAt.shaped e = true) (q : Q (.bl (PyData.eqv d e)) H) : rEqD K (.ref a) (.ref b) H Q := ⟨d, e, h1, h2, s1, s2, q⟩
/-! ### targets -/
theorem w_gtup {n : Nat} {t : TGs} {xs : List V} {R : St → Hp → Prop} (h : SqT K H p xs) (hl : xs.length = n) (q : t xs σ H R) : gTup K n t (.ref p) σ H R := ⟨p, xs, rfl, h, hl, q⟩
theorem w_gnil {R : St → Hp → Prop} (q : R σ H) : gNil [] σ H R := ⟨rfl, q⟩
theorem w_gcons {t : TG} {u : TGs} {r : List V} {R : St → Hp → Prop} (q : t v σ H fun σ' H' => u r σ' H' R) : gCons t u (v :: r) σ H R := ⟨v, r, rfl, q⟩
theorem w_par3 {j l : Nat} (q : ts σ H fun vs H1 => ∃ u v w, vs = [u, v, w] ∧ D.nx (((σ.set i (some u)).set j (some v)).set l (some w)) H1) : tPar3 i j l ts D σ H := q
theorem w_ex3 {a b c : V} {P : V → V → V → Prop} (q : P a b c) : ∃ u v w, [a, b, c] = [u, v, w] ∧ P u v w := ⟨a, b, c, rfl, q⟩
theorem w_par2 {j : Nat} (q : ts σ H fun vs H1 => ∃ u v, vs = [u, v] ∧ D.nx ((σ.set i (some u)).set j (some v)) H1) : tPar i j ts D σ H := q
theorem w_ex2 {a b : V} {P : V → V → Prop} (q : P a b) : ∃ u v, [a, b] = [u, v] ∧ P u v := ⟨a, b, rfl, q⟩
/-! ### [e for i in range(a, b)] -/
theorem w_lcR {vs : List Nat} {tt : TT} {lo hi : Int} (b1 : -(2 ^ 62) ≤ lo ∧ lo < 2 ^ 62 ∧ -(2 ^ 62) ≤ hi ∧ hi < 2 ^ 62) (Pv : Addr → Nat → Hp → Prop) (hta : ∀ Q : List V → Hp → Prop, Q [.int lo, .int hi] H → ts σ H Q) (h0 : ∀ D, H D = none → Pv D 0 (upd H D (.lst [])))
    (hs : ∀ D (i : Nat) H, lo + (i : Int) < hi → Pv D i H → g (.int (lo + (i : Int))) (wipe σ vs) H fun σ2 H2 => wipe σ2 vs = wipe σ vs ∧ tt σ2 H2 fun b H3 =>
      if b = true then te σ2 H3 fun y H4 => ∃ acc, H4 D = some (.lst acc) ∧ acc.length < sizeLine ∧ Pv D (i + 1) (upd H4 D (.lst (acc ++ [y]))) else Pv D (i + 1) H3) (hd : ∀ D H, Pv D (hi - lo).toNat H → Q (.ref D) H) : tLc (iRng2 ts) g tt te vs σ H Q :=
  hta _ ⟨lo, hi, rfl, b1, fun D hD => lc_range (Pv D) (h0 D hD) (fun i H' hi' p => hs D i H' (by omega) p) (hd D)⟩
theorem w_lcR1 {vs : List Nat} {tt : TT} {hi : Int} (b1 : -(2 ^ 62) ≤ hi ∧ hi < 2 ^ 62) (Pv : Addr → Nat → Hp → Prop) (hta : ∀ Q : List V → Hp → Prop, Q [.int hi] H → ts σ H Q) (h0 : ∀ D, H D = none → Pv D 0 (upd H D (.lst [])))
    (hs : ∀ D (i : Nat) H, (i : Int) < hi → Pv D i H → g (.int (i : Int)) (wipe σ vs) H fun σ2 H2 => wipe σ2 vs = wipe σ vs ∧ tt σ2 H2 fun b H3 =>
      if b = true then te σ2 H3 fun y H4 => ∃ acc, H4 D = some (.lst acc) ∧ acc.length < sizeLine ∧ Pv D (i + 1) (upd H4 D (.lst (acc ++ [y]))) else Pv D (i + 1) H3) (hd : ∀ D H, Pv D hi.toNat H → Q (.ref D) H) : tLc (iRng1 ts) g tt te vs σ H Q :=
  hta _ ⟨hi, rfl, b1.1, b1.2, fun D hD => lc_range (Pv D) (h0 D hD) (fun i H' hi' p => by
    have e0 : (0 : Int) + (i : Int) = (i : Int) := Int.zero_add _
    rw [e0]
    exact hs D i H' (by omega) p) (hd D)⟩
end

/-- a statement, then the rest: what stands between is said once -/
theorem w_cut {σ : St} {H : Hp} {D : Ends} {t u : TS} (Mid : St → Hp → Prop) (h1 : t { D with nx := Mid } σ H) (h2 : ∀ σ' H', Mid σ' H' → u D σ' H') : C8.tCut t u D σ H := ⟨Mid, h1, h2⟩
/-! ### rules whose reading names the written part itself -/
section
variable {X : Cx} {K : PySem.W.Frag}
theorem pe_fldK {e : Expr} {f : Str} {ta : TE} {pos : Pos} (he : PE X e ta) (hb : attributeBase e f X.env (eval e X.env) = eval e X.env := by rfl) (hK : X.K = K := by rfl) : PE X (.Attribute e f pos) (tFld K ta f) := by
  subst hK
  exact pe_fld he hb
theorem ps_fldK {o value : Expr} {f : Str} {ta tv : TE} {pos pos' : Pos} (ha : PE X o ta) (hv : PE X value tv) (hs : swapsWith value (some (.Attribute o f pos')) pos.line X.env = pure false := by rfl) (hK : X.K = K := by rfl) : PS X (.Assign [.Attribute o f pos'] value pos) (sFld K ta tv f) := by
  subst hK
  exact ps_fld ha hv hs
theorem ps_fldaugK {o value : Expr} {f : Str} {ta tv : TE} {pos tpos : Pos} {op : Operator} {rd : V → V → Hp → VK → Prop} (ha : PE X o ta) (hv : PE X value tv) (hop : InOp X op rd) (hK : X.K = K := by rfl) : PS X (.AugAssign (.Attribute o f tpos) op value pos) (sFldAug K ta tv rd f) := by
  subst hK
  exact ps_fldaug ha hv hop
theorem ix_listK (hK : X.K = K := by rfl) : IxR X (rIxL K) := by
  subst hK
  exact ix_list
theorem ix_tupK (hK : X.K = K := by rfl) : IxR X (rIxT K) := by
  subst hK
  exact ix_tup
theorem sl_listK (hK : X.K = K := by rfl) : SlR X (rSlL K) := by
  subst hK
  exact sl_list
theorem sl_tupK (hK : X.K = K := by rfl) : SlR X (rSlT K) := by
  subst hK
  exact sl_tup
theorem call_lenK (hK : X.K = K := by rfl) : CallR X (.builtin "len") (rLen K) := by
  subst hK
  exact call_lenQ
theorem op_eqDK (hu : X.A.units + 64 < cLine) (hK : X.K = K := by rfl) : OpR X (compareOp .Eq) (rEqD K) := by
  subst hK
  exact op_eqD hu
theorem op_neDK (hu : X.A.units + 64 < cLine) (hK : X.K = K := by rfl) : OpR X (compareOp .NotEq) (rNeD K) := by
  subst hK
  exact op_neD hu
theorem op_inK (hK : X.K = K := by rfl) : OpR X (compareOp .In) (rIn K false) := by
  subst hK
  exact op_in_seq
theorem op_niK (hK : X.K = K := by rfl) : OpR X (compareOp .NotIn) (rIn K true) := by
  subst hK
  exact op_notIn_seq
theorem pi_listK {tg l : Expr} {tl : TE} (hl : PE X l tl) (hK : X.K = K := by rfl) : PI X tg l (iList K tl) := by
  subst hK
  exact pi_list hl
theorem pi_tupK {tg l : Expr} {tl : TE} (hl : PE X l tl) (hK : X.K = K := by rfl) : PI X tg l (iTup K tl) := by
  subst hK
  exact pi_tup hl
theorem pg_tupK {es : List Expr} {k : Nat} {t : TGs} {n : Nat} {pos : Pos} (hc : X.calm = true) (h : PGs X es t) (hn : (assignEach es X.env).length = n := by rfl) (hst : (assignEach es X.env).findIdx? (·.1) = none := by rfl) (hK : X.K = K := by rfl) : PG X (.Tuple es k pos) (gTup K n t) := by
  subst hK
  exact pg_tup hc h hn hst
theorem pt_truthK {a : Expr} {ta : TE} (ha : PE X a ta) (he : ∀ whole, isTrue a X.env whole = (do let v ← whole; standAt a.pos; holding [v] (truthy v)) := by intro _; rfl) (hK : X.K = K := by rfl) : PT X a (fun σ H Q => ta σ H fun x H' => ∃ k, TruV K x H' k ∧ Q k H') := by
  subst hK
  exact pt_truth ha he
theorem call_isiK (hK : X.K = K := by rfl) : CallR X (.builtin "isinstance") (rIsi K) := by
  subst hK
  exact call_isi
variable {o e : Expr} {es : List Expr} {to : TE} {t : TA} {name : Str} {apos cpos : Pos} {T id : String} {r : V → List V → Hp → VK → Prop}
theorem pe_bm0K (pa : PlainAttrs T) (slot : Slot T name id) (hty : typeOf (.builtin id) = pure (.type "method_descriptor")) (hm : MtR X id r) (ho : PE X o to)
    (hbase : attributeBase o name X.env (eval o X.env) = eval o X.env := by rfl) (hline : (apos.endLine == cpos.line) = true := by rfl) (hK : X.K = K := by rfl) : PE X (.Call (.Attribute o name apos) [] [] cpos) (tBM0 K T r to) := by
  subst hK
  exact pe_bm0 pa slot hty hm ho hbase hline
theorem pe_bmK (pa : PlainAttrs T) (slot : Slot T name id) (hty : typeOf (.builtin id) = pure (.type "method_descriptor")) (hm : MtR X id r) (ho : PE X o to) (ha : PA X (e :: es) t)
    (hb : attributeBase o name X.env (eval o X.env) = eval o X.env := by rfl)
    (hf : ((backTo cpos (starEach (e :: es) X.env)).all (fun x => !x.1) && (backToKw cpos (keywordEach [] X.env)).all (fun x => x.1.isSome) && decide ((e :: es).length + ([] : List Keyword).length + (if ([] : List Keyword).isEmpty then 0 else 1) < 30)) = true := by rfl)
    (hl : (apos.endLine == cpos.line) = true := by rfl) (h1 : starEach (e :: es) X.env = (false, eval e X.env) :: starEach es X.env := by rfl) (h2 : (backTo cpos (starEach es X.env)).any (·.1) = false := by rfl) (hK : X.K = K := by rfl) :
    PE X (.Call (.Attribute o name apos) (e :: es) [] cpos) (tBM K T r to t) := by
  subst hK
  exact pe_bm pa slot hty hm ho ha hb hf hl h1 h2
end
section
variable {H B : Hp} {L L' : List (Addr × HO)} {l : Addr} {y a b c d e : V} {r : List V} {R : Hp → Prop}
theorem w_set0 (hs : Hs B L H) (h : Put L l (.lst (a :: r)) (.lst (y :: r)) L') (q : ∀ H', Hs B L' H' → R H') : rSetL (.ref l) (.int 0) y H R := w_setL (k := 0) hs h rfl (by simp) q
theorem w_set1 (hs : Hs B L H) (h : Put L l (.lst (a :: b :: r)) (.lst (a :: y :: r)) L') (q : ∀ H', Hs B L' H' → R H') : rSetL (.ref l) (.int 1) y H R := w_setL (k := 1) hs h rfl (by simp) q
theorem w_set2 (hs : Hs B L H) (h : Put L l (.lst (a :: b :: c :: r)) (.lst (a :: b :: y :: r)) L') (q : ∀ H', Hs B L' H' → R H') : rSetL (.ref l) (.int 2) y H R := w_setL (k := 2) hs h rfl (by simp) q
theorem w_set3 (hs : Hs B L H) (h : Put L l (.lst (a :: b :: c :: d :: r)) (.lst (a :: b :: c :: y :: r)) L') (q : ∀ H', Hs B L' H' → R H') : rSetL (.ref l) (.int 3) y H R := w_setL (k := 3) hs h rfl (by simp) q
theorem w_set4 (hs : Hs B L H) (h : Put L l (.lst (a :: b :: c :: d :: e :: r)) (.lst (a :: b :: c :: d :: y :: r)) L') (q : ∀ H', Hs B L' H' → R H') : rSetL (.ref l) (.int 4) y H R := w_setL (k := 4) hs h rfl (by simp) q
end
theorem w_eqB {a b : Bool} {H : Hp} {Q : VK} (q : Q (.bl (decide (a = b))) H) : rEq (.bl a) (.bl b) H Q := ⟨rfl, by
  have e : decide (V.bl a = V.bl b) = decide (a = b) := by cases a <;> cases b <;> decide
  rw [e]
  exact q⟩
/-- arguments that are known -/
def kTA (vs : List V) : TA := fun _ H Q => Q vs H
theorem w_for1 {σ : St} {H : Hp} {D : Ends} {ta : TA} {tb : TS} {g : TG} (q : ta σ H fun vs H1 => tFor (iRng1 (kTA vs)) g tb D σ H1) : tFor (iRng1 ta) g tb D σ H := q
theorem w_for2 {σ : St} {H : Hp} {D : Ends} {ta : TA} {tb : TS} {g : TG} (q : ta σ H fun vs H1 => tFor (iRng2 (kTA vs)) g tb D σ H1) : tFor (iRng2 ta) g tb D σ H := q
/-! ### an own exception -/
section
variable {X : Cx} {C a : Addr}
/-- X.__init__(self, ..) of an own class that has its __init__ from ValueError -/
theorem pe_ownInit {x : Str} {e : Expr} {es : List Expr} {ta : TA} {p1 p2 pos : Pos} {pl : Sem Bool} (hg : Gl X x) (hm : X.mg x = some (.ref C)) (r : CRead X.K C (.type "type")) (cv : PySem.W.findCls X.K (.ref C) (.type "type") "__init__" = some (.val (.builtin "ValueError.__init__"))) (ha : PA X (e :: es) ta)
    (hdb : (x == ("__debug__" : Str)) = false := by decide)
    (hc : eval (.Call (.Attribute (.Name x p1) "__init__" p2) (e :: es) [] pos) X.env = (do
      let ov ← eval (.Name x p1) X.env
      standAt p2.atName
      let (f, first) ← holding [ov] (getMethod ov "__init__" pl)
      callWith pos f first (backTo pos (starEach (e :: es) X.env)) (backToKw pos (keywordEach [] X.env))) := by rfl)
    (he : starEach (e :: es) X.env = (false, eval e X.env) :: starEach es X.env := by rfl) (hpl : (backTo pos (starEach es X.env)).any (·.1) = false := by rfl) :
    PE X (.Call (.Attribute (.Name x p1) "__init__" p2) (e :: es) [] pos) (tVeI X.K ta) := by
  constructor
  intro pins s σ H Q I h
  refine PySem.W.methodCall_KW ?_ hc
  refine ld_glob I hg hm ?_ hdb
  refine PySem.W.method_cls I.kIn r.ga (PySem.W.cls_value I.kIn r.rd cv rfl ?_)
  have fin : ∀ (us : List Value) (s1 : Shared), AP X pins σ (fun vs H1 => ∃ (a C : Addr) (ws : List V), vs = .ref a :: ws ∧ ws.length ≤ 1000 ∧ OexC X.K C ∧ H1 a = some (exo a C none) ∧ Q .non H1) us s1 → wpAny (model X.prog X.w) X.A (call (.builtin "ValueError.__init__") us) (EP X pins σ Q) X.xe s1 := by
    rintro us s1 ⟨vs, H1, I1, r1, a', C', ws, rfl, hw, hT, hE, q1⟩
    match us, r1 with
    | u0 :: ur, .cons r0 rr =>
      cases (show u0 = Value.ref a' from r0)
      have hn : ur.length ≤ sizeLine := by
        rw [← Paired.length rr, sizeLine_eq]
        omega
      exact oinit_ok hT I1 hE hn fun _ J => ⟨.non, _, J, rfl, q1⟩
  exact PyProof.Rows.callWith_method1 (thn (ha.run pos pins _ σ H _ (I.tok _) h) fin) he hpl
/-- o.m(e), what it lets out by the slots -/
def tMethQ (C : Addr) (m : Str) (sp : Sp) (E : St → XK) (ta : TE) (t : TA) : TE := fun σ H Q => ta σ H fun x H1 => ∃ a dx fs, x = .ref a ∧ H1 a = some (.ins C dx fs) ∧ fs.lookup m = none ∧ t σ H1 fun vs H2 => sp (x :: vs) H2 Q (E σ)
theorem pe_methQ {CX : CXT} {k : Nat} {f : Addr} {fd : FuncData} {ps : List Str} {sp : Sp} {E : St → XK} {m : Str} {pos apos : Pos} {e o : Expr} {es : List Expr} {ta : TE} {t : TA} {pl : Sem Bool} (ho : PE X o ta) (c : Cls X.K C) (hm : Meth X.K C m f) (F : FnOk X.prog X.w X.K X.mg X.base CX k f fd ps sp)
    (hr : Room k X.A) (hb : Binds X.K fd ps []) (hx : ∀ σ, PassesAt CX X σ (E σ)) (ha : PA X (e :: es) t) (h1 : starEach (e :: es) X.env = (false, eval e X.env) :: starEach es X.env := by rfl) (h2 : (backTo pos (starEach es X.env)).any (·.1) = false := by rfl)
    (h3 : eval (.Call (.Attribute o m apos) (e :: es) [] pos) X.env = (do
      let ov ← eval o X.env
      standAt apos.atName
      let (f, first) ← holding [ov] (getMethod ov m pl)
      callWith pos f first (backTo pos (starEach (e :: es) X.env)) (backToKw pos (keywordEach [] X.env))) := by rfl) :
    PE X (.Call (.Attribute o m apos) (e :: es) [] pos) (tMethQ C m sp E ta t) := by
  constructor
  intro pins s σ H Q I h
  refine PySem.W.methodCall_KW (pl := pl) (thn (ho.run pins s σ H _ I h) ?_) h3
  rintro u s1 ⟨x, H1, I1, rx, a, dx, fs, rfl, ea, l, q⟩
  cases (show u = Value.ref a from rx)
  refine getmeth_ok I1 ea c hm l (PySem.W.callWith_K (first := [.ref a]) (h₀ := X.base) I.ok.mod.kin hm.kp (thn (ha.run pos pins s1 σ H1 _ I1 q) ?_) h1 h2)
  rintro us s2 ⟨vs, H2, I2, r, q2⟩
  exact ⟨I2.kIn, run_fnS (us := .ref a :: us) (vs := .ref a :: vs) F hr hb (hx σ) I2 (.cons rfl r) q2⟩
/-- what an own exception's class D must have for isinstance -/
structure XcC (K : PySem.W.Frag) (D : Addr) : Prop where
  cl : (PySem.W.clsIn K D).isSome = true
  ga : PySem.W.findIn K (.ref D) "__getattribute__" = some (some (.builtin "BaseException.__getattribute__"))
  gt : PySem.W.findIn K (.ref D) "__getattr__" = some none
  ex : PySem.W.subIn K (.ref D) (.type "BaseException") = some true
  cs : PySem.W.findIn K (.ref D) "__class__" = some (some (.builtin "object.__class__"))
  gd : PySem.W.specialIn K (.builtin "object.__class__") "__get__" = some (some (.builtin "getset_descriptor.__get__"))
  tk : PySem.W.takesIn K (.builtin "object.__class__") = some true
  mo : PySem.W.mroIn K D (.type "object") = some true
theorem kit_own {K : PySem.W.Frag} {D C : Addr} {b : Bool} (n : D ≠ C) (hc : PySem.W.isClsIn K C = true) (ht : PySem.W.typeIn K (.ref C) = some (.type "type")) (h : PySem.W.subIn K (.ref D) (.ref C) = some b) : PySem.W.kitOne K (.ref D) (.ref C) = some b := by
  have e : (Value.ref D == Value.ref C) = false := beq_eq_false_iff_ne.mpr fun q => n (Value.ref.inj q)
  have hc' : (PySem.W.clsIn K C).isSome = true := hc
  unfold PySem.W.kitOne PySem.W.kitCls
  simp [e, hc', ht, h]
theorem kit_ownT {K : PySem.W.Frag} {D C : Addr} (hc : PySem.W.isClsIn K C = true) (ht : PySem.W.typeIn K (.ref C) = some (.type "type")) (h : PySem.W.subIn K (.ref D) (.ref C) = some true) : PySem.W.kitOne K (.ref D) (.ref C) = some true := by
  by_cases e : D = C
  · subst e
    unfold PySem.W.kitOne
    rw [if_pos (beq_self_eq_true _)]
  · exact kit_own e hc ht h
/-- isinstance(e, c) of an exception that the suite holds, with its dict -/
def rIsX (K : PySem.W.Frag) (a : Addr) (cls : Value) (d : Option Addr) : List V → Hp → VK → Prop := fun xs H Q => ∃ (D C dd : Addr) (fs : List (Str × V)) (b : Bool), cls = .ref D ∧ d = some dd ∧ H dd = some (.xd fs) ∧ xs = [.ref a, .ref C] ∧ XcC K D ∧ PySem.W.kitOne K (.ref D) (.ref C) = some b ∧ Q (.bl b) H
theorem call_isX {oe : Obj} {cls : Value} {d : Option Addr} {pn : List (Addr × Obj)} (hz : Zc cls d oe) (hf : ∃ vs, oe.data = .fields vs) : CallR (X.suite a ((a, oe) :: pn)) (.builtin "isinstance") (rIsX X.K a cls d) := by
  rintro pins s σ H xs us Q I r ⟨D, C, dd, fs, b, rfl, rfl, hd, rfl, hD, hk, q⟩
  obtain ⟨u1, u2, rfl, r1, r2⟩ := vals2 r
  cases (show u1 = Value.ref a from r1)
  cases (show u2 = Value.ref C from r2)
  obtain ⟨ha, _⟩ := I.pin (a, oe) (List.mem_append_left _ List.mem_cons_self)
  obtain ⟨vs, hv⟩ := hf
  obtain ⟨mA, hns, _⟩ := (show ObjOk X.prog X.w H s.heap dd (.xd fs) from I.hok dd _ hd)
  obtain ⟨od, ho, _⟩ := lookIn_ns hns
  have J : PySem.W.InstAt s.heap a oe D (some od) := ⟨ha, hz.1, by unfold PySem.W.notCls; rw [hv] <;> rfl, by rw [hz.2]; exact ho⟩
  exact PySem.W.kia_one (PySem.W.kitx_exc hD.cl hD.ga hD.gt hD.ex hD.cs hD.gd hD.tk hD.mo) I.kIn J hk (fun z => nomatch z) fun tk => ⟨.bl b, H, I.kept (t' := tk) fun _ _ z => z, rfl, q⟩
end
section
variable {K : PySem.W.Frag} {σ : St} {H : Hp} {Q : VK} {D : Ends} {te tv to : TE} {ts : TA} {f : Str} {v x y : V} {C a : Addr} {B : Hp} {L L' : List (Addr × HO)}
def RVe (K : PySem.W.Frag) (vs : List V) (H : Hp) (Q : VK) : Prop := ∃ (a C : Addr) (ws : List V), vs = .ref a :: ws ∧ ws.length ≤ 1000 ∧ OexC K C ∧ H a = some (exo a C none) ∧ Q .non H
theorem w_vei (q : ts σ H fun vs H1 => RVe K vs H1 Q) : tVeI K ts σ H Q := q
theorem w_ve {ws : List V} (hl : ws.length ≤ 1000) (hT : OexC K C) (h : H a = some (exo a C none)) (q : Q .non H) : RVe K (.ref a :: ws) H Q := ⟨a, C, ws, rfl, hl, hT, h, q⟩
def ROst (K : PySem.W.Frag) (f : Str) (y x : V) (H : Hp) (R : Hp → Prop) : Prop := ∃ a C : Addr, x = .ref a ∧ OexC K C ∧ PySem.W.findIn K (.ref C) f = some none ∧
  ((H a = some (exo a C none) ∧ ∀ dx, H dx = none → dx ≠ a → R (upd (upd H dx (exd dx [(f, y)])) a (exo a C (some dx)))) ∨
    ∃ (dx : Addr) (fs : List (Str × V)), H a = some (exo a C (some dx)) ∧ H dx = some (exd dx fs) ∧ fs.length ≤ 900 ∧ R (upd H dx (exd dx ((f, y) :: fs))))
theorem w_ost0 (q : te σ H fun y H1 => to σ H1 fun x H2 => ROst K f y x H2 (D.nx σ)) : tOst K f to te D σ H := q
theorem w_ost {R : Hp → Prop} (hs : Hs B ((a, exo a C none) :: L) H) (hT : OexC K C) (hn : PySem.W.findIn K (.ref C) f = some none) (q : ∀ dx H', Hs B ((dx, exd dx [(f, y)]) :: (a, exo a C (some dx)) :: L) H' → R H') : ROst K f y (.ref a) H R :=
  ⟨a, C, rfl, hT, hn, .inl ⟨hs.g0, fun dx hd _ => q dx _ ((hs.new hd).p1 _)⟩⟩
/-- the making of an own exception -/
def MkO (C : Addr) (sp : Sp) (vs dvs : List V) (H1 : Hp) (Q : XK) : Prop := vs.length ≤ 1000 ∧ ∀ a, H1 a = none → sp (.ref a :: (vs ++ dvs)) (upd H1 a (exo a C none))
  (fun v H2 => v = .non ∧ ∃ (d : Addr) (fs : List (Str × V)), H2 a = some (exo a C (some d)) ∧ H2 d = some (exd d fs) ∧ H1 d = none ∧ Q (.ref C) (some d) (upd (del H2 a) d (.xd fs))) (fun _ _ _ => False)
theorem w_mko {sp : Sp} {dvs : List V} {Q : XK} (q : ts σ H fun vs H1 => MkO C sp vs dvs H1 Q) : tMkO C sp dvs ts σ H Q := by
  revert q
  unfold tMkO MkO
  exact id
/-- what an own __init__ with one field promises -/
def spXinit (C : Addr) (f : Str) (ok : V → Prop) : Sp := fun vs H Q _ => ∃ (B : Hp) (e : Addr) (v : V), vs = [.ref e, v] ∧ Hs B [(e, exo e C none)] H ∧ ok v ∧ ∀ dx H', Hs B [(dx, exd dx [(f, v)]), (e, exo e C (some dx))] H' → Q .non H'
theorem w_mkX {ok : V → Prop} {Q : XK} (hs : Hs B L H) (hv : ok v) (q : ∀ d H', Hs B ((d, .xd [(f, v)]) :: L) H' → Q (.ref C) (some d) H') : MkO C (spXinit C f ok) [v] [] H Q := by
  refine ⟨by simp, fun a ha => ?_⟩
  have h1 := hs.new (o := exo a C none) ha
  obtain ⟨_, h2, back⟩ := h1.frame [(a, exo a C none)]
  refine ⟨_, a, v, rfl, h2, hv, fun dx H2 h3 => ⟨rfl, dx, [(f, v)], h3.g1, h3.g0, ?_, ?_⟩⟩
  · have n : dx ≠ a := fun e => by
      have := h3.nd
      rw [e] at this
      simp at this
    have z := h3.out _ List.mem_cons_self
    have nm : dx ∉ [(a, exo a C none)].map (·.1) := by
      simp only [List.map_cons, List.map_nil, List.mem_singleton]
      exact n
    have z2 : upd H a (exo a C none) dx = none := (around_out nm).symm.trans z
    rwa [upd_ne n] at z2
  · have h4 := back _ _ h3
    have nd := h4.nd
    have hda : dx ≠ a := fun e => by
      rw [e] at nd
      simp at nd
    have nL : ∀ e ∈ L, e.1 ≠ dx ∧ e.1 ≠ a := fun e he => by
      simp only [List.cons_append, List.nil_append, List.map_cons, List.nodup_cons, List.mem_cons, not_or] at nd
      refine ⟨fun z => nd.1.2 ?_, fun z => nd.2.1 ?_⟩
      · rw [← z]
        exact List.mem_map.mpr ⟨e, he, rfl⟩
      · rw [← z]
        exact List.mem_map.mpr ⟨e, he, rfl⟩
    have ba : B a = none := hs.same.free ha
    have bd : B dx = none := h4.out _ List.mem_cons_self
    refine q dx _ ⟨fun b o e => ?_, ?_, fun e he => ?_, fun e he => ?_⟩
    · have n1 : b ≠ dx := fun z => by
        rw [z, bd] at e
        cases e
      have n2 : b ≠ a := fun z => by
        rw [z, ba] at e
        cases e
      rw [upd_ne n1, del_ne n2]
      exact h4.same b o e
    · simp only [List.cons_append, List.nil_append, List.map_cons, List.nodup_cons, List.mem_cons, not_or] at nd ⊢
      exact ⟨nd.1.2, nd.2.2⟩
    · rcases List.mem_cons.mp he with rfl | he
      · exact bd
      · exact hs.out e he
    · rcases List.mem_cons.mp he with rfl | he
      · exact upd_same
      · obtain ⟨n1, n2⟩ := nL e he
        rw [upd_ne n1, del_ne n2]
        exact h4.at_ e (List.mem_cons_of_mem _ (List.mem_cons_of_mem _ he))
theorem w_methQ {sp : Sp} {E : St → XK} {m : Str} {ta : TE} (q : ta σ H fun x H1 => Rc m C x H1 (ts σ H1 fun vs H2 => sp (x :: vs) H2 Q (E σ))) : tMethQ C m sp E ta ts σ H Q := by
  revert q
  unfold tMethQ Rc
  exact id
theorem w_isX {d : Addr} {fs : List (Str × V)} {C' : Addr} {b : Bool} (h : H d = some (.xd fs)) (hx : XcC K C) (hk : PySem.W.kitOne K (.ref C) (.ref C') = some b) (q : Q (.bl b) H) : rIsX K a (.ref C) (some d) [.ref a, .ref C'] H Q := ⟨C, C', d, fs, b, rfl, rfl, h, rfl, hx, hk, q⟩
def RXf (a : Addr) (cls : Value) (d : Option Addr) (C : Addr) (f : Str) (x : V) (H : Hp) (Q : VK) : Prop := x = .ref a ∧ cls = .ref C ∧ ∃ (dd : Addr) (fs : List (Str × V)) (v : V), d = some dd ∧ H dd = some (.xd fs) ∧ fs.lookup f = some v ∧ Q v H
theorem w_xf0 {cls : Value} {d : Option Addr} (q : te σ H fun x H1 => RXf a cls d C f x H1 Q) : tXf a cls d C f te σ H Q := q
theorem w_xf {d : Addr} {fs : List (Str × V)} (h : H d = some (.xd fs)) (hl : fs.lookup f = some v) (q : Q v H) : RXf a (.ref C) (some d) C f (.ref a) H Q := ⟨rfl, rfl, d, fs, v, rfl, h, hl, q⟩
theorem w_was {i : Nat} {ts : Addr → Value → Option Addr → TS} {Wout : WX} {d : Addr} (he : PySem.W.exmOne K (.ref C) (.ref C) = some true)
    (q : ∀ e, H e = none → ts e (.ref C) (some d) { nx := fun σ' H' => D.nx (σ'.set i none) H', rt := D.rt, bk := fun σ' H' => D.bk (σ'.set i none) H', ct := fun σ' H' => D.ct (σ'.set i none) H' } (σ.set i (some (.ref e))) H) :
    wAs K (.ref C) i ts Wout D (.ref C) (some d) σ H := ⟨true, he, fun _ e h => q e h, fun z => Bool.noConfusion z⟩
theorem w_eqSt {a b : Str} (q : Q (.bl (decide (a = b))) H) : rEq (.str a) (.str b) H Q := ⟨rfl, by
  have e : decide (V.str a = V.str b) = decide (a = b) := by
    by_cases h : a = b
    · rw [decide_eq_true h, decide_eq_true (congrArg V.str h)]
    · rw [decide_eq_false h, decide_eq_false fun q => h (V.str.inj q)]
  rw [e]
  exact q⟩
/-- texts of an f-string -/
theorem w_js {t : TE} {us : List TE} {acc : Str} {Q : Str → Hp → Prop} (q : t σ H fun x H1 => ∃ y : Str, x = .str y ∧ (acc ++ y).length ≤ sizeLine ∧ tJs us (acc ++ y) σ H1 Q) : tJs (t :: us) acc σ H Q := q
theorem w_js0 {acc : Str} {Q : Str → Hp → Prop} (q : Q acc H) : tJs [] acc σ H Q := q
theorem w_js1 {s acc : Str} {R : Str → Prop} (h : (acc ++ s).length ≤ sizeLine) (q : R s) : ∃ y : Str, V.str s = .str y ∧ (acc ++ y).length ≤ sizeLine ∧ R y := ⟨s, rfl, h, q⟩
def RFmt (x : V) (H : Hp) (Q : VK) : Prop := (∃ y : Str, x = .str y ∧ y.length ≤ sizeLine ∧ Q (.str y) H) ∨ ∃ i : Int, x = .int i ∧ i.natAbs.log2 < 1920 ∧ Q (.str (toString i)) H
theorem w_fmt (q : te σ H fun x H1 => RFmt x H1 Q) : tFmt te σ H Q := q
theorem w_fmtS {s : Str} (h : s.length ≤ sizeLine) (q : Q (.str s) H) : RFmt (.str s) H Q := .inl ⟨s, rfl, h, q⟩
theorem w_fmtI {n : Int} (h : n.natAbs < 2 ^ 64) (q : Q (.str (toString n)) H) : RFmt (.int n) H Q := .inr ⟨n, rfl, Nat.lt_of_lt_of_le (PySem.Flt.log2_lt_of (by decide) h) (by decide), q⟩
def tRaiseX (W : WX) (t : St → Hp → XK → Prop) : TS := fun _ σ H => t σ H fun cls d H' => W cls d σ H'
theorem ps_raiseQ {X : Cx} {W : WX} {e : Expr} {t : St → Hp → XK → Prop} {pos : Pos} (hc : X.calm = true) (tk : Takes X W) (he : PMk X e t) : PS X (.Raise (some e) none pos) (tRaiseX W t) := ps_raise hc tk he
theorem w_raise {W : WX} {t : St → Hp → XK → Prop} (q : t σ H fun cls d H' => W cls d σ H') : tRaiseX W t D σ H := q
end

/-! ### data that nobody changes: scalars and tuples -/
mutual
inductive Im (K : PySem.W.Frag) (H : Hp) : V → PyData → Prop
  | non : Im K H .non .none
  | bl (b : Bool) : Im K H (.bl b) (.bool b)
  | int (i : Int) : Im K H (.int i) (.int i)
  | str (x : Str) : Im K H (.str x) (.str x)
  | tup {a : Addr} {xs : List V} {ds : List PyData} : H a = some (.tup xs) → ImAll K H xs ds → Im K H (.ref a) (.tuple ds)
inductive ImAll (K : PySem.W.Frag) (H : Hp) : List V → List PyData → Prop
  | nil : ImAll K H [] []
  | cons {v : V} {vs : List V} {d : PyData} {ds : List PyData} : Im K H v d → ImAll K H vs ds → ImAll K H (v :: vs) (d :: ds)
end
section
variable {K : PySem.W.Frag} {H H' : Hp}
mutual
theorem Im.dp : ∀ {d : PyData} {v : V}, Im K H v d → Dp K H v d
  | .none, _, h => by cases h; exact .non
  | .bool _, _, h => by cases h; exact .bl _
  | .int _, _, h => by cases h; exact .int _
  | .str _, _, h => by cases h; exact .str _
  | .tuple _, _, h => by
    cases h with
    | tup h1 h2 => exact .tup (SqT.of h1) h2.dp
  | .list _, _, h => nomatch h
  | .dict _, _, h => nomatch h
theorem ImAll.dp : ∀ {ds : List PyData} {vs : List V}, ImAll K H vs ds → DpAll K H vs ds
  | [], _, h => by cases h; exact .nil
  | _ :: _, _, h => by
    cases h with
    | cons h1 h2 => exact .cons h1.dp h2.dp
end
mutual
theorem Im.mono (e : ∀ a xs, H a = some (.tup xs) → H' a = some (.tup xs)) : ∀ {d : PyData} {v : V}, Im K H v d → Im K H' v d
  | .none, _, h => by cases h; exact .non
  | .bool _, _, h => by cases h; exact .bl _
  | .int _, _, h => by cases h; exact .int _
  | .str _, _, h => by cases h; exact .str _
  | .tuple _, _, h => by
    cases h with
    | tup h1 h2 => exact .tup (e _ _ h1) (h2.mono e)
  | .list _, _, h => nomatch h
  | .dict _, _, h => nomatch h
theorem ImAll.mono (e : ∀ a xs, H a = some (.tup xs) → H' a = some (.tup xs)) : ∀ {ds : List PyData} {vs : List V}, ImAll K H vs ds → ImAll K H' vs ds
  | [], _, h => by cases h; exact .nil
  | _ :: _, _, h => by
    cases h with
    | cons h1 h2 => exact .cons (h1.mono e) (h2.mono e)
end
theorem Im.same (e : Same H H') {d : PyData} {v : V} (h : Im K H v d) : Im K H' v d := h.mono fun _ _ => e _ _
theorem ImAll.same (e : Same H H') {ds : List PyData} {vs : List V} (h : ImAll K H vs ds) : ImAll K H' vs ds := h.mono fun _ _ => e _ _
theorem ImAll.snoc {ds : List PyData} {vs : List V} {d : PyData} {v : V} (h : ImAll K H vs ds) (h1 : Im K H v d) : ImAll K H (vs ++ [v]) (ds ++ [d]) := by
  induction vs generalizing ds with
  | nil =>
    cases h
    exact .cons h1 .nil
  | cons w ws ih =>
    cases h with
    | cons a b => exact .cons a (ih b)
theorem ImAll.len : ∀ {ds : List PyData} {vs : List V}, ImAll K H vs ds → vs.length = ds.length
  | [], _, h => by cases h; rfl
  | _ :: _, _, h => by
    cases h with
    | cons _ b => exact congrArg (· + 1) b.len
/-- what is data stays data where a list changes -/
theorem tup_but {p : Addr} {o o' : HO} (h : H p = some o) (n : ∀ xs, o ≠ .tup xs) (a : Addr) (xs : List V) (e : H a = some (.tup xs)) : upd H p o' a = some (.tup xs) := by
  have d : a ≠ p := fun z => by
    rw [z, h] at e
    exact n xs (Option.some.inj e)
  rw [upd_ne d]
  exact e
theorem Hs.base {B B2 : Hp} {L : List (Addr × HO)} (e : Same B B2) (h : Hs B2 L H) : Hs B L H := ⟨e.trans h.same, h.nd, fun x hx => e.free (h.out x hx), h.at_⟩
end
section
variable {K : PySem.W.Frag} {σ : St} {H : Hp} {Q : VK} {te : TE} {ts : TA}
/-- [e for i in range(lo, hi)], each e data that is made anew -/
theorem w_lcI {vs : List Nat} {j : Nat} {lo hi : Int} (b1 : -(2 ^ 62) ≤ lo ∧ lo < 2 ^ 62 ∧ -(2 ^ 62) ≤ hi ∧ hi < 2 ^ 62) (hz : hi - lo ≤ 1000000) (ds : Nat → PyData) (hta : ∀ Q : List V → Hp → Prop, Q [.int lo, .int hi] H → ts σ H Q)
    (hw : ∀ v, wipe ((wipe σ vs).set j (some v)) vs = wipe σ vs)
    (he : ∀ (i : Nat) (H' : Hp) (Q' : VK), lo + (i : Int) < hi → Same H H' → (∀ y H3, Same H' H3 → Im K H3 y (ds i) → Q' y H3) → te ((wipe σ vs).set j (some (.int (lo + (i : Int))))) H' Q')
    (hq : ∀ D acc H', Hs H [(D, .lst acc)] H' → ImAll K H' acc ((List.range (hi - lo).toNat).map ds) → Q (.ref D) H') : tLc (iRng2 ts) (gName j) tYes te vs σ H Q := by
  refine w_lcR b1 (fun D i H' => ∃ acc, Hs H [(D, .lst acc)] H' ∧ ImAll K H' acc ((List.range i).map ds)) hta (fun D hD => ⟨[], (Hs.start H).new hD, .nil⟩) ?_ ?_
  · rintro D i H' hi' ⟨acc, h1, h2⟩
    refine ⟨hw _, ?_⟩
    refine w_yes (iteT ?_)
    refine he i H' _ hi' h1.same fun y H3 s3 hy => ?_
    have hD : H3 D = some (.lst acc) := s3 _ _ h1.g0
    have hl := h2.len
    rw [List.length_map, List.length_range] at hl
    refine ⟨acc, hD, szl (by omega), acc ++ [y], ?_, ?_⟩
    · have h3 : Hs H [(D, .lst acc)] H3 := ⟨h1.same.trans s3, h1.nd, h1.out, fun e he => s3 _ _ (h1.at_ e he)⟩
      exact h3.p0 _
    · rw [List.range_succ, List.map_append]
      exact ((h2.same s3).snoc hy).mono fun a xs => tup_but hD (fun _ z => by cases z) a xs
  · rintro D H' ⟨acc, h1, h2⟩
    exact hq D acc H' h1 h2
theorem w_lcI1 {vs : List Nat} {j : Nat} {hi : Int} (b1 : -(2 ^ 62) ≤ hi ∧ hi < 2 ^ 62) (hz : hi ≤ 1000000) (ds : Nat → PyData) (hta : ∀ Q : List V → Hp → Prop, Q [.int hi] H → ts σ H Q)
    (hw : ∀ v, wipe ((wipe σ vs).set j (some v)) vs = wipe σ vs)
    (he : ∀ (i : Nat) (H' : Hp) (Q' : VK), (i : Int) < hi → Same H H' → (∀ y H3, Same H' H3 → Im K H3 y (ds i) → Q' y H3) → te ((wipe σ vs).set j (some (.int (i : Int)))) H' Q')
    (hq : ∀ D acc H', Hs H [(D, .lst acc)] H' → ImAll K H' acc ((List.range hi.toNat).map ds) → Q (.ref D) H') : tLc (iRng1 ts) (gName j) tYes te vs σ H Q := by
  refine w_lcR1 b1 (fun D i H' => ∃ acc, Hs H [(D, .lst acc)] H' ∧ ImAll K H' acc ((List.range i).map ds)) hta (fun D hD => ⟨[], (Hs.start H).new hD, .nil⟩) ?_ ?_
  · rintro D i H' hi' ⟨acc, h1, h2⟩
    refine ⟨hw _, ?_⟩
    refine w_yes (iteT ?_)
    refine he i H' _ hi' h1.same fun y H3 s3 hy => ?_
    have hD : H3 D = some (.lst acc) := s3 _ _ h1.g0
    have hl := h2.len
    rw [List.length_map, List.length_range] at hl
    refine ⟨acc, hD, szl (by omega), acc ++ [y], ?_, ?_⟩
    · have h3 : Hs H [(D, .lst acc)] H3 := ⟨h1.same.trans s3, h1.nd, h1.out, fun e he => s3 _ _ (h1.at_ e he)⟩
      exact h3.p0 _
    · rw [List.range_succ, List.map_append]
      exact ((h2.same s3).snoc hy).mono fun a xs => tup_but hD (fun _ z => by cases z) a xs
  · rintro D H' ⟨acc, h1, h2⟩
    exact hq D acc H' h1 h2
theorem depth_all {n : Nat} : ∀ ds : List PyData, (∀ d ∈ ds, d.depth ≤ n) → PyData.depthAll ds ≤ n
  | [], _ => by simp [PyData.depthAll]
  | d :: ds, h => by
    have h1 := h d List.mem_cons_self
    have h2 := depth_all ds fun x hx => h x (List.mem_cons_of_mem _ hx)
    simp only [PyData.depthAll]
    omega
theorem lay_all : ∀ ds : List PyData, (∀ d ∈ ds, d.canLay0 = true) → PyData.canLayAll0 ds = true
  | [], _ => by simp [PyData.canLayAll0]
  | d :: ds, h => by
    have h1 := h d List.mem_cons_self
    have h2 := lay_all ds fun x hx => h x (List.mem_cons_of_mem _ hx)
    simp only [PyData.canLayAll0, h1, h2, Bool.and_self]
theorem shp_list {ds : List PyData} (h : ∀ d ∈ ds, d.canLay0 = true ∧ d.depth ≤ 60) : SeqAt.shaped (.list ds) = true := by
  have e := depth_all ds fun d hd => (h d hd).2
  have l := lay_all ds fun d hd => (h d hd).1
  unfold SeqAt.shaped PyData.canLay0 PyData.depth
  rw [l]
  simp only [Bool.true_and, decide_eq_true_eq]
  omega
/-- two lists of like data are equal -/
theorem w_eqL {p q : Addr} {xs ys : List V} {ds : List PyData} (hp : H p = some (.lst xs)) (hq : H q = some (.lst ys)) (h1 : ImAll K H xs ds) (h2 : ImAll K H ys ds) (h : ∀ d ∈ ds, d.canLay0 = true ∧ d.depth ≤ 60) (k : Q (.bl true) H) : rEqD K (.ref p) (.ref q) H Q :=
  ⟨_, _, .lst (SqL.of hp) h1.dp, .lst (SqL.of hq) h2.dp, shp_list h, shp_list h, by
    rw [SeqAt.eqv_refl _ (by have := shp_list h; unfold SeqAt.shaped at this; exact (Bool.and_eq_true_iff.mp this).1)]
    exact k⟩
theorem w_neL {p q : Addr} {xs ys : List V} {ds : List PyData} (hp : H p = some (.lst xs)) (hq : H q = some (.lst ys)) (h1 : ImAll K H xs ds) (h2 : ImAll K H ys ds) (h : ∀ d ∈ ds, d.canLay0 = true ∧ d.depth ≤ 60) (k : Q (.bl false) H) : rNeD K (.ref p) (.ref q) H Q :=
  ⟨_, _, .lst (SqL.of hp) h1.dp, .lst (SqL.of hq) h2.dp, shp_list h, shp_list h, by
    rw [SeqAt.eqv_refl _ (by have := shp_list h; unfold SeqAt.shaped at this; exact (Bool.and_eq_true_iff.mp this).1)]
    exact k⟩
theorem ima_str : ∀ xs : List Str, ImAll K H (xs.map V.str) (xs.map PyData.str)
  | [] => .nil
  | x :: xs => .cons (.str x) (ima_str xs)
end
end Hb

set_option Elab.async false
set_option maxRecDepth 100000
set_option maxHeartbeats 4000000
/-! Still more steps: truth of lists, texts in a tuple, slices of tuples, comprehensions over lists of tuples. -/
namespace Hb
open PySem L2
/-- the truth of a list -/
theorem w_truL {K : PySem.W.Frag} {H : Hp} {p : Addr} {xs : List V} {R : Bool → Prop} (h : SqL K H p xs) (q : R (!xs.isEmpty)) : ∃ k, TruV K (.ref p) H k ∧ R k := ⟨_, .inl ⟨xs, h, rfl⟩, q⟩
/-- a text in a new tuple of texts -/
theorem w_inT {K : PySem.W.Frag} {H : Hp} {Q : VK} {x : V} {p : Addr} {neg : Bool} {xs : List V} (h : SqT K H p xs) (hx : flatV x = true) (hf : xs.all flatV = true) (q : Q (.bl (if neg then !inV x xs else inV x xs)) H) : rIn K neg x (.ref p) H Q := ⟨p, xs, rfl, .inr h, hx, hf, q⟩
/-- a tuple's slice, not the whole -/
theorem w_slT0 {K : PySem.W.Frag} {B H : Hp} {L : List (Addr × HO)} {Q : VK} {p : Addr} {xs : List V} {lo hi : Option Int} (hs : Hs B L H) (h : SqT K H p xs) (hw : ¬ (HT.sIx xs.length 0 lo = 0 ∧ HT.sIx xs.length xs.length hi = xs.length)) (q : ∀ l H', Hs B ((l, .tup (cutV xs lo hi)) :: L) H' → Q (.ref l) H') : rSlT K (.ref p) lo hi H Q := by
  exact ⟨p, xs, rfl, h, hw, w_new hs q⟩
/-- what stands aside of our own objects becomes the ground -/
theorem Hs.rebase {B H : Hp} {L : List (Addr × HO)} (hs : Hs B L H) : Same B (around L H) ∧ Hs (around L H) L H := by
  have h := Hs.frame (R := []) L (by rw [List.append_nil]; exact hs)
  exact ⟨h.1, h.2.1⟩
theorem im_around {K : PySem.W.Frag} {H : Hp} {L : List (Addr × HO)} (nt : ∀ e ∈ L, ∀ xs, H e.1 ≠ some (.tup xs)) {vs : List V} {ds : List PyData} (h : ImAll K H vs ds) : ImAll K (around L H) vs ds :=
  h.mono fun a xs e => by
    rw [around_out fun m => ?_]
    · exact e
    · obtain ⟨z, hz, rfl⟩ := List.mem_map.mp m
      exact nt z hz xs e

theorem w_slT {K : PySem.W.Frag} {B H : Hp} {L : List (Addr × HO)} {Q : VK} {p : Addr} {xs : List V} {j : Int} (n : Nat) (e : j = (n : Int)) (hs : Hs B L H) (h : SqT K H p xs) (h0 : 0 < n) (h1 : n ≤ xs.length) (q : ∀ l H', Hs B ((l, .tup (xs.drop n)) :: L) H' → Q (.ref l) H') : rSlT K (.ref p) (some j) none H Q := by
  refine w_slT0 hs h ?_ fun l H' hs' => ?_
  · subst e
    rw [HT.sIx_nat]
    omega
  · rw [cut_from n e] at hs'
    exact q l H' hs'
section
variable {K : PySem.W.Frag} {σ : St} {H : Hp} {Q : VK} {te : TE} {g : TG}
/-- [e for .. in xs], xs a list of data, each e data that is made anew -/
theorem w_lcD {tl : TE} {a : Addr} {xs : List V} {vs : List Nat} (hx : SqL K H a xs) (hz : xs.length ≤ 1000000) (ds : List PyData) (hl : ds.length = xs.length) (htl : ∀ Q : VK, Q (.ref a) H → tl σ H Q)
    (he : ∀ (i : Nat) (x : V) (d : PyData) (H' : Hp) (Q' : VK), xs[i]? = some x → ds[i]? = some d → Same H H' → (∀ y H3, Same H' H3 → Im K H3 y d → Q' y H3) → g x (wipe σ vs) H' fun σ2 H2 => wipe σ2 vs = wipe σ vs ∧ te σ2 H2 Q')
    (hq : ∀ D acc H', Hs H [(D, .lst acc)] H' → ImAll K H' acc ds → Q (.ref D) H') (gm : ∀ x σ H R R', (∀ σ' H', R σ' H' → R' σ' H') → g x σ H R → g x σ H R') : tLc (iList K tl) g tYes te vs σ H Q := by
  refine w_lc hx (fun D i H' => ∃ acc, Hs H [(D, .lst acc)] H' ∧ ImAll K H' acc (ds.take i)) htl (fun D hD => ⟨[], (Hs.start H).new hD, by rw [List.take_zero]; exact .nil⟩) (fun D i H' _ ⟨_, h, _⟩ => h.same.seq hx) ?_ ?_
  · rintro D i x H' hi ⟨acc, h1, h2⟩
    have hin := (List.getElem?_eq_some_iff.mp hi).1
    have hd : ds[i]? = some ds[i] := List.getElem?_eq_getElem (by omega)
    refine gm _ _ _ _ _ (fun σ' H2 ⟨e1, e2⟩ => ⟨e1, w_yes (iteT e2)⟩) (he i x ds[i] H' _ hi hd h1.same fun y H3 s3 hy => ?_)
    have hD : H3 D = some (.lst acc) := s3 _ _ h1.g0
    have hl2 := h2.len
    rw [List.length_take] at hl2
    refine ⟨acc, hD, szl (by omega), acc ++ [y], ?_, ?_⟩
    · have h3 : Hs H [(D, .lst acc)] H3 := ⟨h1.same.trans s3, h1.nd, h1.out, fun e he => s3 _ _ (h1.at_ e he)⟩
      exact h3.p0 _
    · have e : ds.take (i + 1) = ds.take i ++ [ds[i]] := by
        rw [List.take_succ, hd]
        rfl
      rw [e]
      exact ((h2.same s3).snoc hy).mono fun a xs => tup_but hD (fun _ z => by cases z) a xs
  · rintro D H' ⟨acc, h1, h2⟩
    rw [← hl, List.take_length] at h2
    exact hq D acc H' h1 h2
theorem ImAll.get {H : Hp} : ∀ {xs : List V} {ds : List PyData} {i : Nat} {x : V} {d : PyData}, ImAll K H xs ds → xs[i]? = some x → ds[i]? = some d → Im K H x d
  | _ :: _, _ :: _, 0, x, d, .cons h _, e1, e2 => by
    cases e1
    cases e2
    exact h
  | _ :: _, _ :: _, i + 1, x, d, .cons _ h, e1, e2 => ImAll.get (i := i) h (by simpa using e1) (by simpa using e2)
theorem ImAll.app {H : Hp} : ∀ {xs ys : List V} {ds es : List PyData}, ImAll K H xs ds → ImAll K H ys es → ImAll K H (xs ++ ys) (ds ++ es)
  | [], _, _, _, .nil, h => h
  | _ :: _, _, _, _, .cons a b, h => .cons a (b.app h)
end
end Hb

set_option Elab.async false
set_option maxRecDepth 100000
set_option maxHeartbeats 4000000
/-! Dicts with a fixed row of text keys, as a law's plain models have them; tuples put together. -/
namespace Hb
open PySem L2
/-- a dict whose keys are a fixed row of texts -/
def zipK (ks : List Str) (vs : List V) : List (Key × V) := (ks.map Sum.inr).zip vs
theorem val_zip : ∀ {ks : List Str} {vs : List V} {i : Nat} {k : Str} {v : V}, ks.Nodup → ks[i]? = some k → vs[i]? = some v → valV (zipK ks vs) (Sum.inr k) = some v
  | k0 :: ks, v0 :: vs, 0, k, v, _, hk, hv => by
    cases hk
    cases hv
    show Option.map _ (List.find? _ ((Sum.inr k0, v0) :: zipK ks vs)) = _
    rw [List.find?_cons, decide_eq_true (rfl : (Sum.inr k0 : Key) = Sum.inr k0)]
    rfl
  | k0 :: ks, v0 :: vs, i + 1, k, v, nd, hk, hv => by
    have h1 := List.nodup_cons.mp nd
    have hk' : ks[i]? = some k := by simpa using hk
    have hv' : vs[i]? = some v := by simpa using hv
    have hne : ¬ (Sum.inr k0 : Key) = Sum.inr k := fun e => h1.1 (by cases e; exact List.mem_of_getElem? hk')
    show Option.map _ (List.find? _ ((Sum.inr k0, v0) :: zipK ks vs)) = _
    rw [List.find?_cons, decide_eq_false hne]
    exact val_zip h1.2 hk' hv'
theorem map_zip_out : ∀ {ks : List Str} {vs : List V} {k : Str} {v : V}, k ∉ ks → (zipK ks vs).map (fun kv => if kv.1 = (Sum.inr k : Key) then (kv.1, v) else kv) = zipK ks vs
  | [], _, _, _, _ => rfl
  | _ :: _, [], _, _, _ => rfl
  | k0 :: ks, v0 :: vs, k, v, h => by
    have hne : ¬ (Sum.inr k0 : Key) = Sum.inr k := fun e => h (by cases e; exact List.mem_cons_self)
    show (if (Sum.inr k0 : Key) = Sum.inr k then ((Sum.inr k0 : Key), v) else (Sum.inr k0, v0)) :: (zipK ks vs).map _ = _
    rw [if_neg hne, map_zip_out (fun m => h (List.mem_cons_of_mem _ m))]
    rfl
theorem map_zip : ∀ {ks : List Str} {vs : List V} {i : Nat} {k : Str} {v : V}, ks.Nodup → ks[i]? = some k → i < vs.length → (zipK ks vs).map (fun kv => if kv.1 = (Sum.inr k : Key) then (kv.1, v) else kv) = zipK ks (vs.set i v)
  | k0 :: ks, v0 :: vs, 0, k, v, nd, hk, _ => by
    cases hk
    have h1 := List.nodup_cons.mp nd
    show (if (Sum.inr k0 : Key) = Sum.inr k0 then ((Sum.inr k0 : Key), v) else (Sum.inr k0, v0)) :: (zipK ks vs).map _ = _
    rw [if_pos rfl, map_zip_out h1.1]
    rfl
  | k0 :: ks, v0 :: vs, i + 1, k, v, nd, hk, hl => by
    have h1 := List.nodup_cons.mp nd
    have hk' : ks[i]? = some k := by simpa using hk
    have hne : ¬ (Sum.inr k0 : Key) = Sum.inr k := fun e => h1.1 (by cases e; exact List.mem_of_getElem? hk')
    show (if (Sum.inr k0 : Key) = Sum.inr k then ((Sum.inr k0 : Key), v) else (Sum.inr k0, v0)) :: (zipK ks vs).map _ = _
    rw [if_neg hne, map_zip h1.2 hk' (Nat.lt_of_succ_lt_succ hl)]
    rfl
theorem any_of_val {kvs : List (Key × V)} {k : Key} {v : V} (h : valV kvs k = some v) : (kvs.any fun kv => decide (kv.1 = k)) = true := by
  unfold valV at h
  cases e : kvs.find? (fun kv => decide (kv.1 = k)) with
  | none =>
    rw [e] at h
    cases h
  | some z =>
    have h1 := List.find?_some e
    exact List.any_eq_true.mpr ⟨z, List.mem_of_find?_eq_some e, h1⟩
theorem put_zip {ks : List Str} {vs : List V} {i : Nat} {k : Str} {v u : V} (nd : ks.Nodup) (hk : ks[i]? = some k) (hv : vs[i]? = some u) : putK (zipK ks vs) (Sum.inr k) v = zipK ks (vs.set i v) := by
  unfold putK
  rw [if_pos (any_of_val (val_zip nd hk hv))]
  exact map_zip nd hk (List.getElem?_eq_some_iff.mp hv).1
/-! ### their steps -/
section
variable {σ : St} {H : Hp} {Q : VK} {D : Ends} {td ty tv : TE} {p : Addr} {B : Hp} {L L' : List (Addr × HO)} {ks : List Str} {vs us : List V} {i : Nat} {k : Str} {v u : V}
def RDget (x y : V) (H : Hp) (Q : VK) : Prop := ∃ a v, x = .ref a ∧ DGet H a y (some v) ∧ Q v H
theorem w_dget (q : td σ H fun x H1 => ty σ H1 fun y H2 => RDget x y H2 Q) : tDGet td ty σ H Q := q
theorem w_dgetZ (h : H p = some (.dK (zipK ks vs))) (nd : ks.Nodup) (hk : ks[i]? = some k) (hv : vs[i]? = some v) (q : Q v H) : RDget (.ref p) (.str k) H Q :=
  ⟨p, v, rfl, val_zip nd hk hv ▸ DGet.k (k := Sum.inr k) h, q⟩
theorem w_dgetI {kvs : List (Key × V)} {n : Int} (h : H p = some (.dK kvs)) (hv : valV kvs (Sum.inl n) = some v) (q : Q v H) : RDget (.ref p) (.int n) H Q :=
  ⟨p, v, rfl, hv ▸ DGet.k (k := Sum.inl n) h, q⟩
theorem w_dputZ {R : Hp → Prop} (hs : Hs B L H) (h : Put L p (.dK (zipK ks vs)) (.dK (zipK ks us)) L') (nd : ks.Nodup) (hk : ks[i]? = some k) (hv : vs[i]? = some u) (hu : vs.set i v = us) (hl : ks.length < 1000) (q : ∀ H', Hs B L' H' → R H') : RDput (.ref p) (.str k) v H R := by
  subst hu
  refine ⟨p, _, rfl, DPut.k (k := Sum.inr k) (hs.gets h) ?_, ?_⟩
  · refine szl ?_
    show ((ks.map Sum.inr).zip vs).length ≤ 1000000
    rw [List.length_zip, List.length_map]
    omega
  · rw [put_zip nd hk hv]
    exact q _ (hs.puts h)
/-- the same as a target among others -/
theorem w_gsub {tset : TSet} {R : St → Hp → Prop} (q : td σ H fun o H1 => ty σ H1 fun i H2 => tset o i v H2 fun H3 => R σ H3) : gSub td ty tset v σ H R := q
theorem w_setD {x y : V} {R : Hp → Prop} (q : RDput x y v H R) : rSetD x y v H R := q
end
section
variable {K : PySem.W.Frag}
theorem op_catTK {X : Cx} (hK : X.K = K := by rfl) : OpR X (binaryOp .Add) (rCatT K) := by
  subst hK
  exact op_catT
theorem w_catT {B H : Hp} {L : List (Addr × HO)} {Q : VK} {p r : Addr} {xs ys : List V} (hs : Hs B L H) (h1 : SqT K H p xs) (h2 : SqT K H r ys) (n1 : xs ≠ []) (n2 : ys ≠ []) (hl : xs.length + ys.length ≤ 1000) (q : ∀ l H', Hs B ((l, .tup (xs ++ ys)) :: L) H' → Q (.ref l) H') : rCatT K (.ref p) (.ref r) H Q :=
  ⟨p, r, xs, ys, rfl, rfl, h1, h2, n1, Nat.le_of_lt (szl (by omega)), fun e => absurd e n2, fun _ => w_new hs q⟩
end
section
variable {α : Type} {a b c d e f g h i v : α} {l : List α}
theorem v0 : (a :: l)[0]? = some a := rfl
theorem v1 : (a :: b :: l)[1]? = some b := rfl
theorem v2 : (a :: b :: c :: l)[2]? = some c := rfl
theorem v3 : (a :: b :: c :: d :: l)[3]? = some d := rfl
theorem v4 : (a :: b :: c :: d :: e :: l)[4]? = some e := rfl
theorem v5 : (a :: b :: c :: d :: e :: f :: l)[5]? = some f := rfl
theorem v6 : (a :: b :: c :: d :: e :: f :: g :: l)[6]? = some g := rfl
theorem v7 : (a :: b :: c :: d :: e :: f :: g :: h :: l)[7]? = some h := rfl
theorem v8 : (a :: b :: c :: d :: e :: f :: g :: h :: i :: l)[8]? = some i := rfl
theorem st0 : (a :: l).set 0 v = v :: l := rfl
theorem st1 : (a :: b :: l).set 1 v = a :: v :: l := rfl
theorem st2 : (a :: b :: c :: l).set 2 v = a :: b :: v :: l := rfl
theorem st3 : (a :: b :: c :: d :: l).set 3 v = a :: b :: c :: v :: l := rfl
theorem st4 : (a :: b :: c :: d :: e :: l).set 4 v = a :: b :: c :: d :: v :: l := rfl
theorem st5 : (a :: b :: c :: d :: e :: f :: l).set 5 v = a :: b :: c :: d :: e :: v :: l := rfl
theorem st6 : (a :: b :: c :: d :: e :: f :: g :: l).set 6 v = a :: b :: c :: d :: e :: f :: v :: l := rfl
theorem st7 : (a :: b :: c :: d :: e :: f :: g :: h :: l).set 7 v = a :: b :: c :: d :: e :: f :: g :: v :: l := rfl
theorem st8 : (a :: b :: c :: d :: e :: f :: g :: h :: i :: l).set 8 v = a :: b :: c :: d :: e :: f :: g :: h :: v :: l := rfl
end
/-! ### a dict that is written down -/
theorem merge_zip : ∀ {ks : List Str} {vs : List V} {acc : List (Key × V)}, ks.Nodup → (∀ k ∈ ks, ∀ kv ∈ acc, kv.1 ≠ (Sum.inr k : Key)) → mergeK acc (zipK ks vs) = acc ++ zipK ks vs
  | [], _, acc, _, _ => by
    show acc = acc ++ []
    rw [List.append_nil]
  | _ :: _, [], acc, _, _ => by
    show acc = acc ++ []
    rw [List.append_nil]
  | k :: ks, v :: vs, acc, nd, h => by
    have h1 := List.nodup_cons.mp nd
    have e : putK acc (Sum.inr k) v = acc ++ [(Sum.inr k, v)] := by
      unfold putK
      rw [if_neg]
      intro h2
      obtain ⟨z, hz, h3⟩ := List.any_eq_true.mp h2
      exact h k List.mem_cons_self z hz (of_decide_eq_true h3)
    show mergeK (putK acc (Sum.inr k) v) (zipK ks vs) = acc ++ ((Sum.inr k, v) :: zipK ks vs)
    rw [e, merge_zip h1.2 ?_, List.append_assoc]
    · rfl
    · intro k2 hk2 kv hkv
      rcases List.mem_append.mp hkv with m | m
      · exact h k2 (List.mem_cons_of_mem _ hk2) kv m
      · rw [List.mem_singleton.mp m]
        intro c
        cases c
        exact h1.1 hk2
section
variable {σ : St} {H : Hp} {Q : VK} {B : Hp} {L L' : List (Addr × HO)}
def NewP (trs : List (TE × TE)) (σ : St) (Q : VK) (H : Hp) : Prop := ∀ p, H p = none → tPairs trs σ (upd H p (.dK [])) fun ps H2 => H2 p = some (.dK []) ∧ ∃ kvs : List (Key × V), ps = kvs.map (fun kv => (kV kv.1, kv.2)) ∧ kvs.length ≤ 15 ∧ Q (.ref p) (upd H2 p (.dK (mergeK [] kvs)))
def DispP (p : Addr) (Q : VK) (ps : List (V × V)) (H2 : Hp) : Prop := H2 p = some (.dK []) ∧ ∃ kvs : List (Key × V), ps = kvs.map (fun kv => (kV kv.1, kv.2)) ∧ kvs.length ≤ 15 ∧ Q (.ref p) (upd H2 p (.dK (mergeK [] kvs)))
theorem w_disp {trs : List (TE × TE)} (q : NewP trs σ Q H) : tDisp trs σ H Q := q
theorem w_newP {trs : List (TE × TE)} (hs : Hs B L H) (q : ∀ p H', Hs B ((p, .dK []) :: L) H' → tPairs trs σ H' (DispP p Q)) : NewP trs σ Q H := fun p hp => q p _ (hs.new hp)
theorem w_pcons {tk tv : TE} {trs : List (TE × TE)} {R : List (V × V) → Hp → Prop} (q : tk σ H fun k H1 => tv σ H1 fun v H2 => tPairs trs σ H2 fun ps H3 => R ((k, v) :: ps) H3) : tPairs ((tk, tv) :: trs) σ H R := q
theorem w_pnil {R : List (V × V) → Hp → Prop} (q : R [] H) : tPairs [] σ H R := q
theorem w_dispZ {p : Addr} {ps : List (V × V)} (ks : List Str) (vs : List V) (hs : Hs B L H) (h : Put L p (.dK []) (.dK (zipK ks vs)) L') (nd : ks.Nodup) (hl : ks.length ≤ 15) (hp : ps = (zipK ks vs).map (fun kv => (kV kv.1, kv.2))) (q : ∀ H', Hs B L' H' → Q (.ref p) H') : DispP p Q ps H := by
  refine ⟨hs.gets h, zipK ks vs, hp, ?_, ?_⟩
  · unfold zipK
    rw [List.length_zip, List.length_map]
    omega
  · rw [merge_zip nd (fun _ _ _ z => absurd z List.not_mem_nil)]
    exact q _ (hs.puts h)
end
end Hb

set_option Elab.async false
set_option maxRecDepth 100000
set_option maxHeartbeats 4000000
/-! Dicts whose keys are tuples of any depth; sorted of such keys. -/
namespace Hb
open PySem L2
mutual
/-- the value v in the abstract heap is the key k -/
inductive NK (H : Hp) : NestedKey → V → Prop
  | non : NK H .none .non
  | int (i : Int) : NK H (.num i) (.int i)
  | str (x : Str) : NK H (.text x) (.str x)
  | tup {p : Addr} {vs : List V} {ks : List NestedKey} : H p = some (.tup vs) → NKs H ks vs → NK H (.tup ks) (.ref p)
inductive NKs (H : Hp) : List NestedKey → List V → Prop
  | nil : NKs H [] []
  | cons {k : NestedKey} {v : V} {ks : List NestedKey} {vs : List V} : NK H k v → NKs H ks vs → NKs H (k :: ks) (v :: vs)
end
mutual
theorem NK.mono {H H' : Hp} (e : ∀ p xs, H p = some (.tup xs) → H' p = some (.tup xs)) : ∀ {k : NestedKey} {v : V}, NK H k v → NK H' k v
  | _, _, .non => .non
  | _, _, .int i => .int i
  | _, _, .str x => .str x
  | _, _, .tup h hs => .tup (e _ _ h) (NKs.mono e hs)
theorem NKs.mono {H H' : Hp} (e : ∀ p xs, H p = some (.tup xs) → H' p = some (.tup xs)) : ∀ {ks : List NestedKey} {vs : List V}, NKs H ks vs → NKs H' ks vs
  | _, _, .nil => .nil
  | _, _, .cons h hs => .cons (NK.mono e h) (NKs.mono e hs)
end
theorem NK.same {H H' : Hp} (e : Same H H') {k : NestedKey} {v : V} (h : NK H k v) : NK H' k v := h.mono fun _ _ => e _ _
mutual
theorem NK.inj {H : Hp} : ∀ {k k' : NestedKey} {v : V}, NK H k v → NK H k' v → k = k'
  | _, _, _, .non, h => by cases h; rfl
  | _, _, _, .int i, h => by cases h; rfl
  | _, _, _, .str x, h => by cases h; rfl
  | _, _, _, .tup h1 h2, h => by
    cases h with
    | tup k1 k2 =>
      rw [h1] at k1
      cases k1
      rw [NKs.inj h2 k2]
theorem NKs.inj {H : Hp} : ∀ {ks ks' : List NestedKey} {vs : List V}, NKs H ks vs → NKs H ks' vs → ks = ks'
  | _, _, _, .nil, h => by cases h; rfl
  | _, _, _, .cons h1 h2, h => by
    cases h with
    | cons k1 k2 => rw [NK.inj h1 k1, NKs.inj h2 k2]
end
mutual
theorem NK.im {K : PySem.W.Frag} {H : Hp} : ∀ {k : NestedKey} {v : V}, NK H k v → Im K H v k.data
  | _, _, .non => .non
  | _, _, .int i => .int i
  | _, _, .str x => .str x
  | _, _, .tup h hs => .tup h (NKs.im hs)
theorem NKs.im {K : PySem.W.Frag} {H : Hp} : ∀ {ks : List NestedKey} {vs : List V}, NKs H ks vs → ImAll K H vs (NestedKey.datas ks)
  | _, _, .nil => .nil
  | _, _, .cons h hs => .cons (NK.im h) (NKs.im hs)
end
section
variable {P : Program} {w : World} {H : Hp} {h : Heap}
mutual
theorem NK.is (ok : HOk P w H h) : ∀ {k : NestedKey} {v : V} {u : Value}, NK H k v → RelV v u → NestedIs h k u
  | _, _, _, .non, r => by
    cases (show _ = Value.none from r)
    exact .none
  | _, _, _, .int i, r => by
    obtain ⟨t, rfl⟩ := r
    exact .int i t
  | _, _, _, .str x, r => by
    obtain ⟨t, rfl⟩ := r
    exact .text x t
  | _, _, _, .tup e hs, r => by
    cases (show _ = Value.ref _ from r)
    obtain ⟨_, its, r2, o, ho, hc, n, hd⟩ := ok _ _ e
    exact .tup ho hc hd (NKs.is ok hs r2)
theorem NKs.is (ok : HOk P w H h) : ∀ {ks : List NestedKey} {vs : List V} {us : List Value}, NKs H ks vs → Vals vs us → NestedAll h ks us
  | _, _, _, .nil, r => by cases r; exact .nil
  | _, _, _, .cons h1 h2, r => by
    cases r with
    | cons r1 r2 => exact .cons (NK.is ok h1 r1) (NKs.is ok h2 r2)
end
end
/-- a key, where its tuple stands, what it holds -/
abbrev Ent := NestedKey × Addr × V
def atN (es : List Ent) (k : NestedKey) : Option V := (es.find? fun e => decide (e.1 = k)).map (·.2.2)
def putN (es : List Ent) (k : NestedKey) (b : Addr) (v : V) : List Ent := if (atN es k).isSome then es.map (fun e => if e.1 = k then (e.1, e.2.1, v) else e) else es ++ [(k, b, v)]
def dropN (es : List Ent) (k : NestedKey) : List Ent := es.filter fun e => decide (e.1 ≠ k)
abbrev RelE (p : Ent) (q : NestedKey × Addr × Value) : Prop := p.1 = q.1 ∧ p.2.1 = q.2.1 ∧ RelV p.2.2 q.2.2
abbrev RelEs : List Ent → List (NestedKey × Addr × Value) → Prop := Paired RelE
def entN (w : World) (x : NestedKey × Addr × Value) : DictEntry := ⟨x.1.hash w, .ref x.2.1, x.2.2⟩
def DNx (w : World) (a : Addr) (es : List Ent) (h : Heap) : Prop := es.length ≤ sizeLine ∧ (a == sysModules) = false ∧ ∃ xs, RelEs es xs ∧ ∃ o ds ep, h.get? a = some o ∧ o.ExactDict ∧ o.data = .dict ds ep ∧ ds.toList = xs.map (entN w) ∧ (xs.map (·.1)).Nodup
/-- a dict with such keys -/
abbrev DN (w : World) (a : Addr) (es : List Ent) : HO := .ext (DNx w a es)
/-- its keys stand as they are told -/
def EntsOk (H : Hp) (es : List Ent) : Prop := ∀ e ∈ es, NK H e.1 (.ref e.2.1) ∧ e.1.depth ≤ 8
theorem EntsOk.mono {H H' : Hp} (e : ∀ p xs, H p = some (.tup xs) → H' p = some (.tup xs)) {es : List Ent} (h : EntsOk H es) : EntsOk H' es := fun x hx => ⟨(h x hx).1.mono e, (h x hx).2⟩
theorem EntsOk.same {H H' : Hp} (e : Same H H') {es : List Ent} (h : EntsOk H es) : EntsOk H' es := h.mono fun _ _ => e _ _
theorem EntsOk.nil {H : Hp} : EntsOk H [] := fun _ h => nomatch h
theorem EntsOk.drop {H : Hp} {es : List Ent} {k : NestedKey} (h : EntsOk H es) : EntsOk H (dropN es k) := fun e he => h e (List.mem_filter.mp he).1
theorem EntsOk.put {H : Hp} {es : List Ent} {k : NestedKey} {b : Addr} {v : V} (h : EntsOk H es) (hk : NK H k (.ref b)) (hd : k.depth ≤ 8) : EntsOk H (putN es k b v) := fun e he => by
  unfold putN at he
  split at he
  · obtain ⟨y, hy, rfl⟩ := List.mem_map.mp he
    by_cases hc : y.1 = k
    · rw [if_pos hc]
      exact h y hy
    · rw [if_neg hc]
      exact h y hy
  · rcases List.mem_append.mp he with m | m
    · exact h e m
    · rw [List.mem_singleton.mp m]
      exact ⟨hk, hd⟩
theorem RelEs.at {es : List Ent} {xs : List (NestedKey × Addr × Value)} (r : RelEs es xs) (k : NestedKey) : RelO (atN es k) ((atKey xs k).map (·.2)) := by
  induction r with
  | nil => exact trivial
  | @cons p q ps qs h _ ih =>
    obtain ⟨h1, h2, h3⟩ := h
    unfold atN atKey at ih ⊢
    rw [List.find?_cons, List.find?_cons, ← h1]
    by_cases hc : p.1 = k
    · rw [decide_eq_true hc]
      exact h3
    · rw [decide_eq_false hc]
      exact ih
theorem RelEs.keys {es : List Ent} {xs : List (NestedKey × Addr × Value)} (r : RelEs es xs) : xs.map (·.1) = es.map (·.1) := by
  induction r with
  | nil => rfl
  | cons h _ ih => rw [List.map_cons, List.map_cons, ih, h.1]
theorem RelEs.some {es : List Ent} {xs : List (NestedKey × Addr × Value)} (r : RelEs es xs) (k : NestedKey) : (atN es k).isSome = (atKey xs k).isSome := by
  have q := (r.at k).isSome_eq
  rw [Option.isSome_map] at q
  exact q
theorem relEs_map {k : NestedKey} {v : V} {u : Value} (hv : RelV v u) : ∀ {es : List Ent} {xs : List (NestedKey × Addr × Value)}, RelEs es xs → RelEs (es.map (fun e => if e.1 = k then (e.1, e.2.1, v) else e)) (xs.map (putAt k u))
  | _, _, .nil => .nil
  | p :: ps, q :: qs, .cons h t => by
    refine .cons ?_ (relEs_map hv t)
    show RelE (if p.1 = k then (p.1, p.2.1, v) else p) (if q.1 = k then (q.1, q.2.1, u) else q)
    rw [← h.1]
    by_cases hc : p.1 = k
    · rw [if_pos hc, if_pos hc]
      exact ⟨rfl, h.2.1, hv⟩
    · rw [if_neg hc, if_neg hc]
      exact h
theorem relEs_snoc {p : Ent} {q : NestedKey × Addr × Value} (h : RelE p q) : ∀ {es : List Ent} {xs : List (NestedKey × Addr × Value)}, RelEs es xs → RelEs (es ++ [p]) (xs ++ [q])
  | _, _, .nil => .cons h .nil
  | _, _, .cons r t => .cons r (relEs_snoc h t)
theorem RelEs.put {es : List Ent} {xs : List (NestedKey × Addr × Value)} (r : RelEs es xs) (k : NestedKey) (b : Addr) {v : V} {u : Value} (hv : RelV v u) : RelEs (putN es k b v) (storedH xs k b u) := by
  unfold putN storedH
  rw [r.some k]
  cases (atKey xs k).isSome with
  | true =>
    rw [if_pos rfl, if_pos rfl]
    exact relEs_map hv r
  | false =>
    rw [if_neg Bool.false_ne_true, if_neg Bool.false_ne_true]
    exact relEs_snoc ⟨rfl, rfl, hv⟩ r
theorem RelEs.drop {es : List Ent} {xs : List (NestedKey × Addr × Value)} (r : RelEs es xs) (k : NestedKey) : RelEs (dropN es k) (withoutH xs k) := by
  unfold dropN withoutH
  induction r with
  | nil => exact .nil
  | @cons p q ps qs h _ ih =>
    rw [List.filter_cons, List.filter_cons, ← h.1]
    by_cases hc : p.1 = k
    · have e : decide (p.1 ≠ k) = false := decide_eq_false (fun z => z hc)
      rw [e]
      exact ih
    · have e : decide (p.1 ≠ k) = true := decide_eq_true hc
      rw [e]
      exact .cons h ih
theorem RelEs.len {es : List Ent} {xs : List (NestedKey × Addr × Value)} (r : RelEs es xs) : es.length = xs.length := Paired.length r
theorem putN_len {es : List Ent} {k : NestedKey} {b : Addr} {v : V} : (putN es k b v).length ≤ es.length + 1 := by
  unfold putN
  split
  · rw [List.length_map]
    omega
  · rw [List.length_append, List.length_singleton]
    exact Nat.le_refl _
theorem dropN_len {es : List Ent} {k : NestedKey} : (dropN es k).length ≤ es.length := List.length_filter_le _ _
section
variable {P : Program} {w : World} {H : Hp} {h : Heap} {a : Addr} {es : List Ent}
theorem dn_of (ok : HOk P w H h) (e : H a = some (DN w a es)) (hk : EntsOk H es) : es.length ≤ sizeLine ∧ (a == sysModules) = false ∧ ∃ xs, RelEs es xs ∧ h.DictOfH (nestedKind P w) a xs := by
  obtain ⟨⟨z, y, xs, r, o, ds, ep, h1, h2, h3, h4, h5⟩, _, _⟩ := (show ObjOk P w H h a (DN w a es) from ok _ _ e)
  refine ⟨z, y, xs, r, o, ds, ep, h1, h2, h3, h4, ?_, h5⟩
  have all : ∀ {l : List Ent} {m : List (NestedKey × Addr × Value)}, EntsOk H l → RelEs l m → ∀ x ∈ m, (nestedKind P w).is h x.1 x.2.1 := by
    intro l m hl r
    induction r with
    | nil => exact fun _ hx => nomatch hx
    | @cons p q ps qs hpq _ ih =>
      intro x hx
      rcases List.mem_cons.mp hx with rfl | hx
      · obtain ⟨k1, k2⟩ := hl p List.mem_cons_self
        rw [← hpq.1, ← hpq.2.1]
        exact ⟨k1.is ok rfl, k2⟩
      · exact ih (fun e he => hl e (List.mem_cons_of_mem _ he)) x hx
  exact all hk r
theorem dn_obj {H' : Hp} {h' : Heap} {xs : List (NestedKey × Addr × Value)} (z : es.length ≤ sizeLine) (y : (a == sysModules) = false) (r : RelEs es xs) (dd : h'.DictOfH (nestedKind P w) a xs) : ObjOk P w H' h' a (DN w a es) := by
  obtain ⟨o, ds, ep, h1, h2, h3, h4, _, h5⟩ := dd
  refine ⟨⟨z, y, xs, r, o, ds, ep, h1, h2, h3, h4, h5⟩, ⟨o, h1⟩, fun g1 g2 ⟨z, y, xs, r, o, ds, ep, h1, h2⟩ hg => ⟨z, y, xs, r, o, ds, ep, hg _ h1, h2⟩⟩
theorem dn_empty (h : Heap) (hb : sysModules < h.objs.size) : ObjOk P w H (h.push { cls := .type "dict", data := .dict #[] }) h.objs.size (DN w h.objs.size []) :=
  dn_obj (Nat.zero_le _) (beq_eq_false_iff_ne.mpr (Ne.symm (Nat.ne_of_lt hb))) .nil (Heap.DictOfH.new h)
end
/-- the parts of what is asked of such a dict -/
structure AtN (w : World) (H : Hp) (x y : V) (a b : Addr) (es : List Ent) (k : NestedKey) : Prop where
  ex : x = .ref a
  ey : y = .ref b
  ha : H a = some (DN w a es)
  he : EntsOk H es
  hk : NK H k (.ref b)
  hd : k.depth ≤ 8
def rNGet (w : World) (x y : V) (H : Hp) (Q : VK) : Prop := ∃ a b es k v, AtN w H x y a b es k ∧ atN es k = some v ∧ Q v H
def rNIn (w : World) (x y : V) (H : Hp) (Q : Bool → Prop) : Prop := ∃ a b es k, AtN w H x y a b es k ∧ Q (atN es k).isSome
def rNPut (w : World) (x y v : V) (H : Hp) (Q : Hp → Prop) : Prop := ∃ a b es k, AtN w H x y a b es k ∧ es.length < sizeLine ∧ Q (upd H a (DN w a (putN es k b v)))
def rNDel (w : World) (x y : V) (H : Hp) (Q : V → Hp → Prop) : Prop := ∃ a b es k v, AtN w H x y a b es k ∧ atN es k = some v ∧ Q v (upd H a (DN w a (dropN es k)))
def tNGet (w : World) (td ty : TE) : TE := fun σ H Q => td σ H fun x H1 => ty σ H1 fun y H2 => rNGet w x y H2 Q
def tNIn (w : World) (ty td : TE) : TE := fun σ H Q => ty σ H fun y H1 => td σ H1 fun x H2 => rNIn w x y H2 fun b => Q (.bl b) H2
def tNNot (w : World) (ty td : TE) : TE := fun σ H Q => ty σ H fun y H1 => td σ H1 fun x H2 => rNIn w x y H2 fun b => Q (.bl (!b)) H2
def sNPut (w : World) (td ty tv : TE) : TS := fun D σ H => tv σ H fun v H1 => td σ H1 fun x H2 => ty σ H2 fun y H3 => rNPut w x y v H3 fun H4 => D.nx σ H4
def sNDel (w : World) (td ty : TE) : TS := fun D σ H => td σ H fun x H1 => ty σ H1 fun y H2 => rNDel w x y H2 fun _ H3 => D.nx σ H3
def tNNew (w : World) : TE := fun _ H Q => ∀ p, H p = none → Q (.ref p) (upd H p (DN w p []))
def tNPop (w : World) (td ty : TE) : TE := fun σ H Q => td σ H fun x H1 => (∃ a es, x = .ref a ∧ H1 a = some (DN w a es)) ∧ ty σ H1 fun y H2 => rNDel w x y H2 Q
section
variable {X : Cx} {w : World} {o i value : Expr} {pos pos' tpos : Pos} {td ty tv : TE}
theorem AtN.dn {H : Hp} {x y : V} {a b : Addr} {es : List Ent} {k : NestedKey} {pins : List (Addr × Obj)} {σ : St} {s : Shared} (I : Inv X pins σ H s) (hw : X.w = w) (g : AtN w H x y a b es k) : es.length ≤ sizeLine ∧ (a == sysModules) = false ∧ ∃ xs, RelEs es xs ∧ s.heap.DictOfH (nestedKind X.prog X.w) a xs ∧ (nestedKind X.prog X.w).is s.heap k b := by
  subst hw
  obtain ⟨z, hd, xs, r, dd⟩ := dn_of I.hok g.ha g.he
  exact ⟨z, hd, xs, r, dd, g.hk.is I.hok rfl, g.hd⟩
theorem n_room {A : Around} (hu : A.units + 64 < cLine) {P : Program} {w : World} : (nestedKind P w).room A.in1 := by
  show A.in1.units + 8 < cLine
  have e : A.in1.units = A.units + 1 := rfl
  omega
theorem pe_ndget (hu : X.A.units + 64 < cLine) (ho : PE X o td) (hi : PE X i ty) (hs : NoSl i) (hw : X.w = w := by rfl) : PE X (.Subscript o i pos) (tNGet w td ty) := by
  refine ⟨fun pins s σ H Q I h => ?_⟩
  refine subD_of PySem.F.slot_dict_getitem.lookup hs (thn (ho.run pins s σ H _ I h) fun u s1 ⟨x, H1, I1, rx, q1⟩ => thn (hi.run pins s1 σ H1 _ I1 q1) fun iv s2 ⟨y, H2, I2, ry, a, b, es, k, v, g, hv, q2⟩ => ?_)
  obtain ⟨z, hd, xs, r, dd, hk⟩ := g.dn I2 hw
  cases g.ex
  cases g.ey
  obtain rfl : u = Value.ref a := rx
  obtain rfl : iv = Value.ref b := ry
  obtain ⟨w', hw', rw'⟩ := RelO.some_of (v := v) (o := (atKey xs k).map (·.2)) (by rw [← hv]; exact r.at k)
  obtain ⟨p, hp, hp2⟩ := Option.map_eq_some_iff.mp hw'
  refine ⟨dd.typeIs, wpAny_getItem_heap (n_room hu) hk dd hp ?_⟩
  rw [hp2]
  exact ⟨v, H2, I2.tok _, rw', q2⟩
theorem pc_nin (hu : X.A.units + 64 < cLine) (hi : PE X i ty) (ho : PE X o td) (hw : X.w = w := by rfl) : PC X .In i o (tNIn w ty td) := by
  refine ⟨fun pins s σ H Q I h => ?_⟩
  refine thn (hi.run pins s σ H _ I h) fun iv s1 ⟨y, H1, I1, ry, q1⟩ => thn (ho.run pins s1 σ H1 _ I1 q1) fun u s2 ⟨x, H2, I2, rx, a, b, es, k, g, q2⟩ => ?_
  obtain ⟨z, hd, xs, r, dd, hk⟩ := g.dn I2 hw
  cases g.ex
  cases g.ey
  obtain rfl : u = Value.ref a := rx
  obtain rfl : iv = Value.ref b := ry
  refine wpAny_in_heap (n_room hu) hk hd dd ?_
  rw [← r.some k]
  exact ⟨.bl _, H2, I2.tok _, rfl, q2⟩
theorem pc_nnot (hu : X.A.units + 64 < cLine) (hi : PE X i ty) (ho : PE X o td) (hw : X.w = w := by rfl) : PC X .NotIn i o (tNNot w ty td) := by
  refine ⟨fun pins s σ H Q I h => ?_⟩
  refine thn (hi.run pins s σ H _ I h) fun iv s1 ⟨y, H1, I1, ry, q1⟩ => thn (ho.run pins s1 σ H1 _ I1 q1) fun u s2 ⟨x, H2, I2, rx, a, b, es, k, g, q2⟩ => ?_
  obtain ⟨z, hd, xs, r, dd, hk⟩ := g.dn I2 hw
  cases g.ex
  cases g.ey
  obtain rfl : u = Value.ref a := rx
  obtain rfl : iv = Value.ref b := ry
  refine PyProof.Rows.wpAny_notIn_heap (n_room hu) hk hd dd ?_
  rw [← r.some k]
  exact ⟨.bl _, H2, I2.tok _, rfl, q2⟩
theorem ps_nput (hu : X.A.units + 64 < cLine) (ho : PE X o td) (hi : PE X i ty) (hv : PE X value tv) (hs : swapsWith value (some (.Subscript o i pos')) pos.line X.env = pure false) (hw : X.w = w := by rfl) :
    PS X (.Assign [.Subscript o i pos'] value pos) (sNPut w td ty tv) := by
  refine ⟨fun pins s σ H D I h => ?_⟩
  refine wpAny_Assign_Subscript (thn (hv.run pins s σ H _ I h) fun r s1 ⟨v, H1, I1, rv, q1⟩ => thn (ho.run pins s1 σ H1 _ I1 q1) fun u s2 ⟨x, H2, I2, rx, q2⟩ => thn (hi.run pins s2 σ H2 _ I2 q2) fun iv s3 ⟨y, H3, I3, ry, a, b, es, k, g, hl, q3⟩ => ?_) hs
  obtain ⟨z, hd, xs, rr, dd, hk⟩ := g.dn I3 hw
  subst hw
  cases g.ex
  cases g.ey
  obtain rfl : u = Value.ref a := rx
  obtain rfl : iv = Value.ref b := ry
  have hz : xs.length ≤ sizeLine := by rw [← rr.len]; exact z
  have hl2 : (putN es k b v).length ≤ sizeLine := Nat.le_trans putN_len hl
  refine wpAny_setItem_heap (hsz := hz) (n_room hu) hk dd fun h' dd' hs => ⟨σ, _, ?_, q3⟩
  have he : ∃ q, h'.get? a = some q := let ⟨q, _, _, hq, _⟩ := dd'; ⟨q, hq⟩
  exact d_write I3 (by rw [g.ha]; exact True.intro) hs he (dn_obj hl2 hd (rr.put k b rv) dd')
theorem ps_ndel (hu : X.A.units + 64 < cLine) (ho : PE X o td) (hi : PE X i ty) (hw : X.w = w := by rfl) : PS X (.Delete [.Subscript o i tpos] pos) (sNDel w td ty) := by
  refine ⟨fun pins s σ H D I h => ?_⟩
  refine wpAny_Delete (wpAny_deleteEach_cons (wpAny_delete_Subscript (thn (ho.run pins s σ H _ I h) fun u s1 ⟨x, H1, I1, rx, q1⟩ => thn (hi.run pins s1 σ H1 _ I1 q1) fun iv s2 ⟨y, H2, I2, ry, a, b, es, k, v, g, hv, q2⟩ => ?_)))
  obtain ⟨z, hd, xs, rr, dd, hk⟩ := g.dn I2 hw
  subst hw
  cases g.ex
  cases g.ey
  obtain rfl : u = Value.ref a := rx
  obtain rfl : iv = Value.ref b := ry
  have hz : xs.length ≤ sizeLine := by rw [← rr.len]; exact z
  obtain ⟨w', hw', rw'⟩ := RelO.some_of (v := v) (o := (atKey xs k).map (·.2)) (by rw [← hv]; exact rr.at k)
  obtain ⟨p, hp, hp2⟩ := Option.map_eq_some_iff.mp hw'
  refine wpAny_delItem_heap (hsz := hz) (n_room hu) hk hd dd hp fun h' dd' hs => wpAny_deleteEach_nil ⟨σ, _, ?_, q2⟩
  have he : ∃ q, h'.get? a = some q := let ⟨q, _, _, hq, _⟩ := dd'; ⟨q, hq⟩
  exact d_write I2 (by rw [g.ha]; exact True.intro) hs he (dn_obj (Nat.le_trans dropN_len z) hd (rr.drop k) dd')
theorem dn_type {H : Hp} {a : Addr} {es : List Ent} {pins : List (Addr × Obj)} {σ : St} {s : Shared} (I : Inv X pins σ H s) (e : H a = some (DN w a es)) : s.TypeIs (.ref a) "dict" ∧ ∀ b, Value.ref a = .ref b → ∃ ob, s.heap.get? b = some ob ∧ ob.dict = none := by
  obtain ⟨⟨z, y, xs, r, o, ds, ep, h1, h2, h3, h4, h5⟩, _, _⟩ := (show ObjOk X.prog X.w H s.heap a (DN w a es) from I.hok _ _ e)
  exact ⟨⟨o, h1, h2.1⟩, fun b q => by
    cases q
    exact ⟨o, h1, h2.2.1⟩⟩
theorem pe_npop {e : Expr} {apos cpos : Pos} (hu : X.A.units + 64 < cLine) (ho : PE X o td) (he : PE X e ty) (m : M1 X o "pop" apos e cpos) (hw : X.w = w := by rfl) : PE X (.Call (.Attribute o "pop" apos) [e] [] cpos) (tNPop w td ty) := by
  refine ⟨fun pins s σ H Q I h => ?_⟩
  refine wpAny_Call_method m.base m.few m.line PySem.F.plainAttrs_dict PySem.F.slot_dict_pop PySem.F.type_dict_pop (thn (ho.run pins s σ H _ I h) fun u s1 ⟨x, H1, I1, rx, ⟨a0, es0, ex, ea⟩, q1⟩ => ?_)
  cases ex
  obtain rfl : u = Value.ref a0 := rx
  obtain ⟨t1, t2⟩ := dn_type I1 ea
  refine ⟨t1, t2, ?_⟩
  rw [m.trees]
  refine Calls.callWith_builtin rfl (Calls.evalArgs_plain (Calls.spliced_cons (thn (he.run pins s1 σ H1 _ I1 q1) fun iv s2 ⟨y, H2, I2, ry, a, b, es, k, v, g, hv, q2⟩ => Calls.spliced_nil ?_)))
  obtain ⟨z, hd, xs, rr, dd, hk⟩ := g.dn I2 hw
  subst hw
  cases g.ex
  cases g.ey
  obtain rfl : iv = Value.ref b := ry
  have hz : xs.length ≤ sizeLine := by rw [← rr.len]; exact z
  obtain ⟨w', hw', rw'⟩ := RelO.some_of (v := v) (o := (atKey xs k).map (·.2)) (by rw [← hv]; exact rr.at k)
  obtain ⟨p, hp, hp2⟩ := Option.map_eq_some_iff.mp hw'
  refine call_pop_heap (hsz := hz) (.inl rfl) (PySem.F.args_dict_pop_2 _ _) (n_room hu) hk hd dd hp fun h' dd' hs => ?_
  have he : ∃ q, h'.get? a0 = some q := let ⟨q, _, _, hq, _⟩ := dd'; ⟨q, hq⟩
  rw [hp2]
  exact ⟨v, _, d_write I2 (by rw [g.ha]; exact True.intro) hs he (dn_obj (Nat.le_trans dropN_len z) hd (rr.drop k) dd'), rw', q2⟩
theorem pe_nnew (hw : X.w = w := by rfl) : PE X (.Dict [] [] pos) (tNNew w) := ⟨fun pins s σ H Q I h => by
  subst hw
  exact wpAny_Dict_empty ⟨.ref s.heap.objs.size, _, I.laid (a := s.heap.objs.size) (o := DN X.w s.heap.objs.size []) (t' := s.toks) (fun _ _ q => Heap.get?_push_of_some _ q) (Nat.le_refl _) (dn_empty s.heap I.big), rfl, h _ (I.hok.fresh (Nat.le_refl _))⟩⟩
end
end Hb

set_option Elab.async false
set_option maxRecDepth 100000
set_option maxHeartbeats 4000000
/-! sorted(..) of tuples of ints and of tuples of ints. -/
namespace Hb
open PySem L2 PyProof.Rows
/-! ### the order of rows of ints -/
abbrev lexI (x y : List Int) : Bool := HT.lexLt x y
theorem lexI_cons {x y : Int} {xs ys : List Int} : lexI (x :: xs) (y :: ys) = if x = y then lexI xs ys else decide (x < y) := rfl
theorem lexI_self : ∀ x : List Int, lexI x x = false
  | [] => rfl
  | x :: xs => by rw [lexI_cons, if_pos rfl]; exact lexI_self xs
theorem lexI_asym : ∀ x y : List Int, lexI x y = true → lexI y x = false
  | [], [], h => nomatch h
  | [], _ :: _, _ => rfl
  | _ :: _, [], h => nomatch h
  | x :: xs, y :: ys, h => by
    rw [lexI_cons] at h ⊢
    by_cases e : x = y
    · rw [if_pos e] at h
      rw [if_pos e.symm]
      exact lexI_asym xs ys h
    · rw [if_neg e] at h
      rw [if_neg (fun q => e q.symm)]
      have := of_decide_eq_true h
      exact decide_eq_false (by omega)
theorem lexI_tr : ∀ x y z : List Int, lexI y x = false → lexI z y = false → lexI z x = false
  | [], [], _, _, h => h
  | [], _ :: _, _, h1, _ => by
    rename_i z _
    cases z with
    | nil => rfl
    | cons z zs => rfl
  | _ :: _, [], _, h1, _ => nomatch h1
  | x :: xs, y :: ys, [], h1, h2 => nomatch h2
  | x :: xs, y :: ys, z :: zs, h1, h2 => by
    rw [lexI_cons] at h1 h2 ⊢
    by_cases e1 : y = x
    · subst e1
      rw [if_pos rfl] at h1
      by_cases e2 : z = y
      · subst e2
        rw [if_pos rfl] at h2
        rw [if_pos rfl]
        exact lexI_tr xs ys zs h1 h2
      · rw [if_neg e2] at h2 ⊢
        exact h2
    · rw [if_neg e1] at h1
      have g1 := of_decide_eq_false h1
      by_cases e2 : z = y
      · subst e2
        rw [if_neg e1]
        exact h1
      · rw [if_neg e2] at h2
        have g2 := of_decide_eq_false h2
        rw [if_neg (by omega)]
        exact decide_eq_false (by omega)
theorem lexI_total : ∀ x y : List Int, lexI x y = false → lexI y x = false → x = y
  | [], [], _, _ => rfl
  | [], _ :: _, h, _ => nomatch h
  | _ :: _, [], _, h => nomatch h
  | x :: xs, y :: ys, h1, h2 => by
    rw [lexI_cons] at h1 h2
    by_cases e : x = y
    · subst e
      rw [if_pos rfl] at h1 h2
      rw [lexI_total xs ys h1 h2]
    · rw [if_neg e] at h1
      rw [if_neg (fun q => e q.symm)] at h2
      have g1 := of_decide_eq_false h1
      have g2 := of_decide_eq_false h2
      omega
theorem lexI_app : ∀ {x y r t : List Int}, x.length = y.length → lexI (x ++ r) (y ++ t) = if x = y then lexI r t else lexI x y
  | [], [], r, t, _ => by rw [if_pos rfl]; rfl
  | x :: xs, y :: ys, r, t, h => by
    have h' : xs.length = ys.length := by simpa using h
    show lexI (x :: (xs ++ r)) (y :: (ys ++ t)) = _
    rw [lexI_cons, lexI_cons]
    by_cases e : x = y
    · subst e
      rw [if_pos rfl, if_pos rfl, lexI_app h']
      by_cases e2 : xs = ys
      · rw [if_pos e2, if_pos (by rw [e2])]
      · rw [if_neg e2, if_neg (fun q => e2 (List.cons.inj q).2)]
    · rw [if_neg e, if_neg e, if_neg (fun q => e (List.cons.inj q).1)]
theorem swo_lexI {α : Type} (f : α → List Int) : SrtO.Swo fun x y => lexI (f x) (f y) := ⟨fun _ _ => lexI_asym _ _, fun _ _ _ => lexI_tr _ _ _⟩
/-! ### tuples of ints and of tuples of ints -/
abbrev Itm := Int ⊕ List Int
def flI : Itm → List Int
  | .inl i => [i]
  | .inr ns => ns
def flK (ks : List Itm) : List Int := ks.flatMap flI
def shp : Itm → Option Nat
  | .inl _ => none
  | .inr ns => some ns.length
def nkI : Itm → NestedKey
  | .inl i => .num i
  | .inr ns => .tup (ns.map .num)
def nkK (ks : List Itm) : NestedKey := .tup (ks.map nkI)
theorem shp_len {x y : Itm} (h : shp x = shp y) : (flI x).length = (flI y).length := by
  cases x with
  | inl i =>
    cases y with
    | inl j => rfl
    | inr ms => cases h
  | inr ns =>
    cases y with
    | inl j => cases h
    | inr ms => exact Option.some.inj h
theorem flI_inj {x y : Itm} (h : shp x = shp y) (e : flI x = flI y) : x = y := by
  cases x with
  | inl i =>
    cases y with
    | inl j => cases e; rfl
    | inr ms => cases h
  | inr ns =>
    cases y with
    | inl j => cases h
    | inr ms => cases e; rfl
theorem flK_inj : ∀ {xs ys : List Itm}, xs.map shp = ys.map shp → flK xs = flK ys → xs = ys
  | [], [], _, _ => rfl
  | [], _ :: _, h, _ => nomatch h
  | _ :: _, [], h, _ => nomatch h
  | x :: xs, y :: ys, h, e => by
    have h1 : shp x = shp y := (List.cons.inj h).1
    have e' : flI x ++ flK xs = flI y ++ flK ys := e
    have h2 := List.append_inj e' (shp_len h1)
    rw [flI_inj h1 h2.1, flK_inj (List.cons.inj h).2 h2.2]
theorem nums_inj : ∀ {a b : List Int}, a.map NestedKey.num = b.map NestedKey.num → a = b
  | [], [], _ => rfl
  | [], _ :: _, h => nomatch h
  | _ :: _, [], h => nomatch h
  | x :: xs, y :: ys, h => by
    have h1 := List.cons.inj h
    rw [NestedKey.num.inj h1.1, nums_inj h1.2]
theorem nkI_inj {x y : Itm} (h : nkI x = nkI y) : x = y := by
  cases x with
  | inl i =>
    cases y with
    | inl j => cases h; rfl
    | inr ms => cases h
  | inr ns =>
    cases y with
    | inl j => cases h
    | inr ms => rw [nums_inj (NestedKey.tup.inj h)]
section
variable {prog : Program} {w : World} {A : Around} {E : Value → Shared → Prop} {s : Shared}
theorem lt_any {f : Bool} {a b : Int} {t u : Tok} {Q : Bool → Shared → Prop} (h : Q (decide (a < b)) s) : wpAny (model prog w) A (oneLt' f (.int a t) (.int b u)) Q (fun _ _ => False) s := by
  cases f with
  | true => exact oneLt_int h
  | false => exact PySem.W.kat_one _ _ (lt_int h)
/-- an item of such a tuple -/
def ItIs (h : Heap) : Itm → Value → Prop
  | .inl i, v => ∃ t, v = .int i t
  | .inr ns, v => ∃ p items, v = .ref p ∧ IsTup h p items ∧ IntsAre items.toList ns
def K2Is (h : Heap) (ks : List Itm) (v : Value) : Prop := ∃ p o n vs, v = .ref p ∧ h.get? p = some o ∧ o.cls = .type "tuple" ∧ o.data = .seq vs n ∧ Paired (ItIs h) ks vs.toList
theorem ItIs.keeps {h h' : Heap} (k : ∀ b o, h.get? b = some o → o.cls = .type "tuple" → h'.get? b = some o) {x : Itm} {v : Value} (r : ItIs h x v) : ItIs h' x v := by
  cases x with
  | inl i => exact r
  | inr ns =>
    obtain ⟨p, items, e, ⟨o, ho, hc, n, hd⟩, hi⟩ := r
    exact ⟨p, items, e, ⟨o, k _ _ ho hc, hc, n, hd⟩, hi⟩
theorem K2Is.keeps {h h' : Heap} (k : ∀ b o, h.get? b = some o → o.cls = .type "tuple" → h'.get? b = some o) {ks : List Itm} {v : Value} (r : K2Is h ks v) : K2Is h' ks v := by
  obtain ⟨p, o, n, vs, e, ho, hc, hd, r⟩ := r
  exact ⟨p, o, n, vs, e, k _ _ ho hc, hc, hd, Paired.mapP r fun a b => ItIs.keeps k⟩
theorem ints_nested {h : Heap} : ∀ {vs : List Value} {ns : List Int}, IntsAre vs ns → NestedAll h (ns.map .num) vs
  | _, _, .nil => .nil
  | _, _, .cons i t r => .cons (.int i t) (ints_nested r)
theorem ItIs.nested {h : Heap} {x : Itm} {v : Value} (r : ItIs h x v) : NestedIs h (nkI x) v := by
  cases x with
  | inl i =>
    obtain ⟨t, rfl⟩ := r
    exact .int i t
  | inr ns =>
    obtain ⟨p, items, rfl, ⟨o, ho, hc, n, hd⟩, hi⟩ := r
    exact .tup ho hc hd (ints_nested hi)
theorem depth_nums : ∀ ns : List Int, NestedKey.depthAll (ns.map .num) ≤ 1
  | [] => by simp [NestedKey.depthAll]
  | n :: ns => by
    have := depth_nums ns
    simp only [List.map_cons, NestedKey.depthAll, NestedKey.depth]
    omega
theorem depth_nkI (x : Itm) : (nkI x).depth ≤ 2 := by
  cases x with
  | inl i => simp [nkI, NestedKey.depth]
  | inr ns =>
    have := depth_nums ns
    simp only [nkI, NestedKey.depth]
    omega
theorem k2_lex {b fin : Bool} {Q : Bool → Shared → Prop} (hu : A.units + 2 < cLine) : ∀ {xs ys : List Itm} {vs ws : List Value} {i : Nat}, Paired (ItIs s.heap) xs vs → Paired (ItIs s.heap) ys ws → xs.map shp = ys.map shp → (b = true → i = 0 → ∀ x ∈ xs.head?, shp x = none) → fin = false → Q (lexI (flK xs) (flK ys)) s →
    PySem.W.KatLex prog w A b fin Q (vs.zip ws) i s
  | _, _, _, _, i, .nil, .nil, _, _, hf, h => by
    subst hf
    exact PySem.W.kat_nil h
  | _, _, _, _, _, .nil, .cons _ _, hs, _, _, _ => nomatch hs
  | _, _, _, _, _, .cons _ _, .nil, hs, _, _, _ => nomatch hs
  | x :: xs, y :: ys, v :: vs, u :: us, i, .cons r rs, .cons q qs, hs, hb, hf, h => by
    have h1 : shp x = shp y := (List.cons.inj hs).1
    have h2 := (List.cons.inj hs).2
    have e : lexI (flK (x :: xs)) (flK (y :: ys)) = if flI x = flI y then lexI (flK xs) (flK ys) else lexI (flI x) (flI y) := lexI_app (shp_len h1)
    rw [e] at h
    refine PySem.W.kat_cons (eqAt_key (nkI x) (nkI y) A s v u r.nested q.nested (by have := depth_nkI x; omega) prog w _ _ ?_)
    rw [← NestedKey.decide_eq]
    refine PySem.W.kat_go (fun e1 => ?_) (fun e1 => ?_)
    · have e2 : x = y := nkI_inj (of_decide_eq_true e1)
      rw [if_pos (by rw [e2])] at h
      exact PySem.W.kat_yes (k2_lex hu rs qs h2 (fun _ z => nomatch z) hf h)
    · have e2 : ¬ flI x = flI y := fun z => of_decide_eq_false e1 (by rw [flI_inj h1 z])
      rw [if_neg e2] at h
      refine PySem.W.kat_no ?_
      cases x with
      | inl n =>
        cases y with
        | inr ms => cases h1
        | inl m =>
          obtain ⟨t, rfl⟩ := r
          obtain ⟨t', rfl⟩ := q
          have e3 : lexI (flI (.inl n)) (flI (.inl m)) = decide (n < m) := by
            show lexI [n] [m] = _
            rw [lexI_cons, if_neg (fun z => e2 (by rw [z]))]
          rw [e3] at h
          exact lt_any h
      | inr ns =>
        cases y with
        | inl m => cases h1
        | inr ms =>
          have hc : (b && i == 0) = false := by
            cases hb1 : b with
            | false => rfl
            | true =>
              cases hi : i == 0 with
              | false => rfl
              | true =>
                have := hb hb1 (by simpa using hi) (.inr ns) rfl
                cases this
          rw [hc]
          obtain ⟨p, its, rfl, ht, hi⟩ := r
          obtain ⟨p', its', rfl, ht', hi'⟩ := q
          exact PySem.W.kat_one _ _ (HT.lt_tupInts ht ht' hi hi' (by omega) h)
theorem paired_len {α β : Type} {R : α → β → Prop} {xs : List α} {ys : List β} (h : Paired R xs ys) : xs.length = ys.length := Paired.length h
/-- the first items -/
theorem firsts2 {h : Heap} {k : Value → List Itm} {c : Option Nat} {sh : List (Option Nat)} : ∀ {vs : List Value}, (∀ v ∈ vs, K2Is h (k v) v ∧ (k v).map shp = c :: sh) → ∃ fs : List Value, PySem.W.KatTups h vs fs ∧ fs.length = vs.length ∧ ∀ f ∈ fs, ∃ x, ItIs h x f ∧ shp x = c
  | [], _ => ⟨[], PySem.W.KatTups.nil, rfl, fun _ hm => by simp at hm⟩
  | v :: vs, hp => by
    obtain ⟨fs, h1, h2, h3⟩ := firsts2 (vs := vs) fun v' hm => hp v' (List.mem_cons_of_mem _ hm)
    obtain ⟨⟨p, o, n, ws, e, ho, hc, hd, r⟩, hsh⟩ := hp v (List.mem_cons_self ..)
    generalize k v = ks at r hsh
    match ks, hsh, hw : ws.toList, r with
    | x :: ks, hsh, u :: us, .cons r _ =>
      subst e
      refine ⟨u :: fs, PySem.W.KatTups.cons ho hc hd (by rw [← Array.getElem?_toList, hw]; rfl) h1, by rw [List.length_cons, List.length_cons, h2], fun f hm => ?_⟩
      rcases List.mem_cons.mp hm with rfl | hm
      · exact ⟨x, r, (List.cons.inj hsh).1⟩
      · exact h3 f hm
theorem k2_cmp {vs : List Value} {k : Value → List Itm} {b : Bool} {c : Option Nat} {sh : List (Option Nat)} (hu : A.units + 2 < cLine) (hb : b = true → c = none) (hp : ∀ v ∈ vs, K2Is s.heap (k v) v ∧ (k v).map shp = c :: sh) : SrtO.Cmp prog w A s (tuples' b) (fun p => p.1 ∈ vs) (SrtO.lt2 fun v u => lexI (flK (k v)) (flK (k u))) := by
  intro p q hm hm'
  obtain ⟨⟨a, o, n, ws, e, ho, hc, hd, r⟩, hs⟩ := hp _ hm
  obtain ⟨⟨a', o', n', ws', e', ho', hc', hd', r'⟩, hs'⟩ := hp _ hm'
  show wpAny (model prog w) A (keyLt' (tuples' b) p.1 q.1) (fun r s' => s' = s ∧ r = lexI (flK (k p.1)) (flK (k q.1))) (fun _ _ => False) s
  generalize k p.1 = ks at r hs ⊢
  generalize k q.1 = ks' at r' hs' ⊢
  rw [e, e']
  refine PySem.W.kat_lt ho hd ho' hd' ?_
  have l1 : ks.length = ws.size := by
    have := paired_len r
    simpa using this
  have l2 : ks'.length = ws'.size := by
    have := paired_len r'
    simpa using this
  have l3 : ks.length = ks'.length := by
    have := congrArg List.length (hs.trans hs'.symm)
    simpa using this
  refine k2_lex hu r r' (hs.trans hs'.symm) (fun h1 _ x hx => ?_) ?_ ⟨rfl, rfl⟩
  · match ks, hs, hx with
    | y :: ks, hs, hx =>
      cases hx
      rw [← hb h1]
      exact (List.cons.inj hs).1
  · exact decide_eq_false (by omega)
theorem k2_sortable {a : Addr} {vs : List Value} {k : Value → List Itm} {c : Option Nat} {sh : List (Option Nat)} (hu : A.units + 2 < cLine) (h0 : 0 < vs.length) (hp : ∀ v ∈ vs, K2Is s.heap (k v) v ∧ (k v).map shp = c :: sh) (ha : ∀ o, s.heap.get? a = some o → o.cls ≠ .type "tuple") : SrtO.SortableO prog w A s a vs fun v u => lexI (flK (k v)) (flK (k u)) := by
  intro h' keep
  have hp' : ∀ v ∈ vs, K2Is h' (k v) v ∧ (k v).map shp = c :: sh := fun v hm => ⟨(hp v hm).1.keeps fun b o e cc => keep b o (fun z => by subst z; exact ha o e cc) e, (hp v hm).2⟩
  obtain ⟨fs, h1, h2, h3⟩ := firsts2 hp'
  cases c with
  | none =>
    refine ⟨tuples' true, fun Q E hq => ?_, k2_cmp hu (fun _ => rfl) hp'⟩
    refine PySem.W.kat_kind (T := .type "int") h1 (by omega) (fun f hm => ?_) (by rfl) ?_
    · obtain ⟨x, r, e⟩ := h3 f hm
      cases x with
      | inr ns => cases e
      | inl i =>
        obtain ⟨t, rfl⟩ := r
        exact PySem.W.Looks.now
    · have e : (Value.type "int" != Value.type "tuple") = true := by first | decide +kernel | rfl | decide
      rw [e]
      exact hq
  | some n =>
    refine ⟨tuples' false, fun Q E hq => ?_, k2_cmp hu (fun z => nomatch z) hp'⟩
    refine PySem.W.kat_kind (T := .type "tuple") h1 (by omega) (fun f hm => ?_) (by rfl) ?_
    · obtain ⟨x, r, e⟩ := h3 f hm
      cases x with
      | inl i => cases e
      | inr ns =>
        obtain ⟨p, its, rfl, ⟨o, ho, hc, n, hd⟩, hi⟩ := r
        exact (PySem.W.Looks.ld ho).andThen (by rw [hc]; exact .now)
    · have e : (Value.type "tuple" != Value.type "tuple") = false := by first | decide +kernel | rfl | decide
      rw [e]
      exact hq
end
/-! ### as rules -/
theorem nums_ints {H : Hp} : ∀ {ns : List Int} {vs : List V} {us : List Value}, NKs H (ns.map .num) vs → Vals vs us → IntsAre us ns
  | [], _, _, .nil, r => by cases r; exact .nil
  | n :: ns, _, _, .cons h hs, r => by
    cases h
    cases r with
    | cons r1 r2 =>
      obtain ⟨t, rfl⟩ := r1
      exact .cons n t (nums_ints hs r2)
theorem NK.it {P : Program} {w : World} {H : Hp} {h : Heap} (ok : HOk P w H h) {x : Itm} {v : V} {u : Value} (hk : NK H (nkI x) v) (r : RelV v u) : ItIs h x u := by
  cases x with
  | inl i =>
    cases hk
    exact r
  | inr ns =>
    cases hk with
    | tup e hs =>
      cases (show u = Value.ref _ from r)
      obtain ⟨_, its, r2, ht⟩ := ok _ _ e
      exact ⟨_, _, rfl, ht, nums_ints hs r2⟩
theorem NKs.its {P : Program} {w : World} {H : Hp} {h : Heap} (ok : HOk P w H h) : ∀ {ks : List Itm} {vs : List V} {us : List Value}, NKs H (ks.map nkI) vs → Vals vs us → Paired (ItIs h) ks us
  | [], _, _, .nil, r => by cases r; exact .nil
  | k :: ks, _, _, .cons hk hs, r => by
    cases r with
    | cons r1 r2 => exact .cons (hk.it ok r1) (NKs.its ok hs r2)
theorem NK.k2 {P : Program} {w : World} {H : Hp} {h : Heap} (ok : HOk P w H h) {ks : List Itm} {b : Addr} (hk : NK H (nkK ks) (.ref b)) : K2Is h ks (.ref b) := by
  cases hk with
  | tup e hs =>
    obtain ⟨_, its, r2, o, ho, hc, n, hd⟩ := ok _ _ e
    exact ⟨b, o, n, _, rfl, ho, hc, hd, NKs.its ok hs r2⟩
theorem _root_.Hb.RelEs.addrs : ∀ {es : List Ent} {xs : List (NestedKey × Addr × Value)}, RelEs es xs → es.map (fun e => Value.ref e.2.1) = xs.map fun x => Value.ref x.2.1
  | _, _, .nil => rfl
  | _, _, .cons h t => by rw [List.map_cons, List.map_cons, RelEs.addrs t, h.2.1]
/-- by the ints of the keys -/
abbrev ltK (k : V → List Itm) (x y : V) : Bool := lexI (flK (k x)) (flK (k y))
theorem ltK_swo (k : V → List Itm) : SrtO.Swo (ltK k) := swo_lexI fun x => flK (k x)
/-- sorted(xs): xs a list of such tuples, all of one shape -/
def rSortN (K : PySem.W.Frag) (c : Option Nat) (sh : List (Option Nat)) : List V → Hp → VK → Prop := fun vs H Q => ∃ (a : Addr) (xs : List V) (k : V → List Itm), vs = [V.ref a] ∧ SqL K H a xs ∧ (∀ x ∈ xs, (∃ b, x = V.ref b) ∧ NK H (nkK (k x)) x ∧ (k x).map shp = c :: sh) ∧
  ∀ ys p, SrtO.Srtd (ltK k) ys → SrtO.Stb (ltK k) ys xs → H p = none → Q (.ref p) (upd H p (.lst ys))
/-- sorted(d) of a dict with such keys -/
def rSortDN (w : World) (c : Option Nat) (sh : List (Option Nat)) : List V → Hp → VK → Prop := fun vs H Q => ∃ (a : Addr) (es : List Ent) (k : V → List Itm), vs = [V.ref a] ∧ H a = some (DN w a es) ∧ (∀ e ∈ es, NK H (nkK (k (.ref e.2.1))) (.ref e.2.1) ∧ (k (.ref e.2.1)).map shp = c :: sh) ∧
  ∀ ys p, SrtO.Srtd (ltK k) ys → SrtO.Stb (ltK k) ys (es.map fun e => V.ref e.2.1) → H p = none → Q (.ref p) (upd H p (.lst ys))
section
variable {X : Cx} {c : Option Nat} {sh : List (Option Nat)} {K : PySem.W.Frag} {w : World}
theorem cr_sortN (hu : X.A.units + 64 < cLine) (hK : X.K = K := by rfl) : CallR X (.builtin "sorted") (rSortN K c sh) := by
  subst hK
  intro pins s σ H vs us Q I r h
  obtain ⟨a, xs, k, rfl, hs, hx, q⟩ := h
  obtain ⟨its, rv, hl, hz⟩ := I.list hs
  obtain ⟨u, rfl, ru⟩ := vals1 r
  obtain rfl : u = Value.ref a := ru
  obtain ⟨e1, e2⟩ := refs_back rv fun x m => (hx x m).1
  have hp : ∀ v ∈ its, K2Is s.heap (k (backV v)) v ∧ (k (backV v)).map shp = c :: sh := fun v hv => by
    obtain ⟨t, rfl⟩ := e2 v hv
    have hm : V.ref t ∈ xs := by
      rw [e1]
      exact List.mem_map.mpr ⟨_, hv, rfl⟩
    obtain ⟨_, h1, h2⟩ := hx _ hm
    exact ⟨NK.k2 I.hok h1, h2⟩
  have hu2 : X.A.in1.in1.units + 2 < cLine := by
    have e : X.A.in1.in1.units = X.A.units + 1 + 1 := rfl
    omega
  refine SrtO.sorted_ord (ltv := fun v u => lexI (flK (k (backV v))) (flK (k (backV u)))) (swo_lexI fun v => flK (k (backV v))) hl.isList (by rw [← rv.length]; exact hz) (fun h2 h₁ a ha kk => ?_) fun out h1 h2 => ?_
  · refine k2_sortable (s := { s with heap := h₁ }) hu2 (by omega) (fun v hm => ⟨(hp v hm).1.keeps fun b o e _ => (kk b o e).2, (hp v hm).2⟩) fun o e => ?_
    have e' : some o = some (seqObj "list" its.toArray 0) := e.symm.trans ha
    cases e'
    intro cc
    exact absurd (Value.type.inj cc) (by decide)
  · have h3 : ∀ u ∈ out, ∃ a, u = Value.ref a := fun u hu => e2 u (h2.perm.mem_iff.mp hu)
    obtain ⟨n, hn⟩ := sortedAll_at s.heap its out.toArray
    have hb : SrtO.Stb (ltK k) (out.map backV) xs := by
      rw [e1]
      exact SrtO.Stb.map (ltK_swo k) backV h2
    refine ⟨.ref (s.heap.objs.size + 1), upd H (s.heap.objs.size + 1) (.lst (out.map backV)), I.laid (t' := s.toks) (fun b o e => sortedAll_old e) (Nat.le_succ _) ⟨?_, out, n, vals_back h3, hn⟩, rfl, q _ _ (SrtO.srtd_map h1) hb (I.hok.fresh (Nat.le_succ _))⟩
    rw [hb.len]
    exact hz
theorem cr_sortDN (hc : X.calm = true) (hu : X.A.units + 64 < cLine) (hw : X.w = w := by rfl) : CallR X (.builtin "sorted") (rSortDN w c sh) := by
  subst hw
  intro pins s σ H vs us Q I r h
  obtain ⟨a, es, k, rfl, ha, hx, q⟩ := h
  obtain ⟨u, rfl, ru⟩ := vals1 r
  obtain rfl : u = Value.ref a := ru
  obtain ⟨⟨z, lo, xs, rel, o, ds, ep, h1, h2, h3, h4, h5⟩, _, _⟩ := (show ObjOk X.prog X.w H s.heap a (DN X.w a es) from I.hok _ _ ha)
  have hu2 : X.A.in1.in1.units + 2 < cLine := by
    have e : X.A.in1.in1.units = X.A.units + 1 + 1 := rfl
    omega
  have hsz : ds.size = es.length := by
    rw [← Array.length_toList, h4, List.length_map, rel.len]
  refine Calls.call_function_entry kind_sorted plain_sorted entry_sorted (args_sorted1 _) ?_
  unfold Builtin.«sorted»
  refine wpAny_bind (m := checkCount "sorted" 1 1 _) (wpAny_pure ?_)
  refine wpAny_bind (PySem.W.kdu_collect (A := X.A.in1) (kdl_raw lo h2 h3) (I.ok.hd hc) h1 (by rw [hsz]; exact z) fun h' tk acc hk hacc => ?_)
  have hal : acc.toList.length = es.length := by rw [Array.length_toList, hacc.1, hsz]
  have hac : acc.toList = es.map fun e => Value.ref e.2.1 := by
    refine List.ext_getElem? fun j => ?_
    rw [List.getElem?_map]
    cases e1 : acc.toList[j]? with
    | none =>
      have g1 := List.getElem?_eq_none_iff.mp e1
      rw [List.getElem?_eq_none (by omega)]
      rfl
    | some v =>
      obtain ⟨en, g1, g2⟩ := hacc.2 j v (by rw [← Array.getElem?_toList]; exact e1)
      rw [← Array.getElem?_toList, h4, List.getElem?_map] at g1
      obtain ⟨x, g3, g4⟩ := Option.map_eq_some_iff.mp g1
      have g5 : (es.map fun e => Value.ref e.2.1)[j]? = some (Value.ref x.2.1) := by
        have g6 : es.map (fun e => Value.ref e.2.1) = xs.map fun x => Value.ref x.2.1 := by
          exact rel.addrs
        rw [g6, List.getElem?_map, g3]
        rfl
      rw [List.getElem?_map] at g5
      rw [g5, g2, ← g4]
      rfl
  have I1 : Inv X pins σ H { s with heap := h', toks := tk } := I.kept hk
  have hp : ∀ v ∈ acc.toList, K2Is h' (k (backV v)) v ∧ (k (backV v)).map shp = c :: sh := fun v hv => by
    rw [hac] at hv
    obtain ⟨e, he, rfl⟩ := List.mem_map.mp hv
    obtain ⟨g1, g2⟩ := hx e he
    exact ⟨NK.k2 I1.hok g1, g2⟩
  refine wpAny_bind (wpAny_newList ?_ (by rw [hal]; exact z))
  have hoL : (h'.push (seqObj "list" acc.toList.toArray 0)).get? h'.objs.size = some (seqObj "list" acc.toList.toArray 0) := Heap.get?_push_size _ rfl
  show wpAny _ _ _ _ _ { s with heap := h'.push (seqObj "list" acc.toList.toArray 0), toks := tk }
  refine wpAny_bind (wpAny_holding (wpAny_call_entry slot_list_sort ⟨_, hoL, rfl⟩ entry_list_sort
    (SrtO.list_sort_ord (s := { s with heap := h'.push (seqObj "list" acc.toList.toArray 0), toks := tk }) (ltv := fun v u => lexI (flK (k (backV v))) (flK (k (backV u)))) (swo_lexI fun v => flK (k (backV v))) hoL (by rw [hal]; exact z) (fun g0 => ?_) fun out g1 g2 => ⟨_, rfl, ?_⟩) (args_list_sort _)))
  · refine k2_sortable (s := { s with heap := h'.push (seqObj "list" acc.toList.toArray 0), toks := tk }) hu2 (by omega) (fun v hm => ⟨(hp v hm).1.keeps fun b o e _ => Heap.get?_push_of_some _ e, (hp v hm).2⟩) fun o e => ?_
    have e' : some o = some (seqObj "list" acc.toList.toArray 0) := e.symm.trans hoL
    cases e'
    intro cc
    exact absurd (Value.type.inj cc) (by decide)
  · obtain ⟨e', he'⟩ := sortedHeap_at (vs := acc.toList) (out := out.toArray) hoL
    have g3 : ∀ u ∈ out, ∃ a, u = Value.ref a := fun u hu => by
      have hm := g2.perm.mem_iff.mp hu
      rw [hac] at hm
      obtain ⟨e, _, rfl⟩ := List.mem_map.mp hm
      exact ⟨_, rfl⟩
    have hb : SrtO.Stb (ltK k) (out.map backV) (es.map fun e => V.ref e.2.1) := by
      have hm := SrtO.Stb.map (ltK_swo k) backV g2
      rw [hac, List.map_map] at hm
      exact hm
    refine wpAny_pure ⟨_, rfl, .ref h'.objs.size, upd H h'.objs.size (.lst (out.map backV)), I1.laid (t' := tk) (fun b u e => ?_) (Nat.le_refl _)
      (show ObjOk X.prog X.w _ _ _ (.lst (out.map backV)) from ⟨?_, out, e', vals_back g3, he'⟩), rfl, q _ _ (SrtO.srtd_map g1) hb (I1.hok.fresh (Nat.le_refl _))⟩
    · have hlt : b < h'.objs.size := Heap.lt_size e
      rw [sortedHeap_old (Nat.ne_of_lt hlt) (by rw [size_push']; exact Nat.lt_succ_of_lt hlt)]
      exact Heap.get?_push_of_some _ e
    · rw [hb.len, List.length_map]
      exact z
end
/-! ### min and max of two tuples of ints -/
section
open PySem.SeqAt
open PySem.W (keyToksAll dataLt alike alikeAll dataLt_cons dataLt_int AlikeAll reads_keeps iter_tupleW cmpIn_lt cmpIn_gt moved_old)
theorem toks_ints : ∀ ns ms : List Int, PyProof.Rows.lexLt itemOrd (keyToksAll (ns.map .int)) (keyToksAll (ms.map .int)) = lexI ns ms
  | [], [] => lex_irrefl _
  | [], m :: ms => by
    show PyProof.Rows.lexLt itemOrd [.inl 0] (.inl 1 :: _) = true
    exact lex_diff (by decide)
  | n :: ns, [] => by
    show PyProof.Rows.lexLt itemOrd (.inl 1 :: _) [.inl 0] = false
    exact lex_diff (by decide)
  | n :: ns, m :: ms => by
    show PyProof.Rows.lexLt itemOrd (keyToksAll (.int n :: ns.map .int)) (keyToksAll (.int m :: ms.map .int)) = _
    rw [dataLt_cons (by rfl), lexI_cons, dataLt_int, toks_ints ns ms]
    have e : PyData.eqv (.int n) (.int m) = (n == m) := by simp only [PyData.eqv]
    rw [e]
    by_cases h : n = m
    · rw [if_pos h, if_pos (by rw [h]; exact beq_self_eq_true m)]
    · rw [if_neg h, if_neg (fun z => h (by simpa using z))]
theorem dataLt_ints (ns ms : List Int) : dataLt (.tuple (ns.map .int)) (.tuple (ms.map .int)) = lexI ns ms := toks_ints ns ms
theorem alike_ints : ∀ {ns ms : List Int}, ns.length = ms.length → alikeAll (ns.map .int) (ms.map .int) = true
  | [], [], _ => by simp [alikeAll]
  | n :: ns, m :: ms, h => by
    simp only [List.map_cons, alikeAll, alike, Bool.true_and]
    exact alike_ints (by simpa using h)
theorem depth_ints : ∀ ns : List Int, PyData.depthAll (ns.map .int) ≤ 1
  | [] => by simp [PyData.depthAll]
  | n :: ns => by
    have := depth_ints ns
    simp only [List.map_cons, PyData.depthAll, PyData.depth]
    omega
section
variable {prog : Program} {w : World} {A : Around} {E : Value → Shared → Prop} {s : Shared}
theorem alike2 {ns ms : List Int} (hl : ns.length = ms.length) : AlikeAll [PyData.tuple (ns.map .int), .tuple (ms.map .int)] := by
  have a : ∀ x y : List Int, x.length = y.length → alike (.tuple (x.map .int)) (.tuple (y.map .int)) = true := fun x y h => by
    simp only [alike]
    exact alike_ints h
  refine ⟨fun x hx y hy => ?_, fun x hx => ?_⟩
  · simp only [List.mem_cons, List.not_mem_nil, or_false] at hx hy
    rcases hx with rfl | rfl <;> rcases hy with rfl | rfl
    · exact a _ _ rfl
    · exact a _ _ hl
    · exact a _ _ hl.symm
    · exact a _ _ rfl
  · simp only [List.mem_cons, List.not_mem_nil, or_false] at hx
    rcases hx with rfl | rfl <;> exact fun z => nomatch z
theorem depth2 {ns ms : List Int} : PyData.depthAll [PyData.tuple (ns.map .int), .tuple (ms.map .int)] ≤ 2 := by
  have h1 := depth_ints ns
  have h2 := depth_ints ms
  simp only [PyData.depthAll, PyData.depth]
  omega
theorem min_two_tups {a b : Addr} {ns ms : List Int} {as bs : List Addr} {Q : Value → Shared → Prop} (hh : A.handled = none) (hu : A.units + 3 < cLine) (r1 : Reads s.heap (.ref a) (.tuple (ns.map .int)) as) (r2 : Reads s.heap (.ref b) (.tuple (ms.map .int)) bs) (hl : ns.length = ms.length)
    (h : ∀ h' tk, (∀ c o, s.heap.get? c = some o → h'.get? c = some o) → Q (.ref (if lexI ms ns = true then b else a)) { s with heap := h', toks := tk }) :
    wpAny (model prog w) A (call (.builtin "min") [.ref a, .ref b]) Q E s := by
  have hname : (toString "min" ++ toString ".loop" : String) = "min.loop" := by decide
  refine call_function_tree PySem.F.kind_min PySem.F.plain_min PySem.F.entry_min (PySem.F.args_min2 _ _) ?_
  show wpAny _ A.in1 (Builtin.Builtins.bindParams "min" ["key", "default"] 0 ⟨[], []⟩ >>= _) _ _ s
  refine wpAny_bind (wpAny_of_eq (show Builtin.Builtins.bindParams "min" ["key", "default"] 0 ⟨[], []⟩ = pure [none, none] from rfl) ?_)
  show wpAny _ A.in1 (newTuple [.ref a, .ref b] >>= _) _ _ s
  refine wpAny_bind (wpAny_newObj_type ?_)
  have k0 : ∀ c o, s.heap.get? c = some o → (s.heap.push { cls := .type "tuple", data := .seq #[Value.ref a, .ref b] }).get? c = some o := fun c o e => Heap.get?_push_of_some _ e
  have hT : (s.heap.push { cls := .type "tuple", data := .seq #[Value.ref a, .ref b] }).IsTuple s.heap.objs.size #[.ref a, .ref b] := ⟨_, Heap.get?_push_size _ rfl, rfl, 0, rfl⟩
  have hr : ReadsAll (s.heap.push { cls := .type "tuple", data := .seq #[Value.ref a, .ref b] }) (#[Value.ref a, .ref b] : Array Value).toList [PyData.tuple (ns.map .int), .tuple (ms.map .int)] (as ++ (bs ++ [])) := .cons (reads_keeps k0 r1) (.cons (reads_keeps k0 r2) .nil)
  refine wpAny_bind (iter_tupleW (A := A.in1) (s := { s with heap := s.heap.push { cls := .type "tuple", data := .seq #[Value.ref a, .ref b] } }) hh hT fun s₂ e W st hfp hw hk => ?_)
  refine wpAny_bind (wpAny_newObj_type ?_)
  have hSf : s₂.heap.objs.size ∉ [(s.heap.push { cls := .type "tuple", data := .seq #[Value.ref a, .ref b] }).objs.size, s.heap.objs.size] := fun hm => Nat.lt_irrefl _ (hfp _ hm)
  rw [hname]
  have hcm := cmpIn_lt (prog := prog) (w := w) (A := A.in1) (s := { s with heap := s.heap.push { cls := .type "tuple", data := .seq #[Value.ref a, .ref b] } }) hr (alike2 hl) (by
    have := depth2 (ns := ns) (ms := ms)
    show A.units + 1 + _ < cLine
    omega)
  refine wpAny_pure ⟨plainId_quiet PySem.F.plain_min_loop _, codeAny_min_loop_firstH W _ hw _ hcm s₂.heap.objs.size hSf (fresh_in hk) _ (Nat.succ_pos 1) (fun b o e => Heap.get?_push_of_some _ (hk b o e)) (W.frame 0 s₂ _ s₂.toks st (Nat.le_refl _) fun b _ o e => Heap.get?_push_of_some _ e) (Heap.get?_push_size _ rfl) fun v s' hP hm => ?_⟩
  have hm2 := Moved.drop_new (tk := s₂.toks) hm (Nat.le_refl _)
  obtain ⟨h', tk, rfl, hk'⟩ := moved_old e rfl hm2
  have e2 : v = .ref (if lexI ms ns = true then b else a) := by
    have e3 : argBest (fun i j => dataLt ([PyData.tuple (ns.map .int), .tuple (ms.map .int)].getD i .none) ([PyData.tuple (ns.map .int), .tuple (ms.map .int)].getD j .none)) 1 = if lexI ms ns = true then 1 else 0 := by
      show (if dataLt (.tuple (ms.map .int)) (.tuple (ns.map .int)) = true then 1 else 0) = _
      rw [dataLt_ints]
    have hP' : (#[Value.ref a, .ref b] : Array Value)[argBest (fun i j => dataLt ([PyData.tuple (ns.map .int), .tuple (ms.map .int)].getD i .none) ([PyData.tuple (ns.map .int), .tuple (ms.map .int)].getD j .none)) 1]? = some v := hP
    rw [e3] at hP'
    by_cases hc : lexI ms ns = true
    · rw [if_pos hc] at hP' ⊢
      exact (Option.some.inj hP').symm
    · rw [if_neg hc] at hP' ⊢
      exact (Option.some.inj hP').symm
  rw [e2]
  exact h h' tk fun c o ec => hk' c o (k0 c o ec)
theorem max_two_tups {a b : Addr} {ns ms : List Int} {as bs : List Addr} {Q : Value → Shared → Prop} (hh : A.handled = none) (hu : A.units + 3 < cLine) (r1 : Reads s.heap (.ref a) (.tuple (ns.map .int)) as) (r2 : Reads s.heap (.ref b) (.tuple (ms.map .int)) bs) (hl : ns.length = ms.length)
    (h : ∀ h' tk, (∀ c o, s.heap.get? c = some o → h'.get? c = some o) → Q (.ref (if lexI ns ms = true then b else a)) { s with heap := h', toks := tk }) :
    wpAny (model prog w) A (call (.builtin "max") [.ref a, .ref b]) Q E s := by
  have hname : (toString "max" ++ toString ".loop" : String) = "max.loop" := by decide
  refine call_function_tree PySem.F.kind_max PySem.F.plain_max PySem.F.entry_max (PySem.F.args_max2 _ _) ?_
  show wpAny _ A.in1 (Builtin.Builtins.bindParams "max" ["key", "default"] 0 ⟨[], []⟩ >>= _) _ _ s
  refine wpAny_bind (wpAny_of_eq (show Builtin.Builtins.bindParams "max" ["key", "default"] 0 ⟨[], []⟩ = pure [none, none] from rfl) ?_)
  show wpAny _ A.in1 (newTuple [.ref a, .ref b] >>= _) _ _ s
  refine wpAny_bind (wpAny_newObj_type ?_)
  have k0 : ∀ c o, s.heap.get? c = some o → (s.heap.push { cls := .type "tuple", data := .seq #[Value.ref a, .ref b] }).get? c = some o := fun c o e => Heap.get?_push_of_some _ e
  have hT : (s.heap.push { cls := .type "tuple", data := .seq #[Value.ref a, .ref b] }).IsTuple s.heap.objs.size #[.ref a, .ref b] := ⟨_, Heap.get?_push_size _ rfl, rfl, 0, rfl⟩
  have hr : ReadsAll (s.heap.push { cls := .type "tuple", data := .seq #[Value.ref a, .ref b] }) (#[Value.ref a, .ref b] : Array Value).toList [PyData.tuple (ns.map .int), .tuple (ms.map .int)] (as ++ (bs ++ [])) := .cons (reads_keeps k0 r1) (.cons (reads_keeps k0 r2) .nil)
  refine wpAny_bind (iter_tupleW (A := A.in1) (s := { s with heap := s.heap.push { cls := .type "tuple", data := .seq #[Value.ref a, .ref b] } }) hh hT fun s₂ e W st hfp hw hk => ?_)
  refine wpAny_bind (wpAny_newObj_type ?_)
  have hSf : s₂.heap.objs.size ∉ [(s.heap.push { cls := .type "tuple", data := .seq #[Value.ref a, .ref b] }).objs.size, s.heap.objs.size] := fun hm => Nat.lt_irrefl _ (hfp _ hm)
  rw [hname]
  have hcm := cmpIn_gt (prog := prog) (w := w) (A := A.in1) (s := { s with heap := s.heap.push { cls := .type "tuple", data := .seq #[Value.ref a, .ref b] } }) hr (alike2 hl) (by
    have := depth2 (ns := ns) (ms := ms)
    show A.units + 1 + _ < cLine
    omega)
  refine wpAny_pure ⟨plainId_quiet PySem.F.plain_max_loop _, codeAny_max_loop_firstH W _ hw _ hcm s₂.heap.objs.size hSf (fresh_in hk) _ (Nat.succ_pos 1) (fun b o e => Heap.get?_push_of_some _ (hk b o e)) (W.frame 0 s₂ _ s₂.toks st (Nat.le_refl _) fun b _ o e => Heap.get?_push_of_some _ e) (Heap.get?_push_size _ rfl) fun v s' hP hm => ?_⟩
  have hm2 := Moved.drop_new (tk := s₂.toks) hm (Nat.le_refl _)
  obtain ⟨h', tk, rfl, hk'⟩ := moved_old e rfl hm2
  have e2 : v = .ref (if lexI ns ms = true then b else a) := by
    have e3 : argBest (fun i j => dataLt ([PyData.tuple (ns.map .int), .tuple (ms.map .int)].getD j .none) ([PyData.tuple (ns.map .int), .tuple (ms.map .int)].getD i .none)) 1 = if lexI ns ms = true then 1 else 0 := by
      show (if dataLt (.tuple (ns.map .int)) (.tuple (ms.map .int)) = true then 1 else 0) = _
      rw [dataLt_ints]
    have hP' : (#[Value.ref a, .ref b] : Array Value)[argBest (fun i j => dataLt ([PyData.tuple (ns.map .int), .tuple (ms.map .int)].getD j .none) ([PyData.tuple (ns.map .int), .tuple (ms.map .int)].getD i .none)) 1]? = some v := hP
    rw [e3] at hP'
    by_cases hc : lexI ns ms = true
    · rw [if_pos hc] at hP' ⊢
      exact (Option.some.inj hP').symm
    · rw [if_neg hc] at hP' ⊢
      exact (Option.some.inj hP').symm
  rw [e2]
  exact h h' tk fun c o ec => hk' c o (k0 c o ec)
end
/-- min(t, u), max(t, u) of tuples of as many ints -/
def rMinT (mx : Bool) : List V → Hp → VK → Prop := fun vs H Q => ∃ (a b : Addr) (ns ms : List Int), vs = [.ref a, .ref b] ∧ H a = some (.tup (ns.map V.int)) ∧ H b = some (.tup (ms.map V.int)) ∧ ns.length = ms.length ∧ Q (.ref (if (if mx then lexI ns ms else lexI ms ns) = true then b else a)) H
/-- x in a tuple, data of any depth -/
def rInDT (K : PySem.W.Frag) (neg : Bool) : R2 := fun x y H Q => ∃ d ds, Dp K H x d ∧ Dp K H y (.tuple ds) ∧ SeqAt.shaped d = true ∧ SeqAt.shaped (.tuple ds) = true ∧ Q (.bl (if neg then !(ds.any fun z => PyData.eqv z d) else ds.any fun z => PyData.eqv z d)) H
def rInDL (K : PySem.W.Frag) (neg : Bool) : R2 := fun x y H Q => ∃ d ds, Dp K H x d ∧ Dp K H y (.list ds) ∧ SeqAt.shaped d = true ∧ SeqAt.shaped (.list ds) = true ∧ Q (.bl (if neg then !(ds.any fun z => PyData.eqv z d) else ds.any fun z => PyData.eqv z d)) H
section
variable {X : Cx} {K : PySem.W.Frag}
theorem im_ints {H : Hp} : ∀ ns : List Int, ImAll K H (ns.map V.int) (ns.map PyData.int)
  | [] => .nil
  | n :: ns => .cons (.int n) (im_ints ns)
theorem call_minT (hc : X.calm = true) (hu : X.A.units + 64 < cLine) : CallR X (.builtin "min") (rMinT false) := by
  intro pins s σ H vs us Q I r h
  obtain ⟨a, b, ns, ms, rfl, ha, hb, hl, q⟩ := h
  obtain ⟨u1, u2, rfl, r1, r2⟩ := vals2 r
  cases r1
  cases r2
  obtain ⟨as, g1⟩ := Dp.reads I (.tuple (ns.map .int)) _ _ (.tup (SqT.of ha) (im_ints ns).dp) rfl
  obtain ⟨bs, g2⟩ := Dp.reads I (.tuple (ms.map .int)) _ _ (.tup (SqT.of hb) (im_ints ms).dp) rfl
  exact min_two_tups (I.ok.hd hc) (by omega) g1 g2 hl fun h' tk k => ⟨.ref (if lexI ms ns = true then b else a), H, I.kept k, rfl, q⟩
theorem call_maxT (hc : X.calm = true) (hu : X.A.units + 64 < cLine) : CallR X (.builtin "max") (rMinT true) := by
  intro pins s σ H vs us Q I r h
  obtain ⟨a, b, ns, ms, rfl, ha, hb, hl, q⟩ := h
  obtain ⟨u1, u2, rfl, r1, r2⟩ := vals2 r
  cases r1
  cases r2
  obtain ⟨as, g1⟩ := Dp.reads I (.tuple (ns.map .int)) _ _ (.tup (SqT.of ha) (im_ints ns).dp) rfl
  obtain ⟨bs, g2⟩ := Dp.reads I (.tuple (ms.map .int)) _ _ (.tup (SqT.of hb) (im_ints ms).dp) rfl
  exact max_two_tups (I.ok.hd hc) (by omega) g1 g2 hl fun h' tk k => ⟨.ref (if lexI ns ms = true then b else a), H, I.kept k, rfl, q⟩
theorem op_inDT (hu : X.A.units + 65 < cLine) (hK : X.K = K := by rfl) : OpR X (compareOp .In) (rInDT K false) := by
  subst hK
  intro pins s σ H x y v u Q I rx ry h
  obtain ⟨d, ds, hd, he, sd, se, q⟩ := h
  obtain ⟨as, r1⟩ := Dp.reads I d x v hd rx
  obtain ⟨bs, r2⟩ := Dp.reads I (.tuple ds) y u he ry
  exact SeqAt.in_tuple_reads r2 r1 (SeqAt.canLay_of_shaped se) (SeqAt.canLay_of_shaped sd) (room_in_shaped sd hu) ⟨.bl _, H, I, rfl, q⟩
theorem op_inDL (hu : X.A.units + 65 < cLine) (hK : X.K = K := by rfl) : OpR X (compareOp .In) (rInDL K false) := by
  subst hK
  exact op_inD hu
theorem op_niDL (hu : X.A.units + 65 < cLine) (hK : X.K = K := by rfl) : OpR X (compareOp .NotIn) (rInDL K true) := by
  subst hK
  exact op_notInD hu
end
end
end Hb

set_option Elab.async false
set_option maxRecDepth 100000
set_option maxHeartbeats 4000000
/-! Links as keys: pairs of pairs of ints, their dicts, their sorted lists. -/
namespace Hb
open PySem L2
abbrev E2 := Int × Int
abbrev Lk := E2 × E2
def flL (l : Lk) : List Int := [l.1.1, l.1.2, l.2.1, l.2.2]
def itL (l : Lk) : List Itm := [.inr [l.1.1, l.1.2], .inr [l.2.1, l.2.2]]
def lkK (l : Lk) : NestedKey := nkK (itL l)
theorem flK_it (l : Lk) : flK (itL l) = flL l := rfl
theorem flL_inj {x y : Lk} (h : flL x = flL y) : x = y := by
  obtain ⟨⟨a, b⟩, c, d⟩ := x
  obtain ⟨⟨a', b'⟩, c', d'⟩ := y
  have h1 := List.cons.inj h
  have h2 := List.cons.inj h1.2
  have h3 := List.cons.inj h2.2
  have h4 := List.cons.inj h3.2
  simp only at h1 h2 h3 h4
  rw [h1.1, h2.1, h3.1, h4.1]
theorem lkK_inj {x y : Lk} (h : lkK x = lkK y) : x = y := by
  have h1 : (itL x).map nkI = (itL y).map nkI := NestedKey.tup.inj h
  have h2 := List.cons.inj h1
  have h3 := List.cons.inj h2.2
  have e1 := nkI_inj h2.1
  have e2 := nkI_inj h3.1
  refine flL_inj ?_
  have e3 : ([x.1.1, x.1.2] : List Int) = [y.1.1, y.1.2] := Sum.inr.inj e1
  have e4 : ([x.2.1, x.2.2] : List Int) = [y.2.1, y.2.2] := Sum.inr.inj e2
  show [x.1.1, x.1.2] ++ [x.2.1, x.2.2] = [y.1.1, y.1.2] ++ [y.2.1, y.2.2]
  rw [e3, e4]
theorem lkK_depth (l : Lk) : (lkK l).depth ≤ 8 := by
  simp [lkK, nkK, itL, nkI, NestedKey.depth, NestedKey.depthAll]
/-! ### sorted -/
def ltL (x y : Lk) : Bool := lexI (flL x) (flL y)
abbrev SortedL (l : List Lk) : Prop := l.Pairwise fun x y => ltL y x = false
def insL (x : Lk) : List Lk → List Lk
  | [] => [x]
  | y :: ys => if ltL y x then y :: insL x ys else x :: y :: ys
def srt : List Lk → List Lk
  | [] => []
  | x :: xs => insL x (srt xs)
theorem insL_perm (x : Lk) : ∀ ys : List Lk, (insL x ys).Perm (x :: ys)
  | [] => List.Perm.refl _
  | y :: ys => by
    unfold insL
    split
    · exact ((insL_perm x ys).cons y).trans (List.Perm.swap x y ys)
    · exact List.Perm.refl _
theorem srt_perm : ∀ ls : List Lk, (srt ls).Perm ls
  | [] => List.Perm.refl _
  | x :: xs => (insL_perm x (srt xs)).trans ((srt_perm xs).cons x)
theorem insL_sorted (x : Lk) : ∀ ys : List Lk, SortedL ys → SortedL (insL x ys)
  | [], _ => List.pairwise_singleton _ _
  | y :: ys, h => by
    have h1 := List.pairwise_cons.mp h
    unfold insL
    by_cases hc : ltL y x = true
    · rw [if_pos hc]
      refine List.pairwise_cons.mpr ⟨fun z hz => ?_, insL_sorted x ys h1.2⟩
      rcases List.mem_cons.mp ((insL_perm x ys).mem_iff.mp hz) with rfl | hz
      · exact lexI_asym _ _ hc
      · exact h1.1 z hz
    · rw [if_neg hc]
      have hc' : ltL y x = false := by
        cases q : ltL y x with
        | true => exact absurd q hc
        | false => rfl
      refine List.pairwise_cons.mpr ⟨fun z hz => ?_, h⟩
      rcases List.mem_cons.mp hz with rfl | hz
      · exact hc'
      · exact lexI_tr _ _ _ hc' (h1.1 z hz)
theorem srt_sorted : ∀ ls : List Lk, SortedL (srt ls)
  | [] => List.Pairwise.nil
  | x :: xs => insL_sorted x _ (srt_sorted xs)
theorem sorted_uniq : ∀ {l m : List Lk}, l.Perm m → SortedL l → SortedL m → l = m
  | [], m, p, _, _ => (List.Perm.eq_nil p.symm).symm
  | x :: l, [], p, _, _ => absurd p.length_eq (by simp)
  | x :: l, y :: m, p, hl, hm => by
    have h1 := List.pairwise_cons.mp hl
    have h2 := List.pairwise_cons.mp hm
    have e : x = y := by
      rcases List.mem_cons.mp (p.mem_iff.mp List.mem_cons_self) with e | hx
      · exact e
      · rcases List.mem_cons.mp (p.mem_iff.mpr List.mem_cons_self) with e | hy
        · exact e.symm
        · exact flL_inj (lexI_total _ _ (h2.1 x hx) (h1.1 y hy))
    subst e
    rw [sorted_uniq p.cons_inv h1.2 h2.2]
theorem srt_uniq {l ls : List Lk} (p : l.Perm ls) (h : SortedL l) : l = srt ls := sorted_uniq (p.trans (srt_perm ls).symm) h (srt_sorted ls)
theorem srt_filter (p : Lk → Bool) (ls : List Lk) : (srt ls).filter p = srt (ls.filter p) := srt_uniq ((srt_perm ls).filter p) ((srt_sorted ls).filter p)
theorem mem_srt {ls : List Lk} {l : Lk} : l ∈ srt ls ↔ l ∈ ls := (srt_perm ls).mem_iff
/-! ### where they stand -/
theorem nk_link {H : Hp} {l : Lk} {a : Addr} (h : NK H (lkK l) (.ref a)) : ∃ p q, H a = some (.tup [.ref p, .ref q]) ∧ H p = some (.tup [.int l.1.1, .int l.1.2]) ∧ H q = some (.tup [.int l.2.1, .int l.2.2]) := by
  have end_ : ∀ {x y : Int} {v : V}, NK H (nkI (.inr [x, y])) v → ∃ p, v = .ref p ∧ H p = some (.tup [.int x, .int y]) := by
    intro x y v h
    cases h with
    | tup e hs =>
      cases hs with
      | cons h1 h2 =>
        cases h2 with
        | cons h2 h3 =>
          cases h3
          cases h1
          cases h2
          exact ⟨_, rfl, e⟩
  cases h with
  | tup e hs =>
    cases hs with
    | cons h1 h2 =>
      cases h2 with
      | cons h2 h3 =>
        cases h3
        obtain ⟨p, rfl, hp⟩ := end_ h1
        obtain ⟨q, rfl, hq⟩ := end_ h2
        exact ⟨p, q, e, hp, hq⟩
theorem nk_end {H : Hp} {p : Addr} {x y : Int} (h : H p = some (.tup [.int x, .int y])) : NK H (nkI (.inr [x, y])) (.ref p) := .tup h (.cons (.int x) (.cons (.int y) .nil))
theorem nk_mk {H : Hp} {l : Lk} {a p q : Addr} (h : H a = some (.tup [.ref p, .ref q])) (hp : H p = some (.tup [.int l.1.1, .int l.1.2])) (hq : H q = some (.tup [.int l.2.1, .int l.2.2])) : NK H (lkK l) (.ref a) := .tup h (.cons (nk_end hp) (.cons (nk_end hq) .nil))
/-- a list of links -/
abbrev LkL (H : Hp) (vs : List V) (ls : List Lk) : Prop := Paired (fun v l => ∃ a, v = V.ref a ∧ NK H (lkK l) (.ref a)) vs ls
theorem LkL.mono {H H' : Hp} (e : ∀ p xs, H p = some (.tup xs) → H' p = some (.tup xs)) {vs : List V} {ls : List Lk} (h : LkL H vs ls) : LkL H' vs ls := Paired.mapP h fun _ _ ⟨a, e1, e2⟩ => ⟨a, e1, e2.mono e⟩
theorem LkL.same {H H' : Hp} (e : Same H H') {vs : List V} {ls : List Lk} (h : LkL H vs ls) : LkL H' vs ls := h.mono fun _ _ => e _ _
theorem LkL.len {H : Hp} {vs : List V} {ls : List Lk} (h : LkL H vs ls) : vs.length = ls.length := Paired.length h
theorem LkL.get {H : Hp} : ∀ {vs : List V} {ls : List Lk} {i : Nat} {v : V}, LkL H vs ls → vs[i]? = some v → ∃ a l, v = .ref a ∧ ls[i]? = some l ∧ NK H (lkK l) (.ref a)
  | _ :: _, l :: _, 0, _, .cons ⟨a, e1, e2⟩ _, e => by
    cases e
    exact ⟨a, l, e1, rfl, e2⟩
  | _ :: _, _ :: _, i + 1, _, .cons _ t, e => LkL.get (i := i) t (by simpa using e)
theorem LkL.app {H : Hp} : ∀ {vs us : List V} {ls ms : List Lk}, LkL H vs ls → LkL H us ms → LkL H (vs ++ us) (ls ++ ms)
  | _, _, _, _, .nil, h => h
  | _, _, _, _, .cons h t, h2 => .cons h (LkL.app t h2)
theorem LkL.snoc {H : Hp} {vs : List V} {ls : List Lk} {a : Addr} {l : Lk} (h : LkL H vs ls) (hk : NK H (lkK l) (.ref a)) : LkL H (vs ++ [.ref a]) (ls ++ [l]) := h.app (.cons ⟨a, rfl, hk⟩ .nil)
theorem LkL.ima {K : PySem.W.Frag} {H : Hp} : ∀ {vs : List V} {ls : List Lk}, LkL H vs ls → ImAll K H vs (ls.map fun l => (lkK l).data)
  | _, _, .nil => .nil
  | _, _, .cons ⟨a, e1, e2⟩ t => by
    subst e1
    exact .cons e2.im (LkL.ima t)
theorem paired_perm {α β : Type} {R : α → β → Prop} : ∀ {xs ys : List α}, ys.Perm xs → ∀ {ls : List β}, Paired R xs ls → ∃ ms, ms.Perm ls ∧ Paired R ys ms := by
  intro xs ys p
  induction p with
  | nil => exact fun h => ⟨_, List.Perm.refl _, h⟩
  | cons x _ ih =>
    intro ls h
    cases h with
    | cons h1 h2 =>
      obtain ⟨ms, p1, p2⟩ := ih h2
      exact ⟨_, p1.cons _, .cons h1 p2⟩
  | swap x y l =>
    intro ls h
    cases h with
    | cons h1 h2 =>
      cases h2 with
      | cons h2 h3 => exact ⟨_, List.Perm.swap _ _ _, .cons h2 (.cons h1 h3)⟩
  | trans _ _ ih1 ih2 =>
    intro ls h
    obtain ⟨ms, p1, p2⟩ := ih2 h
    obtain ⟨ns, p3, p4⟩ := ih1 p2
    exact ⟨ns, p3.trans p1, p4⟩
/-- the items of what stands there -/
noncomputable def itK (H : Hp) (v : V) : List Itm := Classical.epsilon fun ks => NK H (nkK ks) v
theorem nkK_inj {x y : List Itm} (h : nkK x = nkK y) : x = y := by
  have h1 : x.map nkI = y.map nkI := NestedKey.tup.inj h
  clear h
  induction x generalizing y with
  | nil =>
    cases y with
    | nil => rfl
    | cons _ _ => cases h1
  | cons a x ih =>
    cases y with
    | nil => cases h1
    | cons b y =>
      have h2 := List.cons.inj h1
      rw [nkI_inj h2.1, ih h2.2]
theorem itK_eq {H : Hp} {ks : List Itm} {v : V} (h : NK H (nkK ks) v) : itK H v = ks := by
  have h2 : NK H (nkK (itK H v)) v := Classical.epsilon_spec (p := fun ks => NK H (nkK ks) v) ⟨ks, h⟩
  exact nkK_inj (h2.inj h)
theorem srtd_links {H : Hp} : ∀ {ys : List V} {ls : List Lk}, LkL H ys ls → SrtO.Srtd (ltK (itK H)) ys → SortedL ls
  | _, _, .nil, _ => List.Pairwise.nil
  | _, _, .cons (a := v) (b := l) ⟨a, e1, e2⟩ t, h => by
    have h1 := List.pairwise_cons.mp h
    refine List.pairwise_cons.mpr ⟨fun m hm => ?_, srtd_links t h1.2⟩
    have key : ∀ {vs : List V} {ms : List Lk}, LkL H vs ms → (∀ u ∈ vs, ltK (itK H) u v = false) → ∀ m ∈ ms, ltL m l = false := by
      intro vs ms hL
      induction hL with
      | nil => exact fun _ m hm => nomatch hm
      | cons hx _ ih =>
        obtain ⟨b, g1, g2⟩ := hx
        intro hu m hm
        rcases List.mem_cons.mp hm with rfl | hm
        · have := hu _ List.mem_cons_self
          unfold ltK at this
          rw [g1, e1, itK_eq (ks := itL m) g2, itK_eq (ks := itL l) e2, flK_it, flK_it] at this
          exact this
        · exact ih (fun u hu' => hu u (List.mem_cons_of_mem _ hu')) m hm
    exact key t h1.1 m hm
/-- data of links can be compared -/
theorem lk_data (l : Lk) : (lkK l).data = .tuple [.tuple [.int l.1.1, .int l.1.2], .tuple [.int l.2.1, .int l.2.2]] := by simp [lkK, nkK, itL, nkI, NestedKey.data, NestedKey.datas]
theorem lk_ok {ls : List Lk} : ∀ d ∈ ls.map (fun l => (lkK l).data), d.canLay0 = true ∧ d.depth ≤ 60 := fun d hd => by
  obtain ⟨l, _, rfl⟩ := List.mem_map.mp hd
  rw [lk_data]
  constructor
  · simp [PyData.canLay0, PyData.canLayAll0]
  · simp [PyData.depth, PyData.depthAll]
theorem eqv_end {x y : E2} : PyData.eqv (.tuple [.int x.1, .int x.2]) (.tuple [.int y.1, .int y.2]) = decide (x = y) := by
  have e : PyData.eqv (.tuple [.int x.1, .int x.2]) (.tuple [.int y.1, .int y.2]) = ((x.1 == y.1) && ((x.2 == y.2) && true)) := by simp only [PyData.eqv, PyData.eqvAll]
  rw [e, Bool.and_true]
  by_cases h : x = y
  · rw [decide_eq_true h, h]
    simp
  · rw [decide_eq_false h]
    cases q : (x.1 == y.1) && (x.2 == y.2) with
    | false => rfl
    | true =>
      rw [Bool.and_eq_true] at q
      exact absurd (Prod.ext (by simpa using q.1) (by simpa using q.2)) h
theorem eqv_link {x y : Lk} : PyData.eqv (lkK x).data (lkK y).data = decide (x = y) := by
  rw [lk_data, lk_data]
  have e : PyData.eqv (.tuple [.tuple [.int x.1.1, .int x.1.2], .tuple [.int x.2.1, .int x.2.2]]) (.tuple [.tuple [.int y.1.1, .int y.1.2], .tuple [.int y.2.1, .int y.2.2]]) = (PyData.eqv (.tuple [.int x.1.1, .int x.1.2]) (.tuple [.int y.1.1, .int y.1.2]) && (PyData.eqv (.tuple [.int x.2.1, .int x.2.2]) (.tuple [.int y.2.1, .int y.2.2]) && true)) := by simp only [PyData.eqv, PyData.eqvAll]
  rw [e, eqv_end, eqv_end, Bool.and_true]
  by_cases h : x = y
  · rw [decide_eq_true h, h]
    simp
  · rw [decide_eq_false h]
    cases q : decide (x.1 = y.1) && decide (x.2 = y.2) with
    | false => rfl
    | true =>
      rw [Bool.and_eq_true, decide_eq_true_eq, decide_eq_true_eq] at q
      exact absurd (Prod.ext q.1 q.2) h
/-! ### dicts by links -/
abbrev Mp := List (Lk × Int)
/-- the entries at B's tuples are M's -/
abbrev EntM (B : Hp) (es : List Ent) (M : Mp) : Prop := Paired (fun e x => e.1 = lkK x.1 ∧ e.2.2 = V.int x.2 ∧ NK B (lkK x.1) (.ref e.2.1)) es M
def keysM (M : Mp) : List Lk := M.map (·.1)
def valM (M : Mp) (l : Lk) : Option Int := (M.find? fun x => decide (x.1 = l)).map (·.2)
def dropM (M : Mp) (ls : List Lk) : Mp := M.filter fun x => decide (x.1 ∉ ls)
def putM (M : Mp) (l : Lk) (n : Int) : Mp := if (valM M l).isSome then M.map (fun x => if x.1 = l then (x.1, n) else x) else M ++ [(l, n)]
def has (e : E2) (l : Lk) : Bool := decide (l.1 = e) || decide (l.2 = e)
def atM (M : Mp) (e : E2) : List Lk := (srt (keysM M)).filter (has e)
theorem EntM.mono {B B' : Hp} (e : ∀ p xs, B p = some (.tup xs) → B' p = some (.tup xs)) {es : List Ent} {M : Mp} (h : EntM B es M) : EntM B' es M := Paired.mapP h fun _ _ ⟨h1, h2, h3⟩ => ⟨h1, h2, h3.mono e⟩
theorem EntM.same {B B' : Hp} (e : Same B B') {es : List Ent} {M : Mp} (h : EntM B es M) : EntM B' es M := h.mono fun _ _ => e _ _
theorem EntM.ok {B : Hp} {es : List Ent} {M : Mp} (h : EntM B es M) : EntsOk B es := by
  induction h with
  | nil => exact EntsOk.nil
  | cons h _ ih =>
    intro e he
    rcases List.mem_cons.mp he with rfl | he
    · rw [h.1]
      exact ⟨h.2.2, lkK_depth _⟩
    · exact ih e he
theorem EntM.len {B : Hp} {es : List Ent} {M : Mp} (h : EntM B es M) : es.length = M.length := Paired.length h
theorem EntM.at {B : Hp} {es : List Ent} {M : Mp} (h : EntM B es M) (l : Lk) : atN es (lkK l) = (valM M l).map V.int := by
  induction h with
  | nil => rfl
  | @cons e x es xs h _ ih =>
    unfold atN valM at ih ⊢
    rw [List.find?_cons, List.find?_cons, h.1]
    by_cases hc : x.1 = l
    · rw [decide_eq_true hc, decide_eq_true (by rw [hc])]
      show some e.2.2 = some (V.int x.2)
      rw [h.2.1]
    · rw [decide_eq_false hc, decide_eq_false (fun z => hc (lkK_inj z))]
      exact ih
theorem entM_map {B : Hp} {l : Lk} {n : Int} : ∀ {es : List Ent} {M : Mp}, EntM B es M → EntM B (es.map fun e => if e.1 = lkK l then (e.1, e.2.1, V.int n) else e) (M.map fun x => if x.1 = l then (x.1, n) else x)
  | _, _, .nil => .nil
  | e :: es, x :: xs, .cons h t => by
    refine .cons ?_ (entM_map t)
    by_cases hc : x.1 = l
    · have hc2 : e.1 = lkK l := by rw [h.1, hc]
      simp only [if_pos hc2, if_pos hc]
      exact ⟨h.1, trivial, h.2.2⟩
    · have hc2 : ¬ e.1 = lkK l := fun z => hc (lkK_inj (h.1.symm.trans z))
      simp only [if_neg hc2, if_neg hc]
      exact h
theorem paired_app {α β : Type} {R : α → β → Prop} : ∀ {xs us : List α} {ys ws : List β}, Paired R xs ys → Paired R us ws → Paired R (xs ++ us) (ys ++ ws)
  | _, _, _, _, .nil, h => h
  | _, _, _, _, .cons h t, h2 => .cons h (paired_app t h2)
theorem EntM.put {B : Hp} {es : List Ent} {M : Mp} (h : EntM B es M) {l : Lk} {b : Addr} (n : Int) (hk : NK B (lkK l) (.ref b)) : EntM B (putN es (lkK l) b (.int n)) (putM M l n) := by
  unfold putN putM
  rw [h.at l, Option.isSome_map]
  by_cases hc : (valM M l).isSome = true
  · rw [if_pos hc, if_pos hc]
    exact entM_map h
  · rw [if_neg hc, if_neg hc]
    exact paired_app h (.cons ⟨rfl, rfl, hk⟩ .nil)
theorem EntM.drop {B : Hp} {l : Lk} : ∀ {es : List Ent} {M : Mp}, EntM B es M → EntM B (dropN es (lkK l)) (dropM M [l])
  | _, _, .nil => .nil
  | e :: es, x :: xs, .cons h t => by
    unfold dropN dropM
    rw [List.filter_cons, List.filter_cons]
    by_cases hc : x.1 = l
    · have e1 : decide (e.1 ≠ lkK l) = false := decide_eq_false (fun z => z (by rw [h.1, hc]))
      have e2 : decide (x.1 ∉ [l]) = false := decide_eq_false (fun z => z (by rw [hc]; exact List.mem_cons_self))
      rw [e1, e2]
      exact EntM.drop t
    · have e1 : decide (e.1 ≠ lkK l) = true := decide_eq_true (fun z => hc (lkK_inj (h.1.symm.trans z)))
      have e2 : decide (x.1 ∉ [l]) = true := decide_eq_true (fun z => hc (List.mem_singleton.mp z))
      rw [e1, e2]
      exact .cons h (EntM.drop t)
theorem EntM.lkl {B : Hp} : ∀ {es : List Ent} {M : Mp}, EntM B es M → LkL B (es.map fun e => V.ref e.2.1) (keysM M)
  | _, _, .nil => .nil
  | _, _, .cons h t => .cons ⟨_, rfl, h.2.2⟩ (EntM.lkl t)
/-! ### their steps -/
section
variable {w : World} {σ : St} {H B : Hp} {Q : VK} {D : Ends} {td ty tv : TE} {L L' : List (Addr × HO)} {es : List Ent} {M : Mp} {l : Lk} {d b : Addr} {n : Int}
theorem w_nget (q : td σ H fun x H1 => ty σ H1 fun y H2 => rNGet w x y H2 Q) : tNGet w td ty σ H Q := q
theorem w_nin (q : ty σ H fun y H1 => td σ H1 fun x H2 => rNIn w x y H2 fun b => Q (.bl b) H2) : tNIn w ty td σ H Q := q
theorem w_nnot (q : ty σ H fun y H1 => td σ H1 fun x H2 => rNIn w x y H2 fun b => Q (.bl (!b)) H2) : tNNot w ty td σ H Q := q
theorem w_nput (q : tv σ H fun v H1 => td σ H1 fun x H2 => ty σ H2 fun y H3 => rNPut w x y v H3 fun H4 => D.nx σ H4) : sNPut w td ty tv D σ H := q
theorem w_ndel (q : td σ H fun x H1 => ty σ H1 fun y H2 => rNDel w x y H2 fun _ H3 => D.nx σ H3) : sNDel w td ty D σ H := q
theorem w_npop (q : td σ H fun x H1 => (∃ a es, x = .ref a ∧ H1 a = some (DN w a es)) ∧ ty σ H1 fun y H2 => rNDel w x y H2 Q) : tNPop w td ty σ H Q := q
theorem w_nnew (hs : Hs B L H) (q : ∀ p H', Hs B ((p, DN w p []) :: L) H' → Q (.ref p) H') : tNNew w σ H Q := fun p hp => q p _ (hs.new hp)
theorem atN_of (h : H d = some (DN w d es)) (e : EntM H es M) (hk : NK H (lkK l) (.ref b)) : AtN w H (.ref d) (.ref b) d b es (lkK l) := ⟨rfl, rfl, h, e.ok, hk, lkK_depth l⟩
theorem wn_get (hs : Hs B L H) (h : H d = some (DN w d es)) (e : EntM B es M) (hk : NK B (lkK l) (.ref b)) (hv : valM M l = some n) (q : Q (.int n) H) : rNGet w (.ref d) (.ref b) H Q :=
  ⟨d, b, es, lkK l, .int n, atN_of h (e.same hs.same) (hk.same hs.same), by rw [e.at l, hv]; rfl, q⟩
theorem wn_in {R : Bool → Prop} (hs : Hs B L H) (h : H d = some (DN w d es)) (e : EntM B es M) (hk : NK B (lkK l) (.ref b)) (q : R (valM M l).isSome) : rNIn w (.ref d) (.ref b) H R :=
  ⟨d, b, es, lkK l, atN_of h (e.same hs.same) (hk.same hs.same), by rw [e.at l, Option.isSome_map]; exact q⟩
theorem wn_put {R : Hp → Prop} (hs : Hs B L H) (h : Put L d (DN w d es) (DN w d (putN es (lkK l) b (.int n))) L') (e : EntM B es M) (hk : NK B (lkK l) (.ref b)) (hl : M.length ≤ 1000) (q : ∀ H', Hs B L' H' → EntM B (putN es (lkK l) b (.int n)) (putM M l n) → R H') : rNPut w (.ref d) (.ref b) (.int n) H R :=
  ⟨d, b, es, lkK l, atN_of (hs.gets h) (e.same hs.same) (hk.same hs.same), by rw [e.len, sizeLine_eq]; omega, q _ (hs.puts h) (e.put n hk)⟩
theorem wn_del {R : V → Hp → Prop} (hs : Hs B L H) (h : Put L d (DN w d es) (DN w d (dropN es (lkK l))) L') (e : EntM B es M) (hk : NK B (lkK l) (.ref b)) (hv : valM M l = some n) (q : ∀ H', Hs B L' H' → EntM B (dropN es (lkK l)) (dropM M [l]) → R (.int n) H') : rNDel w (.ref d) (.ref b) H R :=
  ⟨d, b, es, lkK l, .int n, atN_of (hs.gets h) (e.same hs.same) (hk.same hs.same), by rw [e.at l, hv]; rfl, q _ (hs.puts h) e.drop⟩
theorem w_sortD (hs : Hs B L H) (h : H d = some (DN w d es)) (e : EntM B es M) (q : ∀ p ys H', LkL B ys (srt (keysM M)) → Hs B ((p, .lst ys) :: L) H' → Q (.ref p) H') : rSortDN w (some 2) [some 2] [.ref d] H Q := by
  have eH := e.same hs.same
  refine ⟨d, es, itK H, rfl, h, fun z hz => ?_, fun ys p h1 h2 hp => ?_⟩
  · have key : ∀ {es : List Ent} {M : Mp}, EntM H es M → ∀ z ∈ es, ∃ l, NK H (lkK l) (.ref z.2.1) := by
      intro es M e
      induction e with
      | nil => exact fun _ hz => nomatch hz
      | cons h _ ih =>
        intro z hz
        rcases List.mem_cons.mp hz with rfl | hz
        · exact ⟨_, h.2.2⟩
        · exact ih z hz
    obtain ⟨l, hl⟩ := key eH z hz
    rw [itK_eq (ks := itL l) hl]
    exact ⟨hl, rfl⟩
  · obtain ⟨ms, p1, p2⟩ := paired_perm h2.perm e.lkl
    have e1 := srt_uniq p1 (srtd_links (LkL.same hs.same p2) h1)
    subst e1
    exact q p ys _ p2 (hs.new hp)
theorem w_ltT {K : PySem.W.Frag} {p q : Addr} {ns ms : List Int} (h1 : H p = some (.tup (ns.map V.int))) (h2 : H q = some (.tup (ms.map V.int))) (k : Q (.bl (lexI ns ms)) H) : rLtT K (.ref p) (.ref q) H Q := ⟨p, q, ns, ms, rfl, rfl, SqT.of h1, SqT.of h2, k⟩
end
def ntQ : HO → Bool
  | .tup _ => false
  | _ => true
/-- what stands aside of our own objects, none a tuple, is the ground: all tuples stand there -/
theorem Hs.ground {B H : Hp} {L : List (Addr × HO)} (hs : Hs B L H) (nt : L.all (fun e => ntQ e.2) = true) : ∃ B1, Same B B1 ∧ Hs B1 L H ∧ ∀ p xs, H p = some (.tup xs) → B1 p = some (.tup xs) := by
  obtain ⟨h1, h2⟩ := hs.rebase
  refine ⟨_, h1, h2, fun p xs e => ?_⟩
  rw [around_out fun m => ?_]
  · exact e
  · obtain ⟨z, hz, rfl⟩ := List.mem_map.mp m
    have h3 := List.all_eq_true.mp nt z hz
    rw [hs.at_ z hz] at e
    rw [Option.some.inj e] at h3
    cases h3
theorem r64 {k : Nat} {A : Around} (r : Room k A) : A.units + 64 < cLine := by
  have := r.un
  omega
theorem r65 {k : Nat} {A : Around} (r : Room k A) : A.units + 65 < cLine := by
  have := r.un
  omega
theorem r0 {k : Nat} {A : Around} (r : Room k A) : A.units < cLine := by
  have := r.un
  omega
abbrev endO (x : E2) : HO := .tup [.int x.1, .int x.2]
theorem shp_end (x : E2) : SeqAt.shaped (.tuple [.int x.1, .int x.2]) = true := by simp [SeqAt.shaped, PyData.canLay0, PyData.canLayAll0, PyData.depth, PyData.depthAll]
theorem dp_end {K : PySem.W.Frag} {H : Hp} {p : Addr} {x : E2} (h : H p = some (endO x)) : Dp K H (.ref p) (.tuple [.int x.1, .int x.2]) := .tup (SqT.of h) (ImAll.cons (.int _) (.cons (.int _) .nil)).dp
theorem w_eqE {K : PySem.W.Frag} {H : Hp} {Q : VK} {p q : Addr} {x y : E2} (h1 : H p = some (endO x)) (h2 : H q = some (endO y)) (k : Q (.bl (decide (x = y))) H) : rEqD K (.ref p) (.ref q) H Q :=
  w_eqD (dp_end h1) (dp_end h2) (shp_end x) (shp_end y) (by rw [eqv_end]; exact k)
/-! ### what holds of the links -/
structure IM (M : Mp) : Prop where
  nd : (keysM M).Nodup
  ok : ∀ l ∈ keysM M, l.1.1 ≠ l.2.1 ∧ lexI [l.1.1, l.1.2] [l.2.1, l.2.2] = true
  dj : ∀ x ∈ keysM M, ∀ y ∈ keysM M, ∀ e : E2, has e x = true → has e y = true → x = y
theorem keys_drop {M : Mp} {ls : List Lk} : keysM (dropM M ls) = (keysM M).filter fun l => decide (l ∉ ls) := by
  unfold keysM dropM
  rw [List.filter_map]
  rfl
theorem mem_keys_drop {M : Mp} {ls : List Lk} {l : Lk} : l ∈ keysM (dropM M ls) ↔ l ∈ keysM M ∧ l ∉ ls := by
  rw [keys_drop, List.mem_filter, decide_eq_true_eq]
theorem IM.nil : IM [] := ⟨List.nodup_nil, (fun _ h => nomatch h), (fun _ h => nomatch h)⟩
theorem IM.drop {M : Mp} (h : IM M) (ls : List Lk) : IM (dropM M ls) := by
  refine ⟨?_, fun l hl => h.ok l (mem_keys_drop.mp hl).1, fun x hx y hy => h.dj x (mem_keys_drop.mp hx).1 y (mem_keys_drop.mp hy).1⟩
  rw [keys_drop]
  exact h.nd.filter _
theorem val_some {M : Mp} {l : Lk} : (valM M l).isSome = true ↔ l ∈ keysM M := by
  unfold valM
  rw [Option.isSome_map, List.find?_isSome]
  constructor
  · rintro ⟨x, hx, e⟩
    exact List.mem_map.mpr ⟨x, hx, of_decide_eq_true e⟩
  · intro h
    obtain ⟨x, hx, e⟩ := List.mem_map.mp h
    exact ⟨x, hx, decide_eq_true e⟩
theorem val_of {M : Mp} {l : Lk} (h : l ∈ keysM M) : ∃ n, valM M l = some n := Option.isSome_iff_exists.mp (val_some.mpr h)
theorem mem_at {M : Mp} {e : E2} {l : Lk} : l ∈ atM M e ↔ l ∈ keysM M ∧ has e l = true := by
  unfold atM
  rw [List.mem_filter, mem_srt]
theorem at_nodup {M : Mp} (h : IM M) (e : E2) : (atM M e).Nodup := ((srt_perm _).nodup_iff.mpr h.nd).filter _
theorem at_one {M : Mp} (h : IM M) (e : E2) : atM M e = [] ∨ ∃ l, atM M e = [l] := by
  have nd := at_nodup h e
  match hm : atM M e with
  | [] => exact .inl rfl
  | [l] => exact .inr ⟨l, rfl⟩
  | x :: y :: r =>
    have hx : x ∈ atM M e := by rw [hm]; exact List.mem_cons_self
    have hy : y ∈ atM M e := by rw [hm]; exact List.mem_cons_of_mem _ List.mem_cons_self
    obtain ⟨x1, x2⟩ := mem_at.mp hx
    obtain ⟨y1, y2⟩ := mem_at.mp hy
    have := h.dj x x1 y y1 e x2 y2
    subst this
    rw [hm] at nd
    exact absurd List.mem_cons_self (List.nodup_cons.mp nd).1
theorem find_at {M : Mp} (e : E2) : (srt (keysM M)).find? (has e) = (atM M e).head? := by
  unfold atM
  rw [List.head?_filter]
theorem at_drop {M : Mp} {ls : List Lk} {e : E2} : atM (dropM M ls) e = (atM M e).filter fun l => decide (l ∉ ls) := by
  unfold atM
  rw [keys_drop, ← srt_filter, List.filter_filter, List.filter_filter]
  congr 1
  funext l
  exact Bool.and_comm _ _
theorem drop_drop {M : Mp} {a b : List Lk} : dropM (dropM M a) b = dropM M (a ++ b) := by
  unfold dropM
  rw [List.filter_filter]
  congr 1
  funext x
  by_cases h1 : x.1 ∈ a <;> by_cases h2 : x.1 ∈ b <;> simp [h1, h2]
theorem drop_nil {M : Mp} : dropM M [] = M := by
  unfold dropM
  rw [List.filter_eq_self]
  exact fun _ _ => decide_eq_true (fun z => nomatch z)
theorem drop_len {M : Mp} {ls : List Lk} : (dropM M ls).length ≤ M.length := List.length_filter_le _ _
/-- the law's list is the program's -/
theorem at_two {M : Mp} {one other : E2} : (atM M one ++ (atM M other).filter fun l => decide (l ∉ atM M one)) = atM M one ++ atM (dropM M (atM M one)) other := by rw [at_drop]
/-- the link of two ends -/
def mkL (x y : E2) : Lk := if lexI [x.1, x.2] [y.1, y.2] = true then (x, y) else (y, x)
theorem lexI_ne {x y : E2} (h : x.1 ≠ y.1) : lexI [x.1, x.2] [y.1, y.2] = decide (x.1 < y.1) := by rw [lexI_cons, if_neg h]
theorem mkL_ok {x y : E2} (h : x.1 ≠ y.1) : (mkL x y).1.1 ≠ (mkL x y).2.1 ∧ lexI [(mkL x y).1.1, (mkL x y).1.2] [(mkL x y).2.1, (mkL x y).2.2] = true := by
  unfold mkL
  by_cases hc : lexI [x.1, x.2] [y.1, y.2] = true
  · rw [if_pos hc]
    exact ⟨h, hc⟩
  · rw [if_neg hc]
    refine ⟨fun z => h z.symm, ?_⟩
    rw [lexI_ne h] at hc
    show lexI [y.1, y.2] [x.1, x.2] = true
    rw [lexI_ne (fun z => h z.symm)]
    have : ¬ x.1 < y.1 := fun z => hc (decide_eq_true z)
    exact decide_eq_true (by omega)
theorem mkL_comm {x y : E2} (h : x.1 ≠ y.1) : mkL x y = mkL y x := by
  unfold mkL
  rw [lexI_ne h, lexI_ne (fun z => h z.symm)]
  by_cases hc : x.1 < y.1
  · rw [if_pos (decide_eq_true hc), if_neg (by rw [decide_eq_true_eq]; omega)]
  · rw [if_neg (by rw [decide_eq_true_eq]; exact hc), if_pos (decide_eq_true (by omega))]
theorem mkL_of {l : Lk} (h : l.1.1 ≠ l.2.1 ∧ lexI [l.1.1, l.1.2] [l.2.1, l.2.2] = true) : mkL l.1 l.2 = l := by
  unfold mkL
  rw [if_pos h.2]
theorem has_mkL {x y e : E2} : has e (mkL x y) = true ↔ e = x ∨ e = y := by
  unfold has mkL
  split
  · rw [Bool.or_eq_true, decide_eq_true_eq, decide_eq_true_eq]
    exact ⟨fun z => z.elim (fun q => .inl q.symm) (fun q => .inr q.symm), fun z => z.elim (fun q => .inl q.symm) (fun q => .inr q.symm)⟩
  · rw [Bool.or_eq_true, decide_eq_true_eq, decide_eq_true_eq]
    exact ⟨fun z => z.elim (fun q => .inr q.symm) (fun q => .inl q.symm), fun z => z.elim (fun q => .inr q.symm) (fun q => .inl q.symm)⟩
theorem keys_put {M : Mp} {l : Lk} {n : Int} : keysM (putM M l n) = if l ∈ keysM M then keysM M else keysM M ++ [l] := by
  unfold putM
  by_cases hc : l ∈ keysM M
  · rw [if_pos (val_some.mpr hc), if_pos hc]
    unfold keysM
    rw [List.map_map]
    refine List.map_congr_left fun x _ => ?_
    show (if x.1 = l then (x.1, n) else x).1 = x.1
    split <;> rfl
  · rw [if_neg (fun z => hc (val_some.mp z)), if_neg hc]
    unfold keysM
    rw [List.map_append]
    rfl
theorem IM.put_old {M : Mp} (h : IM M) {l : Lk} (n : Int) (hl : l ∈ keysM M) : IM (putM M l n) := by
  have e : keysM (putM M l n) = keysM M := by rw [keys_put, if_pos hl]
  exact ⟨by rw [e]; exact h.nd, by rw [e]; exact h.ok, by rw [e]; exact h.dj⟩
/-- a link that is seen, whose ends' links are lost -/
theorem IM.put_new {M : Mp} (h : IM M) {x y : E2} (n : Int) (hxy : x.1 ≠ y.1) (hx : ∀ l ∈ keysM M, has x l = false) (hy : ∀ l ∈ keysM M, has y l = false) : IM (putM M (mkL x y) n) ∧ mkL x y ∉ keysM M := by
  have hn : mkL x y ∉ keysM M := fun z => by
    have h1 : has x (mkL x y) = true := has_mkL.mpr (.inl rfl)
    rw [hx _ z] at h1
    cases h1
  have e : keysM (putM M (mkL x y) n) = keysM M ++ [mkL x y] := by rw [keys_put, if_neg hn]
  have no : ∀ e : E2, has e (mkL x y) = true → ∀ l ∈ keysM M, has e l = false := fun e he l hl => by
    rcases has_mkL.mp he with rfl | rfl
    · exact hx l hl
    · exact hy l hl
  refine ⟨⟨?_, fun l hl => ?_, fun u hu v hv e2 h1 h2 => ?_⟩, hn⟩
  · rw [e, List.nodup_append]
    refine ⟨h.nd, List.pairwise_singleton _ _, fun a ha b hb z => ?_⟩
    rw [List.mem_singleton.mp hb] at z
    subst z
    exact hn ha
  · rw [e] at hl
    rcases List.mem_append.mp hl with m | m
    · exact h.ok l m
    · rw [List.mem_singleton.mp m]
      exact mkL_ok hxy
  · rw [e] at hu hv
    rcases List.mem_append.mp hu with m | m <;> rcases List.mem_append.mp hv with m' | m'
    · exact h.dj u m v m' e2 h1 h2
    · rw [List.mem_singleton.mp m'] at h2 ⊢
      rw [no e2 h2 u m] at h1
      cases h1
    · rw [List.mem_singleton.mp m] at h1 ⊢
      rw [no e2 h1 v m'] at h2
      cases h2
    · rw [List.mem_singleton.mp m, List.mem_singleton.mp m']
theorem at_none {M : Mp} {ls : List Lk} {e : E2} (h : ∀ l ∈ atM M e, l ∈ ls) : ∀ l ∈ keysM (dropM M ls), has e l = false := fun l hl => by
  obtain ⟨h1, h2⟩ := mem_keys_drop.mp hl
  cases q : has e l with
  | false => rfl
  | true => exact absurd (h l (mem_at.mpr ⟨h1, q⟩)) h2
theorem put_len {M : Mp} {l : Lk} {n : Int} : (putM M l n).length ≤ M.length + 1 := by
  unfold putM
  split
  · rw [List.length_map]
    omega
  · rw [List.length_append]
    exact Nat.le_refl _
theorem srt_len {ls : List Lk} : (srt ls).length = ls.length := (srt_perm ls).length_eq
theorem keys_len {M : Mp} : (keysM M).length = M.length := List.length_map _
theorem at_len {M : Mp} {e : E2} : (atM M e).length ≤ M.length := by
  unfold atM
  refine Nat.le_trans (List.length_filter_le _ _) ?_
  rw [srt_len, keys_len]
  exact Nat.le_refl _
/-! ### lists of links, by a test -/
theorem take_filter {α : Type} {ls : List α} {i : Nat} {l : α} {p : α → Bool} (e : ls[i]? = some l) : (ls.take (i + 1)).filter p = (ls.take i).filter p ++ (if p l = true then [l] else []) := by
  rw [List.take_add_one, e, List.filter_append]
  congr 1
  show [l].filter p = _
  rw [List.filter_cons]
  split <;> rfl
theorem w_lcF {K : PySem.W.Frag} {σ : St} {H B : Hp} {Q : VK} {tl : TE} {a : Addr} {tt : TT} {us : List V} {ls : List Lk} {i : Nat} (p : Lk → Bool) (hx : SqL K H a us) (hL : LkL B us ls) (hz : us.length ≤ 1000) (htl : ∀ Q : VK, Q (.ref a) H → tl σ H Q)
    (hw : ∀ x, wipe ((wipe σ [i]).set i (some x)) [i] = wipe σ [i]) (hv : ∀ x, ((wipe σ [i]).set i (some x))[i]? = some (some x))
    (ht : ∀ t l H1, l ∈ ls → NK B (lkK l) (.ref t) → Same H H1 → ∀ R : Bool → Hp → Prop, (∀ H2, Same H1 H2 → R (p l) H2) → tt ((wipe σ [i]).set i (some (.ref t))) H1 R)
    (hq : ∀ D acc H', Hs H [(D, .lst acc)] H' → LkL B acc (ls.filter p) → Q (.ref D) H') : tLc (iList K tl) (gName i) tt (tVar i) [i] σ H Q := by
  refine w_lc hx (fun D j H' => ∃ acc, Hs H [(D, .lst acc)] H' ∧ LkL B acc ((ls.take j).filter p)) htl (fun D hD => ⟨[], (Hs.start H).new hD, .nil⟩) (fun D j H' _ ⟨_, h, _⟩ => h.same.seq hx) ?_ ?_
  · rintro D j x H' hj ⟨acc, h1, h2⟩
    obtain ⟨t, l, rfl, hl, hk⟩ := LkL.get hL hj
    refine ⟨hw _, ht t l H' (List.mem_of_getElem? hl) hk h1.same _ fun H2 sb => ?_⟩
    have hlen := LkL.len h2
    have hj2 := (List.getElem?_eq_some_iff.mp hl).1
    have hll := LkL.len hL
    have h3 : Hs H [(D, .lst acc)] H2 := ⟨h1.same.trans sb, h1.nd, h1.out, fun e he => sb _ _ (h1.at_ e he)⟩
    have e1 := take_filter (p := p) hl
    by_cases hp : p l = true
    · rw [if_pos hp]
      rw [if_pos hp] at e1
      refine ⟨_, hv _, acc, h3.g0, ?_, acc ++ [.ref t], h3.p0 _, ?_⟩
      · refine szl ?_
        have := List.length_filter_le p (ls.take j)
        rw [List.length_take] at this
        omega
      · rw [e1]
        exact h2.snoc hk
    · rw [if_neg hp]
      rw [if_neg hp, List.append_nil] at e1
      refine ⟨acc, h3, ?_⟩
      rw [e1]
      exact h2
  · rintro D H' ⟨acc, h1, h2⟩
    rw [LkL.len hL, List.take_length] at h2
    exact hq D acc H' h1 h2
/-- what is walked first, then the walk -/
theorem w_lcS {K : PySem.W.Frag} {σ : St} {H : Hp} {Q : VK} {tl : TE} {g : TG} {tt : TT} {te : TE} {vs : List Nat} (q : tl σ H fun v H1 => tLc (iList K (tC v)) g tt te vs σ H1 Q) : tLc (iList K tl) g tt te vs σ H Q := q
theorem w_forS {K : PySem.W.Frag} {σ : St} {H : Hp} {D : Ends} {tl : TE} {g : TG} {tb : TS} (q : tl σ H fun v H1 => tFor (iList K (tC v)) g tb D σ H1) : tFor (iList K tl) g tb D σ H := q
theorem w_isL {K : PySem.W.Frag} {H : Hp} {Q : VK} {p : Addr} {xs : List V} (h : H p = some (.lst xs)) (k : Q (.bl true) H) : rIsi K [.ref p, .ty "list"] H Q :=
  ⟨_, _, _, _, true, rfl, .ty "list", .base (.lst h), kit_ty (by decide +kernel), k⟩
end Hb

set_option Elab.async false
set_option linter.all false
set_option maxRecDepth 100000
set_option maxHeartbeats 4000000
/-! Sets whose elements are tuples of a kind of keys (nested tuples: KE's nestedKind), kept in the model's own table. -/
namespace Hb
open PySem L2 PyProof.Rows

section
variable {P : Program} {w : World} {κ : Type} [DecidableEq κ]
/-- what the model asks of an element besides its hash and its == -/
structure Els (knd : HeapKind P w κ) : Prop where
  ofA : ∀ {A : Around} {E : Value → Shared → Prop} {s : Shared} {k : κ} {b : Addr} {Q : Bool → Shared → Prop}, knd.is s.heap k b → Q false s → wpAny (model P w) A (ofAClassStatement 8 (.ref b)) Q E s
  byV : ∀ {A : Around} {E : Value → Shared → Prop} {s : Shared} {k : κ} {b : Addr} {Q : Bool → Shared → Prop}, knd.is s.heap k b → Q true s → wpAny (model P w) A (hashByValue 8 (.ref b)) Q E s
  stay : ∀ {h h' : Heap} {k : κ} {b d : Addr} {o : Obj} {es : Array (Int × Value)} {ep : Nat} {t : SetTable}, knd.is h k b → h.get? d = some o → o.data = .set es ep t → Heap.SameBut d h h' → knd.is h' k b
  grow : ∀ {h h' : Heap} {k : κ} {b : Addr}, knd.is h k b → (∀ c o, h.get? c = some o → h'.get? c = some o) → knd.is h' k b
end

/-! ### nested tuples are such elements -/
section
variable {P : Program} {w : World}
def NoCls (P : Program) (w : World) (n : Nat) (s : Shared) (v : Value) : Prop := ∀ (A : Around) (E : Value → Shared → Prop) (Q : Bool → Shared → Prop), Q false s → wpAny (model P w) A (ofAClassStatement n v) Q E s
def ByVal (P : Program) (w : World) (n : Nat) (s : Shared) (v : Value) : Prop := ∀ (A : Around) (E : Value → Shared → Prop) (Q : Bool → Shared → Prop), Q true s → wpAny (model P w) A (hashByValue n v) Q E s
theorem NoCls.pure {n : Nat} {s : Shared} {v : Value} (h : ofAClassStatement n v = Pure.pure false) : NoCls P w n s v := fun A E Q q => by
  rw [h]
  exact wpAny_pure q
theorem ByVal.pure {n : Nat} {s : Shared} {v : Value} (h : hashByValue n v = Pure.pure true) : ByVal P w n s v := fun A E Q q => by
  rw [h]
  exact wpAny_pure q
theorem NoCls.tup {n m : Nat} {s : Shared} {a : Addr} {o : Obj} {vs : Array Value} (ho : s.heap.get? a = some o) (hc : o.cls = .type "tuple") (hd : o.data = .seq vs m) (hv : ∀ v ∈ vs.toList, NoCls P w n s v) : NoCls P w (n + 1) s (.ref a) := fun A E Q q => by
  have hT : s.TypeIs (.ref a) "tuple" := ⟨o, ho, hc⟩
  unfold ofAClassStatement
  refine wpAny_bind (wpAny_typeOf hT ?_)
  dsimp only
  have e : (("tuple" : String) == "tuple") = true := by decide
  simp only [e, if_true, Bool.not_true, Bool.false_eq_true, if_false]
  try refine wpAny_bind (wpAny_pure ?_)
  try simp only [Bool.not_true, Bool.false_eq_true, if_false]
  show wpAny _ _ (seqItems? (.ref a) >>= _) _ _ s
  refine wpAny_bind (wpAny_seqItems ho hd ?_)
  dsimp only
  refine wpAny_bind ?_
  show wpAny _ _ (forIn vs _ _) _ _ s
  rw [← Array.forIn_toList]
  refine wpAny_forIn_list _ (fun rest r s' => r.1 = none ∧ s' = s ∧ ∀ v ∈ rest, NoCls P w n s v) _ ?_ ?_ _ _ ⟨rfl, rfl, hv⟩
  · rintro v rest r s' ⟨_, rfl, all⟩
    refine wpAny_bind (all v List.mem_cons_self _ _ _ ?_)
    simp only [Bool.false_eq_true, if_false]
    exact wpAny_pure ⟨rfl, rfl, fun u hu => all u (List.mem_cons_of_mem _ hu)⟩
  · rintro ⟨r1, r2⟩ s' ⟨hr, rfl, _⟩
    simp only at hr
    subst hr
    exact wpAny_pure q
theorem ByVal.tup {n m : Nat} {s : Shared} {a : Addr} {o : Obj} {vs : Array Value} (ho : s.heap.get? a = some o) (hc : o.cls = .type "tuple") (hd : o.data = .seq vs m) (hv : ∀ v ∈ vs.toList, ByVal P w n s v) : ByVal P w (n + 1) s (.ref a) := fun A E Q q => by
  have hT : s.TypeIs (.ref a) "tuple" := ⟨o, ho, hc⟩
  unfold hashByValue
  refine wpAny_bind (wpAny_specialOf hT F.slot_tuple_hash.lookup ?_)
  show wpAny _ _ (seqItems? (.ref a) >>= _) _ _ s
  refine wpAny_bind (wpAny_seqItems ho hd ?_)
  refine wpAny_bind ?_
  show wpAny _ _ (forIn vs _ _) _ _ s
  rw [← Array.forIn_toList]
  refine wpAny_forIn_list _ (fun rest r s' => r.1 = none ∧ s' = s ∧ ∀ v ∈ rest, ByVal P w n s v) _ ?_ ?_ _ _ ⟨rfl, rfl, hv⟩
  · rintro v rest r s' ⟨_, rfl, all⟩
    refine wpAny_bind (all v List.mem_cons_self _ _ _ ?_)
    simp only [Bool.not_true, Bool.false_eq_true, if_false]
    exact wpAny_pure ⟨rfl, rfl, fun u hu => all u (List.mem_cons_of_mem _ hu)⟩
  · rintro ⟨r1, r2⟩ s' ⟨hr, rfl, _⟩
    simp only at hr
    subst hr
    exact wpAny_pure q
theorem scal_ofA {v : Value} (h : v.onHeap = false) (n : Nat) (hv : v = .none ∨ (∃ b, v = .bool b) ∨ (∃ i t, v = .int i t) ∨ ∃ x t, v = .str x t) : ofAClassStatement n v = Pure.pure false := by
  rcases hv with rfl | ⟨b, rfl⟩ | ⟨i, t, rfl⟩ | ⟨x, t, rfl⟩ <;> cases n <;> rfl
theorem scal_byV {v : Value} (n : Nat) (hv : v = .none ∨ (∃ b, v = .bool b) ∨ (∃ i t, v = .int i t)) : hashByValue n v = Pure.pure true := by
  rcases hv with rfl | ⟨b, rfl⟩ | ⟨i, t, rfl⟩ <;> cases n <;> rfl
mutual
/-- no text is in it: its hash hangs on its value alone -/
def noTx : NestedKey → Bool
  | .none => true
  | .num _ => true
  | .text _ => false
  | .tup ks => noTxs ks
def noTxs : List NestedKey → Bool
  | [] => true
  | k :: ks => noTx k && noTxs ks
end
mutual
theorem nested_els : ∀ (k : NestedKey) (v : Value) (n : Nat) (s : Shared), NestedIs s.heap k v → k.depth ≤ n → noTx k = true → NoCls P w n s v ∧ ByVal P w n s v
  | .none, _, n, s, x, _, _ => by
    cases x
    exact ⟨.pure (scal_ofA rfl n (.inl rfl)), .pure (scal_byV n (.inl rfl))⟩
  | .num i, _, n, s, x, _, _ => by
    cases x with
    | bool e => exact ⟨.pure (scal_ofA rfl n (.inr (.inl ⟨_, rfl⟩))), .pure (scal_byV n (.inr (.inl ⟨_, rfl⟩)))⟩
    | int _ t => exact ⟨.pure (scal_ofA rfl n (.inr (.inr (.inl ⟨_, _, rfl⟩)))), .pure (scal_byV n (.inr (.inr ⟨_, _, rfl⟩)))⟩
  | .text y, _, n, s, x, _, h => by
    simp only [noTx, Bool.false_eq_true] at h
  | .tup ks, _, n, s, x, hn, h => by
    cases x with
    | tup hg hc hd hk =>
      simp only [NestedKey.depth] at hn
      simp only [noTx] at h
      cases n with
      | zero => omega
      | succ n =>
        have all := nested_elss ks _ n s hk (by omega) h
        exact ⟨.tup hg hc hd fun v hv => (all v hv).1, .tup hg hc hd fun v hv => (all v hv).2⟩
theorem nested_elss : ∀ (ks : List NestedKey) (vs : List Value) (n : Nat) (s : Shared), NestedAll s.heap ks vs → NestedKey.depthAll ks ≤ n → noTxs ks = true → ∀ v ∈ vs, NoCls P w n s v ∧ ByVal P w n s v
  | [], _, n, s, x, _, _, v, hv => by cases x; cases hv
  | k :: ks, _, n, s, x, hn, h, v, hv => by
    cases x with
    | cons x1 x2 =>
      simp only [NestedKey.depthAll] at hn
      simp only [noTxs, Bool.and_eq_true] at h
      rcases List.mem_cons.mp hv with e | hv
      · rw [e]
        exact nested_els k _ n s x1 (by omega) h.1
      · exact nested_elss ks _ n s x2 (by omega) h.2 v hv
end
/-- the kind of nested tuples without texts -/
def numKind (P : Program) (w : World) : HeapKind P w NestedKey where
  is := fun h k a => (nestedKind P w).is h k a ∧ noTx k = true
  hash := (nestedKind P w).hash
  draws := (nestedKind P w).draws
  room := (nestedKind P w).room
  inj := fun x y => (nestedKind P w).inj x.1 y.1
  keeps := fun x ho hd hs => ⟨(nestedKind P w).keeps x.1 ho hd hs, x.2⟩
  pyHash := fun hr x h => (nestedKind P w).pyHash hr x.1 h
  eqBool := fun hr x y h => (nestedKind P w).eqBool hr x.1 y.1 h
  quiet := fun x h => (nestedKind P w).quiet x.1 h
theorem els_num : Els (numKind P w) where
  ofA := fun {A E s k b Q} h q => (nested_els k _ 8 s h.1.1 h.1.2 h.2).1 A E Q q
  byV := fun {A E s k b Q} h q => (nested_els k _ 8 s h.1.1 h.1.2 h.2).2 A E Q q
  stay := fun {h h' k b d o es ep t} x ho hd hs => ⟨⟨NestedIs.at (fun c oc vs n hc hdc => by
    refine (hs.2 c fun e => ?_).trans hc
    subst e
    rw [ho] at hc
    cases hc
    rw [hd] at hdc
    cases hdc) k _ x.1.1, x.1.2⟩, x.2⟩
  grow := fun x k => ⟨⟨NestedIs.at (fun c o _ _ hc _ => k c o hc) _ _ x.1.1, x.1.2⟩, x.2⟩
end

/-! ### the table -/
section
variable {P : Program} {w : World} {κ : Type} [DecidableEq κ] {knd : HeapKind P w κ} {A : Around} {E : Value → Shared → Prop} {s : Shared}
/-- the elements as the table's rows -/
def rowsK (knd : HeapKind P w κ) (L : List (κ × Addr)) : List (Int × Value) := L.map fun p => (knd.hash p.1, Value.ref p.2)
/-- the set at a, of the elements L (in the table's order) -/
structure SetK (knd : HeapKind P w κ) (h : Heap) (a : Addr) (L : List (κ × Addr)) (es : Array (Int × Value)) (ep : Nat) (t : SetTable) : Prop where
  ob : ∃ o, h.get? a = some o ∧ o.ExactSet ∧ o.data = .set es ep t
  rows : es.toList = rowsK knd L
  tab : TabOk t (L.map fun p => knd.hash p.1)
  nd : (L.map (·.1)).Nodup
  els : ∀ p ∈ L, knd.is h p.1 p.2
  pl : t.plain = true
  led : w.params.followText "set-order" = true ∨ t.led = true
  room : L.length * 5 < t.mask * 3
  few : L.length < 64
variable {a : Addr} {L : List (κ × Addr)} {es : Array (Int × Value)} {ep : Nat} {t : SetTable}
theorem rowsK_size (e : es.toList = rowsK knd L) : es.size = L.length := by
  rw [← Array.length_toList, e]
  exact List.length_map _
theorem rowsK_at (e : es.toList = rowsK knd L) (i : Nat) : es[i]? = (L[i]?).map fun p => (knd.hash p.1, Value.ref p.2) := by
  rw [← Array.getElem?_toList, e]
  exact List.getElem?_map ..
theorem fitsK (T : TabOk t (L.map fun p => knd.hash p.1)) (e : es.toList = rowsK knd L) (hm : L.length ≤ t.mask) : t.fits es.size = true := by
  have h1 : t.place.size = L.length := by
    rw [T.sz]
    exact List.length_map _
  unfold SetTable.fits SetTable.fill
  rw [T.dm, rowsK_size e, Bool.and_eq_true, beq_iff_eq, decide_eq_true_eq]
  exact ⟨h1, by show t.place.size + 0 ≤ t.mask; omega⟩
theorem SetK.fits (R : SetK knd s.heap a L es ep t) : t.fits es.size = true := fitsK R.tab R.rows (by have := R.room; omega)
/-- a search shows nothing of the elements -/
theorem unseenK (el : Els knd) {k : κ} {b : Addr} {Q : Bool → Shared → Prop} (hk : knd.is s.heap k b) {ys : List Value} (hy : ∀ y ∈ ys, ∃ j c, y = Value.ref c ∧ knd.is s.heap j c) (h : Q false s) : wpAny (model P w) A (searchCouldBeSeen (.ref b) ys) Q E s := by
  unfold searchCouldBeSeen
  refine wpAny_bind ?_
  refine wpAny_forIn_list _ (fun rest r s' => r.1 = none ∧ s' = s ∧ ∀ y ∈ rest, y ∈ ys) _ ?_ ?_ _ _ ⟨rfl, rfl, fun _ z => z⟩
  · rintro v rest r s' ⟨_, rfl, sub⟩
    obtain ⟨j, c, rfl, hc⟩ := hy v (sub v List.mem_cons_self)
    have more : ∀ y ∈ rest, y ∈ ys := fun u hu => sub u (List.mem_cons_of_mem _ hu)
    dsimp only
    by_cases hv : (b == c || (carriedByValue (.ref b) && carriedByValue (.ref c))) = true
    · exact wp_if_pos hv (wpAny_pure ⟨rfl, rfl, more⟩)
    · refine wp_if_neg hv (wpAny_bind (knd.quiet hk ?_))
      simp only [Bool.not_true, Bool.false_eq_true, if_false]
      refine wpAny_bind (knd.quiet hc ?_)
      simp only [Bool.not_true, Bool.false_eq_true, if_false]
      refine wpAny_bind (el.ofA hk ?_)
      simp only [Bool.false_eq_true, if_false]
      refine wpAny_bind (el.ofA hc ?_)
      simp only [Bool.false_eq_true, if_false]
      exact wpAny_pure ⟨rfl, rfl, more⟩
  · rintro ⟨r1, r2⟩ s' ⟨hr, rfl, _⟩
    simp only at hr
    subst hr
    exact wpAny_pure h

/-- where a search for the hash h stands behind c steps -/
abbrev stepK (t : SetTable) (h : Int) (c : Nat) : SetTable.Probe := nth t.mask (runAt t.mask (SetTable.bits h % (t.mask + 1)) (SetTable.bits h)) c
theorem stepK_add (t : SetTable) (h : Int) (c q : Nat) : nth t.mask (stepK t h c) q = stepK t h (c + q) := (nth_add t.mask c _ q).symm
theorem stepK_j (t : SetTable) (h : Int) (c q : Nat) : (nth t.mask (stepK t h c) q).j = way t.mask h (c + q) := congrArg SetTable.Probe.j (stepK_add t h c q)
theorem dummy_nth (m : Nat) : ∀ (n : Nat) (p : SetTable.Probe), p.dummy = none → (nth m p n).dummy = none
  | 0, _, h => h
  | n + 1, p, h => dummy_nth m n (adv m p) (by
    unfold adv
    split <;> exact h)
/-- THE SEARCH: with n steps to go to the first free slot -/
theorem seekK (el : Els knd) (R : SetK knd s.heap a L es ep t) {x : Addr} {k : κ} (hx : knd.is s.heap k x) (hr : knd.room A) {N : Nat} (hN : N < 10 * SetTable.turns t.mask) (hfree : way t.mask (knd.hash k) N ∉ t.place.toList)
    (htak : ∀ c, c < N → way t.mask (knd.hash k) c ∈ t.place.toList) {Q : SetFound → Shared → Prop} (qin : k ∈ L.map (·.1) → Q (.there none) s) (qout : k ∉ L.map (·.1) → Q (.free (way t.mask (knd.hash k) N) false) s) (n : Nat) :
    ∀ (c f : Nat) (stand : Option SetTable.Probe), c + n = N → n < f → stand.getD (t.probeStart (knd.hash k)) = stepK t (knd.hash k) c →
      (∀ (i : Nat) (p : κ × Addr), L[i]? = some p → p.1 = k → ∃ q, q < n ∧ t.place.toList[i]? = some (way t.mask (knd.hash k) (c + q))) →
      wpAny (model P w) A (setSearchFrom a (.ref x) (knd.hash k) true f stand) Q E s := by
  induction n using Nat.strongRecOn with
  | ind n ih =>
    intro c f stand hc hf hst hre
    obtain ⟨f, rfl⟩ : ∃ g, f = g + 1 := ⟨f - 1, by omega⟩
    obtain ⟨o, ho, hex, hd⟩ := R.ob
    rw [setSearchFrom_succ]
    refine wpAny_bind (wpAny_setState_of ho hd R.fits ?_)
    dsimp only
    refine wp_if_neg (by unfold SetTable.gaveWay; rw [mask_odd R.tab.mok]; decide) ?_
    try refine wpAny_bind (wpAny_pure ?_)
    have hAt : ∀ (i : Nat) (p : κ × Addr), L[i]? = some p → (fun i => (es[i]?.map (·.1)).getD 0) i = knd.hash p.1 := fun i p hp => by
      show (es[i]?.map (·.1)).getD 0 = _
      rw [rowsK_at R.rows, hp]
      rfl
    have spec := go_spec t R.tab.ris R.tab.dm (fun i => (es[i]?.map (·.1)).getD 0) (knd.hash k) (10 * SetTable.turns t.mask) n (stepK t (knd.hash k) c) (dummy_nth _ _ _ rfl) (by omega)
      (fun q hq => by rw [stepK_j]; exact htak _ (by omega)) (by rw [stepK_j, hc]; exact hfree)
    have pr : t.probe (fun i => (es[i]?.map (·.1)).getD 0) (knd.hash k) (stand.getD (t.probeStart (knd.hash k))) = SetTable.probe.go t (fun i => (es[i]?.map (·.1)).getD 0) (knd.hash k) (10 * SetTable.turns t.mask) (stepK t (knd.hash k) c) := by
      rw [hst]
      rfl
    rw [pr]
    rcases spec with ⟨q, i, hq, hi, _, hno, e⟩ | ⟨hno, e⟩
    · rw [e, stepK_j, stepK_add]
      rw [stepK_j] at hi
      dsimp only
      have hil : i < L.length := by
        have h1 := (List.getElem?_eq_some_iff.mp hi).1
        rw [Array.length_toList, R.tab.sz, List.length_map] at h1
        exact h1
      obtain ⟨p, hp⟩ : ∃ p, L[i]? = some p := ⟨_, List.getElem?_eq_getElem hil⟩
      have hm : p ∈ L := List.mem_of_getElem? hp
      have hei : es[i]? = some (knd.hash p.1, Value.ref p.2) := by
        rw [rowsK_at R.rows, hp]
        rfl
      have hsl : t.slot (way t.mask (knd.hash k) (c + q)) = .live i := slot_live R.tab.ris hi
      have after : wpAny (model P w) A (searchRest a (.ref x) (knd.hash k) true f es t (way t.mask (knd.hash k) (c + q)) i (stepK t (knd.hash k) (c + (q + 1)))) Q E s := by
        unfold searchRest
        rw [hei]
        dsimp only
        refine wpAny_bind (wpAny_holding (knd.eqBool hr (R.els p hm) hx ?_))
        refine wpAny_bind (wpAny_setState_of ho hd R.fits ?_)
        dsimp only
        by_cases hk : p.1 = k
        · exact wp_if_pos (by simp [hk]) (wpAny_pure (qin (List.mem_map.mpr ⟨p, hm, hk⟩)))
        · refine wp_if_neg (by simp [hk]) ?_
          try refine wpAny_bind (wpAny_pure ?_)
          rw [sameMem]
          dsimp only
          simp only [if_true, hsl, hei]
          refine wpAny_bind (wpAny_isSame_ref_self (wpAny_bind (wpAny_pure ?_)))
          simp only [if_true]
          refine wp_if_neg (by simp [hk]) ?_
          refine ih (n - (q + 1)) (by omega) (c + (q + 1)) f _ (by omega) (by omega) rfl fun i0 p0 h0 hk0 => ?_
          obtain ⟨r, hrn, hpl⟩ := hre i0 p0 h0 hk0
          rcases Nat.lt_trichotomy r q with z | z | z
          · exact absurd ((hAt i0 p0 h0).trans (congrArg knd.hash hk0)) (hno r i0 z (by rw [stepK_j]; exact hpl))
          · subst z
            have s0 := slot_live R.tab.ris hpl
            rw [hsl] at s0
            injection s0 with s0
            rw [← s0, hp] at h0
            exact absurd ((congrArg Prod.fst (Option.some.inj h0)).trans hk0) hk
          · exact ⟨r - (q + 1), by omega, by rw [show c + (q + 1) + (r - (q + 1)) = c + r by omega]; exact hpl⟩
      by_cases hl : t.led = true
      · refine wp_if_neg (by simp [hl]) ?_
        try refine wpAny_bind (wpAny_pure ?_)
        exact after
      · refine wp_if_pos (by simp [hl]) ?_
        refine wpAny_bind (unseenK el hx (fun y hy => ?_) (wp_if_neg (by decide) ?_))
        · obtain ⟨z, hz, rfl⟩ := List.mem_map.mp hy
          have hz1 : z ∈ es ∧ z.1 = knd.hash k := by simpa using hz
          have hz2 : z ∈ es.toList := by simpa using hz1.1
          rw [R.rows] at hz2
          obtain ⟨p2, hp2, rfl⟩ := List.mem_map.mp hz2
          exact ⟨p2.1, p2.2, rfl, R.els p2 hp2⟩
        · try refine wpAny_bind (wpAny_pure ?_)
          exact after
    · rw [e, stepK_j, hc]
      dsimp only
      refine wpAny_pure (qout fun hm => ?_)
      obtain ⟨p0, h0, hk0⟩ := List.mem_map.mp hm
      obtain ⟨i0, hi0, e0⟩ := List.getElem_of_mem h0
      have h00 : L[i0]? = some p0 := by rw [List.getElem?_eq_getElem hi0, e0]
      obtain ⟨r, hrn, hpl⟩ := hre i0 p0 h00 hk0
      exact hno r i0 hrn (by rw [stepK_j]; exact hpl) ((hAt i0 p0 h00).trans (congrArg knd.hash hk0))
/-- the search as adding asks for it -/
theorem lookK (el : Els knd) (R : SetK knd s.heap a L es ep t) {x : Addr} {k : κ} (hx : knd.is s.heap k x) (hr : knd.room A) {Q : SetFound → Shared → Prop} (qin : k ∈ L.map (·.1) → Q (.there none) s)
    (qout : ∀ N, k ∉ L.map (·.1) → way t.mask (knd.hash k) N ∉ t.place.toList → (∀ c, c < N → way t.mask (knd.hash k) c ∈ t.place.toList) → Q (.free (way t.mask (knd.hash k) N) false) s) :
    wpAny (model P w) A (setSearch a (.ref x) (knd.hash k) true) Q E s := by
  have room := R.room
  obtain ⟨N, h1, h2, h3⟩ := R.tab.first (by rw [List.length_map]; omega) (knd.hash k)
  have few : N < 100000 := by
    have : 10 * SetTable.turns t.mask ≤ 1420 := by
      unfold SetTable.turns
      rcases R.tab.mok with e | e | e <;> omega
    omega
  unfold setSearch
  refine seekK el R hx hr h1 h2 h3 qin (fun z => qout N z h2 h3) N 0 100000 none (Nat.zero_add N) few rfl fun i p hp hk => ?_
  have hi : (L.map fun p => knd.hash p.1)[i]? = some (knd.hash k) := by
    rw [List.getElem?_map, hp, ← hk]
    rfl
  have hil : i < t.place.toList.length := by
    rw [Array.length_toList, R.tab.sz, List.length_map]
    exact (List.getElem?_eq_some_iff.mp hp).1
  have hj := List.getElem?_eq_getElem hil
  obtain ⟨q, hq, e⟩ := R.tab.before h2 hi hj
  exact ⟨q, hq, by rw [hj, Nat.zero_add, e]⟩

theorem range_pick {α : Type} : ∀ l : List α, (List.range l.length).filterMap (fun i => l[i]?) = l
  | [] => rfl
  | x :: l => by
    rw [List.length_cons, List.range_succ_eq_map, List.filterMap_cons]
    show x :: (List.map Nat.succ (List.range l.length)).filterMap (fun i => (x :: l)[i]?) = x :: l
    rw [List.filterMap_map]
    exact congrArg (x :: ·) (range_pick l)
theorem fm_congr {α β : Type} {f g : α → Option β} : ∀ {l : List α}, (∀ x ∈ l, f x = g x) → l.filterMap f = l.filterMap g
  | [], _ => rfl
  | x :: l, h => by rw [List.filterMap_cons, List.filterMap_cons, h x List.mem_cons_self, fm_congr fun y hy => h y (List.mem_cons_of_mem _ hy)]
/-- the rows in another order -/
theorem orderK (e : es.toList = rowsK knd L) {order : Array Nat} (hp : order.toList.Perm (List.range L.length)) :
    ∃ L2, (order.filterMap (es[·]?)).toList = rowsK knd L2 ∧ L2.Perm L ∧ (L2.map fun p => knd.hash p.1) = order.toList.map fun i => (es.map (·.1)).getD i 0 := by
  refine ⟨order.toList.filterMap fun i => L[i]?, ?_, ?_, ?_⟩
  · rw [Array.toList_filterMap]
    unfold rowsK
    rw [List.map_filterMap]
    exact fm_congr fun i _ => rowsK_at e i
  · exact (hp.filterMap _).trans (List.Perm.of_eq (range_pick L))
  · rw [List.map_filterMap, ← List.filterMap_eq_map]
    refine fm_congr fun i hi => ?_
    have hlt : i < L.length := List.mem_range.mp (hp.mem_iff.mp hi)
    have h1 : (es.map (·.1))[i]? = some (knd.hash (L[i]).1) := by
      rw [Array.getElem?_map, rowsK_at e, List.getElem?_eq_getElem hlt]
      rfl
    rw [List.getElem?_eq_getElem hlt]
    show some (knd.hash (L[i]).1) = some ((es.map (·.1)).getD i 0)
    rw [Array.getD_eq_getD_getElem?, h1]
    rfl
/-- all laid anew in a larger table -/
theorem relayK (el : Els knd) {o : Obj} (ho : s.heap.get? a = some o) (hex : o.ExactSet) (hd : o.data = .set es ep t) (hrows : es.toList = rowsK knd L) (T : TabOk t (L.map fun p => knd.hash p.1)) (hm : L.length ≤ t.mask)
    (nd : (L.map (·.1)).Nodup) (els : ∀ p ∈ L, knd.is s.heap p.1 p.2) (pl : t.plain = true) (led : w.params.followText "set-order" = true ∨ t.led = true) (few : L.length < 64) {wanted M : Nat}
    (hw : SetTable.sizeAbove wanted - 1 = M) (hM : MaskOk M) (hw2 : SetTable.sizeAbove wanted ≤ 128) (hn : L.length * 5 < M * 3) {Q : Unit → Shared → Prop}
    (hQ : ∀ h' L' es' ep' t', Heap.SameBut a s.heap h' → SetK knd h' a L' es' ep' t' → L'.Perm L → Q () { s with heap := h' }) : wpAny (model P w) A (setRelay a wanted) Q E s := by
  have hsz := rowsK_size hrows
  obtain ⟨t', order, e, hp, T', em, el', ep', _⟩ := relaid_ok t (hs := es.map (·.1)) (wanted := wanted) hw hM (by rw [Array.size_map, hsz]; omega)
  rw [Array.size_map, hsz] at hp
  obtain ⟨L2, r1, r2, r3⟩ := orderK hrows hp
  rw [← r3] at T'
  have hs2 : (order.filterMap (es[·]?)).size = es.size := by rw [rowsK_size r1, r2.length_eq, hsz]
  rw [setRelay_eq]
  refine wpAny_bind (wpAny_setState_of ho hd (fitsK T hrows hm) ?_)
  dsimp only
  refine wp_if_neg (by rw [sizeLine_eq]; omega) ?_
  try refine wpAny_bind (wpAny_pure ?_)
  rw [e]
  dsimp only
  refine wpAny_bind ?_
  refine wp_if_neg (by rw [hs2]; simp) ?_
  try refine wpAny_bind (wpAny_pure ?_)
  refine wpAny_pure ?_
  dsimp only
  refine wpAny_storeSet_of ho hd ?_ (by rw [hs2, hsz, sizeLine_eq]; omega)
  have sb : Heap.SameBut a s.heap (s.heap.update a (Obj.putSet (order.filterMap (es[·]?)) t')) := Heap.SameBut.update ..
  exact hQ _ L2 _ (ep + 1) t' sb ⟨⟨_, store_at ho hd, ⟨hex.1, hex.2.1, hex.2.2⟩, rfl⟩, r1, T', (r2.map (·.1)).nodup_iff.mpr nd, fun p hpm => el.stay (els p (r2.mem_iff.mp hpm)) ho hd sb, by rw [ep']; exact pl, by rw [el']; exact led, by rw [r2.length_eq, em]; exact hn, by rw [r2.length_eq]; exact few⟩ r2
/-- ADDING an element whose hash is known -/
theorem addK (el : Els knd) (R : SetK knd s.heap a L es ep t) {x : Addr} {k : κ} (hx : knd.is s.heap k x) (hr : knd.room A) (few : L.length + 1 < 64) {Q : Bool → Shared → Prop}
    (hQ : ∀ b h' L' es' ep' t', Heap.SameBut a s.heap h' → SetK knd h' a L' es' ep' t' → (k ∈ L.map (·.1) → L' = L) → (k ∉ L.map (·.1) → L'.Perm ((k, x) :: L)) → Q b { s with heap := h' }) :
    wpAny (model P w) A (setAddHashed a (.ref x) (knd.hash k)) Q E s := by
  obtain ⟨o, ho, hex, hd⟩ := R.ob
  have room := R.room
  unfold setAddHashed
  refine wpAny_holding ?_
  rw [show (100000 : Nat) = 99999 + 1 from rfl, setAddHashedIn_succ]
  refine wpAny_bind (wpAny_setState_of ho hd R.fits ?_)
  dsimp only
  refine wp_if_neg (by simp [byScan, Value.scannable]) ?_
  try refine wpAny_bind (wpAny_pure ?_)
  refine wpAny_bind (lookK el R hx hr (fun hm => ?_) fun N hm hN hb => ?_)
  · dsimp only
    exact wpAny_pure (hQ false s.heap L es ep t (Heap.SameBut.refl a s.heap) R (fun _ => rfl) fun z => absurd hm z)
  dsimp only
  refine wpAny_bind (wpAny_setState_of ho hd R.fits ?_)
  dsimp only
  obtain ⟨q1, q2, q3, q4, q5, q6, _, _, q9⟩ := R.tab.put hN hb
  rw [← List.map_take, ← List.map_drop, ← List.map_cons (f := fun p : κ × Addr => knd.hash p.1) (a := (k, x)), ← List.map_append] at q3
  rw [List.length_map] at q9
  generalize hpt : t.put (way t.mask (knd.hash k) N) = pt at q1 q3 q4 q5 q6 q9 ⊢
  obtain ⟨t1, p⟩ := pt
  dsimp only at q1 q3 q4 q5 q6 q9 ⊢
  have pl1 : t1.plain = true := q6.trans R.pl
  have ins : (SetTable.insertAt es p (knd.hash k, Value.ref x)).toList = rowsK knd (L.take p ++ (k, x) :: L.drop p) := by
    rw [SetTable.toList_insertAt, R.rows]
    unfold rowsK
    rw [List.map_append, List.map_cons, List.map_take, List.map_drop]
  rw [← q1] at q3
  have pm : (L.take p ++ (k, x) :: L.drop p).Perm ((k, x) :: L) := by
    have h : (L.take p ++ (k, x) :: L.drop p).Perm ((k, x) :: (L.take p ++ L.drop p)) := List.perm_middle
    rwa [List.take_append_drop] at h
  first
    | (refine wpAny_bind ?_; refine wp_if_pos pl1 ?_; refine el.byV hx ?_)
    | refine wp_if_pos pl1 (wpAny_bind (el.byV hx ?_))
  simp only [if_true]
  generalize SetTable.insertAt es p (knd.hash k, Value.ref x) = es1 at ins ⊢
  generalize L.take p ++ (k, x) :: L.drop p = L1 at pm q3 ins
  have len : L1.length = L.length + 1 := pm.length_eq
  have nd1 : (L1.map (·.1)).Nodup := (pm.map (·.1)).nodup_iff.mpr (by rw [List.map_cons]; exact List.nodup_cons.mpr ⟨hm, R.nd⟩)
  have hes : es1.size = L.length + 1 := (rowsK_size ins).trans len
  refine wpAny_bind (wpAny_storeSet_of ho hd ?_ (by rw [hes, sizeLine_eq]; omega))
  have sb : Heap.SameBut a s.heap (s.heap.update a (Obj.putSet es1 t1)) := Heap.SameBut.update ..
  have ho1 := store_at (es' := es1) (t' := t1) ho hd
  generalize s.heap.update a (Obj.putSet es1 t1) = h1 at sb ho1 ⊢
  have els1 : ∀ p ∈ L1, knd.is h1 p.1 p.2 := fun p hp => by
    rcases List.mem_cons.mp (pm.mem_iff.mp hp) with e | hp
    · rw [e]
      exact el.stay hx ho hd sb
    · exact el.stay (R.els p hp) ho hd sb
  have led1 : w.params.followText "set-order" = true ∨ t1.led = true := by rw [q5]; exact R.led
  by_cases hf : t1.tooFull = true
  · have full : (L.length + 1) * 5 ≥ t1.mask * 3 := by
      have h := hf
      unfold SetTable.tooFull at h
      rw [decide_eq_true_eq, q9] at h
      exact h
    have two : (t.mask = 7 ∧ L.length = 4) ∨ (t.mask = 31 ∧ L.length = 18) := by
      rw [q4] at full
      rcases R.tab.mok with e | e | e <;> rw [e] at full room
      · exact .inl ⟨e, by omega⟩
      · exact .inr ⟨e, by omega⟩
      · omega
    have go : ∀ M, SetTable.sizeAbove (SetTable.grown (L.length + 1)) - 1 = M → MaskOk M → SetTable.sizeAbove (SetTable.grown (L.length + 1)) ≤ 128 → (L.length + 1) * 5 < M * 3 →
        wpAny (model P w) A (setRelay a (SetTable.grown (L.length + 1))) (fun _ s' => wpAny (model P w) A (pure true) Q E s') E { s with heap := h1 } := fun M z1 z2 z3 z4 => by
      refine relayK (s := { s with heap := h1 }) el ho1 ⟨hex.1, hex.2.1, hex.2.2⟩ rfl ins q3 (by rw [len, q4]; rcases two with ⟨e, e2⟩ | ⟨e, e2⟩ <;> omega) nd1 els1 pl1 led1 (by rw [len]; exact few) z1 z2 z3 (by rw [len]; exact z4) ?_
      intro h2 L2 es2 ep2 t2 sb2 R2 pm2
      exact wpAny_pure (hQ true h2 L2 es2 ep2 t2 (sb.trans sb2) R2 (fun z => absurd z hm) fun _ => pm2.trans pm)
    rw [rowsK_size R.rows]
    first
      | (refine wpAny_bind ?_; refine wp_if_pos (by simp [hf]) ?_)
      | (refine wp_if_pos (by simp [hf]) ?_; refine wpAny_bind ?_)
    rcases two with ⟨_, e2⟩ | ⟨_, e2⟩
    · exact go 31 (by rw [e2, size_20]) (.inr (.inl rfl)) (by rw [e2, size_20]; decide) (by omega)
    · exact go 127 (by rw [e2, size_76]) (.inr (.inr rfl)) (by rw [e2, size_76]; decide) (by omega)
  · have notFull : ¬ (L.length + 1) * 5 ≥ t1.mask * 3 := fun z => hf (by
      unfold SetTable.tooFull
      rw [decide_eq_true_eq, q9]
      exact z)
    first
      | refine wp_if_neg (by simp [hf]) ?_
      | (refine wpAny_bind ?_; refine wp_if_neg (by simp [hf]) ?_; refine wpAny_pure ?_)
    exact wpAny_pure (hQ true h1 L1 es1 (ep + 1) t1 sb ⟨⟨_, ho1, ⟨hex.1, hex.2.1, hex.2.2⟩, rfl⟩, ins, q3, nd1, els1, pl1, led1, by rw [len]; omega, by rw [len]; exact few⟩ (fun z => absurd z hm) fun _ => pm)
/-- a new set -/
theorem freshK {h : Heap} {a : Addr} (ho : h.get? a = some { cls := .type "set", dict := none, data := .set #[] 0 (.fresh 0 0 (!w.params.followText "set-order")) }) : SetK knd h a [] #[] 0 (.fresh 0 0 (!w.params.followText "set-order")) where
  ob := ⟨_, ho, ⟨rfl, rfl, rfl⟩, rfl⟩
  rows := rfl
  tab := ⟨List.Pairwise.nil, rfl, rfl, .inl rfl, fun x hx => (by cases hx), fun i h j hi => (by simp at hi)⟩
  nd := List.nodup_nil
  els := fun p hp => (by cases hp)
  pl := rfl
  led := by
    show _ ∨ (!w.params.followText "set-order") = true
    cases w.params.followText "set-order"
    · exact .inr rfl
    · exact .inl rfl
  room := by
    show 0 * 5 < 7 * 3
    decide
  few := by
    show 0 < 64
    decide
end
end Hb

set_option Elab.async false
set_option linter.all false
set_option maxRecDepth 100000
set_option maxHeartbeats 4000000
/-! Sets of nested tuples over the abstract heap: add, the comprehension, sorted. -/
namespace Hb
open PySem L2 PyProof.Rows

/-- the set at a: its elements' keys and addresses, in the table's order -/
structure SetK0 (P : Program) (w : World) (h : Heap) (a : Addr) (L : List (NestedKey × Addr)) : Prop where
  ex : ∃ (es : Array (Int × Value)) (ep : Nat) (t : SetTable), (∃ o, h.get? a = some o ∧ o.ExactSet ∧ o.data = .set es ep t) ∧ es.toList = rowsK (numKind P w) L ∧ TabOk t (L.map fun p => (numKind P w).hash p.1) ∧ (L.map (·.1)).Nodup ∧ t.plain = true ∧
    (w.params.followText "set-order" = true ∨ t.led = true) ∧ L.length * 5 < t.mask * 3 ∧ L.length < 64
/-- .. as an object of the abstract heap -/
def SN (P : Program) (w : World) (a : Addr) (L : List (NestedKey × Addr)) : HO := .ext fun h => SetK0 P w h a L
theorem SetK.k0 {P : Program} {w : World} {h : Heap} {a : Addr} {L : List (NestedKey × Addr)} {es : Array (Int × Value)} {ep : Nat} {t : SetTable} (R : SetK (numKind P w) h a L es ep t) : SetK0 P w h a L := ⟨es, ep, t, R.ob, R.rows, R.tab, R.nd, R.pl, R.led, R.room, R.few⟩
theorem SetK0.full {P : Program} {w : World} {h : Heap} {a : Addr} {L : List (NestedKey × Addr)} (R : SetK0 P w h a L) (he : ∀ p ∈ L, (numKind P w).is h p.1 p.2) : ∃ es ep t, SetK (numKind P w) h a L es ep t := by
  obtain ⟨es, ep, t, h1, h2, h3, h4, h5, h6, h7, h8⟩ := R.ex
  exact ⟨es, ep, t, h1, h2, h3, h4, he, h5, h6, h7, h8⟩
theorem sn_new {P : Program} {w : World} {H : Hp} {h : Heap} {a : Addr} {L : List (NestedKey × Addr)} (R : SetK0 P w h a L) : ObjOk P w H h a (SN P w a L) := by
  have ⟨es, ep, t, ⟨o, ho, r⟩, q⟩ := R.ex
  refine ⟨R, ⟨o, ho⟩, fun h1 h2 p k => ?_⟩
  have ⟨es', ep', t', ⟨o', ho', r'⟩, q'⟩ := SetK0.ex p
  exact ⟨es', ep', t', ⟨o', k o' ho', r'⟩, q'⟩
/-- an element as the abstract heap tells it -/
def ElN (H : Hp) (p : NestedKey × Addr) : Prop := NK H p.1 (.ref p.2) ∧ p.1.depth ≤ 8 ∧ noTx p.1 = true
theorem ElN.is {P : Program} {w : World} {H : Hp} {h : Heap} (ok : HOk P w H h) {p : NestedKey × Addr} (e : ElN H p) : (numKind P w).is h p.1 p.2 := ⟨⟨NK.is ok e.1 rfl, e.2.1⟩, e.2.2⟩

section
variable {X : Cx} {pins : List (Addr × Obj)} {σ : L2.St} {H : Hp} {s : Shared} {E : Value → Shared → Prop} {D : Addr} {L : List (NestedKey × Addr)}
theorem sn_get (I : Inv X pins σ H s) (hD : H D = some (SN X.prog X.w D L)) : SetK0 X.prog X.w s.heap D L := (I.hok D _ hD).1
/-- what the set is behind the adding of p -/
def AddN (L : List (NestedKey × Addr)) (p : NestedKey × Addr) (L' : List (NestedKey × Addr)) : Prop := (p.1 ∈ L.map (·.1) → L' = L) ∧ (p.1 ∉ L.map (·.1) → L'.Perm (p :: L))
/-- set.add -/
theorem addN_ok {A : Around} {p : NestedKey × Addr} {Q : Value → Shared → Prop} (hu : A.units + 64 < cLine) (I : Inv X pins σ H s) (hD : H D = some (SN X.prog X.w D L)) (hL : ∀ e ∈ L, ElN H e) (hp : ElN H p) (few : L.length + 1 < 64)
    (h : ∀ L' s', AddN L p L' → Inv X pins σ (upd H D (SN X.prog X.w D L')) s' → Q .none s') : wpAny (model X.prog X.w) A (call (.builtin "set.add") [.ref D, .ref p.2]) Q E s := by
  obtain ⟨es, ep, t, R⟩ := (sn_get I hD).full fun e he => (hL e he).is I.hok
  obtain ⟨o, ho, hex, hd⟩ := R.ob
  have hk := hp.is (P := X.prog) (w := X.w) I.hok
  refine wpAny_call_entry F.slot_set_add ⟨o, ho, hex.1⟩ F.entry_set_add ?_ (F.args_set_add_2 _ _)
  unfold Builtin.«set.add» Builtin.Frozenset.oneOther
  simp only [List.isEmpty_nil, bind_assoc]
  unfold Builtin.Frozenset.addrOf setAdd
  refine wpAny_bind (wpAny_pure ?_)
  try dsimp only
  refine wpAny_bind (wpAny_pure ?_)
  try dsimp only
  refine wpAny_bind ?_
  refine wpAny_holding ?_
  refine wpAny_bind ((numKind X.prog X.w).pyHash (by show A.in1.units + 8 < cLine; rw [Around.in1_units]; omega) hk ?_)
  refine addK (s := { s with toks := s.toks + (numKind X.prog X.w).draws p.1 }) (knd := numKind X.prog X.w) els_num R hk (by show A.in1.units + 8 < cLine; rw [Around.in1_units]; omega) few fun b h' L' es' ep' t' sb R' e1 e2 => ?_
  show wpAny _ _ (ret Value.none) _ _ _
  refine wpAny_pure ⟨_, rfl, h L' _ ⟨e1, e2⟩ ?_⟩
  have ⟨o', ho', _⟩ := R'.ob
  exact I.write (e := D) (by rw [hD]; trivial) (.inl rfl) (fun b u hb hu => (sb.2 b hb).trans hu) ⟨o', ho'⟩ (sn_new R'.k0)
end

/-! ### the comprehension -/
/-- {elt for target in iter if ..}, each elt a nested tuple -/
def tSn (P : Program) (w : World) (wi : TI) (g : TG) (tt : TT) (te : TE) (vs : List Nat) : TE := fun σ H Q => wi σ H fun J H1 => ∀ D, H1 D = none → ∃ W : Nat → Nat → Hp → Prop, (∃ m, W 0 m (upd H1 D (SN P w D []))) ∧ ∀ i m H, W i m H →
  (J.stop i H ∧ Q (.ref D) H) ∨ (J.go i H ∧ ∃ Nx : Hp → Prop, (∀ H', Nx H' → ∃ m', m' < m ∧ W (i + 1) m' H') ∧ ∀ x H', J.yld i H x H' → g x (wipe σ vs) H' fun σ2 H2 => wipe σ2 vs = wipe σ vs ∧ tt σ2 H2 fun b H3 =>
    if b = true then te σ2 H3 fun y H4 => ∃ (L : List (NestedKey × Addr)) (p : NestedKey × Addr), y = .ref p.2 ∧ H4 D = some (SN P w D L) ∧ (∀ e ∈ L, ElN H4 e) ∧ ElN H4 p ∧ L.length + 1 < 64 ∧ ∀ L', AddN L p L' → Nx (upd H4 D (SN P w D L')) else Nx H3)
section
open PpSet
variable {X : Cx}
theorem pe_sn {elt tg iter : Expr} {ifs : List Expr} {scope : Scope} {own : List (Str × Nat)} {pos : Pos} {wi : TI} {g : TG} {tt : TT} {te : TE} (hc : X.calm = true) (hu : X.A.units + 64 < cLine) (hN : X.N.Nodup) (hi : PI X tg iter wi) (ok : BlkOk X.N X.env.scope scope own)
    (hg : ∀ (s : Shared) (H : Hp) (C : Addr) (cl : List (Str × Addr)) (fp : List Addr), PG (X.blk s H scope (compEnvC scope cl C X.env) fp) tg g) (ht : ∀ (s : Shared) (H : Hp) (C : Addr) (cl : List (Str × Addr)) (fp : List Addr), PTs (X.blk s H scope (compEnvC scope cl C X.env) fp) ifs tt)
    (he : ∀ (s : Shared) (H : Hp) (C : Addr) (cl : List (Str × Addr)) (fp : List Addr), PE (X.blk s H scope (compEnvC scope cl C X.env) fp) elt te) (hs : ∀ x, foldedSetIterable iter X.env x = pure x := by intro _; rfl) :
    PE X (.SetComp elt [⟨tg, iter, ifs, 0⟩] scope pos) (tSn X.prog X.w wi g tt te (own.map (·.2))) := by
  refine ⟨fun pins s σ H Q I h => ?_⟩
  rw [eval_SetComp]
  have hfree : ∀ y ∈ scope.names, y.2 = .free → ∃ c, X.env.cells.lookup y.1 = some c := fun y hy e => by
    rcases ok.free y hy e with k | k
    · exact I.ok.has _ (.inl k)
    · exact I.ok.has _ (.inr k)
  refine wpAny_comprehension_free (use := none) rfl hs (closure_ok hfree) ok.kind (fun y hy e => by rw [ok.uniq y hy, e]) (thn (hi.run pins s σ H _ I h) fun xv s1 hx => thn hx fun itv s2 h2 => ?_)
  obtain ⟨it, fp, tn, J, H2, rfl, I2, T, st2, f2, q⟩ := h2
  refine newSet_ok (newEnv_comp ?_)
  obtain ⟨D, hD⟩ : ∃ D, D = s2.heap.objs.size := ⟨_, rfl⟩
  rw [← hD]
  obtain ⟨W, ⟨m0, w0⟩, turn⟩ := q D (I2.hok.fresh (Nat.le_of_eq hD.symm))
  have grown : ∀ b o, s2.heap.get? b = some o → (s2.heap.push { cls := .type "set", dict := none, data := .set #[] 0 (.fresh 0 0 (!X.w.params.followText "set-order")) }).get? b = some o := fun b o e => Heap.get?_push_of_some _ e
  have I3 : Inv X pins σ (upd H2 D (SN X.prog X.w D [])) { s2 with heap := s2.heap.push { cls := .type "set", dict := none, data := .set #[] 0 (.fresh 0 0 (!X.w.params.followText "set-order")) } } :=
    I2.laid (t' := s2.toks) grown (Nat.le_of_eq hD.symm) (sn_new (freshK (knd := numKind X.prog X.w) (by rw [hD]; exact Heap.get?_push_size _ rfl)).k0)
  have f3 : ∀ b ∈ fp, FpOk X pins (upd H2 D (SN X.prog X.w D [])) b ∧ b < (s2.heap.push { cls := .type "set", dict := none, data := .set #[] 0 (.fresh 0 0 (!X.w.params.followText "set-order")) }).objs.size := fun b hb => by
    obtain ⟨o, e, _⟩ := T.obj _ _ st2 b hb
    have hlt := Heap.lt_size e
    refine ⟨⟨?_, (f2 b hb).2⟩, by rw [Heap.size_push]; exact Nat.lt_succ_of_lt hlt⟩
    rw [upd_ne (by rw [hD]; exact Nat.ne_of_lt hlt)]
    exact (f2 b hb).1
  have st3 := T.keep _ _ _ st2 fun b _ o e => grown b o e
  obtain ⟨s3, hs3⟩ : ∃ s3 : Shared, s3 = { s2 with heap := s2.heap.push { cls := .type "set", dict := none, data := .set #[] 0 (.fresh 0 0 (!X.w.params.followText "set-order")) } } := ⟨_, rfl⟩
  obtain ⟨H3, hH3⟩ : ∃ H3 : Hp, H3 = upd H2 D (SN X.prog X.w D []) := ⟨_, rfl⟩
  rw [← hH3] at I3 w0
  rw [← hs3] at I3
  have st3' : tn 0 s3.heap := by rw [hs3]; exact st3
  have f3' : ∀ b ∈ fp, FpOk X pins H3 b ∧ b < s3.heap.objs.size := fun b hb => by rw [hH3, hs3]; exact f3 b hb
  have I4 := block_start I3 ok hN f3'
  show codeAny _ _ (.compStart (.SetComp elt [⟨tg, iter, ifs, 0⟩] scope pos) 0 (.ref it) (.ref D) (compEnvC scope (cellsFrom ((s2.heap.push { cls := .type "set", dict := none, data := .set #[] 0 (.fresh 0 0 (!X.w.params.followText "set-order")) }).objs.size + 1) scope.names (cloFrom X.env.cells scope.names [])) (s2.heap.push { cls := .type "set", dict := none, data := .set #[] 0 (.fresh 0 0 (!X.w.params.followText "set-order")) }).objs.size X.env))
    (compPost (model X.prog X.w) X.A X.xe none (EP X pins σ Q) (.ref D) (s2.heap.push { cls := .type "set", dict := none, data := .set #[] 0 (.fresh 0 0 (!X.w.params.followText "set-order")) }).objs.size)
    { s2 with heap := pushCells ((s2.heap.push { cls := .type "set", dict := none, data := .set #[] 0 (.fresh 0 0 (!X.w.params.followText "set-order")) }).push { cls := .type "dict", data := .dict #[] }) scope.names }
  have hh3 : s2.heap.push { cls := .type "set", dict := none, data := .set #[] 0 (.fresh 0 0 (!X.w.params.followText "set-order")) } = s3.heap := by rw [hs3]
  have hst : ({ s2 with heap := pushCells ((s2.heap.push { cls := .type "set", dict := none, data := .set #[] 0 (.fresh 0 0 (!X.w.params.followText "set-order")) }).push { cls := .type "dict", data := .dict #[] }) scope.names } : Shared) = { s3 with heap := pushCells (s3.heap.push { cls := .type "dict", data := .dict #[] }) scope.names } := by rw [hs3]
  rw [hst, hh3]
  have pg := hg s3 H3 s3.heap.objs.size (cellsFrom (s3.heap.objs.size + 1) scope.names (cloFrom X.env.cells scope.names [])) fp
  have pt := ht s3 H3 s3.heap.objs.size (cellsFrom (s3.heap.objs.size + 1) scope.names (cloFrom X.env.cells scope.names [])) fp
  have pe := he s3 H3 s3.heap.objs.size (cellsFrom (s3.heap.objs.size + 1) scope.names (cloFrom X.env.cells scope.names [])) fp
  generalize hce : compEnvC scope (cellsFrom (s3.heap.objs.size + 1) scope.names (cloFrom X.env.cells scope.names [])) s3.heap.objs.size X.env = ce at I4 pg pt pe ⊢
  have cL : ce.locals = s3.heap.objs.size := by subst hce; rfl
  generalize hs4 : ({ s3 with heap := pushCells (s3.heap.push { cls := .type "dict", data := .dict #[] }) scope.names } : Shared) = s4 at I4 ⊢
  have st4 : tn 0 s4.heap := T.keep _ _ _ st3' fun b _ o e => by rw [← hs4]; exact pushCells_keeps _ _ _ _ (Heap.get?_push_of_some _ e)
  have nfp : ∀ b ∈ fp, H3 b = none := fun b hb => (f3' b hb).1.1
  have stat : ∀ {σ' : L2.St} {H' : Hp} {s' : Shared}, Inv (X.blk s3 H3 scope ce fp) [] σ' H' s' → (∀ b ∈ fp, H' b = none) → ∀ b ∈ fp, FpOk (X.blk s3 H3 scope ce fp) [] H' b := fun {σ' H' s'} I' hn b hb =>
    ⟨hn b hb, (I'.ok.exf b hb).1, I'.ok.exfs b hb, .inl hb, fun x c e => (I'.ok.exf b hb).2 x c e, fun p hp => absurd (show p ∈ ([] : List (Addr × Obj)) ++ [] from hp) (by simp)⟩
  have loop : codeAny (model X.prog X.w) X.A (.compLoop (.SetComp elt [⟨tg, iter, ifs, 0⟩] scope pos) 0 (.ref it) (.ref D) ce) (compPost (model X.prog X.w) X.A X.xe none (EP X pins σ Q) (.ref D) s3.heap.objs.size) s4 := by
    refine compLoopS_any (fun n s' => ∃ i H', Inv (X.blk s3 H3 scope ce fp) [] (wipe σ (own.map (·.2))) H' s' ∧ tn i s'.heap ∧ (∀ b ∈ fp, H' b = none) ∧ W i n H') ?_ m0 ⟨0, H3, I4, st4, nfp, w0⟩
    rintro n s5 ⟨i, H5, I5, st5, n5, w5⟩
    rcases turn i n H5 w5 with ⟨stop, qq⟩ | ⟨go, Nx, hNx, step⟩
    · refine thnF (T.done (X.blk s3 H3 scope ce fp) rfl rfl rfl hc i [] s5 _ H5 (fun _ _ => False) I5 (stat I5 n5) st5 stop) fun r s6 ⟨hr, I6⟩ => ?_
      subst hr
      have I7 : Inv X pins σ H5 s6 := I3.call' (ch := fp) I6.os I6.base I6.hok I6.bare fun b hb => ⟨(f3' b hb).1.2.2.2.1, (f3' b hb).1.2.1, (f3' b hb).1.2.2.2.2.1, (f3' b hb).1.2.2.2.2.2⟩
      have nC : H5 s3.heap.objs.size = none := by
        have z : H5 ce.locals = none := I6.free
        rwa [cL] at z
      obtain ⟨m, hn, _⟩ := I6.loc
      have hn' : s6.heap.Ns ce.locals m := hn
      rw [cL] at hn'
      obtain ⟨z0, z1, _, z3, z4, z5⟩ := I3.fpOk (Nat.le_refl _) nC
      exact ⟨m, hn', fun h'' sb => ⟨.ref D, H5, I7.turned (t' := s6.toks) (fun b o hb e => (sb.2 b hb).trans e) z0 z1 z3 z4 z5, rfl, qq⟩⟩
    · refine thnF (T.item (X.blk s3 H3 scope ce fp) rfl rfl rfl hc i [] s5 _ H5 (fun _ _ => False) I5 (stat I5 n5) st5 go) fun r s6 ⟨u, hr, h6⟩ => ?_
      subst hr
      refine thnF h6 fun _ s7 ⟨x, H7, I7, r7, y7, st7, n7⟩ => ?_
      refine thnF (pg.run _ s7 _ H7 x u _ (I7.pinned (stat I7 n7) (T.obj _ _ st7)) r7 (step x H7 y7)) fun _ s8 ⟨σ8, H8, I8, hw8, q8⟩ => ?_
      refine thnF (pt.run _ s8 σ8 H8 _ I8 q8) fun b s9 ⟨H9, I9, q9⟩ => ?_
      have fin : ∀ {s' : Shared} {H' : Hp}, Inv (X.blk s3 H3 scope ce fp) ([] ++ pinsAt fp s7.heap) σ8 H' s' → Nx H' → ∃ m, m < n ∧ ∃ i H', Inv (X.blk s3 H3 scope ce fp) [] (wipe σ (own.map (·.2))) H' s' ∧ tn i s'.heap ∧ (∀ b ∈ fp, H' b = none) ∧ W i m H' := fun {s' H'} I' nx => by
        obtain ⟨m', hm, w'⟩ := hNx H' nx
        have pin' : ∀ b ∈ fp, ∀ o, s7.heap.get? b = some o → s'.heap.get? b = some o ∧ H' b = none := fun b hb o e =>
          let z := I'.pin (b, o) (List.mem_append_right _ (List.mem_append_right _ (mem_pinsAt hb e)))
          ⟨z.1, z.2.1⟩
        have hl : (wipe σ (own.map (·.2))).length = σ8.length := by rw [← hw8, wipe_length]
        refine ⟨m', hm, i + 1, H', (I'.unpinned (pins := [])).weak hl (fun j v e => ?_), T.keep _ _ _ st7 fun b hb o e => (pin' b hb o e).1, fun b hb => ?_, w'⟩
        · rw [← hw8] at e
          exact (wipe_some e).1
        · obtain ⟨o, e, _⟩ := T.obj _ _ st7 b hb
          exact (pin' b hb o e).2
      cases b with
      | false =>
        simp only [Bool.false_eq_true, if_false] at q9 ⊢
        exact fin I9 q9
      | true =>
        simp only [if_true] at q9 ⊢
        refine thnF (pe.run _ s9 σ8 H9 _ I9 q9) fun z s10 ⟨yv, H10, I10, r10, L, p, ey, hDL, hL, hp, few, nx⟩ => ?_
        subst ey
        obtain rfl : z = Value.ref p.2 := r10
        exact addN_ok (X := X.blk s3 H3 scope ce fp) hu I10 hDL hL hp few fun L' s11 hA I11 => fin I11 (nx L' hA)
  exact codeAny_compStart_set loop (T.self X.A 0 _ _ _ st4 loop)
end

/-! ### sorted of such a set -/
/-- sorted(s): the elements by the order of their ints, all of one shape -/
def rSortSN (P : Program) (w : World) (c : Option Nat) (sh : List (Option Nat)) : List V → Hp → VK → Prop := fun vs H Q => ∃ (a : Addr) (L : List (NestedKey × Addr)) (k : V → List Itm), vs = [V.ref a] ∧ H a = some (SN P w a L) ∧ (∀ e ∈ L, NK H e.1 (.ref e.2) ∧ e.1 = nkK (k (.ref e.2)) ∧ (k (.ref e.2)).map shp = c :: sh) ∧
  ∀ ys p, SrtO.Srtd (ltK k) ys → ys.Perm (L.map fun e => V.ref e.2) → (L.map (·.1)).Nodup → H p = none → Q (.ref p) (upd H p (.lst ys))
section
variable {X : Cx} {c : Option Nat} {sh : List (Option Nat)} {P : Program} {w : World}
theorem cr_sortSN (hc : X.calm = true) (hu : X.A.units + 64 < cLine) (hP : X.prog = P := by rfl) (hw : X.w = w := by rfl) : CallR X (.builtin "sorted") (rSortSN P w c sh) := by
  subst hP hw
  intro pins s σ H vs us Q I r h
  obtain ⟨a, L, k, rfl, ha, hx, q⟩ := h
  obtain ⟨u, rfl, ru⟩ := vals1 r
  obtain rfl : u = Value.ref a := ru
  obtain ⟨es, ep, t, ⟨o, ho, hex, hd⟩, rows, T, nd, _, led, room, few⟩ := (sn_get I ha).ex
  have hu2 : X.A.in1.in1.units + 2 < cLine := by
    have e : X.A.in1.in1.units = X.A.units + 1 + 1 := rfl
    omega
  have hsz := rowsK_size rows
  refine Calls.call_function_entry kind_sorted plain_sorted entry_sorted (args_sorted1 _) ?_
  unfold Builtin.«sorted»
  refine wpAny_bind (m := checkCount "sorted" 1 1 _) (wpAny_pure ?_)
  refine wpAny_bind (collect_set (A := X.A.in1) (I.ok.hd hc) ⟨o, ho, hex.1, hd⟩ (fitsK T rows (by omega)) (by unfold scanBound; omega) T.ris led fun s1 acc hk hz g1 o1 pm => ?_)
  have hes : es.toList.map (·.2) = L.map fun e => Value.ref e.2 := by
    rw [rows]
    unfold rowsK
    rw [List.map_map]
    rfl
  rw [hes] at pm
  have hal : acc.length = L.length := by rw [pm.length_eq, List.length_map]
  have I1 : Inv X pins σ H s1 := I.call' (ch := []) o1 (Un.kept hk) (I.hok.kept hk) (by rw [g1]; exact I.bare) (fun _ z => nomatch z)
  have mem : ∀ v ∈ acc, ∃ e ∈ L, Value.ref e.2 = v := fun v hv => List.mem_map.mp (pm.mem_iff.mp hv)
  have hp : ∀ v ∈ acc, K2Is s1.heap (k (backV v)) v ∧ (k (backV v)).map shp = c :: sh := fun v hv => by
    obtain ⟨e, he, rfl⟩ := mem v hv
    obtain ⟨g1, g2, g3⟩ := hx e he
    rw [g2] at g1
    exact ⟨NK.k2 I1.hok g1, g3⟩
  refine wpAny_bind (wpAny_newList ?_ (by rw [hal, sizeLine_eq]; omega))
  have hoL : (s1.heap.push (seqObj "list" acc.toArray 0)).get? s1.heap.objs.size = some (seqObj "list" acc.toArray 0) := Heap.get?_push_size _ rfl
  refine wpAny_bind (wpAny_holding (wpAny_call_entry slot_list_sort ⟨_, hoL, rfl⟩ entry_list_sort
    (SrtO.list_sort_ord (s := { s1 with heap := s1.heap.push (seqObj "list" acc.toArray 0) }) (ltv := fun v u => lexI (flK (k (backV v))) (flK (k (backV u)))) (swo_lexI fun v => flK (k (backV v))) hoL (by rw [hal, sizeLine_eq]; omega) (fun g0 => ?_) fun out g1' g2 => ⟨_, rfl, ?_⟩) (args_list_sort _)))
  · refine k2_sortable (s := { s1 with heap := s1.heap.push (seqObj "list" acc.toArray 0) }) hu2 (by omega) (fun v hm => ⟨(hp v hm).1.keeps fun b o e _ => Heap.get?_push_of_some _ e, (hp v hm).2⟩) fun o e => ?_
    have e' : some o = some (seqObj "list" acc.toArray 0) := e.symm.trans hoL
    cases e'
    intro cc
    exact absurd (Value.type.inj cc) (by decide)
  · obtain ⟨e', he'⟩ := sortedHeap_at (vs := acc) (out := out.toArray) hoL
    have g3 : ∀ u ∈ out, ∃ a, u = Value.ref a := fun u hu => by
      obtain ⟨e, _, rfl⟩ := mem u (g2.perm.mem_iff.mp hu)
      exact ⟨_, rfl⟩
    have hb : (out.map backV).Perm (L.map fun e => V.ref e.2) := by
      have hm := (g2.perm.trans pm).map backV
      rw [List.map_map] at hm
      exact hm
    refine wpAny_pure ⟨_, rfl, .ref s1.heap.objs.size, upd H s1.heap.objs.size (.lst (out.map backV)), I1.laid (t' := s1.toks) (fun b u e => ?_) (Nat.le_refl _)
      (show ObjOk X.prog X.w _ _ _ (.lst (out.map backV)) from ⟨?_, out, e', vals_back g3, he'⟩), rfl, q _ _ (SrtO.srtd_map g1') hb nd (I1.hok.fresh (Nat.le_refl _))⟩
    · have hlt : b < s1.heap.objs.size := Heap.lt_size e
      rw [sortedHeap_old (Nat.ne_of_lt hlt) (by rw [size_push']; exact Nat.lt_succ_of_lt hlt)]
      exact Heap.get?_push_of_some _ e
    · rw [hb.length_eq, List.length_map, sizeLine_eq]
      omega
end
end Hb

set_option Elab.async false
set_option linter.all false
set_option maxRecDepth 100000
set_option maxHeartbeats 4000000
/-! More steps: zip over tuples, a star in a display, set comprehensions; a comprehension's turns for any body. -/
namespace Hb
open PySem L2 PyProof.Rows
theorem Hs.keep {B H H' : Hp} {L : List (Addr × HO)} (hs : Hs B L H) (e : Same H H') : Hs B L H' := ⟨hs.same.trans e, hs.nd, hs.out, fun x hx => e _ _ (hs.at_ x hx)⟩

/-! ### rules that name K -/
section
variable {X : Cx} {K : PySem.W.Frag}
theorem pi_zipK {e e2 : Expr} {ta : TA} {p pos tpos : Pos} {elts : List Expr} {kk : Nat} (hg : Gl X "zip") (hm : X.mg "zip" = none) (ha : PA X [e, e2] ta) (hK : X.K = K := by rfl)
    (hs : starEach [e, e2] X.env = (false, eval e X.env) :: starEach [e2] X.env := by rfl) (hpl : (backTo pos (starEach [e2] X.env)).any (·.1) = false := by rfl) :
    PI X (.Tuple elts kk tpos) (.Call (.Name "zip" p) [e, e2] [] pos) (RZ.iZipA K ta) := by
  subst hK
  exact RZ.pi_zipA hg hm ha hs hpl
theorem pa_starK {e : Expr} {es : List Expr} {te : TE} {t : TA} {p : Pos} (he : PE X e te) (hr : PA X es t) (hK : X.K = K := by rfl) (hs : starEach (.Starred e p :: es) X.env = (true, eval e X.env) :: starEach es X.env := by rfl) : PA X (.Starred e p :: es) (StX.tStar K te t) := by
  subst hK
  exact StX.pa_star he hr hs
theorem pe_snK {P : Program} {w : World} {elt tg iter : Expr} {ifs : List Expr} {scope : Scope} {own : List (Str × Nat)} {pos : Pos} {wi : TI} {g : TG} {tt : TT} {te : TE} (hc : X.calm = true) (hu : X.A.units + 64 < cLine) (hN : X.N.Nodup) (hi : PI X tg iter wi) (ok : BlkOk X.N X.env.scope scope own)
    (hg : ∀ (s : Shared) (H : Hp) (C : Addr) (cl : List (Str × Addr)) (fp : List Addr), PG (X.blk s H scope (compEnvC scope cl C X.env) fp) tg g) (ht : ∀ (s : Shared) (H : Hp) (C : Addr) (cl : List (Str × Addr)) (fp : List Addr), PTs (X.blk s H scope (compEnvC scope cl C X.env) fp) ifs tt)
    (he : ∀ (s : Shared) (H : Hp) (C : Addr) (cl : List (Str × Addr)) (fp : List Addr), PE (X.blk s H scope (compEnvC scope cl C X.env) fp) elt te) (hP : X.prog = P := by rfl) (hw : X.w = w := by rfl) (hs : ∀ x, foldedSetIterable iter X.env x = pure x := by intro _; rfl) :
    PE X (.SetComp elt [⟨tg, iter, ifs, 0⟩] scope pos) (tSn P w wi g tt te (own.map (·.2))) := by
  subst hP hw
  exact pe_sn hc hu hN hi ok hg ht he hs
theorem cr_sumK (hc : X.calm = true) (hK : X.K = K := by rfl) : CallR X (.builtin "sum") (rSum K) := by
  subst hK
  exact cr_sum hc
theorem cr_sortedIK (hK : X.K = K := by rfl) : CallR X (.builtin "sorted") (rSortedI K) := by
  subst hK
  exact cr_sortedI
end

/-! ### the turns of a comprehension, whatever is done in each -/
section
variable {K : PySem.W.Frag} {a b : Addr} {xs ys : List V} {H0 : Hp} {Qd : Hp → Prop} {Body : (Hp → Prop) → V → Hp → Prop}
/-- what tLc, tSn, tDc ask of an iterator J -/
def Turns (J : It) (Body : (Hp → Prop) → V → Hp → Prop) (H0 : Hp) (Qd : Hp → Prop) : Prop := ∃ W : Nat → Nat → Hp → Prop, (∃ m, W 0 m H0) ∧ ∀ i m H, W i m H →
  (J.stop i H ∧ Qd H) ∨ (J.go i H ∧ ∃ Nx : Hp → Prop, (∀ H', Nx H' → ∃ m', m' < m ∧ W (i + 1) m' H') ∧ ∀ x H', J.yld i H x H' → Body Nx x H')
theorem turns_list (Pv : Nat → Hp → Prop) (h0 : Pv 0 H0) (hl : ∀ i H, i ≤ xs.length → Pv i H → SqL K H a xs) (hs : ∀ i x H, xs[i]? = some x → Pv i H → Body (Pv (i + 1)) x H) (hd : ∀ H, Pv xs.length H → Qd H) : Turns (Itl K a) Body H0 Qd := by
  refine ⟨fun i m H => m = xs.length - i ∧ i ≤ xs.length ∧ Pv i H, ⟨xs.length, by simp, Nat.zero_le _, h0⟩, ?_⟩
  rintro i m H ⟨rfl, hi, p⟩
  have q := hl i H hi p
  by_cases hlt : i < xs.length
  · refine .inr ⟨⟨xs, xs[i], q, by simp [hlt]⟩, Pv (i + 1), fun H' p' => ⟨xs.length - (i + 1), by omega, rfl, hlt, p'⟩, fun x H' y => ?_⟩
    obtain ⟨e, y⟩ := y
    subst e
    exact hs i x _ (y xs q) p
  · have e : i = xs.length := by omega
    subst e
    exact .inl ⟨⟨xs, q, Nat.le_refl _⟩, hd H p⟩
theorem turns_zip (hl : xs.length = ys.length) (Pv : Nat → Hp → Prop) (h0 : Pv 0 H0) (hq : ∀ i H, i ≤ xs.length → Pv i H → H a = some (.tup xs) ∧ H b = some (.tup ys))
    (hs : ∀ i x y T H, xs[i]? = some x → ys[i]? = some y → Pv i H → H T = none → Body (Pv (i + 1)) (.ref T) (upd H T (.tup [x, y]))) (hd : ∀ H, Pv xs.length H → Qd H) : Turns (RZ.ItzT K a b) Body H0 Qd := by
  refine ⟨fun i m H => m = xs.length - i ∧ i ≤ xs.length ∧ Pv i H, ⟨xs.length, by simp, Nat.zero_le _, h0⟩, ?_⟩
  rintro i m H ⟨rfl, hi, p⟩
  obtain ⟨q1, q2⟩ := hq i H hi p
  have qx : SqT K H a xs := SqT.of q1
  have qy : SqT K H b ys := SqT.of q2
  by_cases hlt : i < xs.length
  · have hx : xs[i]? = some xs[i] := List.getElem?_eq_getElem hlt
    have hlt2 : i < ys.length := by omega
    have hy : ys[i]? = some ys[i] := List.getElem?_eq_getElem hlt2
    refine .inr ⟨⟨xs, ys, _, _, qx, qy, hx, hy⟩, Pv (i + 1), fun H' p' => ⟨xs.length - (i + 1), by omega, rfl, hlt, p'⟩, fun v H' y => ?_⟩
    obtain ⟨T, x', y', rfl, hT, rfl, f1, f2⟩ := y
    exact hs i x' y' T H (f1 xs qx) (f2 ys qy) p hT
  · have e : i = xs.length := by omega
    subst e
    exact .inl ⟨⟨xs, ys, qx, qy, Or.inl (Nat.le_refl _)⟩, hd H p⟩
end
section
variable {H0 : Hp} {Qd : Hp → Prop} {Body : (Hp → Prop) → V → Hp → Prop} {d : Addr} {o : Obj} {kvs : List (Key × V)}
theorem turns_vals (Pv : Nat → Hp → Prop) (h0 : Pv 0 H0) (hl : ∀ i H, i ≤ kvs.length → Pv i H → H d = some (.frz o (.dK kvs))) (hs : ∀ i k x H, kvs[i]? = some (k, x) → Pv i H → Body (Pv (i + 1)) x H) (hd : ∀ H, Pv kvs.length H → Qd H) : Turns (Itd d o kvs) Body H0 Qd := by
  refine ⟨fun i m H => m = kvs.length - i ∧ i ≤ kvs.length ∧ Pv i H, ⟨kvs.length, by simp, Nat.zero_le _, h0⟩, ?_⟩
  rintro i m H ⟨rfl, hi, p⟩
  have q := hl i H hi p
  by_cases hlt : i < kvs.length
  · refine .inr ⟨⟨q, hlt⟩, Pv (i + 1), fun H' p' => ⟨kvs.length - (i + 1), by omega, rfl, hlt, p'⟩, fun x H' y => ?_⟩
    obtain ⟨rfl, k, hk⟩ := y
    exact hs i k x _ hk p
  · have e : i = kvs.length := by omega
    subst e
    exact .inl ⟨⟨q, Nat.le_refl _⟩, hd H p⟩
theorem turns_keys (Pv : Nat → Hp → Prop) (h0 : Pv 0 H0) (hl : ∀ i H, i ≤ kvs.length → Pv i H → H d = some (.frz o (.dK kvs))) (hs : ∀ i k x H, kvs[i]? = some (k, x) → Pv i H → Body (Pv (i + 1)) (kV k) H) (hd : ∀ H, Pv kvs.length H → Qd H) : Turns (Itk d o kvs) Body H0 Qd := by
  refine ⟨fun i m H => m = kvs.length - i ∧ i ≤ kvs.length ∧ Pv i H, ⟨kvs.length, by simp, Nat.zero_le _, h0⟩, ?_⟩
  rintro i m H ⟨rfl, hi, p⟩
  have q := hl i H hi p
  by_cases hlt : i < kvs.length
  · refine .inr ⟨⟨q, hlt⟩, Pv (i + 1), fun H' p' => ⟨kvs.length - (i + 1), by omega, rfl, hlt, p'⟩, fun x H' y => ?_⟩
    obtain ⟨rfl, k, v, hk, rfl⟩ := y
    exact hs i k v _ hk p
  · have e : i = kvs.length := by omega
    subst e
    exact .inl ⟨⟨q, Nat.le_refl _⟩, hd H p⟩
end
section
variable {K : PySem.W.Frag} {σ : L2.St} {H : Hp} {Q : VK} {P : Program} {w : World}
/-! ### zip of two tuples -/
def ZipR (K : PySem.W.Frag) (vs : List V) (H1 : Hp) (R : It → Hp → Prop) : Prop := ∃ a b xs ys, vs = [.ref a, .ref b] ∧ ((SqL K H1 a xs ∧ SqL K H1 b ys ∧ R (Itz K a b) H1) ∨ (SqT K H1 a xs ∧ SqT K H1 b ys ∧ R (RZ.ItzT K a b) H1))
def ForR (g : TG) (tb : TS) (D : Ends) (σ : L2.St) (J : It) (H1 : Hp) : Prop := ∃ W : Nat → Nat → L2.St → Hp → Prop, (∃ m, W 0 m σ H1) ∧ ∀ i m σ H, W i m σ H →
  (J.stop i H ∧ D.nx σ H) ∨ (J.go i H ∧ ∃ N : L2.St → Hp → Prop, (∀ σ' H', N σ' H' → ∃ m', m' < m ∧ W (i + 1) m' σ' H') ∧ ∀ x H', J.yld i H x H' → g x σ H' fun σ2 H2 => tb { D with nx := N, ct := N, bk := D.nx } σ2 H2)
theorem w_zipF {ta : TA} {g : TG} {tb : TS} {D : Ends} (q : ta σ H fun vs H1 => ZipR K vs H1 (ForR g tb D σ)) : tFor (RZ.iZipA K ta) g tb D σ H := q
theorem w_zipT {g : TG} {tb : TS} {D : Ends} {a b : Addr} {xs ys : List V} (ha : H a = some (.tup xs)) (hb : H b = some (.tup ys)) (hl : xs.length = ys.length) (Pv : Nat → L2.St → Hp → Prop) (h0 : Pv 0 σ H) (hq : ∀ i σ H, Pv i σ H → H a = some (.tup xs) ∧ H b = some (.tup ys))
    (hs : ∀ (i : Nat) (x y : V) (T : Addr) (σ : L2.St) (H : Hp), xs[i]? = some x → ys[i]? = some y → Pv i σ H → H T = none → g (.ref T) σ (upd H T (.tup [x, y])) fun σ2 H2 => tb { D with nx := Pv (i + 1), ct := Pv (i + 1), bk := D.nx } σ2 H2) (hd : ∀ σ H, Pv xs.length σ H → D.nx σ H) :
    ZipR K [.ref a, .ref b] H (ForR g tb D σ) := ⟨a, b, xs, ys, rfl, .inr ⟨SqT.of ha, SqT.of hb, RZ.for_zipT hl Pv h0 (fun i σ H p => ⟨SqT.of (hq i σ H p).1, SqT.of (hq i σ H p).2⟩) hs hd⟩⟩
/-! ### comprehensions by their turns -/
def LcBody (g : TG) (tt : TT) (te : TE) (vs : List Nat) (σ : L2.St) (D : Addr) (Nx : Hp → Prop) (x : V) (H' : Hp) : Prop := g x (wipe σ vs) H' fun σ2 H2 => wipe σ2 vs = wipe σ vs ∧ tt σ2 H2 fun b H3 =>
    if b = true then te σ2 H3 fun y H4 => ∃ acc, H4 D = some (.lst acc) ∧ acc.length < sizeLine ∧ Nx (upd H4 D (.lst (acc ++ [y]))) else Nx H3
def LcR (g : TG) (tt : TT) (te : TE) (vs : List Nat) (σ : L2.St) (Q : VK) (J : It) (H1 : Hp) : Prop := ∀ D, H1 D = none → Turns J (LcBody g tt te vs σ D) (upd H1 D (.lst [])) fun H => Q (.ref D) H
theorem w_lcZ {ta : TA} {g : TG} {tt : TT} {te : TE} {vs : List Nat} (q : ta σ H fun us H1 => ZipR K us H1 (LcR g tt te vs σ Q)) : tLc (RZ.iZipA K ta) g tt te vs σ H Q := q
theorem w_lcZT {g : TG} {tt : TT} {te : TE} {vs : List Nat} {a b : Addr} {xs ys : List V} (ha : H a = some (.tup xs)) (hb : H b = some (.tup ys)) (hl : xs.length = ys.length) (Pv : Addr → Nat → Hp → Prop) (h0 : ∀ D, H D = none → Pv D 0 (upd H D (.lst [])))
    (hq : ∀ D i H, i ≤ xs.length → Pv D i H → H a = some (.tup xs) ∧ H b = some (.tup ys)) (hs : ∀ D i x y T H, xs[i]? = some x → ys[i]? = some y → Pv D i H → H T = none → LcBody g tt te vs σ D (Pv D (i + 1)) (.ref T) (upd H T (.tup [x, y]))) (hd : ∀ D H, Pv D xs.length H → Q (.ref D) H) :
    ZipR K [.ref a, .ref b] H (LcR g tt te vs σ Q) := ⟨a, b, xs, ys, rfl, .inr ⟨SqT.of ha, SqT.of hb, fun D hD => turns_zip hl (Pv D) (h0 D hD) (hq D) (hs D) (hd D)⟩⟩
def SnBody (P : Program) (w : World) (g : TG) (tt : TT) (te : TE) (vs : List Nat) (σ : L2.St) (D : Addr) (Nx : Hp → Prop) (x : V) (H' : Hp) : Prop := g x (wipe σ vs) H' fun σ2 H2 => wipe σ2 vs = wipe σ vs ∧ tt σ2 H2 fun b H3 =>
    if b = true then te σ2 H3 fun y H4 => ∃ (L : List (NestedKey × Addr)) (p : NestedKey × Addr), y = .ref p.2 ∧ H4 D = some (SN P w D L) ∧ (∀ e ∈ L, ElN H4 e) ∧ ElN H4 p ∧ L.length + 1 < 64 ∧ ∀ L', AddN L p L' → Nx (upd H4 D (SN P w D L')) else Nx H3
def SnR (P : Program) (w : World) (g : TG) (tt : TT) (te : TE) (vs : List Nat) (σ : L2.St) (Q : VK) (J : It) (H1 : Hp) : Prop := ∀ D, H1 D = none → Turns J (SnBody P w g tt te vs σ D) (upd H1 D (SN P w D [])) fun H => Q (.ref D) H
def ListR (K : PySem.W.Frag) (x : V) (H1 : Hp) (R : It → Hp → Prop) : Prop := ∃ a, x = .ref a ∧ (∃ xs, SqL K H1 a xs) ∧ R (Itl K a) H1
theorem w_snL {tl : TE} {g : TG} {tt : TT} {te : TE} {vs : List Nat} (q : tl σ H fun x H1 => ListR K x H1 (SnR P w g tt te vs σ Q)) : tSn P w (iList K tl) g tt te vs σ H Q := q
theorem w_listR {a : Addr} {xs : List V} {R : It → Hp → Prop} (h : SqL K H a xs) (q : R (Itl K a) H) : ListR K (.ref a) H R := ⟨a, rfl, ⟨xs, h⟩, q⟩
theorem w_star {te : TE} {t : TA} {Q : List V → Hp → Prop} (q : te σ H fun x H1 => ∃ p xs, x = V.ref p ∧ (SqT K H1 p xs ∨ SqL K H1 p xs) ∧ t σ H1 fun ys H2 => Q (xs ++ ys) H2) : StX.tStar K te t σ H Q := q
/-! ### dicts: values, keys, locked; get, pop, setdefault with a default -/
def ValR (x : V) (H1 : Hp) (R : It → Hp → Prop) : Prop := ∃ d o kvs, x = .ref d ∧ H1 d = some (.frz o (.dK kvs)) ∧ R (Itd d o kvs) H1
theorem w_lcV {td : TE} {g : TG} {tt : TT} {te : TE} {vs : List Nat} (q : td σ H fun x H1 => ValR x H1 (LcR g tt te vs σ Q)) : tLc (iVals td) g tt te vs σ H Q := q
theorem w_valR {d : Addr} {o : Obj} {kvs : List (Key × V)} {R : It → Hp → Prop} (h : H d = some (.frz o (.dK kvs))) (q : R (Itd d o kvs) H) : ValR (.ref d) H R := ⟨d, o, kvs, rfl, h, q⟩
def KeyR (x : V) (H1 : Hp) (R : It → Hp → Prop) : Prop := ∃ d o, x = .ref d ∧ ((∃ kvs, H1 d = some (.frz o (.dK kvs)) ∧ R (Itk d o kvs) H1) ∨ ∃ kvs, H1 d = some (.frz o (.dT kvs)) ∧ R (Itkt d o kvs) H1)
theorem w_lcK {td : TE} {g : TG} {tt : TT} {te : TE} {vs : List Nat} (q : td σ H fun x H1 => KeyR x H1 (LcR g tt te vs σ Q)) : tLc (iKeys td) g tt te vs σ H Q := q
theorem w_keyR {d : Addr} {o : Obj} {kvs : List (Key × V)} {R : It → Hp → Prop} (h : H d = some (.frz o (.dK kvs))) (q : R (Itk d o kvs) H) : KeyR (.ref d) H R := ⟨d, o, rfl, .inl ⟨kvs, h, q⟩⟩
def DcBody (g : TG) (tt : TT) (tk tv : TE) (vs : List Nat) (σ : L2.St) (D : Addr) (Nx : Hp → Prop) (x : V) (H' : Hp) : Prop := g x (wipe σ vs) H' fun σ2 H2 => wipe σ2 vs = wipe σ vs ∧ tt σ2 H2 fun b H3 =>
    if b = true then tk σ2 H3 fun y H4 => tv σ2 H4 fun z H5 => ∃ kvs k, y = kV k ∧ H5 D = some (.dK kvs) ∧ kvs.length < sizeLine ∧ Nx (upd H5 D (.dK (putK kvs k z))) else Nx H3
def DcR (g : TG) (tt : TT) (tk tv : TE) (vs : List Nat) (σ : L2.St) (Q : VK) (J : It) (H1 : Hp) : Prop := ∀ D, H1 D = none → Turns J (DcBody g tt tk tv vs σ D) (upd H1 D (.dK [])) fun H => Q (.ref D) H
theorem w_dcK {td : TE} {g : TG} {tt : TT} {tk tv : TE} {vs : List Nat} (q : td σ H fun x H1 => KeyR x H1 (DcR g tt tk tv vs σ Q)) : tDc (iKeys td) g tt tk tv vs σ H Q := q
theorem w_lockE {B : Hp} {L : List (Addr × HO)} {L' : Obj → List (Addr × HO)} {d : Addr} {kvs : List (Key × V)} {t : TE} (hs : Hs B L H) (h : ∀ od, Put L d (.dK kvs) (.frz od (.dK kvs)) (L' od)) (q : ∀ od H', Hs B (L' od) H' → t σ H' fun v H2 => H2 d = some (.frz od (.dK kvs)) ∧ Q v (upd H2 d (.dK kvs))) : tLockE t σ H Q :=
  ⟨d, .dK kvs, hs.gets (h default), True.intro, fun od => q od _ (hs.puts (h od))⟩
def RDg2 (a : Addr) (y z : V) (H : Hp) (Q : VK) : Prop := ∃ o, DGet H a y o ∧ Q (o.getD z) H
theorem w_dget2 {td ty tx : TE} (q : td σ H fun x H1 => RPopA x H1 fun a => ty σ H1 fun y H2 => tx σ H2 fun z H3 => RDg2 a y z H3 Q) : tDGet2 td ty tx σ H Q := q
theorem w_dg2 {p : Addr} {kvs : List (Key × V)} {n : Int} {z : V} (h : H p = some (.dK kvs)) (q : Q ((valV kvs (Sum.inl n)).getD z) H) : RDg2 p (.int n) z H Q := ⟨_, DGet.k (k := Sum.inl n) h, q⟩
def RPop2 (a : Addr) (y z : V) (H : Hp) (Q : VK) : Prop := ∃ kvs k, H a = some (.dK kvs) ∧ y = kV k ∧ (∀ v, valV kvs k = some v → Q v (upd H a (.dK (dropK kvs k)))) ∧ (valV kvs k = none → Q z H)
theorem w_dpop2 {td ty tx : TE} (q : td σ H fun x H1 => RPopA x H1 fun a => ty σ H1 fun y H2 => tx σ H2 fun z H3 => RPop2 a y z H3 Q) : tDPop2 td ty tx σ H Q := q
theorem w_pop2 {B : Hp} {L L' : List (Addr × HO)} {p : Addr} {kvs : List (Key × V)} {n : Int} {z : V} (hs : Hs B L H) (h : Put L p (.dK kvs) (.dK (dropK kvs (Sum.inl n))) L') (q1 : ∀ v H', valV kvs (Sum.inl n) = some v → Hs B L' H' → Q v H') (q2 : valV kvs (Sum.inl n) = none → Q z H) : RPop2 p (.int n) z H Q :=
  ⟨kvs, Sum.inl n, hs.gets h, rfl, fun v e => q1 v _ e (hs.puts h), q2⟩
def RSetd (a : Addr) (y z : V) (H : Hp) (Q : VK) : Prop := ∃ (kvs : List (Key × V)) (k : Key), H a = some (.dK kvs) ∧ y = kV k ∧ kvs.length < sizeLine ∧ (∀ v, valV kvs k = some v → Q v H) ∧ (valV kvs k = none → Q z (upd H a (.dK (putK kvs k z))))
theorem w_dsetd {td ty tx : TE} (q : td σ H fun x H1 => RPopA x H1 fun a => ty σ H1 fun y H2 => tx σ H2 fun z H3 => RSetd a y z H3 Q) : tDSetd td ty tx σ H Q := q
/-! ### a range whose end is reckoned -/
def RngR (us : List V) (H1 : Hp) (R : It → Hp → Prop) : Prop := ∃ j : Int, us = [.int j] ∧ -(2 ^ 62) ≤ j ∧ j < 2 ^ 62 ∧ R (Itr 0 j.toNat) H1
theorem w_lcG {ta : TA} {g : TG} {tt : TT} {te : TE} {vs : List Nat} (q : ta σ H fun us H1 => RngR us H1 (LcR g tt te vs σ Q)) : tLc (iRng1 ta) g tt te vs σ H Q := q
theorem turns_range {H0 : Hp} {Qd : Hp → Prop} {Body : (Hp → Prop) → V → Hp → Prop} {n : Nat} (Pv : Nat → Hp → Prop) (h0 : Pv 0 H0) (hs : ∀ i H, i < n → Pv i H → Body (Pv (i + 1)) (.int (i : Int)) H) (hd : ∀ H, Pv n H → Qd H) : Turns (Itr 0 n) Body H0 Qd := by
  refine ⟨fun i m H => m = n - i ∧ i ≤ n ∧ Pv i H, ⟨n, by simp, Nat.zero_le _, h0⟩, ?_⟩
  rintro i m H ⟨rfl, hi, p⟩
  by_cases hlt : i < n
  · refine .inr ⟨hlt, Pv (i + 1), fun H' p' => ⟨n - (i + 1), by omega, rfl, hlt, p'⟩, fun x H' y => ?_⟩
    obtain ⟨rfl, rfl⟩ := y
    rw [show (0 : Int) + (i : Int) = (i : Int) from Int.zero_add _]
    exact hs i _ hlt p
  · have e : i = n := by omega
    subst e
    exact .inl ⟨Nat.le_refl _, hd H p⟩
theorem w_rngR {n : Int} {R : It → Hp → Prop} (h0 : 0 ≤ n) (h1 : n < 1000000) (q : R (Itr 0 n.toNat) H) : RngR [.int n] H R := ⟨n, rfl, by omega, by omega, q⟩
end
end Hb

set_option Elab.async false
set_option maxRecDepth 100000
set_option maxHeartbeats 4000000
namespace K8
open PySem L2 Hb
class IsP (P : Program) : Prop where
  eq : P = PySem.Challenge.pw_hangbridge_k08_tables_of_switches
def top (i : Nat) : Stmt := PySem.Challenge.pw_hangbridge_k08_tables_of_switches.main.body.getD i (.Pass ⟨0, 0, 0, 0⟩)
abbrev s_fits : Stmt := (top 2)
abbrev s_changed : Stmt := (top 3)
abbrev s_done : Stmt := (top 4)
abbrev s_rules_do : Stmt := (top 5)
abbrev s_Table_init : Stmt := (inClass (top 6) 0)
abbrev s_Table_count : Stmt := (inClass (top 6) 1)
abbrev s_Table_wipe : Stmt := (inClass (top 6) 2)
abbrev s_Table_drop : Stmt := (inClass (top 6) 3)
abbrev s_Table_add : Stmt := (inClass (top 6) 4)
abbrev s_Table_lay : Stmt := (inClass (top 6) 5)
abbrev s_Table_unlay : Stmt := (inClass (top 6) 6)
abbrev s_Table_retag : Stmt := (inClass (top 6) 7)
abbrev s_Table_strip : Stmt := (inClass (top 6) 8)
abbrev s_Table_keep : Stmt := (inClass (top 6) 9)
abbrev s_Table_does : Stmt := (inClass (top 6) 10)
abbrev s__law_state : Stmt := (top 8)
abbrev s__law_draw : Stmt := (top 9)
abbrev s__law_pick : Stmt := (top 10)
abbrev s__law_part : Stmt := (top 11)
abbrev s__law_rule : Stmt := (top 12)
abbrev s__law_fits : Stmt := (top 13)
abbrev s__law_done : Stmt := (top 14)
abbrev s__law_does : Stmt := (top 15)
abbrev s__law_only : Stmt := (top 16)
abbrev s__law_tagged : Stmt := (top 17)
abbrev s_law : Stmt := (top 18)
abbrev N_fits : List Str := ["match", "port", "header", "asked", "number"]
theorem sc_fits : FnScope N_fits ["match", "port", "header"] (defScope s_fits) := ⟨rfl, rfl, rfl, by decide +kernel, rfl, by decide +kernel, by decide +kernel⟩
abbrev N_changed : List Str := ["header", "changes", "old", "new"]
theorem sc_changed : FnScope N_changed ["header", "changes"] (defScope s_changed) := ⟨rfl, rfl, rfl, by decide +kernel, rfl, by decide +kernel, by decide +kernel⟩
abbrev N_done : List Str := ["outs", "header", "port", "changes"]
theorem sc_done : FnScope N_done ["outs", "header"] (defScope s_done) := ⟨rfl, rfl, rfl, by decide +kernel, rfl, by decide +kernel, by decide +kernel⟩
abbrev N_rules_do : List Str := ["rules", "port", "header", "match", "outs"]
theorem sc_rules_do : FnScope N_rules_do ["rules", "port", "header"] (defScope s_rules_do) := ⟨rfl, rfl, rfl, by decide +kernel, rfl, by decide +kernel, by decide +kernel⟩
abbrev N_Table_init : List Str := ["self"]
theorem sc_Table_init : FnScope N_Table_init ["self"] (defScope s_Table_init) := ⟨rfl, rfl, rfl, by decide +kernel, rfl, by decide +kernel, by decide +kernel⟩
abbrev N_Table_count : List Str := ["self", "rows"]
theorem sc_Table_count : FnScope N_Table_count ["self"] (defScope s_Table_count) := ⟨rfl, rfl, rfl, by decide +kernel, rfl, by decide +kernel, by decide +kernel⟩
abbrev N_Table_wipe : List Str := ["self"]
theorem sc_Table_wipe : FnScope N_Table_wipe ["self"] (defScope s_Table_wipe) := ⟨rfl, rfl, rfl, by decide +kernel, rfl, by decide +kernel, by decide +kernel⟩
abbrev N_Table_drop : List Str := ["self", "version"]
theorem sc_Table_drop : FnScope N_Table_drop ["self", "version"] (defScope s_Table_drop) := ⟨rfl, rfl, rfl, by decide +kernel, rfl, by decide +kernel, by decide +kernel⟩
abbrev N_Table_add : List Str := ["self", "version", "match", "outs", "rows"]
theorem sc_Table_add : FnScope N_Table_add ["self", "version", "match", "outs"] (defScope s_Table_add) := ⟨rfl, rfl, rfl, by decide +kernel, rfl, by decide +kernel, by decide +kernel⟩
abbrev N_Table_lay : List Str := ["self", "to", "port"]
theorem sc_Table_lay : FnScope N_Table_lay ["self", "to", "port"] (defScope s_Table_lay) := ⟨rfl, rfl, rfl, by decide +kernel, rfl, by decide +kernel, by decide +kernel⟩
abbrev N_Table_unlay : List Str := ["self", "to"]
theorem sc_Table_unlay : FnScope N_Table_unlay ["self", "to"] (defScope s_Table_unlay) := ⟨rfl, rfl, rfl, by decide +kernel, rfl, by decide +kernel, by decide +kernel⟩
abbrev N_Table_retag : List Str := ["self", "version", "count"]
theorem sc_Table_retag : FnScope N_Table_retag ["self", "version", "count"] (defScope s_Table_retag) := ⟨rfl, rfl, rfl, by decide +kernel, rfl, by decide +kernel, by decide +kernel⟩
abbrev N_Table_strip : List Str := ["self", "version"]
theorem sc_Table_strip : FnScope N_Table_strip ["self"] (defScope s_Table_strip) := ⟨rfl, rfl, rfl, by decide +kernel, rfl, by decide +kernel, by decide +kernel⟩
abbrev N_Table_keep : List Str := ["self", "version", "count", "kept"]
theorem sc_Table_keep : FnScope N_Table_keep ["self", "version", "count"] (defScope s_Table_keep) := ⟨rfl, rfl, rfl, by decide +kernel, rfl, by decide +kernel, by decide +kernel⟩
abbrev N_Table_does : List Str := ["self", "version", "port", "header"]
theorem sc_Table_does : FnScope N_Table_does ["self", "version", "port", "header"] (defScope s_Table_does) := ⟨rfl, rfl, rfl, by decide +kernel, rfl, by decide +kernel, by decide +kernel⟩
abbrev N__law_state : List Str := ["script", "seed", "cell"]
theorem sc__law_state : FnScope N__law_state ["script"] (defScope s__law_state) := ⟨rfl, rfl, rfl, by decide +kernel, rfl, by decide +kernel, by decide +kernel⟩
abbrev N__law_draw : List Str := ["state", "many", "cells", "value", "mixed"]
theorem sc__law_draw : FnScope N__law_draw ["state", "many"] (defScope s__law_draw) := ⟨rfl, rfl, rfl, by decide +kernel, rfl, by decide +kernel, by decide +kernel⟩
abbrev N__law_pick : List Str := ["state", "row"]
theorem sc__law_pick : FnScope N__law_pick ["state", "row"] (defScope s__law_pick) := ⟨rfl, rfl, rfl, by decide +kernel, rfl, by decide +kernel, by decide +kernel⟩
abbrev N__law_part : List Str := ["state", "most"]
theorem sc__law_part : FnScope N__law_part ["state", "most"] (defScope s__law_part) := ⟨rfl, rfl, rfl, by decide +kernel, rfl, by decide +kernel, by decide +kernel⟩
abbrev N__law_rule : List Str := ["state", "match", "outs", "k"]
theorem sc__law_rule : FnScope N__law_rule ["state"] (defScope s__law_rule) := ⟨rfl, rfl, rfl, by decide +kernel, rfl, by decide +kernel, by decide +kernel⟩
abbrev N__law_fits : List Str := ["match", "place", "k"]
theorem sc__law_fits : FnScope N__law_fits ["match", "place"] (defScope s__law_fits) := ⟨rfl, rfl, rfl, by decide +kernel, rfl, by decide +kernel, by decide +kernel⟩
abbrev N__law_done : List Str := ["outs", "header", "found", "port", "parts", "pair", "k"]
theorem sc__law_done : FnScope N__law_done ["outs", "header"] (defScope s__law_done) := ⟨rfl, rfl, rfl, by decide +kernel, rfl, by decide +kernel, by decide +kernel⟩
abbrev N__law_does : List Str := ["rules", "version", "port", "header", "match", "outs"]
theorem sc__law_does : FnScope N__law_does ["rules", "version", "port", "header"] (defScope s__law_does) := ⟨rfl, rfl, rfl, by decide +kernel, rfl, by decide +kernel, by decide +kernel⟩
abbrev N__law_only : List Str := ["rules", "version", "found"]
theorem sc__law_only : FnScope N__law_only ["rules", "version"] (defScope s__law_only) := ⟨rfl, rfl, rfl, by decide +kernel, rfl, by decide +kernel, by decide +kernel⟩
abbrev N__law_tagged : List Str := ["state", "table", "ways", "rules", "tag", "version", "count", "due", "word"]
theorem sc__law_tagged : FnScope N__law_tagged ["state", "table", "ways", "rules", "tag"] (defScope s__law_tagged) := ⟨rfl, rfl, rfl, by decide +kernel, rfl, by decide +kernel, by decide +kernel⟩
abbrev N_law : List Str := ["script", "state", "table", "ways", "rules", "tag", "k", "kind", "room", "version", "match", "outs", "to", "port", "due", "told", "header", "known"]
theorem sc_law : FnScope N_law ["script"] (defScope s_law) := ⟨rfl, rfl, rfl, by decide +kernel, rfl, by decide +kernel, by decide +kernel⟩
structure Ad where
  Table : Addr
  fits : Addr
  fd_fits : FuncData
  changed : Addr
  fd_changed : FuncData
  done : Addr
  fd_done : FuncData
  rules_do : Addr
  fd_rules_do : FuncData
  Table_init : Addr
  fd_Table_init : FuncData
  Table_count : Addr
  fd_Table_count : FuncData
  Table_wipe : Addr
  fd_Table_wipe : FuncData
  Table_drop : Addr
  fd_Table_drop : FuncData
  Table_add : Addr
  fd_Table_add : FuncData
  Table_lay : Addr
  fd_Table_lay : FuncData
  Table_unlay : Addr
  fd_Table_unlay : FuncData
  Table_retag : Addr
  fd_Table_retag : FuncData
  Table_strip : Addr
  fd_Table_strip : FuncData
  Table_keep : Addr
  fd_Table_keep : FuncData
  Table_does : Addr
  fd_Table_does : FuncData
  _law_state : Addr
  fd__law_state : FuncData
  _law_draw : Addr
  fd__law_draw : FuncData
  _law_pick : Addr
  fd__law_pick : FuncData
  _law_part : Addr
  fd__law_part : FuncData
  _law_rule : Addr
  fd__law_rule : FuncData
  _law_fits : Addr
  fd__law_fits : FuncData
  _law_done : Addr
  fd__law_done : FuncData
  _law_does : Addr
  fd__law_does : FuncData
  _law_only : Addr
  fd__law_only : FuncData
  _law_tagged : Addr
  fd__law_tagged : FuncData
  law : Addr
  fd_law : FuncData
structure Txt (K : PySem.W.Frag) (mg : Str → Option Value) (a : Ad) : Prop where
  cl_Table : Cls K a.Table
  mg_Table : mg "Table" = some (.ref a.Table)
  na_Table_ways : NoAttr K a.Table "ways"
  na_Table_rules : NoAttr K a.Table "rules"
  na_Table_tag : NoAttr K a.Table "tag"
  fn_fits : Fun K "fits" "fits" s_fits a.fits a.fd_fits
  bi_fits : Binds K a.fd_fits ["match", "port", "header"] []
  mg_fits : mg "fits" = some (.ref a.fits)
  kp_fits : PySem.W.keepIn K (.ref a.fits) = true
  fn_changed : Fun K "changed" "changed" s_changed a.changed a.fd_changed
  bi_changed : Binds K a.fd_changed ["header", "changes"] []
  mg_changed : mg "changed" = some (.ref a.changed)
  kp_changed : PySem.W.keepIn K (.ref a.changed) = true
  fn_done : Fun K "done" "done" s_done a.done a.fd_done
  bi_done : Binds K a.fd_done ["outs", "header"] []
  mg_done : mg "done" = some (.ref a.done)
  kp_done : PySem.W.keepIn K (.ref a.done) = true
  fn_rules_do : Fun K "rules_do" "rules_do" s_rules_do a.rules_do a.fd_rules_do
  bi_rules_do : Binds K a.fd_rules_do ["rules", "port", "header"] []
  mg_rules_do : mg "rules_do" = some (.ref a.rules_do)
  kp_rules_do : PySem.W.keepIn K (.ref a.rules_do) = true
  fn_Table_init : Fun K "__init__" "Table.__init__" s_Table_init a.Table_init a.fd_Table_init
  bi_Table_init : Binds K a.fd_Table_init ["self"] []
  mk_Table : Mk K a.Table a.Table_init
  fn_Table_count : Fun K "count" "Table.count" s_Table_count a.Table_count a.fd_Table_count
  bi_Table_count : Binds K a.fd_Table_count ["self"] []
  me_Table_count : Meth K a.Table "count" a.Table_count
  fn_Table_wipe : Fun K "wipe" "Table.wipe" s_Table_wipe a.Table_wipe a.fd_Table_wipe
  bi_Table_wipe : Binds K a.fd_Table_wipe ["self"] []
  me_Table_wipe : Meth K a.Table "wipe" a.Table_wipe
  fn_Table_drop : Fun K "drop" "Table.drop" s_Table_drop a.Table_drop a.fd_Table_drop
  bi_Table_drop : Binds K a.fd_Table_drop ["self", "version"] []
  me_Table_drop : Meth K a.Table "drop" a.Table_drop
  fn_Table_add : Fun K "add" "Table.add" s_Table_add a.Table_add a.fd_Table_add
  bi_Table_add : Binds K a.fd_Table_add ["self", "version", "match", "outs"] []
  me_Table_add : Meth K a.Table "add" a.Table_add
  fn_Table_lay : Fun K "lay" "Table.lay" s_Table_lay a.Table_lay a.fd_Table_lay
  bi_Table_lay : Binds K a.fd_Table_lay ["self", "to", "port"] []
  me_Table_lay : Meth K a.Table "lay" a.Table_lay
  fn_Table_unlay : Fun K "unlay" "Table.unlay" s_Table_unlay a.Table_unlay a.fd_Table_unlay
  bi_Table_unlay : Binds K a.fd_Table_unlay ["self", "to"] []
  me_Table_unlay : Meth K a.Table "unlay" a.Table_unlay
  fn_Table_retag : Fun K "retag" "Table.retag" s_Table_retag a.Table_retag a.fd_Table_retag
  bi_Table_retag : Binds K a.fd_Table_retag ["self", "version", "count"] []
  me_Table_retag : Meth K a.Table "retag" a.Table_retag
  fn_Table_strip : Fun K "strip" "Table.strip" s_Table_strip a.Table_strip a.fd_Table_strip
  bi_Table_strip : Binds K a.fd_Table_strip ["self"] []
  me_Table_strip : Meth K a.Table "strip" a.Table_strip
  fn_Table_keep : Fun K "keep" "Table.keep" s_Table_keep a.Table_keep a.fd_Table_keep
  bi_Table_keep : Binds K a.fd_Table_keep ["self", "version", "count"] []
  me_Table_keep : Meth K a.Table "keep" a.Table_keep
  fn_Table_does : Fun K "does" "Table.does" s_Table_does a.Table_does a.fd_Table_does
  bi_Table_does : Binds K a.fd_Table_does ["self", "version", "port", "header"] []
  me_Table_does : Meth K a.Table "does" a.Table_does
  fn__law_state : Fun K "_law_state" "_law_state" s__law_state a._law_state a.fd__law_state
  bi__law_state : Binds K a.fd__law_state ["script"] []
  mg__law_state : mg "_law_state" = some (.ref a._law_state)
  kp__law_state : PySem.W.keepIn K (.ref a._law_state) = true
  fn__law_draw : Fun K "_law_draw" "_law_draw" s__law_draw a._law_draw a.fd__law_draw
  bi__law_draw : Binds K a.fd__law_draw ["state", "many"] []
  mg__law_draw : mg "_law_draw" = some (.ref a._law_draw)
  kp__law_draw : PySem.W.keepIn K (.ref a._law_draw) = true
  fn__law_pick : Fun K "_law_pick" "_law_pick" s__law_pick a._law_pick a.fd__law_pick
  bi__law_pick : Binds K a.fd__law_pick ["state", "row"] []
  mg__law_pick : mg "_law_pick" = some (.ref a._law_pick)
  kp__law_pick : PySem.W.keepIn K (.ref a._law_pick) = true
  fn__law_part : Fun K "_law_part" "_law_part" s__law_part a._law_part a.fd__law_part
  bi__law_part : Binds K a.fd__law_part ["state", "most"] []
  mg__law_part : mg "_law_part" = some (.ref a._law_part)
  kp__law_part : PySem.W.keepIn K (.ref a._law_part) = true
  fn__law_rule : Fun K "_law_rule" "_law_rule" s__law_rule a._law_rule a.fd__law_rule
  bi__law_rule : Binds K a.fd__law_rule ["state"] []
  mg__law_rule : mg "_law_rule" = some (.ref a._law_rule)
  kp__law_rule : PySem.W.keepIn K (.ref a._law_rule) = true
  fn__law_fits : Fun K "_law_fits" "_law_fits" s__law_fits a._law_fits a.fd__law_fits
  bi__law_fits : Binds K a.fd__law_fits ["match", "place"] []
  mg__law_fits : mg "_law_fits" = some (.ref a._law_fits)
  kp__law_fits : PySem.W.keepIn K (.ref a._law_fits) = true
  fn__law_done : Fun K "_law_done" "_law_done" s__law_done a._law_done a.fd__law_done
  bi__law_done : Binds K a.fd__law_done ["outs", "header"] []
  mg__law_done : mg "_law_done" = some (.ref a._law_done)
  kp__law_done : PySem.W.keepIn K (.ref a._law_done) = true
  fn__law_does : Fun K "_law_does" "_law_does" s__law_does a._law_does a.fd__law_does
  bi__law_does : Binds K a.fd__law_does ["rules", "version", "port", "header"] []
  mg__law_does : mg "_law_does" = some (.ref a._law_does)
  kp__law_does : PySem.W.keepIn K (.ref a._law_does) = true
  fn__law_only : Fun K "_law_only" "_law_only" s__law_only a._law_only a.fd__law_only
  bi__law_only : Binds K a.fd__law_only ["rules", "version"] []
  mg__law_only : mg "_law_only" = some (.ref a._law_only)
  kp__law_only : PySem.W.keepIn K (.ref a._law_only) = true
  fn__law_tagged : Fun K "_law_tagged" "_law_tagged" s__law_tagged a._law_tagged a.fd__law_tagged
  bi__law_tagged : Binds K a.fd__law_tagged ["state", "table", "ways", "rules", "tag"] []
  mg__law_tagged : mg "_law_tagged" = some (.ref a._law_tagged)
  kp__law_tagged : PySem.W.keepIn K (.ref a._law_tagged) = true
  fn_law : Fun K "law" "law" s_law a.law a.fd_law
  bi_law : Binds K a.fd_law ["script"] []
  mg_law : mg "law" = some (.ref a.law)
  kp_law : PySem.W.keepIn K (.ref a.law) = true
  mg_MOST_ENTRIES : ∃ tk, mg "MOST_ENTRIES" = some (.int 64 tk)
  mg_zip : mg "zip" = none
  mg_tuple : mg "tuple" = none
  mg_sorted : mg "sorted" = none
  mg_len : mg "len" = none
  mg_sum : mg "sum" = none
  mg_list : mg "list" = none
  mg_abs : mg "abs" = none
  mg_int : mg "int" = none
  mg_range : mg "range" = none
local macro_rules | `(tactic| walk_at "g") => `(tactic| first | assumption | exact Hs.g0 (by assumption) | exact Hs.g1 (by assumption) | exact Hs.g2 (by assumption) | exact Hs.g3 (by assumption) | exact Hs.g4 (by assumption) | exact Hs.g5 (by assumption) | exact Hs.g6 (by assumption) | exact Hs.g7 (by assumption) | exact Hs.g8 (by assumption) | exact Hs.g9 (by assumption) | exact Hs.g10 (by assumption) | exact Hs.g11 (by assumption) | exact Hs.g12 (by assumption) | exact Hs.g13 (by assumption) | exact Hs.g14 (by assumption) | exact Hs.g15 (by assumption) | exact Hs.old (by assumption) (by assumption))
local macro_rules | `(tactic| walk_at "l") => `(tactic| first | assumption | exact SqL.of (by walk_at "g") | exact Hs.sql (by assumption) (by assumption))
local macro_rules | `(tactic| walk_at "p") => `(tactic| first | exact .here | exact .there .here | exact .there (.there .here) | exact .there (.there (.there .here)) | exact .there (.there (.there (.there .here))) | exact .there (.there (.there (.there (.there .here)))) | exact .there (.there (.there (.there (.there (.there .here))))) | exact .there (.there (.there (.there (.there (.there (.there .here)))))) | exact .there (.there (.there (.there (.there (.there (.there (.there .here))))))) | exact .there (.there (.there (.there (.there (.there (.there (.there (.there .here)))))))) | exact .there (.there (.there (.there (.there (.there (.there (.there (.there (.there .here))))))))) | exact .there (.there (.there (.there (.there (.there (.there (.there (.there (.there (.there .here)))))))))) | exact .there (.there (.there (.there (.there (.there (.there (.there (.there (.there (.there (.there .here))))))))))) | exact .there (.there (.there (.there (.there (.there (.there (.there (.there (.there (.there (.there (.there .here)))))))))))))
local macro_rules | `(tactic| walk_at "f") => `(tactic| first | exact lk0 | exact lk1 (by decide +kernel) lk0 | exact lk1 (by decide +kernel) (lk1 (by decide +kernel) lk0) | exact lk1 (by decide +kernel) (lk1 (by decide +kernel) (lk1 (by decide +kernel) lk0)) | exact lk1 (by decide +kernel) (lk1 (by decide +kernel) (lk1 (by decide +kernel) (lk1 (by decide +kernel) lk0))) | exact lk1 (by decide +kernel) (lk1 (by decide +kernel) (lk1 (by decide +kernel) (lk1 (by decide +kernel) (lk1 (by decide +kernel) lk0)))) | exact lk1 (by decide +kernel) (lk1 (by decide +kernel) (lk1 (by decide +kernel) (lk1 (by decide +kernel) (lk1 (by decide +kernel) (lk1 (by decide +kernel) lk0))))) | exact lk1 (by decide +kernel) (lk1 (by decide +kernel) (lk1 (by decide +kernel) (lk1 (by decide +kernel) (lk1 (by decide +kernel) (lk1 (by decide +kernel) (lk1 (by decide +kernel) lk0)))))) | exact lk1 (by decide +kernel) (lk1 (by decide +kernel) (lk1 (by decide +kernel) (lk1 (by decide +kernel) (lk1 (by decide +kernel) (lk1 (by decide +kernel) (lk1 (by decide +kernel) (lk1 (by decide +kernel) lk0))))))))
local macro_rules | `(tactic| walk_at "fn") => `(tactic| first | exact lke | exact lkn (by decide +kernel) lke | exact lkn (by decide +kernel) (lkn (by decide +kernel) lke) | exact lkn (by decide +kernel) (lkn (by decide +kernel) (lkn (by decide +kernel) lke)) | exact lkn (by decide +kernel) (lkn (by decide +kernel) (lkn (by decide +kernel) (lkn (by decide +kernel) lke))) | exact lkn (by decide +kernel) (lkn (by decide +kernel) (lkn (by decide +kernel) (lkn (by decide +kernel) (lkn (by decide +kernel) lke)))) | exact lkn (by decide +kernel) (lkn (by decide +kernel) (lkn (by decide +kernel) (lkn (by decide +kernel) (lkn (by decide +kernel) (lkn (by decide +kernel) lke))))) | exact lkn (by decide +kernel) (lkn (by decide +kernel) (lkn (by decide +kernel) (lkn (by decide +kernel) (lkn (by decide +kernel) (lkn (by decide +kernel) (lkn (by decide +kernel) lke)))))) | exact lkn (by decide +kernel) (lkn (by decide +kernel) (lkn (by decide +kernel) (lkn (by decide +kernel) (lkn (by decide +kernel) (lkn (by decide +kernel) (lkn (by decide +kernel) (lkn (by decide +kernel) lke))))))))
local macro_rules | `(tactic| walk_at "fp") => `(tactic| first | exact pue | exact pu0 | exact pu2 (by decide +kernel) pue | exact pu2 (by decide +kernel) pu0 | exact pu2 (by decide +kernel) (pu2 (by decide +kernel) pue) | exact pu2 (by decide +kernel) (pu2 (by decide +kernel) pu0) | exact pu2 (by decide +kernel) (pu2 (by decide +kernel) (pu2 (by decide +kernel) pue)) | exact pu2 (by decide +kernel) (pu2 (by decide +kernel) (pu2 (by decide +kernel) pu0)) | exact pu2 (by decide +kernel) (pu2 (by decide +kernel) (pu2 (by decide +kernel) (pu2 (by decide +kernel) pue))) | exact pu2 (by decide +kernel) (pu2 (by decide +kernel) (pu2 (by decide +kernel) (pu2 (by decide +kernel) pu0))) | exact pu2 (by decide +kernel) (pu2 (by decide +kernel) (pu2 (by decide +kernel) (pu2 (by decide +kernel) (pu2 (by decide +kernel) pue)))) | exact pu2 (by decide +kernel) (pu2 (by decide +kernel) (pu2 (by decide +kernel) (pu2 (by decide +kernel) (pu2 (by decide +kernel) pu0)))) | exact pu2 (by decide +kernel) (pu2 (by decide +kernel) (pu2 (by decide +kernel) (pu2 (by decide +kernel) (pu2 (by decide +kernel) (pu2 (by decide +kernel) pue))))) | exact pu2 (by decide +kernel) (pu2 (by decide +kernel) (pu2 (by decide +kernel) (pu2 (by decide +kernel) (pu2 (by decide +kernel) (pu2 (by decide +kernel) pu0))))) | exact pu2 (by decide +kernel) (pu2 (by decide +kernel) (pu2 (by decide +kernel) (pu2 (by decide +kernel) (pu2 (by decide +kernel) (pu2 (by decide +kernel) (pu2 (by decide +kernel) pue)))))) | exact pu2 (by decide +kernel) (pu2 (by decide +kernel) (pu2 (by decide +kernel) (pu2 (by decide +kernel) (pu2 (by decide +kernel) (pu2 (by decide +kernel) (pu2 (by decide +kernel) pu0)))))))
local macro_rules | `(tactic| walk_at "c") => `(tactic| first | assumption | omega | (dsimp only; omega) | (unfold CMul; omega))
local macro_rules | `(tactic| walk_at "z") => `(tactic| first | assumption | (refine sz ?_; first | decide | omega | (simp only [List.length_map, List.length_append] <;> omega) | (simp only [List.length_cons, List.length_nil, List.length_map, List.length_append] <;> omega)) | (refine szl ?_; first | decide | omega | (simp only [List.length_map, List.length_append] <;> omega) | (simp only [List.length_cons, List.length_nil, List.length_map, List.length_append] <;> omega)))
local macro_rules | `(tactic| walk_at "s") => `(tactic| first
  | with_reducible refine w_seq ?_
  | ((with_reducible refine' w_var ?h ?_); case h => exact rfl)
  | with_reducible refine w_c ?_
  | with_reducible refine w_name ?_
  | with_reducible refine w_asg ?_
  | with_reducible refine w_op ?_
  | with_reducible refine w_I0 ?_
  | with_reducible refine w_exb ?_
  | with_reducible refine w_if ?_
  | with_reducible refine w_test ?_
  | with_reducible refine w_fld ?_
  | ((with_reducible refine' w_fl ?h ?hc ?hn ?hl ?_); (case h => walk_at "g"); (case hc => assumption); (case hn => assumption); (case hl => walk_at "f"))
  | with_reducible refine w_nil ?_
  | with_reducible refine w_cons ?_
  | with_reducible refine w_cb ?_
  | with_reducible refine w_call ?_
  | with_reducible refine w_meth ?_
  | with_reducible refine w_make ?_
  | ((with_reducible refine' w_rc ?h ?hl ?_); (case h => walk_at "g"); (case hl => walk_at "fn"))
  | with_reducible refine w_drop ?_
  | with_reducible refine w_ret ?_
  | with_reducible refine w_retN ?_
  | with_reducible refine w_next ?_
  | with_reducible refine w_brk ?_
  | with_reducible refine w_cont ?_
  | with_reducible refine w_eqI ?_
  | with_reducible refine w_neI ?_
  | with_reducible refine w_neB ?_
  | with_reducible refine w_isi ?_
  | ((with_reducible refine' w_len ?h ?_); case h => walk_at "l")
  | ((with_reducible refine' w_ixL ?h ?a ?_); (case h => walk_at "l"); (case a => first | exact at0 | exact at1 | exact at2 | exact at3 | assumption))
  | with_reducible refine w_bm ?_
  | with_reducible refine w_bm0 ?_
  | ((with_reducible refine' w_tyL ?h ?_); case h => walk_at "l")
  | with_reducible refine w_B ?_
  | with_reducible refine w_not ?_
  | with_reducible refine w_and ?_
  | with_reducible refine w_or ?_
  | with_reducible refine w_andV ?_
  | with_reducible refine w_orV ?_
  | with_reducible refine w_notV ?_
  | with_reducible refine w_ifE ?_
  | with_reducible refine w_chain ?_
  | with_reducible refine w_un ?_
  | with_reducible refine w_U ?_
  | with_reducible refine w_int ?_
  | with_reducible refine w_abs ?_
  | with_reducible refine w_tup ?_
  | with_reducible refine w_lst ?_
  | with_reducible refine w_sl ?_
  | with_reducible refine w_noPart ?_
  | with_reducible refine w_part ?_
  | with_reducible refine w_exi ?_
  | ((with_reducible refine' w_newL ?hs ?hl ?_); (case hs => assumption); (case hl => walk_at "z"); intro _ _ _)
  | ((with_reducible refine' w_newT ?hs ?hl ?_); (case hs => assumption); (case hl => walk_at "z"); intro _ _ _)
  | ((with_reducible refine' w_slL ?hs ?h ?_); (case hs => assumption); (case h => walk_at "l"); intro _ _ _)
  | ((with_reducible refine' w_cat ?hs ?ha ?hb ?hl ?_); (case hs => assumption); (case ha => walk_at "g"); (case hb => walk_at "g"); (case hl => walk_at "z"); intro _ _ _)
  | ((with_reducible refine' w_app ?hs ?h ?hl ?_); (case hs => assumption); (case h => walk_at "p"); (case hl => walk_at "z"); intro _ _)
  | ((with_reducible refine' w_clear ?hs ?h ?_); (case hs => assumption); (case h => walk_at "p"); intro _ _)
  | with_reducible refine w_sfld ?_
  | ((with_reducible refine' w_fsP ?hs ?h ?hc ?hn ?hl ?hg ?_); (case hs => assumption); (case h => walk_at "p"); (case hc => assumption); (case hn => assumption); (case hl => exact Nat.lt_of_lt_of_le (by simp only [List.length_cons, List.length_nil]; omega) (Nat.le_refl 1000)); (case hg => walk_at "fp"); intro _ _)
  | with_reducible refine w_lpb ?_
  | with_reducible refine w_yes ?_
  | with_reducible refine w_sub ?_
  | with_reducible refine w_delL0 ?_
  | ((with_reducible refine' w_I ?h ?_); case h => walk_at "c"))
local macro_rules | `(tactic| walk_at "ss") => `(tactic| repeat walk_at "s")

local macro_rules | `(tactic| walk_at "t") => `(tactic| first | assumption | exact SqT.of (by walk_at "g"))
local macro_rules | `(tactic| walk_at "s") => `(tactic| first
  | with_reducible refine iteT ?_
  | with_reducible refine iteF ?_
  | with_reducible refine w_din ?_
  | with_reducible refine w_dni ?_
  | ((with_reducible refine' w_dinI ?h ?_); case h => walk_at "g")
  | ((with_reducible refine' w_dniI ?h ?_); case h => walk_at "g")
  | with_reducible refine w_dput ?_
  | ((with_reducible refine' w_dputI ?hs ?h ?hl ?_); (case hs => assumption); (case h => walk_at "p"); (case hl => walk_at "z"); intro _ _)
  | with_reducible refine w_dpop ?_
  | ((with_reducible refine' w_dpopA ?h ?_); case h => walk_at "g")
  | with_reducible refine w_dnew ?_
  | ((with_reducible refine' w_newD ?hs ?_); (case hs => assumption); intro _ _ _)
  | with_reducible refine w_faug ?_
  | ((with_reducible refine' w_fa1 ?h ?hc ?hn ?hl ?_); (case h => walk_at "g"); (case hc => assumption); (case hn => assumption); (case hl => walk_at "f"))
  | ((with_reducible refine' w_fa2 ?hs ?h ?hl ?hg ?_); (case hs => assumption); (case h => walk_at "p"); (case hl => exact Nat.lt_of_lt_of_le (by simp only [List.length_cons, List.length_nil]; omega) (Nat.le_refl 1000)); (case hg => walk_at "fp"); intro _ _)
  | with_reducible refine w_rAdd ?_
  | with_reducible refine w_rSub ?_
  | with_reducible refine w_max ?_
  | with_reducible refine w_min ?_
  | with_reducible refine w_eqB ?_
  | with_reducible refine w_methQ ?_
  | with_reducible refine w_xf0 ?_
  | ((with_reducible refine' w_xf ?h ?hl ?_); (case h => walk_at "g"); (case hl => walk_at "f"))
  | with_reducible refine w_eqSt ?_
  | with_reducible refine w_isN ?_
  | with_reducible refine w_notN ?_
  | ((with_reducible refine' w_gtup ?h ?hl ?_); (case h => walk_at "t"); (case hl => rfl))
  | with_reducible refine w_gnil ?_
  | with_reducible refine w_gcons ?_
  | with_reducible refine w_par3 ?_
  | with_reducible refine w_ex3 ?_
  | with_reducible refine w_par2 ?_
  | with_reducible refine w_ex2 ?_
  | ((with_reducible refine' w_ixT ?h ?a ?_); (case h => walk_at "t"); (case a => first | exact at0 | exact at1 | exact at2 | exact at3 | assumption))
  | ((with_reducible refine' w_lenT ?h ?_); case h => walk_at "t")
  | ((with_reducible refine' w_set0 ?hs ?h ?_); (case hs => assumption); (case h => walk_at "p"); intro _ _)
  | ((with_reducible refine' w_set1 ?hs ?h ?_); (case hs => assumption); (case h => walk_at "p"); intro _ _)
  | ((with_reducible refine' w_set2 ?hs ?h ?_); (case hs => assumption); (case h => walk_at "p"); intro _ _)
  | ((with_reducible refine' w_set3 ?hs ?h ?_); (case hs => assumption); (case h => walk_at "p"); intro _ _)
  | ((with_reducible refine' w_set4 ?hs ?h ?_); (case hs => assumption); (case h => walk_at "p"); intro _ _)
  | with_reducible refine w_vei ?_
  | with_reducible refine w_ost0 ?_
  | with_reducible refine w_mko ?_
  | with_reducible refine w_raise ?_
  | with_reducible refine w_js ?_
  | with_reducible refine w_js0 ?_
  | with_reducible refine w_fmt ?_)

local macro_rules | `(tactic| walk_at "s") => `(tactic| first
  | with_reducible refine w_nget ?_
  | with_reducible refine w_nin ?_
  | with_reducible refine w_nnot ?_
  | with_reducible refine w_nput ?_
  | with_reducible refine w_ndel ?_
  | with_reducible refine w_npop ?_
  | ((with_reducible refine' w_nnew ?hs ?_); (case hs => assumption); intro _ _ _))

/-! ## the values -/
def oV : Option Int → V
  | none => .non
  | some i => .int i
/-- the numbers fit what is asked for -/
def fit1 (m : Option Int) (n : Int) : Bool := match m with
  | none => true
  | some x => decide (x = n)
def fitsM (m : List (Option Int)) (ns : List Int) : Bool := (m.zip ns).all fun p => fit1 p.1 p.2
/-- a header with changes -/
def ch1 (h : Int) (c : Option Int) : Int := match c with
  | none => h
  | some x => x
def chM (h : List Int) (c : List (Option Int)) : List Int := (h.zip c).map fun p => ch1 p.1 p.2
theorem all_take {α : Type} {p : α → Bool} {l : List α} {i : Nat} {x : α} (e : l[i]? = some x) (h0 : (l.take i).all p = true) (h : p x = true) : (l.take (i + 1)).all p = true := by
  rw [List.take_add_one, e, List.all_append, h0]
  show (true && ([x].all p)) = true
  simp [h]
theorem all_not {α : Type} {p : α → Bool} {l : List α} {i : Nat} {x : α} (e : l[i]? = some x) (h : p x = false) : l.all p = false := by
  cases c : l.all p with
  | false => rfl
  | true =>
    have := List.all_eq_true.mp c x (List.mem_of_getElem? e)
    rw [h] at this
    cases this
theorem zip_at {α β : Type} {xs : List α} {ys : List β} {i : Nat} {x : α} {y : β} (h1 : xs[i]? = some x) (h2 : ys[i]? = some y) : (xs.zip ys)[i]? = some (x, y) := by
  rw [List.getElem?_zip_eq_some]
  exact ⟨h1, h2⟩
theorem map_at {α β : Type} {f : α → β} {l : List α} {i : Nat} {y : β} (h : (l.map f)[i]? = some y) : ∃ x, l[i]? = some x ∧ f x = y := by
  rw [List.getElem?_map] at h
  obtain ⟨x, h1, h2⟩ := Option.map_eq_some_iff.mp h
  exact ⟨x, h1, h2⟩
theorem same_upd {H : Hp} {t : Addr} {o : HO} (h : H t = none) : Same H (upd H t o) := fun b u e => by
  have n : b ≠ t := fun z => by
    rw [z, h] at e
    cases e
  rw [upd_ne n]
  exact e
section
variable {P : Program} {w : World} {K : PySem.W.Frag} {mg : Str → Option Value} {base : Heap} {a : Ad}
def sp_fits : Sp := fun vs H Q _ => ∃ (tm th : Addr) (m : List (Option Int)) (port : Int) (h : List Int), vs = [.ref tm, .int port, .ref th] ∧ H tm = some (.tup (m.map oV)) ∧ H th = some (.tup (h.map V.int)) ∧ m.length = h.length + 1 ∧ h.length ≤ 1000 ∧
  ∀ H', Same H H' → Q (.bl (fitsM m (port :: h))) H'
def sp_changed : Sp := fun vs H Q _ => ∃ (th tc : Addr) (h : List Int) (c : List (Option Int)), vs = [.ref th, .ref tc] ∧ H th = some (.tup (h.map V.int)) ∧ H tc = some (.tup (c.map oV)) ∧ h.length = c.length ∧ h.length ≤ 1000 ∧
  ∀ t N H', Hs H ((t, .tup ((chM h c).map V.int)) :: N) H' → Q (.ref t) H'
theorem ok_fits (T : Txt K mg a) : FnOk P w K mg base CX0 1 a.fits a.fd_fits ["match", "port", "header"] sp_fits := by
  refine T.fn_fits.ok sc_fits (fun vs H Q E h => ?_) (fun cdv A outer s H vs Q E hr h => ?_)
  · obtain ⟨_, _, _, _, _, rfl, _⟩ := h
    rfl
  · obtain ⟨tm, th, m, port, h, rfl, hm, hh, hl, hz, k⟩ := h
    have hs := Hs.start H
    refine ⟨_, (pss_cons (ps_for PassesOwn.never rfl (pi_zipK (K := K) (by rfl) T.mg_zip (pa_cons (pv 0) (pa_cons (pe_tup (pa_cons (pv 1) (pa_starK (K := K) (pv 2) pa_nil))) pa_nil))) (pg_tupK (K := K) rfl (pgs_cons (pg_name (i := 3) sc_fits.nd rfl (Or.inl rfl)) (pgs_cons (pg_name (i := 4) sc_fits.nd rfl (Or.inl rfl)) pgs_nil)))
  (pss_one (ps_if (PW.pt (pw_and (pt_cmpR op_notNQ (pv 3) pe_non (nomark _)) (pw_and1 (pt_cmpR op_ne (pv 3) (pv 4) (nomark _)))))
  (pss_one (ps_ret pe_bl))
  pss_nil)))
  (pss_one (ps_ret pe_bl))), ?_⟩
    refine w_seq (w_zipF ?_)
    walk_at "ss"
    refine w_star ?_
    walk_at "ss"
    refine ⟨th, _, rfl, .inl (SqT.of hh), ?_⟩
    walk_at "ss"
    rename_i tp H1 hs1
    have e0 : V.int port :: (h.map V.int ++ []) = (port :: h).map V.int := by rw [List.append_nil]; rfl
    rw [e0] at hs1
    refine w_zipT (xs := m.map oV) (ys := (port :: h).map V.int) (hs1.same _ _ hm) hs1.g0 (by rw [List.length_map, List.length_map, List.length_cons, hl]) (fun i σ' H' => Same H1 H' ∧ ((m.zip (port :: h)).take i).all (fun p => fit1 p.1 p.2) = true ∧ ∃ v3 v4, σ' = [some (.ref tm), some (.int port), some (.ref th), v3, v4])
      ⟨Same.refl _, rfl, none, none, rfl⟩ (fun i σ' H' ⟨e, _⟩ => ⟨e _ _ (hs1.same _ _ hm), e _ _ hs1.g0⟩) ?_ ?_
    · rintro i x y t σ' H' hx hy ⟨sm, al, v3, v4, rfl⟩ ht
      obtain ⟨mi, hmi, rfl⟩ := map_at hx
      obtain ⟨n, hn, rfl⟩ := map_at hy
      have hz2 := zip_at hmi hn
      have sm2 : Same H1 (upd H' t (.tup [oV mi, .int n])) := sm.trans (same_upd ht)
      refine w_gtup (SqT.of upd_same) rfl ?_
      walk_at "ss"
      cases mi with
      | none =>
        rw [if_neg (show ¬ (!decide (oV none = V.non)) = true by simp [oV]), if_neg (show ¬ false = true by decide)]
        walk_at "ss"
        exact ⟨sm2, all_take hz2 al rfl, _, _, rfl⟩
      | some z =>
        rw [if_pos (show (!decide (oV (some z) = V.non)) = true by simp [oV])]
        walk_at "ss"
        refine w_neI (a := z) (b := n) ?_
        walk_at "ss"
        by_cases hq : z = n
        · refine ifn (fun z => absurd hq z) (fun _ => ?_)
          walk_at "ss"
          exact ⟨sm2, all_take hz2 al (decide_eq_true hq), _, _, rfl⟩
        · refine ifn (fun _ => ?_) (fun z => absurd z (fun q => hq q))
          walk_at "ss"
          have e : fitsM m (port :: h) = false := all_not hz2 (decide_eq_false hq)
          rw [← e]
          exact k _ (hs1.same.trans sm2)
    · rintro σ' H' ⟨sm, al, v3, v4, rfl⟩
      walk_at "ss"
      have e : fitsM m (port :: h) = true := by
        rw [List.length_map, List.take_of_length_le (by rw [List.length_zip, List.length_cons]; omega)] at al
        exact al
      rw [← e]
      exact k _ (hs1.same.trans sm)
theorem ok_changed (T : Txt K mg a) : FnOk P w K mg base CX0 1 a.changed a.fd_changed ["header", "changes"] sp_changed := by
  refine T.fn_changed.ok sc_changed (fun vs H Q E h => ?_) (fun cdv A outer s H vs Q E hr h => ?_)
  · obtain ⟨_, _, _, _, rfl, _⟩ := h
    rfl
  · obtain ⟨th, tc, h, c, rfl, hh, hc, hl, hz, k⟩ := h
    have hs := Hs.start H
    refine ⟨_, (pss_one (ps_ret (pe_callTy call_tuple_of (by rfl) T.mg_tuple (by decide +kernel) (pa_cons (pe_lc (own := [("old", 2), ("new", 3)]) (g := (gTup K 2 (gCons (gName 2) (gCons (gName 3) gNil)))) (tt := tYes) rfl sc_changed.nd (pi_zipK (K := K) (by rfl) T.mg_zip (pa_cons (pv 0) (pa_cons (pv 1) pa_nil))) (blkOk_by (own := [("old", 2), ("new", 3)]) (N := N_changed) (sc := defScope s_changed) (by decide +kernel)) (fun _ _ _ _ _ => by exact (pg_tupK (K := K) rfl (pgs_cons (pg_name (i := 2) sc_changed.nd rfl (Or.inl rfl)) (pgs_cons (pg_name (i := 3) sc_changed.nd rfl (Or.inl rfl)) pgs_nil)))) (fun _ _ _ _ _ => pts_nil) (fun _ _ _ _ _ => by exact (pe_ifExp (pt_cmpR op_isNQ (pv 3) pe_non (nomark _)) (pv 2) (pv 3)))) pa_nil)))), ?_⟩
    walk_at "ss"
    refine w_lcZ ?_
    walk_at "ss"
    refine w_lcZT hh hc (by rw [List.length_map, List.length_map, hl]) (fun D i H' => ∃ N, Hs H ((D, .lst (((h.zip c).take i).map fun p => V.int (ch1 p.1 p.2))) :: N) H') (fun D hD => ⟨[], hs.new hD⟩) (fun D i H' _ ⟨N, q⟩ => ⟨q.same _ _ hh, q.same _ _ hc⟩) ?_ ?_
    · rintro D i x y t H' hx hy ⟨N, hs1⟩ ht
      obtain ⟨n, hn, rfl⟩ := map_at hx
      obtain ⟨ci, hci, rfl⟩ := map_at hy
      have hs2 := (hs1.new (o := .tup [.int n, oV ci]) ht).m1
      have e : ((h.zip c).take (i + 1)).map (fun p => V.int (ch1 p.1 p.2)) = ((h.zip c).take i).map (fun p => V.int (ch1 p.1 p.2)) ++ [V.int (ch1 n ci)] := by
        rw [List.take_add_one, zip_at hn hci, List.map_append]
        rfl
      have fin : ∃ acc, upd H' t (.tup [.int n, oV ci]) D = some (.lst acc) ∧ acc.length < sizeLine ∧ ∃ N, Hs H ((D, .lst (((h.zip c).take (i + 1)).map fun p => V.int (ch1 p.1 p.2))) :: N) (upd (upd H' t (.tup [.int n, oV ci])) D (.lst (acc ++ [V.int (ch1 n ci)]))) := by
        refine ⟨_, hs2.g0, szl ?_, (t, .tup [.int n, oV ci]) :: N, ?_⟩
        · rw [List.length_map, List.length_take, List.length_zip]
          omega
        · rw [e]
          exact hs2.p0 _
      refine w_gtup (SqT.of upd_same) rfl ?_
      walk_at "ss"
      refine ⟨rfl, ?_⟩
      walk_at "ss"
      cases ci with
      | none =>
        rw [if_pos (show decide (oV none = V.non) = true by simp [oV])]
        walk_at "ss"
        exact fin
      | some z =>
        rw [if_neg (show ¬ decide (oV (some z) = V.non) = true by simp [oV])]
        walk_at "ss"
        exact fin
    · rintro D H' ⟨N, hs1⟩
      walk_at "ss"
      rw [List.length_map, List.take_of_length_le (by rw [List.length_zip]; omega)] at hs1
      refine ⟨D, _, rfl, .inl ⟨SqL.of hs1.g0, fun l hl2 => ?_⟩⟩
      have hs2 := hs1.new (o := .tup ((h.zip c).map fun p => V.int (ch1 p.1 p.2))) hl2
      have e : (h.zip c).map (fun p => V.int (ch1 p.1 p.2)) = (chM h c).map V.int := by
        unfold chM
        rw [List.map_map]
        rfl
      rw [e] at hs2 ⊢
      exact k l _ _ hs2
end
local macro_rules | `(tactic| walk_at "s") => `(tactic| first
  | with_reducible refine w_nget ?_
  | with_reducible refine w_nin ?_
  | with_reducible refine w_nnot ?_
  | with_reducible refine w_nput ?_
  | with_reducible refine w_ndel ?_
  | with_reducible refine w_npop ?_
  | ((with_reducible refine' w_nnew ?hs ?_); (case hs => assumption); intro _ _ _))

abbrev Out := Int × List (Option Int)
abbrev Pr := Int × List Int
def OutAt (H : Hp) (u : V) (o : Out) : Prop := ∃ t tc : Addr, u = .ref t ∧ H t = some (.tup [.int o.1, .ref tc]) ∧ H tc = some (.tup (o.2.map oV))
def PrAt (H : Hp) (u : V) (x : Pr) : Prop := ∃ t tc : Addr, u = .ref t ∧ H t = some (.tup [.int x.1, .ref tc]) ∧ H tc = some (.tup (x.2.map V.int))
/-- side by side -/
def Row {α : Type} (R : V → α → Prop) (us : List V) (xs : List α) : Prop := us.length = xs.length ∧ ∀ (i : Nat) (u : V) (x : α), us[i]? = some u → xs[i]? = some x → R u x
theorem OutAt.same {H H' : Hp} (e : Same H H') {u : V} {o : Out} : OutAt H u o → OutAt H' u o := fun ⟨t, tc, h1, h2, h3⟩ => ⟨t, tc, h1, e _ _ h2, e _ _ h3⟩
theorem PrAt.same {H H' : Hp} (e : Same H H') {u : V} {o : Pr} : PrAt H u o → PrAt H' u o := fun ⟨t, tc, h1, h2, h3⟩ => ⟨t, tc, h1, e _ _ h2, e _ _ h3⟩
theorem Row.mono {α : Type} {R R' : V → α → Prop} (h : ∀ u x, R u x → R' u x) {us : List V} {xs : List α} (r : Row R us xs) : Row R' us xs := ⟨r.1, fun i u x h1 h2 => h _ _ (r.2 i u x h1 h2)⟩
theorem Row.get {α : Type} {R : V → α → Prop} {us : List V} {xs : List α} (r : Row R us xs) {i : Nat} {u : V} (h : us[i]? = some u) : ∃ x, xs[i]? = some x ∧ R u x := by
  have hi := (List.getElem?_eq_some_iff.mp h).1
  have h2 : xs[i]? = some (xs[i]'(by have := r.1; omega)) := List.getElem?_eq_getElem _
  exact ⟨_, h2, r.2 i _ _ h h2⟩
theorem ints_eq {x y : List Int} (h : x.map V.int = y.map V.int) : x = y := by
  induction x generalizing y with
  | nil =>
    cases y with
    | nil => rfl
    | cons _ _ => cases h
  | cons a x ih =>
    cases y with
    | nil => cases h
    | cons b y =>
      rw [List.map_cons, List.map_cons] at h
      injection h with h1 h2
      injection h1 with h1
      rw [h1, ih h2]
theorem PrAt.inj {H : Hp} {u : V} {x y : Pr} (h1 : PrAt H u x) (h2 : PrAt H u y) : x = y := by
  obtain ⟨t, tc, rfl, a1, a2⟩ := h1
  obtain ⟨t', tc', e, b1, b2⟩ := h2
  cases e
  rw [a1] at b1
  injection b1 with b1
  injection b1 with b1
  injection b1 with c1 c2
  injection c1 with c1
  injection c2 with c2
  injection c2 with c2
  subst c2
  rw [a2] at b2
  injection b2 with b2
  injection b2 with b2
  exact Prod.ext c1 (ints_eq b2)
/-- a pair as a key, as its ints -/
def itP (x : Pr) : List Itm := [.inl x.1, .inr x.2]
def keyP (x : Pr) : NestedKey := nkK (itP x)
abbrev flP (x : Pr) : List Int := x.1 :: x.2
theorem fl_itP (x : Pr) : flK (itP x) = flP x := by simp [flK, itP, flI]
theorem keyP_inj {x y : Pr} (h : keyP x = keyP y) : x = y := by
  unfold keyP nkK itP at h
  injection h with h
  rw [List.map_cons, List.map_cons, List.map_cons, List.map_cons] at h
  injection h with h1 h2
  injection h2 with h2 _
  have e1 := nkI_inj h1
  have e2 := nkI_inj h2
  injection e1 with e1
  injection e2 with e2
  exact Prod.ext e1 e2
theorem noTx_nums : ∀ ns : List Int, noTxs (ns.map .num) = true
  | [] => rfl
  | _ :: ns => by
    rw [List.map_cons]
    simp only [noTxs, noTx, Bool.true_and]
    exact noTx_nums ns
theorem nks_ints {H : Hp} : ∀ ns : List Int, NKs H (ns.map .num) (ns.map V.int)
  | [] => .nil
  | n :: ns => .cons (.int n) (nks_ints ns)
theorem PrAt.el {H : Hp} {t : Addr} {x : Pr} (h : PrAt H (.ref t) x) : ElN H (keyP x, t) := by
  obtain ⟨t', tc, e, h1, h2⟩ := h
  cases e
  refine ⟨.tup h1 (.cons (.int _) (.cons (.tup h2 (nks_ints _)) .nil)), ?_, ?_⟩
  · have d := depth_nums x.2
    show (NestedKey.tup [.num x.1, .tup (x.2.map .num)]).depth ≤ 8
    simp only [NestedKey.depth, NestedKey.depthAll]
    omega
  · show noTx (NestedKey.tup [.num x.1, .tup (x.2.map .num)]) = true
    simp only [noTx, noTxs, noTx_nums, Bool.and_self, Bool.and_true]
/-- what is done with a header: a copy for each out -/
def copies (outs : List Out) (h : List Int) : List Pr := outs.map fun o => (o.1, chM h o.2)
/-- .. sorted, each once -/
structure IsDone (xs rs : List Pr) : Prop where
  le : rs.Pairwise fun x y => lexI (flP y) (flP x) = false
  nd : rs.Nodup
  mem : ∀ x, x ∈ rs ↔ x ∈ xs
theorem IsDone.unique {xs rs ts : List Pr} (h1 : IsDone xs rs) (h2 : IsDone xs ts) : rs = ts := by
  have pm : rs.Perm ts := (List.perm_ext_iff_of_nodup h1.nd h2.nd).mpr fun x => (h1.mem x).trans (h2.mem x).symm
  refine pm.eq_of_pairwise (fun x y _ _ a b => ?_) h1.le h2.le
  have e := lexI_total _ _ b a
  injection e with e1 e2
  exact Prod.ext e1 e2
section
variable {P : Program} {w : World} {K : PySem.W.Frag} {mg : Str → Option Value} {base : Heap} {a : Ad}
open Classical in
/-- the ints of what stands at v -/
noncomputable def kOf (H : Hp) (v : V) : List Itm := if h : ∃ x, PrAt H v x then itP (choose h) else []
theorem kOf_at {H : Hp} {v : V} {x : Pr} (h : PrAt H v x) : kOf H v = itP x := by
  unfold kOf
  rw [dif_pos ⟨x, h⟩]
  exact congrArg itP ((Classical.choose_spec (⟨x, h⟩ : ∃ x, PrAt H v x)).inj h)
open Classical in
/-- the pair that stands at v -/
noncomputable def prOf (H : Hp) (v : V) : Pr := if h : ∃ x, PrAt H v x then choose h else (0, [])
theorem prOf_at {H : Hp} {v : V} {x : Pr} (h : PrAt H v x) : prOf H v = x := by
  unfold prOf
  rw [dif_pos ⟨x, h⟩]
  exact (Classical.choose_spec (⟨x, h⟩ : ∃ x, PrAt H v x)).inj h
def sp_done : Sp := fun vs H Q _ => ∃ (lo th : Addr) (us : List V) (outs : List Out) (h : List Int), vs = [.ref lo, .ref th] ∧ H lo = some (.lst us) ∧ Row (OutAt H) us outs ∧ H th = some (.tup (h.map V.int)) ∧ h.length = 3 ∧ (∀ o ∈ outs, o.2.length = 3) ∧ outs.length ≤ 60 ∧
  ∀ l ys N H' rs, Hs H ((l, .lst ys) :: N) H' → Row (PrAt H') ys rs → IsDone (copies outs h) rs → Q (.ref l) H'
theorem ok_done (T : Txt K mg a) : FnOk P w K mg base CX0 2 a.done a.fd_done ["outs", "header"] sp_done := by
  have G_changed := ok_changed (P := P) (w := w) (base := base) T
  refine T.fn_done.ok sc_done (fun vs H Q E h => ?_) (fun cdv A outer s H vs Q E hr h => ?_)
  · obtain ⟨_, _, _, _, _, rfl, _⟩ := h
    rfl
  · obtain ⟨lo, th, us, outs, h, rfl, hlo, hrow, hth, hl, hc3, hz, k⟩ := h
    have hs := Hs.start H
    refine ⟨_, (pss_one (ps_ret (pe_callB (cr_sortSN (P := P) (w := w) (c := none) (sh := [some 3]) rfl (r64 hr)) (by rfl) T.mg_sorted (by decide +kernel) (pa_cons (pe_snK (P := P) (w := w) (own := [("port", 2), ("changes", 3)]) (g := (gTup K 2 (gCons (gName 2) (gCons (gName 3) gNil)))) (tt := tYes) rfl (r64 hr) sc_done.nd (pi_listK (K := K) (pv 0)) (blkOk_by (own := [("port", 2), ("changes", 3)]) (N := N_done) (sc := defScope s_done) (by decide +kernel)) (fun _ _ _ _ _ => by exact (pg_tupK (K := K) rfl (pgs_cons (pg_name (i := 2) sc_done.nd rfl (Or.inl rfl)) (pgs_cons (pg_name (i := 3) sc_done.nd rfl (Or.inl rfl)) pgs_nil)))) (fun _ _ _ _ _ => pts_nil) (fun _ _ _ _ _ => by exact (pe_tup (pa_cons (pv 2) (pa_cons (pe_call G_changed (hr.mono (by decide)) rfl T.mg_changed T.kp_changed T.bi_changed .nil pass0 (pa_cons (pv 1) (pa_cons (pv 3) pa_nil))) pa_nil))))) pa_nil)))), ?_⟩
    walk_at "ss"
    refine w_snL ?_
    walk_at "ss"
    refine w_listR (SqL.of hlo) fun D hD => ?_
    refine turns_list (Body := SnBody P w (gTup K 2 (gCons (gName 2) (gCons (gName 3) gNil))) tYes _ _ _ D) (xs := us) (fun i H' => ∃ (L : List (NestedKey × Addr)) (N : List (Addr × HO)), Hs H ((D, SN P w D L) :: N) H' ∧ L.length ≤ i ∧ (∀ e ∈ L, ∃ x, e.1 = keyP x ∧ PrAt H' (.ref e.2) x) ∧ ∀ x, keyP x ∈ L.map (·.1) ↔ x ∈ (copies outs h).take i)
      ⟨[], [], hs.new hD, Nat.le_refl _, (fun e z => nomatch z), fun x => by simp⟩ (fun i H' _ ⟨L, N, q, _⟩ => SqL.of (q.same _ _ hlo)) ?_ ?_
    · rintro i u H' hu ⟨L, N, hs1, hLi, hel, hmem⟩
      obtain ⟨o, ho, ⟨t, tc, rfl, ht, htc⟩⟩ := hrow.get hu
      have hi : i < outs.length := (List.getElem?_eq_some_iff.mp ho).1
      refine w_gtup (SqT.of (hs1.same _ _ ht)) rfl ?_
      walk_at "ss"
      refine ⟨rfl, ?_⟩
      walk_at "ss"
      refine ⟨th, tc, h, o.2, rfl, hs1.same _ _ hth, hs1.same _ _ htc, by rw [hl, hc3 o (List.mem_of_getElem? ho)], by omega, fun t2 N2 H2 hs2 => ?_⟩
      have hs3 := hs1.add hs2
      have hsS := Hs.start H2
      walk_at "ss"
      rename_i p H3 hs4
      have hs5 := hs3.add hs4
      have hs6 : Hs H ((D, SN P w D L) :: ((p, .tup [.int o.1, .ref t2]) :: (t2, .tup ((chM h o.2).map V.int)) :: N2 ++ N)) H3 := hs5.perm (List.perm_middle (l₁ := (p, .tup [.int o.1, .ref t2]) :: (t2, .tup ((chM h o.2).map V.int)) :: N2)).symm
      have sm : Same H' H3 := hs2.same.trans hs4.same
      have hx0 : PrAt H3 (.ref p) (o.1, chM h o.2) := ⟨p, t2, rfl, hs4.g0, hs4.same _ _ hs2.g0⟩
      have hel3 : ∀ e ∈ L, ∃ x, e.1 = keyP x ∧ PrAt H3 (.ref e.2) x := fun e he => by
        obtain ⟨x, e1, e2⟩ := hel e he
        exact ⟨x, e1, e2.same sm⟩
      have htk : (copies outs h).take (i + 1) = (copies outs h).take i ++ [(o.1, chM h o.2)] := by
        have e : (copies outs h)[i]? = some (o.1, chM h o.2) := by
          unfold copies
          rw [List.getElem?_map, ho]
          rfl
        rw [List.take_add_one, e]
        rfl
      refine ⟨L, (keyP (o.1, chM h o.2), p), rfl, hs6.g0, fun e he => ?_, hx0.el, by omega, fun L' hA => ⟨L', _, hs6.p0 _, ?_, fun e he => ?_, fun x => ?_⟩⟩
      · obtain ⟨x, e1, e2⟩ := hel3 e he
        rw [show e = (keyP x, e.2) from Prod.ext e1 rfl]
        exact e2.el
      · by_cases hk : keyP (o.1, chM h o.2) ∈ L.map (·.1)
        · rw [hA.1 hk]
          omega
        · rw [(hA.2 hk).length_eq, List.length_cons]
          omega
      · have key : ∃ x, e.1 = keyP x ∧ PrAt H3 (.ref e.2) x := by
          by_cases hk : keyP (o.1, chM h o.2) ∈ L.map (·.1)
          · rw [hA.1 hk] at he
            exact hel3 e he
          · rcases List.mem_cons.mp ((hA.2 hk).mem_iff.mp he) with rfl | he
            · exact ⟨_, rfl, hx0⟩
            · exact hel3 e he
        obtain ⟨x, e1, t', tc', e2, e3, e4⟩ := key
        exact ⟨x, e1, t', tc', e2, tup_but hs6.g0 (fun _ z => by cases z) _ _ e3, tup_but hs6.g0 (fun _ z => by cases z) _ _ e4⟩
      · rw [htk, List.mem_append, List.mem_singleton, ← hmem x]
        by_cases hk : keyP (o.1, chM h o.2) ∈ L.map (·.1)
        · rw [hA.1 hk]
          exact ⟨.inl, fun z => z.elim id fun e => by rw [e]; exact hk⟩
        · rw [((hA.2 hk).map (·.1)).mem_iff, List.map_cons, List.mem_cons]
          exact ⟨fun z => z.elim (fun e => .inr (keyP_inj e)) .inl, fun z => z.elim .inr fun e => .inl (by rw [e])⟩
    · rintro H' ⟨L, N, hs1, hLi, hel, hmem⟩
      walk_at "ss"
      have hfull : (copies outs h).take us.length = copies outs h := List.take_of_length_le (by unfold copies; rw [List.length_map, hrow.1]; exact Nat.le_refl _)
      rw [hfull] at hmem
      have hlen3 : ∀ e ∈ L, ∀ x, e.1 = keyP x → x.2.length = 3 := fun e he x e1 => by
        have hm := (hmem x).mp (by rw [← e1]; exact List.mem_map.mpr ⟨e, he, rfl⟩)
        obtain ⟨o, ho, rfl⟩ := List.mem_map.mp hm
        show (chM h o.2).length = 3
        unfold chM
        rw [List.length_map, List.length_zip, hl, hc3 o ho]
        rfl
      refine ⟨D, L, kOf H', rfl, hs1.g0, fun e he => ?_, fun ys l hsrt hpm hnd hln => ?_⟩
      · obtain ⟨x, e1, e2⟩ := hel e he
        rw [kOf_at e2]
        refine ⟨?_, e1, ?_⟩
        · rw [e1]
          exact e2.el.1
        · have h3 := hlen3 e he x e1
          show [none, some x.2.length] = [none, some 3]
          rw [h3]
      · have hs2 := hs1.new (o := .lst ys) hln
        have hat : ∀ v ∈ ys, PrAt H' v (prOf H' v) := fun v hv => by
          obtain ⟨e, he, rfl⟩ := List.mem_map.mp (hpm.mem_iff.mp hv)
          obtain ⟨x, _, e2⟩ := hel e he
          rw [prOf_at e2]
          exact e2
        have hk : (ys.map (prOf H')).map keyP = ys.map fun v => keyP (prOf H' v) := List.map_map
        have hkL : (ys.map fun v => keyP (prOf H' v)).Perm (L.map (·.1)) := by
          refine (hpm.map _).trans (List.Perm.of_eq ?_)
          rw [List.map_map]
          refine List.map_congr_left fun e he => ?_
          obtain ⟨x, e1, e2⟩ := hel e he
          show keyP (prOf H' (.ref e.2)) = e.1
          rw [prOf_at e2, e1]
        refine k l ys _ _ (ys.map (prOf H')) hs2 ⟨(List.length_map _).symm, fun i u x h1 h2 => ?_⟩ ⟨?_, ?_, fun x => ?_⟩
        · rw [List.getElem?_map, h1] at h2
          cases h2
          exact (hat u (List.mem_of_getElem? h1)).same (same_upd hln)
        · refine List.pairwise_map.mpr (hsrt.imp_of_mem fun {u v} hu hv q => ?_)
          have q2 : lexI (flK (kOf H' v)) (flK (kOf H' u)) = false := q
          rw [kOf_at (hat u hu), kOf_at (hat v hv), fl_itP, fl_itP] at q2
          exact q2
        · refine nodup_of_map (f := keyP) ?_
          rw [hk]
          exact hkL.nodup_iff.mpr hnd
        · rw [← hmem x, ← hkL.mem_iff, ← hk]
          exact ⟨fun z => List.mem_map.mpr ⟨x, z, rfl⟩, fun z => by
            obtain ⟨y, hy, e⟩ := List.mem_map.mp z
            rw [← keyP_inj e]
            exact hy⟩
end
local macro_rules | `(tactic| walk_at "s") => `(tactic| first
  | with_reducible refine w_nget ?_
  | with_reducible refine w_nin ?_
  | with_reducible refine w_nnot ?_
  | with_reducible refine w_nput ?_
  | with_reducible refine w_ndel ?_
  | with_reducible refine w_npop ?_
  | ((with_reducible refine' w_nnew ?hs ?_); (case hs => assumption); intro _ _ _))

abbrev Rl := List (Option Int) × List Out
/-- a rule as it is told: its match has four places, its outs three changes each -/
structure WfR (r : Rl) : Prop where
  m : r.1.length = 4
  o : ∀ o ∈ r.2, o.2.length = 3
  z : r.2.length ≤ 60
def RlAt (H : Hp) (u : V) (r : Rl) : Prop := ∃ (t tm lo : Addr) (os : List V), u = .ref t ∧ H t = some (.tup [.ref tm, .ref lo]) ∧ H tm = some (.tup (r.1.map oV)) ∧ H lo = some (.lst os) ∧ Row (OutAt H) os r.2
theorem RlAt.same {H H' : Hp} (e : Same H H') {u : V} {r : Rl} : RlAt H u r → RlAt H' u r := fun ⟨t, tm, lo, os, h1, h2, h3, h4, h5⟩ => ⟨t, tm, lo, os, h1, e _ _ h2, e _ _ h3, e _ _ h4, h5.mono fun _ _ => OutAt.same e⟩
def copiesR (rs : List Rl) (port : Int) (h : List Int) : List Pr := match rs.find? fun r => fitsM r.1 (port :: h) with
  | some r => copies r.2 h
  | none => []
theorem find_first {α : Type} {p : α → Bool} : ∀ {ls : List α} {i : Nat} {l : α}, ls[i]? = some l → (ls.take i).find? p = none → p l = true → ls.find? p = some l
  | y :: ys, 0, l, e, _, h => by
    cases e
    rw [List.find?_cons, h]
  | y :: ys, i + 1, l, e, h0, h => by
    rw [List.take_succ_cons, List.find?_cons] at h0
    cases hy : p y with
    | true =>
      rw [hy] at h0
      cases h0
    | false =>
      rw [hy] at h0
      rw [List.find?_cons, hy]
      exact find_first (by simpa using e) h0 h
theorem find_next {α : Type} {p : α → Bool} {ls : List α} {i : Nat} {l : α} (e : ls[i]? = some l) (h0 : (ls.take i).find? p = none) (h : p l = false) : (ls.take (i + 1)).find? p = none := by
  rw [List.take_add_one, e, List.find?_append, h0]
  show List.find? p [l] = none
  rw [List.find?_cons, h]
  rfl
theorem IsDone.nil : IsDone [] [] := ⟨List.Pairwise.nil, List.nodup_nil, fun _ => Iff.rfl⟩
section
variable {P : Program} {w : World} {K : PySem.W.Frag} {mg : Str → Option Value} {base : Heap} {a : Ad}
def sp_rules_do : Sp := fun vs H Q _ => ∃ (lr th : Addr) (us : List V) (rs : List Rl) (port : Int) (h : List Int), vs = [.ref lr, .int port, .ref th] ∧ H lr = some (.lst us) ∧ Row (RlAt H) us rs ∧ (∀ r ∈ rs, WfR r) ∧ H th = some (.tup (h.map V.int)) ∧ h.length = 3 ∧
  ∀ l ys N H' ps, Hs H ((l, .lst ys) :: N) H' → Row (PrAt H') ys ps → IsDone (copiesR rs port h) ps → Q (.ref l) H'
theorem ok_rules_do (T : Txt K mg a) : FnOk P w K mg base CX0 3 a.rules_do a.fd_rules_do ["rules", "port", "header"] sp_rules_do := by
  have G_fits := ok_fits (P := P) (w := w) (base := base) T
  have G_done := ok_done (P := P) (w := w) (base := base) T
  refine T.fn_rules_do.ok sc_rules_do (fun vs H Q E h => ?_) (fun cdv A outer s H vs Q E hr h => ?_)
  · obtain ⟨_, _, _, _, _, _, rfl, _⟩ := h
    rfl
  · obtain ⟨lr, th, us, rs, port, h, rfl, hlr, hrow, hwf, hth, hl, k⟩ := h
    have hs := Hs.start H
    refine ⟨_, (pss_cons (ps_for PassesOwn.never rfl (pi_listK (K := K) (pv 0)) (pg_tupK (K := K) rfl (pgs_cons (pg_name (i := 3) sc_rules_do.nd rfl (Or.inl rfl)) (pgs_cons (pg_name (i := 4) sc_rules_do.nd rfl (Or.inl rfl)) pgs_nil)))
  (pss_one (ps_if (pt_val (pe_call G_fits (hr.mono (by decide)) rfl T.mg_fits T.kp_fits T.bi_fits .nil pass0 (pa_cons (pv 3) (pa_cons (pv 1) (pa_cons (pv 2) pa_nil)))))
  (pss_one (ps_ret (pe_call G_done (hr.mono (by decide)) rfl T.mg_done T.kp_done T.bi_done .nil pass0 (pa_cons (pv 4) (pa_cons (pv 2) pa_nil)))))
  pss_nil)))
  (pss_one (ps_ret (pe_lst pa_nil)))), ?_⟩
    refine w_seq (w_forL (SqL.of hlr) (fun i σ' H' => Same H H' ∧ (rs.take i).find? (fun r => fitsM r.1 (port :: h)) = none ∧ ∃ v3 v4, σ' = [some (.ref lr), some (.int port), some (.ref th), v3, v4]) (fun Q' q => ?_) ⟨Same.refl _, rfl, none, none, rfl⟩ (fun i σ' H' _ ⟨e, _⟩ => SqL.of (e _ _ hlr)) ?_ ?_)
    · walk_at "ss"
      exact q
    · rintro i u σ' H' hu ⟨sm, hf, v3, v4, rfl⟩
      obtain ⟨r, hri, t, tm, lo, os, rfl, h2, h3, h4, h5⟩ := hrow.get hu
      have wf := hwf r (List.mem_of_getElem? hri)
      refine w_gtup (SqT.of (sm _ _ h2)) rfl ?_
      walk_at "ss"
      refine ⟨tm, th, r.1, port, h, rfl, sm _ _ h3, sm _ _ hth, by rw [wf.m, hl], by omega, fun H2 sm2 => ?_⟩
      have sm3 := sm.trans sm2
      walk_at "ss"
      cases hfit : fitsM r.1 (port :: h) with
      | true =>
        refine iteT ?_
        walk_at "ss"
        have ef : copiesR rs port h = copies r.2 h := by
          unfold copiesR
          rw [find_first hri hf hfit]
        refine ⟨lo, th, os, r.2, h, rfl, sm3 _ _ h4, h5.mono fun _ _ => OutAt.same sm3, sm3 _ _ hth, hl, wf.o, wf.z, fun l ys N H3 ps hs3 hp hd => ?_⟩
        exact k l ys N H3 ps ⟨sm3.trans hs3.same, hs3.nd, fun e he => sm3.free (hs3.out e he), hs3.at_⟩ hp (by rw [ef]; exact hd)
      | false =>
        refine iteF ?_
        walk_at "ss"
        exact ⟨sm3, find_next hri hf hfit, _, _, rfl⟩
    · rintro σ' H' ⟨sm, hf, v3, v4, rfl⟩
      have ef : copiesR rs port h = [] := by
        unfold copiesR
        rw [List.take_of_length_le (by rw [hrow.1]; exact Nat.le_refl _)] at hf
        rw [hf]
      have hsS : Hs H [] H' := Hs.of_same sm
      walk_at "ss"
      rename_i l H2 hs2
      exact k l [] [] H2 [] hs2 ⟨rfl, fun _ _ _ z => nomatch z⟩ (by rw [ef]; exact IsDone.nil)
end
local macro_rules | `(tactic| walk_at "s") => `(tactic| first
  | with_reducible refine w_nget ?_
  | with_reducible refine w_nin ?_
  | with_reducible refine w_nnot ?_
  | with_reducible refine w_nput ?_
  | with_reducible refine w_ndel ?_
  | with_reducible refine w_npop ?_
  | ((with_reducible refine' w_nnew ?hs ?_); (case hs => assumption); intro _ _ _))

/-! ## the table -/
/-- a version's rules as they stand: the list's address, its items, what they tell -/
structure Rw where
  v : Int
  at_ : Addr
  us : List V
  rs : List Rl
abbrev rwE (e : Rw) : Addr × HO := (e.at_, .lst e.us)
abbrev rwK (e : Rw) : Key × V := (Sum.inl e.v, .ref e.at_)
abbrev wyK (p : Int × Int) : Key × V := (Sum.inl p.1, .int p.2)
abbrev tabO (a : Ad) (dx w r : Addr) (tag : Int) : HO := .ins a.Table dx [("ways", .ref w), ("rules", .ref r), ("tag", .int tag)]
abbrev tabL (a : Ad) (x dx w r : Addr) (tag : Int) (ways : List (Int × Int)) (es : List Rw) : List (Addr × HO) :=
  (x, tabO a dx w r tag) :: (w, .dK (ways.map wyK)) :: (r, .dK (es.map rwK)) :: es.map rwE
/-- what the rows tell stands in the base -/
def RwOk (B : Hp) (es : List Rw) : Prop := ∀ e ∈ es, Row (RlAt B) e.us e.rs ∧ ∀ r ∈ e.rs, WfR r
theorem RwOk.same {B B' : Hp} (s : Same B B') {es : List Rw} (h : RwOk B es) : RwOk B' es := fun e he => ⟨(h e he).1.mono fun _ _ => RlAt.same s, (h e he).2⟩
def rows (es : List Rw) : Nat := (es.map fun e => e.us.length).sum
def cnt (ways : List (Int × Int)) (es : List Rw) : Nat := ways.length + rows es
theorem Hs.front {B H : Hp} {A C : List (Addr × HO)} {x : Addr × HO} (hs : Hs B (A ++ x :: C) H) : Hs B (x :: (A ++ C)) H := hs.perm List.perm_middle.symm
section
variable {P : Program} {w : World} {K : PySem.W.Frag} {mg : Str → Option Value} {base : Heap} {a : Ad}
def sp_Table_init (a : Ad) : Sp := fun vs H Q _ => ∃ (B : Hp) (x dx : Addr), vs = [.ref x] ∧ Hs B [(x, .ins a.Table dx [])] H ∧ ∀ w r H', Hs B (tabL a x dx w r 0 [] []) H' → Q .non H'
def sp_Table_wipe (a : Ad) : Sp := fun vs H Q _ => ∃ (B : Hp) (x dx w r : Addr) (tag : Int) (ways : List (Int × Int)) (es : List Rw), vs = [.ref x] ∧ Hs B (tabL a x dx w r tag ways es) H ∧ ∀ w r H', Hs B (tabL a x dx w r 0 [] []) H' → Q .non H'
def sp_Table_count (a : Ad) : Sp := fun vs H Q _ => ∃ (B : Hp) (x dx w r : Addr) (tag : Int) (ways : List (Int × Int)) (es : List Rw), vs = [.ref x] ∧ Hs B (tabL a x dx w r tag ways es) H ∧ es.length ≤ 1000 ∧ ∀ H', Hs B (tabL a x dx w r tag ways es) H' → Q (.int (cnt ways es)) H'
theorem ok_Table_init (T : Txt K mg a) : FnOk P w K mg base CX0 1 a.Table_init a.fd_Table_init ["self"] (sp_Table_init a) := by
  refine T.fn_Table_init.ok sc_Table_init (fun vs H Q E h => ?_) (fun cdv A outer s H vs Q E hr h => ?_)
  · obtain ⟨_, _, _, rfl, _⟩ := h
    rfl
  · obtain ⟨B, x, dx, rfl, hs, k⟩ := h
    have c1 := T.cl_Table
    have n1 := T.na_Table_ways
    have n2 := T.na_Table_rules
    have n3 := T.na_Table_tag
    refine ⟨_, (pss_cons (ps_fldK (K := K) (pv 0) pe_dnewK)
  (pss_cons (ps_fldK (K := K) (pv 0) pe_dnewK)
  (pss_one (ps_fldK (K := K) (pv 0) pe_int)))), ?_⟩
    walk_at "ss"
    rename_i hs5
    exact k _ _ _ hs5.m1.m2
theorem ok_Table_wipe (T : Txt K mg a) : FnOk P w K mg base CX0 1 a.Table_wipe a.fd_Table_wipe ["self"] (sp_Table_wipe a) := by
  refine T.fn_Table_wipe.ok sc_Table_wipe (fun vs H Q E h => ?_) (fun cdv A outer s H vs Q E hr h => ?_)
  · obtain ⟨_, _, _, _, _, _, _, _, rfl, _⟩ := h
    rfl
  · obtain ⟨B, x, dx, w1, r1, tag, ways, es, rfl, hs, k⟩ := h
    have hs := hs.sub (R := [(x, tabO a dx w1 r1 tag)]) (by simp)
    have c1 := T.cl_Table
    have n1 := T.na_Table_ways
    have n2 := T.na_Table_rules
    have n3 := T.na_Table_tag
    refine ⟨_, (pss_cons (ps_fldK (K := K) (pv 0) pe_dnewK)
  (pss_cons (ps_fldK (K := K) (pv 0) pe_dnewK)
  (pss_one (ps_fldK (K := K) (pv 0) pe_int)))), ?_⟩
    walk_at "ss"
    rename_i hs5
    exact k _ _ _ hs5.m1.m2
theorem ok_Table_count (T : Txt K mg a) : FnOk P w K mg base CX0 1 a.Table_count a.fd_Table_count ["self"] (sp_Table_count a) := by
  refine T.fn_Table_count.ok sc_Table_count (fun vs H Q E h => ?_) (fun cdv A outer s H vs Q E hr h => ?_)
  · obtain ⟨_, _, _, _, _, _, _, _, rfl, _⟩ := h
    rfl
  · obtain ⟨B, x, dx, w1, r1, tag, ways, es, rfl, hs, hz, k⟩ := h
    have c1 := T.cl_Table
    have n1 := T.na_Table_ways
    have n2 := T.na_Table_rules
    have n3 := T.na_Table_tag
    refine ⟨_, (pss_one (ps_ret (pe_op op_add (pe_callB call_lenD (by rfl) T.mg_len PySem.boot_len (pa_cons (pe_fldK (K := K) (pv 0)) pa_nil)) (pe_callB (cr_sumK (K := K) rfl) (by rfl) T.mg_sum (by decide +kernel) (pa_cons (pe_lock (pe_lc (own := [("rows", 1)]) (g := (gName 1)) (tt := tYes) rfl sc_Table_count.nd (pi_values (pe_fldK (K := K) (pv 0))) (blkOk_by (own := [("rows", 1)]) (N := N_Table_count) (sc := defScope s_Table_count) (by decide +kernel)) (fun _ _ _ _ _ => by exact (pg_name (i := 1) sc_Table_count.nd rfl (Or.inl rfl))) (fun _ _ _ _ _ => pts_nil) (fun _ _ _ _ _ => by exact (pe_callB (call_lenK (K := K)) (by rfl) T.mg_len PySem.boot_len (pa_cons (pv 1) pa_nil))))) pa_nil))))), ?_⟩
    walk_at "ss"
    refine ⟨w1, _, rfl, hs.g1, ?_⟩
    walk_at "ss"
    refine w_lockE hs (fun od => .there (.there .here)) fun od H1 hs1 => ?_
    refine w_lcV ?_
    walk_at "ss"
    refine w_valR hs1.g2 fun D hD => ?_
    refine turns_vals (Body := LcBody (gName 1) tYes _ _ _ D) (fun i H' => Hs B ((D, .lst ((es.take i).map fun e => V.int e.us.length)) :: (x, tabO a dx w1 r1 tag) :: (w1, .dK (ways.map wyK)) :: (r1, .frz od (.dK (es.map rwK))) :: es.map rwE) H') (hs1.new hD) (fun i H' _ q => q.g3) ?_ ?_
    · rintro i kk y H' hk hs2
      obtain ⟨e, he, h2⟩ := map_at hk
      cases h2
      have hm : H' e.at_ = some (.lst e.us) := hs2.mem (List.mem_cons_of_mem _ (List.mem_cons_of_mem _ (List.mem_cons_of_mem _ (List.mem_cons_of_mem _ (List.mem_map.mpr ⟨e, List.mem_of_getElem? he, rfl⟩)))))
      walk_at "ss"
      refine ⟨rfl, ?_⟩
      walk_at "ss"
      have ht : (es.take (i + 1)).map (fun e => V.int e.us.length) = (es.take i).map (fun e => V.int e.us.length) ++ [V.int e.us.length] := by
        rw [List.take_add_one, he, List.map_append]
        rfl
      refine ⟨_, hs2.g0, szl ?_, ?_⟩
      · rw [List.length_map, List.length_take]
        omega
      · rw [ht]
        exact hs2.p0 _
    · intro H' hs2
      rw [List.length_map, List.take_length] at hs2
      refine ⟨hs2.g3, ?_⟩
      have hs3 := hs2.p3 (.dK (es.map rwK))
      walk_at "ss"
      have e1 : es.map (fun e => V.int e.us.length) = (es.map fun e => (e.us.length : Int)).map V.int := by
        rw [List.map_map]
        rfl
      rw [e1] at hs3
      refine ⟨D, _, rfl, SqL.of hs3.g0, ?_⟩
      have e2 : ∀ l : List Rw, (l.map fun e => (e.us.length : Int)).sum = ((l.map fun e => e.us.length).sum : Nat) := fun l => by
        induction l with
        | nil => rfl
        | cons e l ih =>
          rw [List.map_cons, List.map_cons, List.sum_cons, List.sum_cons, ih]
          exact (Int.natCast_add _ _).symm
      rw [e2]
      walk_at "ss"
      have e3 : ((ways.map wyK).length : Int) + ((es.map fun e => e.us.length).sum : Nat) = (cnt ways es : Int) := by
        rw [List.length_map]
        exact (Int.natCast_add _ _).symm
      rw [e3]
      exact k _ hs3.tl
end
local macro_rules | `(tactic| walk_at "s") => `(tactic| first
  | with_reducible refine w_nget ?_
  | with_reducible refine w_nin ?_
  | with_reducible refine w_nnot ?_
  | with_reducible refine w_nput ?_
  | with_reducible refine w_ndel ?_
  | with_reducible refine w_npop ?_
  | ((with_reducible refine' w_nnew ?hs ?_); (case hs => assumption); intro _ _ _))

def findR (es : List Rw) (v : Int) : Option Rw := es.find? fun e => decide (e.v = v)
def rulesOf (es : List Rw) (v : Int) : List Rl := match findR es v with
  | some e => e.rs
  | none => []
def lenR (es : List Rw) (v : Int) : Nat := match findR es v with
  | some e => e.us.length
  | none => 0
theorem valR_find (v : Int) : ∀ es : List Rw, valV (es.map rwK) (Sum.inl v) = (findR es v).map fun e => V.ref e.at_
  | [] => rfl
  | e :: es => by
    have ih := valR_find v es
    by_cases h : e.v = v
    · rw [List.map_cons, valV_pos (show (rwK e).1 = Sum.inl v by rw [← h])]
      unfold findR
      rw [List.find?_cons, decide_eq_true h]
      rfl
    · rw [List.map_cons, valV_neg (show ¬ (rwK e).1 = Sum.inl v from fun z => h (Sum.inl.inj z)), ih]
      unfold findR
      rw [List.find?_cons, decide_eq_false h]
theorem findR_mem {es : List Rw} {v : Int} {e : Rw} (h : findR es v = some e) : e ∈ es ∧ e.v = v := ⟨List.mem_of_find?_eq_some h, of_decide_eq_true (List.find?_some (p := fun e : Rw => decide (e.v = v)) h)⟩
theorem findR_none {es : List Rw} {v : Int} (h : findR es v = none) : ∀ e ∈ es, e.v ≠ v := fun e he z => by
  have := List.find?_eq_none.mp h e he
  exact this (decide_eq_true z)
def dropR (es : List Rw) (v : Int) : List Rw := es.filter fun e => decide (e.v ≠ v)
theorem dropR_map (v : Int) : ∀ es : List Rw, dropK (es.map rwK) (Sum.inl v) = (dropR es v).map rwK
  | [] => rfl
  | e :: es => by
    have ih := dropR_map v es
    unfold dropK dropR at ih ⊢
    rw [List.map_cons, List.filter_cons, List.filter_cons, ih]
    by_cases h : e.v = v
    · rw [if_neg (by simp [h]), if_neg (by simp [h])]
    · rw [if_pos (by simp [h]), if_pos (by simp [h]), List.map_cons]
def dropW (ways : List (Int × Int)) (t : Int) : List (Int × Int) := ways.filter fun p => decide (p.1 ≠ t)
theorem dropW_map (t : Int) : ∀ ways : List (Int × Int), dropK (ways.map wyK) (Sum.inl t) = (dropW ways t).map wyK
  | [] => rfl
  | p :: ways => by
    have ih := dropW_map t ways
    unfold dropK dropW at ih ⊢
    rw [List.map_cons, List.filter_cons, List.filter_cons, ih]
    by_cases h : p.1 = t
    · rw [if_neg (by simp [h]), if_neg (by simp [h])]
    · rw [if_pos (by simp [h]), if_pos (by simp [h]), List.map_cons]
theorem valV_none {kvs : List (Key × V)} {k : Key} (h : valV kvs k = none) : dropK kvs k = kvs := by
  unfold dropK
  refine List.filter_eq_self.mpr fun p hp => ?_
  refine decide_eq_true fun e => ?_
  unfold valV at h
  have h1 := List.find?_eq_none.mp (Option.map_eq_none_iff.mp h) p hp
  exact h1 (decide_eq_true e)
theorem RwOk.drop {B : Hp} {es : List Rw} {v : Int} (h : RwOk B es) : RwOk B (dropR es v) := fun e he => h e (List.mem_filter.mp he).1
section
variable {P : Program} {w : World} {K : PySem.W.Frag} {mg : Str → Option Value} {base : Heap} {a : Ad}
def sp_Table_drop (a : Ad) : Sp := fun vs H Q _ => ∃ (B : Hp) (x dx w r : Addr) (tag : Int) (ways : List (Int × Int)) (es : List Rw) (v : Int), vs = [.ref x, .int v] ∧ Hs B (tabL a x dx w r tag ways es) H ∧ ∀ H', Hs B (tabL a x dx w r tag ways (dropR es v)) H' → Q .non H'
def sp_Table_unlay (a : Ad) : Sp := fun vs H Q _ => ∃ (B : Hp) (x dx w r : Addr) (tag : Int) (ways : List (Int × Int)) (es : List Rw) (t : Int), vs = [.ref x, .int t] ∧ Hs B (tabL a x dx w r tag ways es) H ∧ ∀ H', Hs B (tabL a x dx w r tag (dropW ways t) es) H' → Q .non H'
def sp_Table_retag (a : Ad) : Sp := fun vs H Q _ => ∃ (B : Hp) (x dx w r : Addr) (tag : Int) (ways : List (Int × Int)) (es : List Rw) (v n : Int), vs = [.ref x, .int v, .int n] ∧ Hs B (tabL a x dx w r tag ways es) H ∧
  ((lenR es v : Int) = n → ∀ H', Hs B (tabL a x dx w r v ways es) H' → Q (.bl true) H') ∧ (¬ (lenR es v : Int) = n → ∀ H', Hs B (tabL a x dx w r tag ways es) H' → Q (.bl false) H')
def sp_Table_does (a : Ad) : Sp := fun vs H Q _ => ∃ (B : Hp) (x dx w r : Addr) (tag : Int) (ways : List (Int × Int)) (es : List Rw) (v port : Int) (th : Addr) (h : List Int), vs = [.ref x, .int v, .int port, .ref th] ∧ Hs B (tabL a x dx w r tag ways es) H ∧ RwOk B es ∧ H th = some (.tup (h.map V.int)) ∧ h.length = 3 ∧
  ∀ l ys N H' ps, Hs B ((l, .lst ys) :: N ++ tabL a x dx w r tag ways es) H' → Row (PrAt H') ys ps → IsDone (copiesR (rulesOf es v) port h) ps → Q (.ref l) H'
theorem ok_Table_drop (T : Txt K mg a) : FnOk P w K mg base CX0 1 a.Table_drop a.fd_Table_drop ["self", "version"] (sp_Table_drop a) := by
  refine T.fn_Table_drop.ok sc_Table_drop (fun vs H Q E h => ?_) (fun cdv A outer s H vs Q E hr h => ?_)
  · obtain ⟨_, _, _, _, _, _, _, _, _, rfl, _⟩ := h
    rfl
  · obtain ⟨B, x, dx, w1, r1, tag, ways, es, v, rfl, hs, k⟩ := h
    have c1 := T.cl_Table
    have n2 := T.na_Table_rules
    refine ⟨_, (pss_one (ps_expr (pe_dpop2 (pe_fldK (K := K) (pv 0)) (pv 1) pe_non ⟨rfl, rfl, rfl, rfl⟩))), ?_⟩
    walk_at "ss"
    refine w_dpop2 ?_
    walk_at "ss"
    have sub : ∀ {H' : Hp}, Hs B (tabL a x dx w1 r1 tag ways es |>.set 2 (r1, .dK ((dropR es v).map rwK))) H' → Hs B (tabL a x dx w1 r1 tag ways (dropR es v)) H' := fun h => h.sub (((List.Sublist.map rwE (List.filter_sublist)).cons_cons _).cons_cons _ |>.cons_cons _)
    refine w_pop2 hs (.there (.there .here)) (fun u H' _ hs2 => ?_) (fun e => ?_)
    · walk_at "ss"
      rw [dropR_map] at hs2
      exact k _ (sub hs2)
    · walk_at "ss"
      have e2 := valV_none e
      rw [dropR_map] at e2
      have hs2 := hs
      unfold tabL at hs2
      rw [← e2] at hs2
      exact k _ (sub hs2)
theorem ok_Table_unlay (T : Txt K mg a) : FnOk P w K mg base CX0 1 a.Table_unlay a.fd_Table_unlay ["self", "to"] (sp_Table_unlay a) := by
  refine T.fn_Table_unlay.ok sc_Table_unlay (fun vs H Q E h => ?_) (fun cdv A outer s H vs Q E hr h => ?_)
  · obtain ⟨_, _, _, _, _, _, _, _, _, rfl, _⟩ := h
    rfl
  · obtain ⟨B, x, dx, w1, r1, tag, ways, es, v, rfl, hs, k⟩ := h
    have c1 := T.cl_Table
    have n1 := T.na_Table_ways
    refine ⟨_, (pss_one (ps_expr (pe_dpop2 (pe_fldK (K := K) (pv 0)) (pv 1) pe_non ⟨rfl, rfl, rfl, rfl⟩))), ?_⟩
    walk_at "ss"
    refine w_dpop2 ?_
    walk_at "ss"
    refine w_pop2 hs (.there .here) (fun u H' _ hs2 => ?_) (fun e => ?_)
    · walk_at "ss"
      rw [dropW_map] at hs2
      exact k _ hs2
    · walk_at "ss"
      have e2 := valV_none e
      rw [dropW_map] at e2
      have hs2 := hs
      unfold tabL at hs2
      rw [← e2] at hs2
      exact k _ hs2
theorem ok_Table_does (T : Txt K mg a) : FnOk P w K mg base CX0 4 a.Table_does a.fd_Table_does ["self", "version", "port", "header"] (sp_Table_does a) := by
  have G_rules_do := ok_rules_do (P := P) (w := w) (base := base) T
  refine T.fn_Table_does.ok sc_Table_does (fun vs H Q E h => ?_) (fun cdv A outer s H vs Q E hr h => ?_)
  · obtain ⟨_, _, _, _, _, _, _, _, _, _, _, _, rfl, _⟩ := h
    rfl
  · obtain ⟨B, x, dx, w1, r1, tag, ways, es, v, port, th, h, rfl, hs, hok, hth, hl, k⟩ := h
    have hu := hu_of hr
    have c1 := T.cl_Table
    have n2 := T.na_Table_rules
    refine ⟨_, (pss_one (ps_ret (pe_call G_rules_do (hr.mono (by decide)) rfl T.mg_rules_do T.kp_rules_do T.bi_rules_do .nil pass0 (pa_cons (pe_dget2 hu (pe_fldK (K := K) (pv 0)) (pv 1) (pe_lst pa_nil) ⟨rfl, rfl, rfl, rfl⟩) (pa_cons (pv 2) (pa_cons (pv 3) pa_nil)))))), ?_⟩
    walk_at "ss"
    refine w_dget2 ?_
    have hsS := Hs.start H
    walk_at "ss"
    rename_i l0 H1 hs1
    refine w_dg2 (hs1.same _ _ hs.g2) ?_
    walk_at "ss"
    have hs2 := hs.add hs1
    rw [valR_find]
    cases hf : findR es v with
    | none =>
      have er : rulesOf es v = [] := by
        unfold rulesOf
        rw [hf]
      refine ⟨l0, th, [], [], port, h, rfl, hs1.g0, ⟨rfl, fun _ _ _ z => nomatch z⟩, (fun _ z => nomatch z), hs1.same _ _ hth, hl, fun l ys N H' ps hs3 hp hd => ?_⟩
      have hs4 := hs2.add hs3
      refine k l ys (N ++ [(l0, .lst [])]) H' ps ?_ hp (by rw [er]; exact hd)
      exact (congrArg (fun z => Hs B z H') (List.append_assoc ((l, HO.lst ys) :: N) [(l0, HO.lst [])] (tabL a x dx w1 r1 tag ways es))).mpr hs4
    | some e =>
      have er : rulesOf es v = e.rs := by
        unfold rulesOf
        rw [hf]
      obtain ⟨hm, _⟩ := findR_mem hf
      have hat : H e.at_ = some (.lst e.us) := hs.mem (List.mem_cons_of_mem _ (List.mem_cons_of_mem _ (List.mem_cons_of_mem _ (List.mem_map.mpr ⟨e, hm, rfl⟩))))
      have hrow := hok e hm
      refine ⟨e.at_, th, e.us, e.rs, port, h, rfl, hs1.same _ _ hat, hrow.1.mono fun _ _ => RlAt.same (hs.same.trans hs1.same), hrow.2, hs1.same _ _ hth, hl, fun l ys N H' ps hs3 hp hd => ?_⟩
      have hs4 := hs2.add hs3
      refine k l ys (N ++ [(l0, .lst [])]) H' ps ?_ hp (by rw [er]; exact hd)
      exact (congrArg (fun z => Hs B z H') (List.append_assoc ((l, HO.lst ys) :: N) [(l0, HO.lst [])] (tabL a x dx w1 r1 tag ways es))).mpr hs4
theorem ok_Table_retag (T : Txt K mg a) : FnOk P w K mg base CX0 1 a.Table_retag a.fd_Table_retag ["self", "version", "count"] (sp_Table_retag a) := by
  refine T.fn_Table_retag.ok sc_Table_retag (fun vs H Q E h => ?_) (fun cdv A outer s H vs Q E hr h => ?_)
  · obtain ⟨_, _, _, _, _, _, _, _, _, _, rfl, _⟩ := h
    rfl
  · obtain ⟨B, x, dx, w1, r1, tag, ways, es, v, n, rfl, hs, k1, k2⟩ := h
    have hu := hu_of hr
    have c1 := T.cl_Table
    have n2 := T.na_Table_rules
    have n3 := T.na_Table_tag
    refine ⟨_, (pss_cons (ps_if (pt_cmpR op_ne (pe_callB (call_lenK (K := K)) (by rfl) T.mg_len PySem.boot_len (pa_cons (pe_dget2 hu (pe_fldK (K := K) (pv 0)) (pv 1) (pe_lst pa_nil) ⟨rfl, rfl, rfl, rfl⟩) pa_nil)) (pv 2) (nomark _))
  (pss_one (ps_ret pe_bl))
  pss_nil)
  (pss_cons (ps_fldK (K := K) (pv 0) (pv 1))
  (pss_one (ps_ret pe_bl)))), ?_⟩
    walk_at "ss"
    refine w_dget2 ?_
    walk_at "ss"
    rename_i l0 H1 hs1
    refine w_dg2 hs1.g3 ?_
    walk_at "ss"
    rw [valR_find]
    have hl : SqL K H1 l0 [] := SqL.of hs1.g0
    cases hf : findR es v with
    | none =>
      have er : lenR es v = 0 := by
        unfold lenR
        rw [hf]
      rw [er] at k1 k2
      refine w_len (xs := []) hl ?_
      walk_at "ss"
      refine ifn (fun z => ?_) (fun z => ?_)
      · walk_at "ss"
        exact k2 z _ hs1.tl
      · walk_at "ss"
        rename_i H2 hs2
        exact k1 z _ hs2.tl
    | some e =>
      have er : lenR es v = e.us.length := by
        unfold lenR
        rw [hf]
      rw [er] at k1 k2
      obtain ⟨hm, _⟩ := findR_mem hf
      have hat : H1 e.at_ = some (.lst e.us) := hs1.mem (List.mem_cons_of_mem _ (List.mem_cons_of_mem _ (List.mem_cons_of_mem _ (List.mem_cons_of_mem _ (List.mem_map.mpr ⟨e, hm, rfl⟩)))))
      refine w_len (xs := e.us) (SqL.of hat) ?_
      walk_at "ss"
      refine ifn (fun z => ?_) (fun z => ?_)
      · walk_at "ss"
        exact k2 z _ hs1.tl
      · walk_at "ss"
        rename_i H2 hs2
        exact k1 z _ hs2.tl
end
local macro_rules | `(tactic| walk_at "s") => `(tactic| first
  | with_reducible refine w_nget ?_
  | with_reducible refine w_nin ?_
  | with_reducible refine w_nnot ?_
  | with_reducible refine w_nput ?_
  | with_reducible refine w_ndel ?_
  | with_reducible refine w_npop ?_
  | ((with_reducible refine' w_nnew ?hs ?_); (case hs => assumption); intro _ _ _))

def hasW (ways : List (Int × Int)) (t : Int) : Bool := ways.any fun p => decide (p.1 = t)
def putW (ways : List (Int × Int)) (t port : Int) : List (Int × Int) := if hasW ways t = true then ways.map (fun p => if p.1 = t then (p.1, port) else p) else ways ++ [(t, port)]
theorem hasW_any (t : Int) (ways : List (Int × Int)) : ((ways.map wyK).any fun kv => decide (kv.1 = Sum.inl t)) = hasW ways t := by
  unfold hasW
  rw [List.any_map]
  congr 1
  funext p
  by_cases h : p.1 = t
  · simp [h]
  · simp [h]
theorem hasW_val (t : Int) (ways : List (Int × Int)) : (valV (ways.map wyK) (Sum.inl t)).isSome = hasW ways t := by rw [← valV_any, hasW_any]
theorem putW_map (t port : Int) (ways : List (Int × Int)) : putK (ways.map wyK) (Sum.inl t) (V.int port) = (putW ways t port).map wyK := by
  unfold putK putW
  rw [hasW_any]
  by_cases h : hasW ways t = true
  · rw [if_pos h, if_pos h, List.map_map, List.map_map]
    refine List.map_congr_left fun p _ => ?_
    by_cases hp : p.1 = t
    · simp [hp]
    · simp [hp]
  · rw [if_neg h, if_neg h, List.map_append]
    rfl
section
variable {P : Program} {w : World} {K : PySem.W.Frag} {mg : Str → Option Value} {base : Heap} {a : Ad}
def sp_Table_lay (a : Ad) : Sp := fun vs H Q _ => ∃ (B : Hp) (x dx w r : Addr) (tag : Int) (ways : List (Int × Int)) (es : List Rw) (t port : Int), vs = [.ref x, .int t, .int port] ∧ Hs B (tabL a x dx w r tag ways es) H ∧ es.length ≤ 1000 ∧ ways.length ≤ 1000 ∧
  (hasW ways t = false → 64 ≤ cnt ways es → ∀ H', Hs B (tabL a x dx w r tag ways es) H' → Q (.bl false) H') ∧ (hasW ways t = true ∨ cnt ways es < 64 → ∀ H', Hs B (tabL a x dx w r tag (putW ways t port) es) H' → Q (.bl true) H')
theorem ok_Table_lay (T : Txt K mg a) : FnOk P w K mg base CX0 2 a.Table_lay a.fd_Table_lay ["self", "to", "port"] (sp_Table_lay a) := by
  have G_Table_count := ok_Table_count (P := P) (w := w) (base := base) T
  refine T.fn_Table_lay.ok sc_Table_lay (fun vs H Q E h => ?_) (fun cdv A outer s H vs Q E hr h => ?_)
  · obtain ⟨_, _, _, _, _, _, _, _, _, _, rfl, _⟩ := h
    rfl
  · obtain ⟨B, x, dx, w1, r1, tag, ways, es, t, port, rfl, hs, hz, hz2, k1, k2⟩ := h
    have hu := hu_of hr
    have c1 := T.cl_Table
    have n1 := T.na_Table_ways
    refine ⟨_, (pss_cons (ps_if (PW.pt (pw_and (pt_cmp (pc_dnotin hu (pv 1) (pe_fldK (K := K) (pv 0)))) (pw_and1 (pt_cmpR op_ge (pe_meth0 (pv 0) T.cl_Table T.me_Table_count G_Table_count (hr.mono (by decide)) T.bi_Table_count .nil pass0) (pe_glob (v := .int 64) rfl (Exists.choose_spec T.mg_MOST_ENTRIES) ⟨_, rfl⟩) (nomark _)))))
  (pss_one (ps_ret pe_bl))
  pss_nil)
  (pss_cons (ps_dput hu (pe_fldK (K := K) (pv 0)) (pv 1) (pv 2) rfl)
  (pss_one (ps_ret pe_bl)))), ?_⟩
    have hz3 : (ways.map wyK).length < sizeLine := szl (by rw [List.length_map]; omega)
    walk_at "ss"
    rw [hasW_val]
    cases hw : hasW ways t with
    | true =>
      rw [if_neg (show ¬ (!true) = true by decide), if_neg (show ¬ false = true by decide)]
      walk_at "ss"
      rename_i H2 hs2
      rw [putW_map] at hs2
      exact k2 (.inl hw) _ hs2
    | false =>
      rw [if_pos (show (!false) = true by decide)]
      walk_at "ss"
      refine ⟨B, x, dx, w1, r1, tag, ways, es, rfl, hs, hz, fun H1 hs1 => ?_⟩
      walk_at "ss"
      refine ifd (fun z => ?_) (fun z => ?_)
      · walk_at "ss"
        exact k1 hw (by omega) _ hs1
      · walk_at "ss"
        rename_i H2 hs2
        rw [putW_map] at hs2
        exact k2 (.inr (by omega)) _ hs2
end
local macro_rules | `(tactic| walk_at "s") => `(tactic| first
  | with_reducible refine w_nget ?_
  | with_reducible refine w_nin ?_
  | with_reducible refine w_nnot ?_
  | with_reducible refine w_nput ?_
  | with_reducible refine w_ndel ?_
  | with_reducible refine w_npop ?_
  | ((with_reducible refine' w_nnew ?hs ?_); (case hs => assumption); intro _ _ _))

/-- the rules by versions, as they are told -/
def vw (es : List Rw) : List (Int × List Rl) := es.map fun e => (e.v, e.rs)
def touchV (l : List (Int × List Rl)) (v : Int) : List (Int × List Rl) := if (l.any fun p => decide (p.1 = v)) = true then l else l ++ [(v, [])]
def addV (l : List (Int × List Rl)) (v : Int) (r : Rl) : List (Int × List Rl) := (touchV l v).map fun p => if p.1 = v then (p.1, p.2 ++ [r]) else p
theorem vw_any (v : Int) (es : List Rw) : ((vw es).any fun p => decide (p.1 = v)) = (findR es v).isSome := by
  rw [Bool.eq_iff_iff]
  unfold vw findR
  simp [List.any_eq_true, List.find?_isSome]
theorem Row.snoc {α : Type} {R : V → α → Prop} {us : List V} {xs : List α} {u : V} {x : α} (r : Row R us xs) (h : R u x) : Row R (us ++ [u]) (xs ++ [x]) := by
  refine ⟨by rw [List.length_append, List.length_append, r.1]; rfl, fun i y z h1 h2 => ?_⟩
  by_cases hi : i < us.length
  · rw [List.getElem?_append_left hi] at h1
    rw [List.getElem?_append_left (by rw [← r.1]; exact hi)] at h2
    exact r.2 i y z h1 h2
  · rw [List.getElem?_append_right (by omega)] at h1
    rw [List.getElem?_append_right (by rw [← r.1]; omega)] at h2
    rw [r.1] at h1
    cases hj : i - xs.length with
    | zero =>
      rw [hj] at h1 h2
      cases h1
      cases h2
      exact h
    | succ n =>
      rw [hj] at h1
      simp at h1
theorem vw_add {pre post : List Rw} {e : Rw} {v : Int} {r : Rl} {us : List V} (hv : e.v = v) (hnd : ((pre ++ e :: post).map (·.v)).Nodup) :
    vw (pre ++ (⟨e.v, e.at_, us, e.rs ++ [r]⟩ : Rw) :: post) = (vw (pre ++ e :: post)).map fun p => if p.1 = v then (p.1, p.2 ++ [r]) else p := by
  rw [List.map_append, List.map_cons, List.nodup_append] at hnd
  obtain ⟨_, h2, h3⟩ := hnd
  have h4 := (List.nodup_cons.mp h2).1
  have same : ∀ l : List Rw, (∀ f ∈ l, f.v ≠ v) → vw l = (vw l).map fun p => if p.1 = v then (p.1, p.2 ++ [r]) else p := fun l hl => by
    unfold vw
    rw [List.map_map]
    refine List.map_congr_left fun f hf => ?_
    exact (if_neg (hl f hf)).symm
  have e1 := same pre fun f hf z => h3 f.v (List.mem_map.mpr ⟨f, hf, rfl⟩) e.v List.mem_cons_self (by rw [z, hv])
  have e2 := same post fun f hf z => h4 (List.mem_map.mpr ⟨f, hf, by rw [z, hv]⟩)
  have sp : ∀ (f : Rw), vw (pre ++ f :: post) = vw pre ++ (f.v, f.rs) :: vw post := fun f => by
    unfold vw
    rw [List.map_append, List.map_cons]
  rw [sp, sp, List.map_append, List.map_cons, ← e1, ← e2, if_pos hv]
section
variable {P : Program} {w : World} {K : PySem.W.Frag} {mg : Str → Option Value} {base : Heap} {a : Ad}
def sp_Table_add (a : Ad) : Sp := fun vs H Q _ => ∃ (B : Hp) (x dx w r : Addr) (tag : Int) (ways : List (Int × Int)) (es : List Rw) (v : Int) (tm lo : Addr) (m : List (Option Int)) (outs : List Out) (os : List V) (R : List (Addr × HO)),
  vs = [.ref x, .int v, .ref tm, .ref lo] ∧ Hs B (tabL a x dx w r tag ways es ++ R) H ∧ RwOk B es ∧ (es.map (·.v)).Nodup ∧ es.length ≤ 900 ∧ B tm = some (.tup (m.map oV)) ∧ B lo = some (.lst os) ∧ Row (OutAt B) os outs ∧ WfR (m, outs) ∧
  (64 ≤ cnt ways es → ∀ es2 H', Hs B (tabL a x dx w r tag ways es2 ++ R) H' → RwOk B es2 → (es2.map (·.v)).Nodup → vw es2 = touchV (vw es) v → Q (.bl false) H') ∧
  (cnt ways es < 64 → ∀ B2 es2 H', Same B B2 → Hs B2 (tabL a x dx w r tag ways es2 ++ R) H' → RwOk B2 es2 → (es2.map (·.v)).Nodup → vw es2 = addV (vw es) v (m, outs) → Q (.bl true) H')
theorem ok_Table_add (T : Txt K mg a) : FnOk P w K mg base CX0 2 a.Table_add a.fd_Table_add ["self", "version", "match", "outs"] (sp_Table_add a) := by
  have G_Table_count := ok_Table_count (P := P) (w := w) (base := base) T
  refine T.fn_Table_add.ok sc_Table_add (fun vs H Q E h => ?_) (fun cdv A outer s H vs Q E hr h => ?_)
  · obtain ⟨_, _, _, _, _, _, _, _, _, _, _, _, _, _, _, rfl, _⟩ := h
    rfl
  · obtain ⟨B, x, dx, w1, r1, tag, ways, es, v, tm, lo, m, outs, os, R, rfl, hs, hok, hnd, hz, htm, hlo, hro, hwf, k1, k2⟩ := h
    have hu := hu_of hr
    have c1 := T.cl_Table
    have n2 := T.na_Table_rules
    refine ⟨_, (C8.pss_cut (ps_set (i := 4) sc_Table_add.nd rfl (Or.inl rfl) (pe_dsetd (pe_fldK (K := K) (pv 0)) (pv 1) (pe_lst pa_nil) ⟨rfl, rfl, rfl, rfl⟩))
  (pss_cons (ps_if (pt_cmpR op_ge (pe_meth0 (pv 0) T.cl_Table T.me_Table_count G_Table_count (hr.mono (by decide)) T.bi_Table_count .nil pass0) (pe_glob (v := .int 64) rfl (Exists.choose_spec T.mg_MOST_ENTRIES) ⟨_, rfl⟩) (nomark _))
  (pss_one (ps_ret pe_bl))
  pss_nil)
  (pss_cons (ps_expr (pe_bmK (K := K) PySem.F.plainAttrs_list PySem.F.slot_list_append PySem.F.type_list_append mt_append (pv 4) (pa_cons (pe_tup (pa_cons (pv 2) (pa_cons (pe_callTy call_list_of (by rfl) T.mg_list (by decide +kernel) (pa_cons (pv 3) pa_nil)) pa_nil))) pa_nil)))
  (pss_one (ps_ret pe_bl))))), ?_⟩
    refine w_cut (fun σ' H' => ∃ pre e post, σ' = [some (.ref x), some (.int v), some (.ref tm), some (.ref lo), some (.ref e.at_)] ∧ Hs B (tabL a x dx w1 r1 tag ways (pre ++ e :: post) ++ R) H' ∧ e.v = v ∧ RwOk B (pre ++ e :: post) ∧ ((pre ++ e :: post).map (·.v)).Nodup ∧
      vw (pre ++ e :: post) = touchV (vw es) v ∧ cnt ways (pre ++ e :: post) = cnt ways es ∧ (pre ++ e :: post).length ≤ 901) ?_ ?_
    · walk_at "ss"
      refine w_dsetd ?_
      walk_at "ss"
      rename_i l0 H1 hs1
      refine ⟨es.map rwK, Sum.inl v, hs1.g3, rfl, szl (by rw [List.length_map]; omega), fun u e => ?_, fun e => ?_⟩
      · rw [valR_find] at e
        obtain ⟨f, hf, rfl⟩ := Option.map_eq_some_iff.mp e
        obtain ⟨hm, hv⟩ := findR_mem hf
        obtain ⟨pre, post, rfl⟩ := List.append_of_mem hm
        walk_at "ss"
        refine ⟨pre, f, post, rfl, hs1.tl, hv, hok, hnd, ?_, rfl, by omega⟩
        unfold touchV
        rw [vw_any, hf]
        exact (if_pos rfl).symm
      · rw [valR_find, Option.map_eq_none_iff] at e
        have hnone := findR_none e
        have hs2 := hs1.p3 (.dK ((es ++ [(⟨v, l0, [], []⟩ : Rw)]).map rwK))
        have e2 : putK (es.map rwK) (Sum.inl v) (V.ref l0) = (es ++ [(⟨v, l0, [], []⟩ : Rw)]).map rwK := by
          unfold putK
          rw [valV_any, valR_find, e]
          rw [if_neg (by simp), List.map_append]
          rfl
        rw [e2]
        walk_at "ss"
        refine ⟨es, ⟨v, l0, [], []⟩, [], rfl, ?_, rfl, fun f hf => ?_, ?_, ?_, ?_, by rw [List.length_append]; simp; omega⟩
        · have pm := List.perm_middle (a := (l0, HO.lst [])) (l₁ := (x, tabO a dx w1 r1 tag) :: (w1, .dK (ways.map wyK)) :: (r1, .dK ((es ++ [(⟨v, l0, [], []⟩ : Rw)]).map rwK)) :: es.map rwE) (l₂ := R)
          have hs3 := hs2.perm pm
          have e3 : tabL a x dx w1 r1 tag ways (es ++ [(⟨v, l0, [], []⟩ : Rw)]) ++ R = ((x, tabO a dx w1 r1 tag) :: (w1, .dK (ways.map wyK)) :: (r1, .dK ((es ++ [(⟨v, l0, [], []⟩ : Rw)]).map rwK)) :: es.map rwE) ++ (l0, HO.lst []) :: R := by
            have e4 : (es ++ [(⟨v, l0, [], []⟩ : Rw)]).map rwE = es.map rwE ++ [(l0, HO.lst [])] := by rw [List.map_append]; rfl
            unfold tabL
            rw [e4]
            simp only [List.cons_append, List.append_assoc, List.nil_append]
          rw [e3]
          exact hs3
        · rcases List.mem_append.mp hf with hf | hf
          · exact hok f hf
          · rw [List.mem_singleton.mp hf]
            exact ⟨⟨rfl, fun _ _ _ z => nomatch z⟩, fun _ z => nomatch z⟩
        · rw [List.map_append, List.nodup_append]
          refine ⟨hnd, by simp, fun p hp q hq z => ?_⟩
          obtain ⟨f, hf, rfl⟩ := List.mem_map.mp hp
          rw [List.mem_singleton.mp (show q ∈ [v] from hq)] at z
          exact hnone f hf z
        · unfold touchV
          rw [vw_any, e, if_neg (by simp)]
          unfold vw
          rw [List.map_append]
          rfl
        · unfold cnt rows
          rw [List.map_append, List.sum_append]
          simp
    · rintro σ' H1 ⟨pre, e, post, rfl, hs1, hv, hok1, hnd1, hvw, hcn, hz1⟩
      walk_at "ss"
      obtain ⟨_, hA, back⟩ := hs1.frame (tabL a x dx w1 r1 tag ways (pre ++ e :: post))
      refine ⟨_, x, dx, w1, r1, tag, ways, _, rfl, hA, by omega, fun H2 hs2' => ?_⟩
      have hs2 := back _ _ hs2'
      rw [hcn]
      walk_at "ss"
      refine ifd (fun z => ?_) (fun z => ?_)
      · walk_at "ss"
        exact k1 (by omega) _ _ hs2 hok1 hnd1 hvw
      · have hs3 : Hs B ((e.at_, .lst e.us) :: ((x, tabO a dx w1 r1 tag) :: (w1, .dK (ways.map wyK)) :: (r1, .dK ((pre ++ e :: post).map rwK)) :: (pre.map rwE ++ (post.map rwE ++ R)))) H2 := by
          have e3 : tabL a x dx w1 r1 tag ways (pre ++ e :: post) ++ R = ((x, tabO a dx w1 r1 tag) :: (w1, .dK (ways.map wyK)) :: (r1, .dK ((pre ++ e :: post).map rwK)) :: pre.map rwE) ++ (e.at_, HO.lst e.us) :: (post.map rwE ++ R) := by
            have e4 : (pre ++ e :: post).map rwE = pre.map rwE ++ (e.at_, HO.lst e.us) :: post.map rwE := by rw [List.map_append, List.map_cons]
            unfold tabL
            rw [e4]
            simp only [List.cons_append, List.append_assoc]
          rw [e3] at hs2
          exact Hs.front (A := (x, tabO a dx w1 r1 tag) :: (w1, .dK (ways.map wyK)) :: (r1, .dK ((pre ++ e :: post).map rwK)) :: pre.map rwE) hs2
        have hus : e.us.length < sizeLine := by
          refine szl ?_
          have h : cnt ways (pre ++ e :: post) < 64 := by
            rw [hcn]
            omega
          unfold cnt rows at h
          rw [List.map_append, List.map_cons, List.sum_append, List.sum_cons] at h
          omega
        clear hs hs1 hs2 hs2' hA back
        walk_at "ss"
        refine ⟨lo, os, rfl, .inl (SqL.of (hs3.same _ _ hlo)), fun l2 hl2 => ?_⟩
        have hs4 := hs3.new (o := .lst os) hl2
        walk_at "ss"
        rename_i t H5 hs5 H6 hs6
        obtain ⟨sm1, hs7⟩ := hs6.freeze
        obtain ⟨sm2, hs8⟩ := hs7.freeze
        have f1 := sm2 _ _ (upd_same (H := B) (a := t) (o := .tup [.ref tm, .ref l2]))
        have f2 := upd_same (H := upd B t (.tup [.ref tm, .ref l2])) (a := l2) (o := .lst os)
        have sm := sm1.trans sm2
        refine k2 (by omega) _ (pre ++ (⟨e.v, e.at_, e.us ++ [.ref t], e.rs ++ [(m, outs)]⟩ : Rw) :: post) H6 sm ?_ ?_ ?_ ?_
        · have e3 : tabL a x dx w1 r1 tag ways (pre ++ (⟨e.v, e.at_, e.us ++ [.ref t], e.rs ++ [(m, outs)]⟩ : Rw) :: post) ++ R = ((x, tabO a dx w1 r1 tag) :: (w1, .dK (ways.map wyK)) :: (r1, .dK ((pre ++ (⟨e.v, e.at_, e.us ++ [.ref t], e.rs ++ [(m, outs)]⟩ : Rw) :: post).map rwK)) :: pre.map rwE) ++ (e.at_, HO.lst (e.us ++ [.ref t])) :: (post.map rwE ++ R) := by
            have e5 : (pre ++ (⟨e.v, e.at_, e.us ++ [.ref t], e.rs ++ [(m, outs)]⟩ : Rw) :: post).map rwE = pre.map rwE ++ (e.at_, HO.lst (e.us ++ [.ref t])) :: post.map rwE := by rw [List.map_append, List.map_cons]
            unfold tabL
            rw [e5]
            simp only [List.cons_append, List.append_assoc]
          have e4 : (pre ++ (⟨e.v, e.at_, e.us ++ [.ref t], e.rs ++ [(m, outs)]⟩ : Rw) :: post).map rwK = (pre ++ e :: post).map rwK := by rw [List.map_append, List.map_cons, List.map_append, List.map_cons]
          rw [e3, e4]
          exact hs8.perm (List.perm_middle (l₁ := (x, tabO a dx w1 r1 tag) :: (w1, .dK (ways.map wyK)) :: (r1, .dK ((pre ++ e :: post).map rwK)) :: pre.map rwE))
        · intro f hf
          have old : ∀ f ∈ pre ++ e :: post, Row (RlAt _) f.us f.rs ∧ ∀ r ∈ f.rs, WfR r := hok1.same sm
          rcases List.mem_append.mp hf with hf | hf
          · exact old f (List.mem_append_left _ hf)
          · rcases List.mem_cons.mp hf with rfl | hf
            · have he := old e (List.mem_append_right _ List.mem_cons_self)
              refine ⟨he.1.snoc ⟨t, tm, l2, os, rfl, f1, sm _ _ htm, f2, hro.mono fun _ _ => OutAt.same sm⟩, fun r hr => ?_⟩
              rcases List.mem_append.mp hr with hr | hr
              · exact he.2 r hr
              · rw [List.mem_singleton.mp hr]
                exact hwf
            · exact old f (List.mem_append_right _ (List.mem_cons_of_mem _ hf))
        · have e5 : (pre ++ (⟨e.v, e.at_, e.us ++ [.ref t], e.rs ++ [(m, outs)]⟩ : Rw) :: post).map (·.v) = (pre ++ e :: post).map (·.v) := by rw [List.map_append, List.map_cons, List.map_append, List.map_cons]
          rw [e5]
          exact hnd1
        · unfold addV
          rw [← hvw]
          exact vw_add hv hnd1
end
local macro_rules | `(tactic| walk_at "s") => `(tactic| first
  | with_reducible refine w_nget ?_
  | with_reducible refine w_nin ?_
  | with_reducible refine w_nnot ?_
  | with_reducible refine w_nput ?_
  | with_reducible refine w_ndel ?_
  | with_reducible refine w_npop ?_
  | ((with_reducible refine' w_nnew ?hs ?_); (case hs => assumption); intro _ _ _))

def keepR (es : List Rw) (v : Int) : List Rw := es.filter fun e => decide (e.v = v)
theorem findR_self : ∀ {es : List Rw} {e : Rw}, (es.map (·.v)).Nodup → e ∈ es → findR es e.v = some e
  | f :: es, e, nd, he => by
    rw [List.map_cons, List.nodup_cons] at nd
    unfold findR
    rw [List.find?_cons]
    rcases List.mem_cons.mp he with rfl | he
    · rw [decide_eq_true rfl]
    · have n : ¬ f.v = e.v := fun z => nd.1 (List.mem_map.mpr ⟨e, he, z.symm⟩)
      rw [decide_eq_false n]
      exact findR_self nd.2 he
section
variable {P : Program} {w : World} {K : PySem.W.Frag} {mg : Str → Option Value} {base : Heap} {a : Ad}
def sp_Table_strip (a : Ad) : Sp := fun vs H Q _ => ∃ (B : Hp) (x dx w r : Addr) (tag : Int) (ways : List (Int × Int)) (es : List Rw), vs = [.ref x] ∧ Hs B (tabL a x dx w r tag ways es) H ∧ (es.map (·.v)).Nodup ∧ es.length ≤ 1000 ∧ ∀ w2 r2 H', Hs B (tabL a x dx w2 r2 tag [] (keepR es tag)) H' → Q .non H'
theorem ok_Table_strip (T : Txt K mg a) : FnOk P w K mg base CX0 1 a.Table_strip a.fd_Table_strip ["self"] (sp_Table_strip a) := by
  refine T.fn_Table_strip.ok sc_Table_strip (fun vs H Q E h => ?_) (fun cdv A outer s H vs Q E hr h => ?_)
  · obtain ⟨_, _, _, _, _, _, _, _, rfl, _⟩ := h
    rfl
  · obtain ⟨B, x, dx, w1, r1, tag, ways, es, rfl, hs, hnd, hz, k⟩ := h
    have hu := hu_of hr
    have c1 := T.cl_Table
    have n1 := T.na_Table_ways
    have n2 := T.na_Table_rules
    have n3 := T.na_Table_tag
    refine ⟨_, (pss_cons (ps_fldK (K := K) (pv 0) pe_dnewK)
  (pss_one (ps_fldK (K := K) (pv 0) (pe_lock (pe_dc (own := [("version", 1)]) (g := (gName 1)) rfl sc_Table_strip.nd (pi_keys (pe_fldK (K := K) (pv 0))) (blkOk_by (own := [("version", 1)]) (N := N_Table_strip) (sc := defScope s_Table_strip) (by decide +kernel)) (fun _ _ _ _ _ => by exact (pg_name (i := 1) sc_Table_strip.nd rfl (Or.inl rfl))) (fun _ _ _ _ _ => by exact pts_one (pt_cmpR op_eq (pv 1) (pe_fldK (K := K) (pv 0)) (nomark _))) (fun _ _ _ _ _ => by exact (pv 1)) (fun _ _ _ _ _ => by exact (pe_dget hu (pe_fldK (K := K) (pv 0)) (pv 1) (fun _ _ => rfl)))))))), ?_⟩
    walk_at "ss"
    rename_i w2 Ha hsa H1 hs1
    clear hs hsa
    refine w_lockE hs1 (fun od => .there (.there (.there .here))) fun od H2 hs2 => ?_
    refine w_dcK ?_
    walk_at "ss"
    refine w_keyR hs2.g3 fun D hD => ?_
    refine turns_keys (Body := DcBody (gName 1) _ _ _ _ _ D) (fun i H' => Hs B ((D, .dK ((keepR (es.take i) tag).map rwK)) :: (w2, .dK []) :: (x, tabO a dx w2 r1 tag) :: (w1, .dK (ways.map wyK)) :: (r1, .frz od (.dK (es.map rwK))) :: es.map rwE) H') (hs2.new hD) (fun i H' _ q => q.g4) ?_ ?_
    · rintro i kk y H' hk hs3
      obtain ⟨e, he, h2⟩ := map_at hk
      cases h2
      walk_at "ss"
      refine ⟨rfl, ?_⟩
      have htk : keepR (es.take (i + 1)) tag = keepR (es.take i) tag ++ keepR [e] tag := by
        unfold keepR
        rw [List.take_add_one, he, List.filter_append]
        rfl
      have hm : e ∈ es := List.mem_of_getElem? he
      walk_at "ss"
      refine w_eqI (a := e.v) (b := tag) ?_
      walk_at "ss"
      refine ifd (fun z => ?_) (fun z => ?_)
      · have hkv : (kV (Sum.inl e.v) : V) = .int e.v := rfl
        have hf := findR_self hnd hm
        have hk1 : keepR [e] tag = [e] := by
          unfold keepR
          rw [List.filter_cons, if_pos (decide_eq_true z)]
          rfl
        have hk0 : keepR (es.take i) tag = [] := by
          unfold keepR
          refine List.filter_eq_nil_iff.mpr fun f hf2 => ?_
          intro q
          have q2 := of_decide_eq_true q
          have nd2 : ((es.take i ++ es.drop i).map (·.v)).Nodup := by rw [List.take_append_drop]; exact hnd
          rw [List.map_append, List.nodup_append] at nd2
          have hd : e ∈ es.drop i := by
            refine List.mem_of_getElem? (i := 0) ?_
            rw [List.getElem?_drop]
            exact he
          exact nd2.2.2 f.v (List.mem_map.mpr ⟨f, hf2, rfl⟩) e.v (List.mem_map.mpr ⟨e, hd, rfl⟩) (by rw [q2, z])
        walk_at "ss"
        refine w_dget ?_
        walk_at "ss"
        refine ⟨r1, .ref e.at_, rfl, .inl ⟨es.map rwK, Sum.inl e.v, .inr ⟨od, hs3.g4⟩, rfl, ?_⟩, _, Sum.inl e.v, rfl, hs3.g0, szl ?_, ?_⟩
        · rw [valR_find, hf]
          rfl
        · rw [hk0]
          decide
        · rw [htk, hk0, hk1]
          exact hs3.p0 _
      · have hk1 : keepR [e] tag = [] := by
          unfold keepR
          rw [List.filter_cons, if_neg (by rw [decide_eq_true_iff]; exact z)]
          rfl
        rw [htk, hk1, List.append_nil]
        exact hs3
    · intro H' hs3
      rw [List.length_map, List.take_length] at hs3
      refine ⟨hs3.g4, ?_⟩
      have hs4 := hs3.p4 (.dK (es.map rwK))
      walk_at "ss"
      rename_i H5 hs5
      have hs6 := hs5.m1.m2
      refine k w2 D _ (hs6.sub ?_)
      refine List.Sublist.cons_cons _ (List.Sublist.cons_cons _ (List.Sublist.cons_cons _ (List.Sublist.cons _ (List.Sublist.cons _ ?_))))
      exact List.Sublist.map rwE List.filter_sublist
def sp_Table_keep (a : Ad) : Sp := fun vs H Q _ => ∃ (B : Hp) (x dx w r : Addr) (tag : Int) (ways : List (Int × Int)) (es : List Rw) (v n : Int), vs = [.ref x, .int v, .int n] ∧ Hs B (tabL a x dx w r tag ways es) H ∧ (es.map (·.v)).Nodup ∧ es.length ≤ 1000 ∧
  ((lenR es v : Int) = n → ∀ w2 r2 H', Hs B (tabL a x dx w2 r2 v [] (keepR es v)) H' → Q (.bl true) H') ∧ (¬ (lenR es v : Int) = n → ∀ H', Hs B (tabL a x dx w r tag ways es) H' → Q (.bl false) H')
theorem ok_Table_keep (T : Txt K mg a) : FnOk P w K mg base CX0 2 a.Table_keep a.fd_Table_keep ["self", "version", "count"] (sp_Table_keep a) := by
  have G_Table_retag := ok_Table_retag (P := P) (w := w) (base := base) T
  have G_Table_strip := ok_Table_strip (P := P) (w := w) (base := base) T
  refine T.fn_Table_keep.ok sc_Table_keep (fun vs H Q E h => ?_) (fun cdv A outer s H vs Q E hr h => ?_)
  · obtain ⟨_, _, _, _, _, _, _, _, _, _, rfl, _⟩ := h
    rfl
  · obtain ⟨B, x, dx, w1, r1, tag, ways, es, v, n, rfl, hs, hnd, hz, k1, k2⟩ := h
    refine ⟨_, (pss_cons (ps_set (i := 3) sc_Table_keep.nd rfl (Or.inl rfl) (pe_meth (pv 0) T.cl_Table T.me_Table_retag G_Table_retag (hr.mono (by decide)) T.bi_Table_retag .nil pass0 (pa_cons (pv 1) (pa_cons (pv 2) pa_nil))))
  (C8.pss_cut (ps_if (pt_val (pv 3))
  (pss_one (ps_expr (pe_meth0 (pv 0) T.cl_Table T.me_Table_strip G_Table_strip (hr.mono (by decide)) T.bi_Table_strip .nil pass0)))
  pss_nil)
  (pss_one (ps_ret (pv 3))))), ?_⟩
    walk_at "ss"
    refine ⟨B, x, dx, w1, r1, tag, ways, es, v, n, rfl, hs, fun c H1 hs1 => ?_, fun c H1 hs1 => ?_⟩
    · refine w_cut (fun σ' H' => σ' = [some (.ref x), some (.int v), some (.int n), some (.bl true)] ∧ ∃ w2 r2, Hs B (tabL a x dx w2 r2 v [] (keepR es v)) H') ?_ ?_
      · walk_at "ss"
        refine ⟨B, x, dx, w1, r1, v, ways, es, rfl, hs1, hnd, hz, fun w2 r2 H2 hs2 => ?_⟩
        walk_at "ss"
        exact ⟨rfl, w2, r2, hs2⟩
      · rintro σ' H2 ⟨rfl, w2, r2, hs2⟩
        walk_at "ss"
        exact k1 c _ _ _ hs2
    · refine w_cut (fun σ' H' => σ' = [some (.ref x), some (.int v), some (.int n), some (.bl false)] ∧ Hs B (tabL a x dx w1 r1 tag ways es) H') ?_ ?_
      · walk_at "ss"
        exact ⟨rfl, hs1⟩
      · rintro σ' H2 ⟨rfl, hs2⟩
        walk_at "ss"
        exact k2 c _ hs2
end
local macro_rules | `(tactic| walk_at "s") => `(tactic| first
  | with_reducible refine w_nget ?_
  | with_reducible refine w_nin ?_
  | with_reducible refine w_nnot ?_
  | with_reducible refine w_nput ?_
  | with_reducible refine w_ndel ?_
  | with_reducible refine w_npop ?_
  | ((with_reducible refine' w_nnew ?hs ?_); (case hs => assumption); intro _ _ _))

section
variable {P : Program} [IsP P] {w : World} {K : PySem.W.Frag} {mg : Str → Option Value} {base : Heap} {a : Ad}
/-! ### the draws of the law -/
/-- what a state may be -/
def Good (m : Int) (cells : List Int) : Prop := 0 ≤ m ∧ m < 2147483648 ∧ cells.length ≤ 1000
abbrev sto (c : Addr) (m : Int) : HO := .lst [.ref c, .int m]
abbrev clo (cells : List Int) : HO := .lst (cells.map V.int)
def sp__law_state (K : PySem.W.Frag) : Sp := fun vs H Q _ => ∃ (x : Addr) (ns : List Int), vs = [.ref x] ∧ SqL K H x (ns.map V.int) ∧ ns.length ≤ 1000 ∧ ∀ s c m cells H', Hs H [(s, sto c m), (c, clo cells)] H' → Good m cells → Q (.ref s) H'
def sp__law_draw : Sp := fun vs H Q _ => ∃ (B : Hp) (s c : Addr) (m many : Int) (cells : List Int), vs = [.ref s, .int many] ∧ Hs B [(s, sto c m), (c, clo cells)] H ∧ Good m cells ∧ many < 1000000000 ∧
  ∀ r m' cells' H', Hs B [(s, sto c m'), (c, clo cells')] H' → Good m' cells' → (many < 1 → r = 0) → (1 ≤ many → 0 ≤ r ∧ r < many) → Q (.int r) H'
theorem abs_map (ns : List Int) (i : Nat) {x : V} (h : (ns.map V.int)[i]? = some x) : ∃ n, ns[i]? = some n ∧ x = .int n := by
  rw [List.getElem?_map] at h
  cases e : ns[i]? with
  | none =>
    rw [e] at h
    cases h
  | some n =>
    rw [e] at h
    exact ⟨n, rfl, (Option.some.inj h).symm⟩
theorem ok__law_state (T : Txt K mg a) : FnOk P w K mg base CX0 1 a._law_state a.fd__law_state ["script"] (sp__law_state K) := by
  refine T.fn__law_state.ok sc__law_state (fun vs H Q E h => ?_) (fun cdv A outer s H vs Q E hr h => ?_)
  · obtain ⟨_, _, rfl, _⟩ := h
    rfl
  · obtain ⟨x, ns, rfl, hx, hl, k⟩ := h
    refine ⟨_, (pss_cons (ps_set (i := 1) sc__law_state.nd rfl (Or.inl rfl) pe_int)
  (pss_cons (ps_for PassesOwn.never rfl (pi_listK (K := K) (pv 0)) (pg_name (i := 2) sc__law_state.nd rfl (Or.inl rfl))
  (pss_one (ps_set (i := 1) sc__law_state.nd rfl (Or.inl rfl) (pe_op op_mod (pe_callTy call_intQ (by rfl) T.mg_int (by decide +kernel) (pa_cons (pe_op op_add (pe_op op_mul (pv 1) pe_int) (pv 2)) pa_nil)) pe_int))))
  (pss_one (ps_ret (pe_lst (pa_cons (pe_lc (own := [("cell", 2)]) (g := (gName 2)) (tt := tYes) rfl sc__law_state.nd (pi_listK (K := K) (pv 0)) (blkOk_by (own := [("cell", 2)]) (N := N__law_state) (sc := defScope s__law_state) (by decide +kernel)) (fun _ _ _ _ _ => by exact (pg_name (i := 2) sc__law_state.nd rfl (Or.inl rfl))) (fun _ _ _ _ _ => pts_nil) (fun _ _ _ _ _ => by exact (pe_callB call_absQ (by rfl) T.mg_abs (by decide +kernel) (pa_cons (pv 2) pa_nil)))) (pa_cons (pe_op op_add (pv 1) pe_int) pa_nil))))))), ?_⟩
    have hs : Hs H [] H := Hs.start H
    walk_at "ss"
    refine w_forL hx (fun i σ H' => ∃ (m : Int) (v : Option V), σ = [some (.ref x), some (.int m), v] ∧ 0 ≤ m ∧ m < 1000003 ∧ Hs H [] H') (fun Q q => ⟨_, rfl, q⟩) ⟨7, none, rfl, by omega, by omega, hs⟩ (fun i σ H' _ ⟨_, _, _, _, _, hs⟩ => hs.sql hx) ?_ ?_
    · rintro i y σ H' hi ⟨m, v, rfl, h0, h1, hs⟩
      obtain ⟨n, _, rfl⟩ := abs_map ns i hi
      walk_at "ss"
      refine ⟨(m * 31 + n) % 1000003, _, rfl, ?_, ?_, hs⟩
      · exact Int.emod_nonneg _ (by decide)
      · exact Int.emod_lt_of_pos _ (by decide)
    · rintro σ H' ⟨m, v, rfl, h0, h1, hs⟩
      walk_at "ss"
      have hx1 : SqL K H' x (ns.map V.int) := Hs.sql (by assumption) hx
      refine w_lc hx1 (fun D i H2 => ∃ acc : List Int, acc.length = i ∧ Hs H [(D, clo acc)] H2) (fun Q q => ⟨_, rfl, q⟩) (fun D hD => ⟨[], rfl, Hs.new (by assumption) hD⟩) (fun D i H2 _ ⟨_, _, hs⟩ => hs.sql hx) ?_ ?_
      · rintro D i y H2 hi ⟨acc, ha, hs⟩
        obtain ⟨n, _, rfl⟩ := abs_map ns i hi
        have hin : i < ns.length := by
          have := (List.getElem?_eq_some_iff.mp hi).1
          rwa [List.length_map] at this
        walk_at "ss"
        refine ⟨rfl, ?_⟩
        walk_at "ss"
        try (with_reducible refine iteT ?_)
        walk_at "ss"
        refine ⟨_, hs.g0, ?_, acc ++ [if n < 0 then -n else n], ?_, ?_⟩
        · refine szl ?_
          rw [List.length_map]
          omega
        · rw [List.length_append, ha]
          rfl
        · have := hs.p0 (.lst ((acc.map V.int) ++ [V.int (if n < 0 then -n else n)]))
          unfold clo
          rw [List.map_append]
          exact this
      · rintro D H2 ⟨acc, ha, hs⟩
        rw [List.length_map] at ha
        walk_at "ss"
        refine k _ D (m + 1) acc _ (by assumption) ⟨by omega, by omega, by omega⟩
theorem ok__law_draw (T : Txt K mg a) : FnOk P w K mg base CX0 1 a._law_draw a.fd__law_draw ["state", "many"] sp__law_draw := by
  refine T.fn__law_draw.ok sc__law_draw (fun vs H Q E h => ?_) (fun cdv A outer s H vs Q E hr h => ?_)
  · obtain ⟨_, _, _, _, _, _, rfl, _⟩ := h
    rfl
  · obtain ⟨B, s, c, m, many, cells, rfl, hs, ⟨hm0, hm1, hl⟩, hmany, k⟩ := h
    refine ⟨_, (pss_cons (ps_if (pt_cmpR op_lt (pv 1) pe_int (nomark _))
  (pss_one (ps_ret pe_int))
  pss_nil)
  (pss_cons (ps_set (i := 2) sc__law_draw.nd rfl (Or.inl rfl) (pe_ix (ix_listK (K := K)) (pv 0) pe_int (fun _ _ => rfl)))
  (pss_cons (ps_while PassesOwn.never (PW.pt (pw_and (pt_cmpR op_gt (pe_callB (call_lenK (K := K)) (by rfl) T.mg_len PySem.boot_len (pa_cons (pv 2) pa_nil)) pe_int (nomark _)) (pw_and1 (pt_cmpR op_eq (pe_ix (ix_listK (K := K)) (pv 2) pe_int (fun _ _ => rfl)) pe_int (nomark _)))))
  (pss_one (ps_expr (pe_bmK (K := K) PySem.F.plainAttrs_list PySem.F.slot_list_pop PySem.F.type_list_pop mt_popAt (pv 2) (pa_cons pe_int pa_nil)))))
  (pss_cons (ps_if (pt_cmpR op_gt (pe_callB (call_lenK (K := K)) (by rfl) T.mg_len PySem.boot_len (pa_cons (pv 2) pa_nil)) pe_int (nomark _))
  (pss_cons (ps_set (i := 3) sc__law_draw.nd rfl (Or.inl rfl) (pe_ix (ix_listK (K := K)) (pv 2) pe_int (fun _ _ => rfl)))
  (pss_cons (ps_asg (pe_op op_fdivW (pv 3) (pv 1)) (pg_sub (pv 2) pe_int set_list))
  (pss_one (ps_ret (pe_op op_mod (pe_callTy call_intQ (by rfl) T.mg_int (by decide +kernel) (pa_cons (pv 3) pa_nil)) (pv 1))))))
  pss_nil)
  (pss_cons (ps_set (i := 4) sc__law_draw.nd rfl (Or.inl rfl) (pe_op op_mod (pe_callTy call_intQ (by rfl) T.mg_int (by decide +kernel) (pa_cons (pe_op op_add (pe_op op_mul (pe_ix (ix_listK (K := K)) (pv 0) pe_int (fun _ _ => rfl)) pe_int) pe_int) pa_nil)) pe_int))
  (pss_cons (ps_asg (pv 4) (pg_sub (pv 0) pe_int set_list))
  (pss_one (ps_ret (pe_op op_mod (pe_callTy call_intQ (by rfl) T.mg_int (by decide +kernel) (pa_cons (pe_op op_fdivW (pv 4) pe_int) pa_nil)) (pv 1)))))))))), ?_⟩
    walk_at "ss"
    refine ifd (fun h => ?_) (fun h => ?_)
    · walk_at "ss"
      exact k 0 m cells _ hs ⟨hm0, hm1, hl⟩ (fun _ => rfl) (fun q => by omega)
    walk_at "ss"
    refine w_while (fun n σ H' => ∃ cells : List Int, σ = [some (.ref s), some (.int many), some (.ref c), none, none] ∧ cells.length = n ∧ cells.length ≤ 1000 ∧ Hs B [(s, sto c m), (c, clo cells)] H') cells.length ⟨cells, rfl, rfl, hl, hs⟩ ?_
    clear hs
    clear hl cells
    rintro n σ H' ⟨cells, rfl, hn, hl, hs⟩
    walk_at "ss"
    cases cells with
    | nil =>
      show if decide ((0 : Int) < ((0 : Nat) : Int)) = true then _ else _
      refine iteF ?_
      try (with_reducible refine iteF ?_)
      walk_at "ss"
      refine iteF ?_
      walk_at "ss"
      rename_i H2 hs2
      clear hs
      have e1 : 0 ≤ (m * 48271 + 12345) % 2147483647 := Int.emod_nonneg _ (by decide)
      have e2 : (m * 48271 + 12345) % 2147483647 < 2147483647 := Int.emod_lt_of_pos _ (by decide)
      generalize (m * 48271 + 12345) % 2147483647 = mm at e1 e2 hs2 ⊢
      refine w_I ⟨by decide, by decide⟩ ?_
      walk_at "ss"
      refine k _ mm [] _ hs2 ⟨e1, by omega, by decide⟩ (fun q => by omega) fun q => ⟨Int.emod_nonneg _ (by omega), Int.emod_lt_of_pos _ (by omega)⟩
    | cons z cells =>
      refine ifd (fun _ => ?_) (fun q => absurd (show (0 : Int) < _ from by simp only [List.map_cons, List.length_cons]; omega) q)
      walk_at "ss"
      refine ifd (fun hz => ?_) (fun hz => ?_)
      · walk_at "ss"
        refine w_popAt (k := 0) hs (by walk_at "p") rfl rfl (by walk_at "z") fun H2 hs2 => ?_
        rw [List.length_cons] at hl hn
        exact ⟨cells.length, by omega, cells, rfl, rfl, by omega, hs2⟩
      · walk_at "ss"
        refine ifd (fun _ => ?_) (fun q => absurd (show (0 : Int) < _ from by simp only [List.map_cons, List.length_cons]; omega) q)
        walk_at "ss"
        refine w_I ⟨by omega, ?_⟩ ?_
        · refine PySem.Flt.log2_lt_of (by decide) (Nat.lt_of_lt_of_le (show many.natAbs < 2 ^ 30 by omega) (Nat.pow_le_pow_right (by decide) (by decide)))
        walk_at "ss"
        rename_i H2 hs2
        refine k _ m ((z / many) :: cells) _ hs2 ⟨hm0, hm1, by simpa using hl⟩ (fun q => by omega) fun q => ⟨Int.emod_nonneg _ (by omega), Int.emod_lt_of_pos _ (by omega)⟩

theorem w_draw {B H : Hp} {Q : VK} {E : XK} {s c : Addr} {m many : Int} {cells : List Int} {R : List (Addr × HO)} (hs : Hs B ((s, sto c m) :: (c, clo cells) :: R) H) (g : Good m cells) (hm : many < 1000000000)
    (q : ∀ r m' cells' H', Hs B ((s, sto c m') :: (c, clo cells') :: R) H' → Good m' cells' → (many < 1 → r = 0) → (1 ≤ many → 0 ≤ r ∧ r < many) → Q (.int r) H') : sp__law_draw [.ref s, .int many] H Q E := by
  obtain ⟨B', _, h1, back⟩ := hs.frame2
  exact ⟨B', s, c, m, many, cells, rfl, h1, g, hm, fun r m' cells' H' h2 => q r m' cells' H' (back _ _ h2)⟩
def sp__law_pick : Sp := fun vs H Q _ => ∃ (B : Hp) (s c r : Addr) (m : Int) (cells : List Int) (xs : List V), vs = [.ref s, .ref r] ∧ Hs B [(s, sto c m), (c, clo cells)] H ∧ B r = some (.lst xs) ∧ Good m cells ∧ xs ≠ [] ∧ xs.length ≤ 1000 ∧
  ∀ (x : V) m' cells' H', x ∈ xs → Hs B [(s, sto c m'), (c, clo cells')] H' → Good m' cells' → Q x H'
def sp__law_part : Sp := fun vs H Q _ => ∃ (B : Hp) (s c : Addr) (m : Int) (cells : List Int) (most : Int), vs = [.ref s, .int most] ∧ Hs B [(s, sto c m), (c, clo cells)] H ∧ Good m cells ∧ most < 1000 ∧
  ∀ (o : Option Int) m' cells' H', Hs B [(s, sto c m'), (c, clo cells')] H' → Good m' cells' → Q (oV o) H'
theorem ok__law_pick (T : Txt K mg a) : FnOk P w K mg base CX0 2 a._law_pick a.fd__law_pick ["state", "row"] sp__law_pick := by
  have G__law_draw := ok__law_draw (P := P) (w := w) (base := base) T
  refine T.fn__law_pick.ok sc__law_pick (fun vs H Q E h => ?_) (fun cdv A outer s H vs Q E hr h => ?_)
  · obtain ⟨_, _, _, _, _, _, _, rfl, _⟩ := h
    rfl
  · obtain ⟨B, s, c, r, m, cells, xs, rfl, hs, hr1, g, hne, hl, k⟩ := h
    refine ⟨_, (pss_one (ps_ret (pe_ix (ix_listK (K := K)) (pv 1) (pe_call G__law_draw (hr.mono (by decide)) rfl T.mg__law_draw T.kp__law_draw T.bi__law_draw .nil pass0 (pa_cons (pv 0) (pa_cons (pe_callB (call_lenK (K := K)) (by rfl) T.mg_len PySem.boot_len (pa_cons (pv 1) pa_nil)) pa_nil))) (fun _ _ => rfl)))), ?_⟩
    walk_at "ss"
    have hpos : 0 < xs.length := List.length_pos_iff.mpr hne
    refine w_draw hs g (by omega) fun d m2 cells2 H2 hs2 g2 _ hd => ?_
    clear hs
    obtain ⟨d0, d1⟩ := hd (by omega)
    have hin : d.toNat < xs.length := by omega
    have ea : atI xs d = some xs[d.toNat] := at_of (j := d.toNat) (by omega) (List.getElem?_eq_getElem hin)
    refine w_ixL (SqL.of (hs2.same _ _ hr1)) ea ?_
    walk_at "ss"
    exact k _ m2 cells2 H2 (List.getElem_mem hin) hs2 g2
theorem ok__law_part (T : Txt K mg a) : FnOk P w K mg base CX0 2 a._law_part a.fd__law_part ["state", "most"] sp__law_part := by
  have G__law_draw := ok__law_draw (P := P) (w := w) (base := base) T
  refine T.fn__law_part.ok sc__law_part (fun vs H Q E h => ?_) (fun cdv A outer s H vs Q E hr h => ?_)
  · obtain ⟨_, _, _, _, _, _, rfl, _⟩ := h
    rfl
  · obtain ⟨B, s, c, m, cells, most, rfl, hs, g, hm, k⟩ := h
    refine ⟨_, (pss_one (ps_ret (pe_ifExp (pt_cmpR op_gt (pe_call G__law_draw (hr.mono (by decide)) rfl T.mg__law_draw T.kp__law_draw T.bi__law_draw .nil pass0 (pa_cons (pv 0) (pa_cons pe_int pa_nil))) pe_int (nomark _)) pe_non (pe_call G__law_draw (hr.mono (by decide)) rfl T.mg__law_draw T.kp__law_draw T.bi__law_draw .nil pass0 (pa_cons (pv 0) (pa_cons (pe_op op_add (pv 1) pe_int) pa_nil)))))), ?_⟩
    walk_at "ss"
    refine w_draw hs g (by omega) fun d m2 cells2 H2 hs2 g2 _ hd => ?_
    clear hs
    walk_at "ss"
    refine ifd (fun z => ?_) (fun z => ?_)
    · walk_at "ss"
      exact k none _ _ _ hs2 g2
    · walk_at "ss"
      refine w_draw hs2 g2 (by omega) fun d m3 cells3 H3 hs3 g3 _ hd => ?_
      walk_at "ss"
      exact k (some d) _ _ _ hs3 g3
theorem w_part {B H : Hp} {Q : VK} {E : XK} {s c : Addr} {m most : Int} {cells : List Int} {R : List (Addr × HO)} (hs : Hs B ((s, sto c m) :: (c, clo cells) :: R) H) (g : Good m cells) (hm : most < 1000)
    (q : ∀ (o : Option Int) m' cells' H', Hs B ((s, sto c m') :: (c, clo cells') :: R) H' → Good m' cells' → Q (oV o) H') : sp__law_part [.ref s, .int most] H Q E := by
  obtain ⟨B', _, h1, back⟩ := hs.frame2
  exact ⟨B', s, c, m, cells, most, rfl, h1, g, hm, fun o m' cells' H' h2 => q o m' cells' H' (back _ _ h2)⟩
def sp__law_rule : Sp := fun vs H Q _ => ∃ (B : Hp) (s c : Addr) (m : Int) (cells : List Int), vs = [.ref s] ∧ Hs B [(s, sto c m), (c, clo cells)] H ∧ Good m cells ∧
  ∀ (B2 : Hp) (t tm lo : Addr) (ma : List (Option Int)) (outs : List Out) (os : List V) m' cells' H', Same B B2 → Hs B2 [(s, sto c m'), (c, clo cells')] H' → Good m' cells' → B2 t = some (.tup [.ref tm, .ref lo]) → B2 tm = some (.tup (ma.map oV)) → B2 lo = some (.lst os) → Row (OutAt B2) os outs → WfR (ma, outs) → B lo = none → Q (.ref t) H'
theorem ok__law_rule (T : Txt K mg a) : FnOk P w K mg base CX0 3 a._law_rule a.fd__law_rule ["state"] sp__law_rule := by
  have G__law_draw := ok__law_draw (P := P) (w := w) (base := base) T
  have G__law_part := ok__law_part (P := P) (w := w) (base := base) T
  refine T.fn__law_rule.ok sc__law_rule (fun vs H Q E h => ?_) (fun cdv A outer s H vs Q E hr h => ?_)
  · obtain ⟨_, _, _, _, _, rfl, _⟩ := h
    rfl
  · obtain ⟨B, s, c, m, cells, rfl, hs, g, k⟩ := h
    refine ⟨_, (pss_cons (ps_set (i := 1) sc__law_rule.nd rfl (Or.inl rfl) (pe_tup (pa_cons (pe_call G__law_part (hr.mono (by decide)) rfl T.mg__law_part T.kp__law_part T.bi__law_part .nil pass0 (pa_cons (pv 0) (pa_cons pe_int pa_nil))) (pa_cons (pe_call G__law_part (hr.mono (by decide)) rfl T.mg__law_part T.kp__law_part T.bi__law_part .nil pass0 (pa_cons (pv 0) (pa_cons pe_int pa_nil))) (pa_cons (pe_call G__law_part (hr.mono (by decide)) rfl T.mg__law_part T.kp__law_part T.bi__law_part .nil pass0 (pa_cons (pv 0) (pa_cons pe_int pa_nil))) (pa_cons (pe_call G__law_part (hr.mono (by decide)) rfl T.mg__law_part T.kp__law_part T.bi__law_part .nil pass0 (pa_cons (pv 0) (pa_cons pe_int pa_nil))) pa_nil))))))
  (pss_cons (ps_setLc (i := 2) (own := [("k", 3)]) (g := (gName 3)) (tt := tYes) rfl sc__law_rule.nd rfl rfl (sw_true rfl rfl rfl (by decide +kernel)) (pi_range1 rfl T.mg_range (pa_cons (pe_call G__law_draw (hr.mono (by decide)) rfl T.mg__law_draw T.kp__law_draw T.bi__law_draw .nil pass0 (pa_cons (pv 0) (pa_cons pe_int pa_nil))) pa_nil)) (blkOk_by (own := [("k", 3)]) (N := N__law_rule) (sc := defScope s__law_rule) (by decide +kernel)) (fun _ _ _ _ _ => by exact (pg_name (i := 3) sc__law_rule.nd rfl (Or.inl rfl))) (fun _ _ _ _ _ => pts_nil) (fun _ _ _ _ _ => by exact (pe_tup (pa_cons (pe_call G__law_draw (hr.mono (by decide)) rfl T.mg__law_draw T.kp__law_draw T.bi__law_draw .nil pass0 (pa_cons (pv 0) (pa_cons pe_int pa_nil))) (pa_cons (pe_tup (pa_cons (pe_call G__law_part (hr.mono (by decide)) rfl T.mg__law_part T.kp__law_part T.bi__law_part .nil pass0 (pa_cons (pv 0) (pa_cons pe_int pa_nil))) (pa_cons (pe_call G__law_part (hr.mono (by decide)) rfl T.mg__law_part T.kp__law_part T.bi__law_part .nil pass0 (pa_cons (pv 0) (pa_cons pe_int pa_nil))) (pa_cons (pe_call G__law_part (hr.mono (by decide)) rfl T.mg__law_part T.kp__law_part T.bi__law_part .nil pass0 (pa_cons (pv 0) (pa_cons pe_int pa_nil))) pa_nil)))) pa_nil)))))
  (pss_one (ps_ret (pe_tup (pa_cons (pv 1) (pa_cons (pv 2) pa_nil))))))), ?_⟩
    walk_at "ss"
    refine w_part hs g (by omega) fun o1 m1 cells1 H1 hs1 g1 => ?_
    clear hs g
    walk_at "ss"
    refine w_part hs1 g1 (by omega) fun o2 m2 cells2 H2 hs2 g2 => ?_
    clear hs1 g1
    walk_at "ss"
    refine w_part hs2 g2 (by omega) fun o3 m3 cells3 H3 hs3 g3 => ?_
    clear hs2 g2
    walk_at "ss"
    refine w_part hs3 g3 (by omega) fun o4 m4 cells4 H4 hs4 g4 => ?_
    clear hs3 g3
    walk_at "ss"
    rename_i tm H5 hs5
    clear hs4
    obtain ⟨sm0, hs6⟩ := hs5.freeze
    have htm := upd_same (H := B) (a := tm) (o := .tup [oV o1, oV o2, oV o3, oV o4])
    generalize upd B tm (.tup [oV o1, oV o2, oV o3, oV o4]) = B1 at sm0 hs6 htm
    clear hs5
    refine w_lcG ?_
    walk_at "ss"
    refine w_draw hs6 g4 (by omega) fun d m5 c5 H6 hs7 g5 _ hd => ?_
    obtain ⟨d0, d1⟩ := hd (by omega)
    clear hs6 g4
    walk_at "ss"
    refine w_rngR d0 (by omega) fun D hD => ?_
    refine turns_range (Body := LcBody (gName 3) tYes _ _ _ D) (fun i H' => ∃ (B2 : Hp) (m' : Int) (cells' : List Int) (os : List V) (outs : List Out), Same B1 B2 ∧ Hs B2 [(D, .lst os), (s, sto c m'), (c, clo cells')] H' ∧ Good m' cells' ∧ Row (OutAt B2) os outs ∧ outs.length = i ∧ ∀ o ∈ outs, o.2.length = 3)
      ⟨B1, m5, c5, [], [], Same.refl _, hs7.new hD, g5, ⟨rfl, fun _ _ _ z => nomatch z⟩, rfl, fun _ z => nomatch z⟩ ?_ ?_
    · clear hs7 hD
      rintro i H' hi ⟨B2, m', cells', os, outs, sm, hs8, g8, hro, hlo, h3⟩
      walk_at "ss"
      refine ⟨rfl, ?_⟩
      have hs9 := hs8.m1.m2.m1
      walk_at "ss"
      refine w_draw hs9 g8 (by omega) fun p mA cA HA hsA gA _ _ => ?_
      clear hs8 hs9
      walk_at "ss"
      refine w_part hsA gA (by omega) fun q1 mB cB HB hsB gB => ?_
      clear hsA
      walk_at "ss"
      refine w_part hsB gB (by omega) fun q2 mC cC HC hsC gC => ?_
      clear hsB
      walk_at "ss"
      refine w_part hsC gC (by omega) fun q3 mD cD HD hsD gD => ?_
      clear hsC
      walk_at "ss"
      rename_i tc HE hsE t HF hsF
      obtain ⟨sm1, hsG⟩ := hsF.freeze
      obtain ⟨sm2, hsH⟩ := hsG.freeze
      have f1 := sm2 _ _ (upd_same (H := B2) (a := t) (o := .tup [.int p, .ref tc]))
      have f2 := upd_same (H := upd B2 t (.tup [.int p, .ref tc])) (a := tc) (o := .tup [oV q1, oV q2, oV q3])
      have sm3 := sm1.trans sm2
      have hsI := hsH.m2
      have hz : os.length < sizeLine := szl (by have := hro.1; omega)
      refine ⟨os, hsI.g0, hz, _, mD, cD, os ++ [.ref t], outs ++ [(p, [q1, q2, q3])], sm.trans sm3, hsI.p0 _, gD, (hro.mono fun _ _ => OutAt.same sm3).snoc ⟨t, tc, rfl, f1, f2⟩, by rw [List.length_append, hlo]; rfl, fun o ho => ?_⟩
      rcases List.mem_append.mp ho with ho | ho
      · exact h3 o ho
      · rw [List.mem_singleton.mp ho]
        rfl
    · rintro H' ⟨B2, m', cells', os, outs, sm, hs8, g8, hro, hlo, h3⟩
      walk_at "ss"
      rename_i t HF hsF
      obtain ⟨sm1, hsG⟩ := hsF.freeze
      obtain ⟨sm2, hsH⟩ := hsG.freeze
      have f1 := sm2 _ _ (upd_same (H := B2) (a := t) (o := .tup [.ref tm, .ref D]))
      have f2 := upd_same (H := upd B2 t (.tup [.ref tm, .ref D])) (a := D) (o := .lst os)
      have sm3 := sm1.trans sm2
      exact k _ t tm D [o1, o2, o3, o4] outs os m' cells' HF (sm0.trans (sm.trans sm3)) hsH g8 f1 (sm3 _ _ (sm _ _ htm)) f2 (hro.mono fun _ _ => OutAt.same sm3) ⟨rfl, h3, by show outs.length ≤ 60; omega⟩ ((sm0.trans hs7.same).free hD)
end
local macro_rules | `(tactic| walk_at "s") => `(tactic| first
  | with_reducible refine w_nget ?_
  | with_reducible refine w_nin ?_
  | with_reducible refine w_nnot ?_
  | with_reducible refine w_nput ?_
  | with_reducible refine w_ndel ?_
  | with_reducible refine w_npop ?_
  | ((with_reducible refine' w_nnew ?hs ?_); (case hs => assumption); intro _ _ _))

section
variable {P : Program} [IsP P] {w : World} {K : PySem.W.Frag} {mg : Str → Option Value} {base : Heap} {a : Ad}
def sp__law_fits : Sp := fun vs H Q _ => ∃ (tm tp : Addr) (m : List (Option Int)) (ns : List Int), vs = [.ref tm, .ref tp] ∧ H tm = some (.tup (m.map oV)) ∧ H tp = some (.tup (ns.map V.int)) ∧ m.length = 4 ∧ ns.length = 4 ∧ ∀ H', Same H H' → Q (.bl (fitsM m ns)) H'
theorem ok__law_fits (T : Txt K mg a) : FnOk P w K mg base CX0 1 a._law_fits a.fd__law_fits ["match", "place"] sp__law_fits := by
  refine T.fn__law_fits.ok sc__law_fits (fun vs H Q E h => ?_) (fun cdv A outer s H vs Q E hr h => ?_)
  · obtain ⟨_, _, _, _, rfl, _⟩ := h
    rfl
  · obtain ⟨tm, tp, m, ns, rfl, hm, hp, h4, h5, k⟩ := h
    have hs := Hs.start H
    refine ⟨_, (pss_one (ps_ret (pe_cmpR op_eq (pe_callB (call_lenK (K := K)) (by rfl) T.mg_len PySem.boot_len (pa_cons (pe_lc (own := [("k", 2)]) (g := (gName 2)) rfl sc__law_fits.nd (pi_range1 rfl T.mg_range (pa_cons pe_int pa_nil)) (blkOk_by (own := [("k", 2)]) (N := N__law_fits) (sc := defScope s__law_fits) (by decide +kernel)) (fun _ _ _ _ _ => by exact (pg_name (i := 2) sc__law_fits.nd rfl (Or.inl rfl))) (fun _ _ _ _ _ => by exact pts_one (PW.pt (pw_and (pt_cmpR op_notNQ (pe_ix (ix_tupK (K := K)) (pv 0) (pv 2) (fun _ _ => rfl)) pe_non (nomark _)) (pw_and1 (pt_cmpR op_ne (pe_ix (ix_tupK (K := K)) (pv 0) (pv 2) (fun _ _ => rfl)) (pe_ix (ix_tupK (K := K)) (pv 1) (pv 2) (fun _ _ => rfl)) (nomark _)))))) (fun _ _ _ _ _ => by exact (pv 2))) pa_nil)) pe_int (nomark _)))), ?_⟩
    walk_at "ss"
    refine w_lcG ?_
    walk_at "ss"
    refine w_rngR (by decide) (by decide) fun D hD => ?_
    refine turns_range (Body := LcBody (gName 2) _ _ _ _ D) (fun i H' => ∃ acc, Hs H [(D, .lst acc)] H' ∧ acc.length ≤ i ∧ (acc = [] ↔ ((m.zip ns).take i).all (fun p => fit1 p.1 p.2) = true)) ⟨[], hs.new hD, Nat.le_refl _, ⟨fun _ => rfl, fun _ => rfl⟩⟩ ?_ ?_
    · rintro i H' hi ⟨acc, hs1, hl, hiff⟩
      have hi4 : i < 4 := hi
      have hmi : m[i]? = some (m[i]'(by omega)) := List.getElem?_eq_getElem _
      have hni : ns[i]? = some (ns[i]'(by omega)) := List.getElem?_eq_getElem _
      generalize m[i]'(by omega) = mi at hmi
      generalize ns[i]'(by omega) = n at hni
      have hz := zip_at hmi hni
      have a1 : atI (m.map oV) (i : Int) = some (oV mi) := at_of (j := i) rfl (by rw [List.getElem?_map, hmi]; rfl)
      have a2 : atI (ns.map V.int) (i : Int) = some (.int n) := at_of (j := i) rfl (by rw [List.getElem?_map, hni]; rfl)
      have htk : ((m.zip ns).take (i + 1)).all (fun p => fit1 p.1 p.2) = (((m.zip ns).take i).all (fun p => fit1 p.1 p.2) && fit1 mi n) := by
        rw [List.take_add_one, hz, List.all_append]
        simp
      walk_at "ss"
      refine ⟨rfl, ?_⟩
      walk_at "ss"
      cases mi with
      | none =>
        rw [if_neg (show ¬ (!decide (oV none = V.non)) = true by simp [oV]), if_neg (show ¬ false = true by decide)]
        try walk_at "ss"
        exact ⟨acc, hs1, by omega, by rw [htk]; simpa [fit1] using hiff⟩
      | some z =>
        rw [if_pos (show (!decide (oV (some z) = V.non)) = true by simp [oV])]
        walk_at "ss"
        refine w_neI (a := z) (b := n) ?_
        walk_at "ss"
        by_cases hq : z = n
        · refine ifn (fun y => absurd hq y) (fun _ => ?_)
          try walk_at "ss"
          exact ⟨acc, hs1, by omega, by rw [htk]; simpa [fit1, hq] using hiff⟩
        · refine ifn (fun _ => ?_) (fun y => absurd y hq)
          walk_at "ss"
          refine ⟨acc, hs1.g0, szl (by omega), acc ++ [.int i], hs1.p0 _, by rw [List.length_append]; simp; omega, ?_⟩
          rw [htk]
          simp [fit1, hq]
    · rintro H' ⟨acc, hs1, hl, hiff⟩
      walk_at "ss"
      have hfull : (m.zip ns).take (Int.toNat 4) = m.zip ns := List.take_of_length_le (by rw [List.length_zip, h4, h5]; decide)
      rw [hfull] at hiff
      have e : decide ((acc.length : Int) = 0) = fitsM m ns := by
        unfold fitsM
        rw [Bool.eq_iff_iff, decide_eq_true_iff, ← hiff]
        constructor
        · intro z
          exact List.length_eq_zero_iff.mp (by omega)
        · rintro rfl
          rfl
      rw [e]
      exact k _ hs1.same
end
local macro_rules | `(tactic| walk_at "s") => `(tactic| first
  | with_reducible refine w_nget ?_
  | with_reducible refine w_nin ?_
  | with_reducible refine w_nnot ?_
  | with_reducible refine w_nput ?_
  | with_reducible refine w_ndel ?_
  | with_reducible refine w_npop ?_
  | ((with_reducible refine' w_nnew ?hs ?_); (case hs => assumption); intro _ _ _))

/-! ## pairs as data -/
def dP (x : Pr) : PyData := .tuple [.int x.1, .tuple (x.2.map .int)]
theorem lay_ints : ∀ ns : List Int, PyData.canLayAll0 (ns.map .int) = true
  | [] => rfl
  | n :: ns => by
    rw [List.map_cons]
    simp only [PyData.canLayAll0, PyData.canLay0, Bool.true_and]
    exact lay_ints ns
theorem dP_ok (x : Pr) : (dP x).canLay0 = true ∧ (dP x).depth ≤ 3 := by
  have h := depth_ints x.2
  unfold dP
  constructor
  · simp only [PyData.canLayAll0, PyData.canLay0, lay_ints, Bool.and_self]
  · simp only [PyData.depth, PyData.depthAll]
    omega
theorem dP_shp (x : Pr) : SeqAt.shaped (dP x) = true := by
  unfold SeqAt.shaped
  rw [(dP_ok x).1, Bool.true_and]
  exact decide_eq_true (by have := (dP_ok x).2; omega)
theorem dPs_shp (xs : List Pr) : SeqAt.shaped (.list (xs.map dP)) = true := by
  have key : ∀ xs : List Pr, PyData.canLayAll0 (xs.map dP) = true ∧ PyData.depthAll (xs.map dP) ≤ 3 := fun xs => by
    induction xs with
    | nil => exact ⟨rfl, Nat.zero_le _⟩
    | cons x xs ih =>
      rw [List.map_cons]
      simp only [PyData.canLayAll0, PyData.depthAll, (dP_ok x).1, ih.1, Bool.and_self, true_and]
      have := (dP_ok x).2
      omega
  unfold SeqAt.shaped
  simp only [PyData.canLay0, PyData.depth]
  rw [(key xs).1, Bool.true_and]
  exact decide_eq_true (by have := (key xs).2; omega)
theorem eqv_ints : ∀ ns ms : List Int, PyData.eqvAll (ns.map .int) (ms.map .int) = decide (ns = ms)
  | [], [] => rfl
  | [], _ :: _ => by simp [PyData.eqvAll]
  | _ :: _, [] => by simp [PyData.eqvAll]
  | n :: ns, m :: ms => by
    rw [List.map_cons, List.map_cons]
    simp only [PyData.eqvAll, PyData.eqv, eqv_ints ns ms]
    by_cases h : n = m
    · by_cases h2 : ns = ms
      · simp [h, h2]
      · simp [h, h2]
    · simp [h]
theorem eqv_dP (x y : Pr) : PyData.eqv (dP x) (dP y) = decide (x = y) := by
  unfold dP
  simp only [PyData.eqv, PyData.eqvAll, eqv_ints, Bool.and_true]
  by_cases h : x.1 = y.1
  · by_cases h2 : x.2 = y.2
    · simp [h, h2, Prod.ext_iff]
    · simp [h, h2, Prod.ext_iff]
  · simp [h, Prod.ext_iff]
theorem PrAt.dp {K : PySem.W.Frag} {H : Hp} {u : V} {x : Pr} (h : PrAt H u x) : Dp K H u (dP x) := by
  obtain ⟨t, tc, rfl, h1, h2⟩ := h
  exact .tup (SqT.of h1) (.cons (.int _) (.cons (.tup (SqT.of h2) (im_ints x.2).dp) .nil))
theorem Row.dps {K : PySem.W.Frag} {H : Hp} : ∀ {us : List V} {xs : List Pr}, Row (PrAt H) us xs → DpAll K H us (xs.map dP)
  | [], [], _ => .nil
  | [], _ :: _, h => by cases h.1
  | _ :: _, [], h => by cases h.1
  | u :: us, x :: xs, h => .cons (h.2 0 u x rfl rfl).dp (Row.dps ⟨Nat.succ.inj h.1, fun i y z h1 h2 => h.2 (i + 1) y z (by simpa using h1) (by simpa using h2)⟩)
theorem w_niP {K : PySem.W.Frag} {H : Hp} {Q : VK} {r t : Addr} {us : List V} {xs : List Pr} {x : Pr} (hr : H r = some (.lst us)) (hL : Row (PrAt H) us xs) (hx : PrAt H (.ref t) x) (k : Q (.bl (decide (x ∉ xs))) H) : rInDL K true (.ref t) (.ref r) H Q := by
  refine ⟨dP x, xs.map dP, hx.dp, .lst (SqL.of hr) hL.dps, dP_shp x, dPs_shp xs, ?_⟩
  have e : ((xs.map dP).any fun z => PyData.eqv z (dP x)) = decide (x ∈ xs) := by
    rw [List.any_map, Bool.eq_iff_iff, List.any_eq_true, decide_eq_true_iff]
    constructor
    · rintro ⟨y, hy, h⟩
      have h2 : PyData.eqv (dP y) (dP x) = true := h
      rw [eqv_dP] at h2
      rw [← of_decide_eq_true h2]
      exact hy
    · intro h
      refine ⟨x, h, ?_⟩
      show PyData.eqv (dP x) (dP x) = true
      rw [eqv_dP]
      exact decide_eq_true rfl
  rw [e]
  show Q (.bl (if true then !decide (x ∈ xs) else decide (x ∈ xs))) H
  rw [if_pos rfl, ← decide_not]
  exact k
section
variable {P : Program} [IsP P] {w : World} {K : PySem.W.Frag} {mg : Str → Option Value} {base : Heap} {a : Ad}
theorem ok__law_done (T : Txt K mg a) : FnOk P w K mg base CX0 1 a._law_done a.fd__law_done ["outs", "header"] sp_done := by
  refine T.fn__law_done.ok sc__law_done (fun vs H Q E h => ?_) (fun cdv A outer s H vs Q E hr h => ?_)
  · obtain ⟨_, _, _, _, _, rfl, _⟩ := h
    rfl
  · obtain ⟨lo, th, us, outs, h, rfl, hlo, hrow, hth, hl, hc3, hz, k⟩ := h
    have hs := Hs.start H
    refine ⟨_, (pss_cons (ps_set (i := 2) sc__law_done.nd rfl (Or.inl rfl) (pe_lst pa_nil))
  (pss_cons (ps_for PassesOwn.never rfl (pi_listK (K := K) (pv 0)) (pg_tupK (K := K) rfl (pgs_cons (pg_name (i := 3) sc__law_done.nd rfl (Or.inl rfl)) (pgs_cons (pg_name (i := 4) sc__law_done.nd rfl (Or.inr rfl)) pgs_nil)))
  (pss_cons (ps_set (i := 5) sc__law_done.nd rfl (Or.inl rfl) (pe_tup (pa_cons (pv 3) (pa_cons (pe_callTy call_tuple_of (by rfl) T.mg_tuple (by decide +kernel) (pa_cons (pe_lc (own := [("k", 6)]) (g := (gName 6)) (tt := tYes) rfl sc__law_done.nd (pi_range1 rfl T.mg_range (pa_cons pe_int pa_nil)) (blkOk_by (own := [("k", 6)]) (N := N__law_done) (sc := defScope s__law_done) (by decide +kernel)) (fun _ _ _ _ _ => by exact (pg_name (i := 6) sc__law_done.nd rfl (Or.inl rfl))) (fun _ _ _ _ _ => pts_nil) (fun _ _ _ _ _ => by exact (pe_ifExp (pt_cmpR op_isNQ (pe_ix (ix_tupK (K := K)) (pv 4) (pv 6) (fun _ _ => rfl)) pe_non (nomark _)) (pe_ix (ix_tupK (K := K)) (pv 1) (pv 6) (fun _ _ => rfl)) (pe_ix (ix_tupK (K := K)) (pv 4) (pv 6) (fun _ _ => rfl))))) pa_nil)) pa_nil))))
  (pss_one (ps_if (pt_cmpR (op_niDL (K := K) (r65 hr)) (pv 5) (pv 2) (by rfl))
  (pss_one (ps_expr (pe_bmK (K := K) PySem.F.plainAttrs_list PySem.F.slot_list_append PySem.F.type_list_append mt_append (pv 2) (pa_cons (pv 5) pa_nil))))
  pss_nil))))
  (pss_one (ps_ret (pe_callB (cr_sortN (K := K) (c := none) (sh := [some 3]) (r64 hr)) (by rfl) T.mg_sorted (by decide +kernel) (pa_cons (pv 2) pa_nil)))))), ?_⟩
    walk_at "ss"
    rename_i F H1 hs1
    clear hs
    refine w_forL (SqL.of (hs1.same _ _ hlo)) (fun i σ' H' => ∃ (vs2 : List V) (ps : List Pr) (N : List (Addr × HO)) (v3 v4 v5 v6 : Option V), σ' = [some (.ref lo), some (.ref th), some (.ref F), v3, v4, v5, v6] ∧ Hs H ((F, .lst vs2) :: N) H' ∧ Row (PrAt H') vs2 ps ∧ ps.Nodup ∧ ps.length ≤ i ∧ ∀ x, x ∈ ps ↔ x ∈ (copies outs h).take i) (fun Q' q => ?_)
      ⟨[], [], [], none, none, none, none, rfl, hs1, ⟨rfl, fun _ _ _ z => nomatch z⟩, List.nodup_nil, Nat.le_refl _, fun x => by simp⟩ (fun i σ' H' _ ⟨_, _, _, _, _, _, _, _, q, _⟩ => SqL.of (q.same _ _ hlo)) ?_ ?_
    · walk_at "ss"
      exact q
    · rintro i u σ' H' hu ⟨vs2, ps, N, v3, v4, v5, v6, rfl, hs2, hrp, hnd, hli, hmem⟩
      obtain ⟨o, ho, t, tc, rfl, ht, htc⟩ := hrow.get hu
      have hi : i < outs.length := (List.getElem?_eq_some_iff.mp ho).1
      have h3 := hc3 o (List.mem_of_getElem? ho)
      refine w_gtup (SqT.of (hs2.same _ _ ht)) rfl ?_
      walk_at "ss"
      refine w_lcG ?_
      walk_at "ss"
      refine w_rngR (by decide) (by decide) fun D hD => ?_
      refine turns_range (Body := LcBody (gName 6) tYes _ _ _ D) (fun j H2 => Hs H' [(D, .lst (((chM h o.2).take j).map V.int))] H2) ((Hs.start H').new hD) ?_ ?_
      · rintro j H2 hj hs3
        have hj3 : j < 3 := hj
        have hcj : o.2[j]? = some (o.2[j]'(by omega)) := List.getElem?_eq_getElem _
        have hhj : h[j]? = some (h[j]'(by omega)) := List.getElem?_eq_getElem _
        generalize o.2[j]'(by omega) = cj at hcj
        generalize h[j]'(by omega) = n at hhj
        have t1 : H2 tc = some (.tup (o.2.map oV)) := hs3.same _ _ (hs2.same _ _ htc)
        have t2 : H2 th = some (.tup (h.map V.int)) := hs3.same _ _ (hs2.same _ _ hth)
        have a1 : atI (o.2.map oV) (j : Int) = some (oV cj) := at_of (j := j) rfl (by rw [List.getElem?_map, hcj]; rfl)
        have a2 : atI (h.map V.int) (j : Int) = some (.int n) := at_of (j := j) rfl (by rw [List.getElem?_map, hhj]; rfl)
        have e : ((chM h o.2).take (j + 1)).map V.int = ((chM h o.2).take j).map V.int ++ [V.int (ch1 n cj)] := by
          have e0 : (chM h o.2)[j]? = some (ch1 n cj) := by
            unfold chM
            rw [List.getElem?_map, zip_at hhj hcj]
            rfl
          rw [List.take_add_one, e0, List.map_append]
          rfl
        have fin : ∃ acc, H2 D = some (.lst acc) ∧ acc.length < sizeLine ∧ Hs H' [(D, .lst (((chM h o.2).take (j + 1)).map V.int))] (upd H2 D (.lst (acc ++ [V.int (ch1 n cj)]))) := by
          refine ⟨_, hs3.g0, szl ?_, ?_⟩
          · rw [List.length_map, List.length_take]
            omega
          · rw [e]
            exact hs3.p0 _
        walk_at "ss"
        refine ⟨rfl, ?_⟩
        walk_at "ss"
        cases cj with
        | none =>
          try rw [if_pos (show decide (oV none = V.non) = true by simp [oV])]
          walk_at "ss"
          exact fin
        | some z =>
          try rw [if_neg (show ¬ decide (oV (some z) = V.non) = true by simp [oV])]
          walk_at "ss"
          exact fin
      · intro H2 hs3
        walk_at "ss"
        have hfull : (chM h o.2).take (Int.toNat 3) = chM h o.2 := List.take_of_length_le (by unfold chM; rw [List.length_map, List.length_zip, hl, h3]; decide)
        rw [hfull] at hs3
        refine ⟨D, _, rfl, .inl ⟨SqL.of hs3.g0, fun l hl2 => ?_⟩⟩
        have hs4 := hs3.new (o := .tup ((chM h o.2).map V.int)) hl2
        walk_at "ss"
        rename_i p H4 hs5
        have hx0 : PrAt H4 (.ref p) (o.1, chM h o.2) := ⟨p, l, rfl, hs5.g0, hs5.g1⟩
        have hrp4 := hrp.mono (R' := PrAt H4) fun _ _ => PrAt.same hs5.same
        have htk : (copies outs h).take (i + 1) = (copies outs h).take i ++ [(o.1, chM h o.2)] := by
          have e : (copies outs h)[i]? = some (o.1, chM h o.2) := by
            unfold copies
            rw [List.getElem?_map, ho]
            rfl
          rw [List.take_add_one, e]
          rfl
        have hs6 := Hs.front (A := [(p, .tup [.int o.1, .ref l]), (l, .tup ((chM h o.2).map V.int)), (D, .lst ((chM h o.2).map V.int))]) (hs2.add hs5)
        refine w_niP (hs5.same _ _ hs2.g0) hrp4 hx0 ?_
        walk_at "ss"
        refine ifd (fun hn => ?_) (fun hn => ?_)
        · have hz2 : vs2.length < sizeLine := szl (by have := hrp.1; omega)
          have hsF := hs6.sub (R := [(F, HO.lst vs2)]) (List.Sublist.cons_cons _ (List.nil_sublist _))
          obtain ⟨B1, smB, hsG, hgt⟩ := hsF.ground rfl
          clear hs2 hs3 hs4 hs5 hs6 hsF
          walk_at "ss"
          rename_i H5 hs7
          have hk5 : ∀ u x, PrAt H4 u x → PrAt H5 u x := fun u x ⟨t', tc', e1, e2, e3⟩ => ⟨t', tc', e1, hs7.same _ _ (hgt _ _ e2), hs7.same _ _ (hgt _ _ e3)⟩
          refine ⟨_, ps ++ [(o.1, chM h o.2)], [], _, _, _, _, rfl, Hs.base smB hs7, (hrp4.snoc hx0).mono hk5, ?_, by rw [List.length_append]; simp; omega, fun x => ?_⟩
          · rw [List.nodup_append]
            refine ⟨hnd, by simp, fun x hx y hy z => ?_⟩
            rw [List.mem_singleton.mp hy] at z
            rw [z] at hx
            exact hn hx
          · rw [htk, List.mem_append, List.mem_append, hmem x]
        · walk_at "ss"
          refine ⟨_, ps, _, _, _, _, _, rfl, hs6, hrp4, hnd, by omega, fun x => ?_⟩
          rw [htk, List.mem_append, ← hmem x, List.mem_singleton]
          exact ⟨.inl, fun z => z.elim id fun e => by rw [e]; exact Classical.not_not.mp hn⟩
    · rintro σ' H' ⟨vs2, ps, N, v3, v4, v5, v6, rfl, hs2, hrp, hnd, hli, hmem⟩
      walk_at "ss"
      have hfull : (copies outs h).take us.length = copies outs h := List.take_of_length_le (by unfold copies; rw [List.length_map, hrow.1]; exact Nat.le_refl _)
      rw [hfull] at hmem
      have hlen3 : ∀ x ∈ ps, x.2.length = 3 := fun x hx => by
        obtain ⟨o, ho, rfl⟩ := List.mem_map.mp ((hmem x).mp hx)
        show (chM h o.2).length = 3
        unfold chM
        rw [List.length_map, List.length_zip, hl, hc3 o ho]
        rfl
      have hin : ∀ v ∈ vs2, ∃ x ∈ ps, PrAt H' v x := fun v hv => by
        obtain ⟨j, hj, rfl⟩ := List.getElem_of_mem hv
        obtain ⟨x, hx, hp⟩ := hrp.get (List.getElem?_eq_getElem hj)
        exact ⟨x, List.mem_of_getElem? hx, hp⟩
      refine ⟨F, vs2, kOf H', rfl, SqL.of hs2.g0, fun v hv => ?_, fun ys l hsrt hstb hln => ?_⟩
      · obtain ⟨x, hx, t', tc', rfl, e2, e3⟩ := hin v hv
        have hp : PrAt H' (.ref t') x := ⟨t', tc', rfl, e2, e3⟩
        rw [kOf_at hp]
        refine ⟨⟨t', rfl⟩, hp.el.1, ?_⟩
        show [none, some x.2.length] = [none, some 3]
        rw [hlen3 x hx]
      · have hs3 := hs2.new (o := .lst ys) hln
        have hpm : ys.Perm vs2 := hstb.perm
        have hat : ∀ v ∈ ys, PrAt H' v (prOf H' v) := fun v hv => by
          obtain ⟨x, _, hp⟩ := hin v (hpm.mem_iff.mp hv)
          rw [prOf_at hp]
          exact hp
        have hps : vs2.map (prOf H') = ps := by
          refine List.ext_getElem? fun j => ?_
          rw [List.getElem?_map]
          cases e : vs2[j]? with
          | none =>
            have := List.getElem?_eq_none_iff.mp e
            rw [List.getElem?_eq_none (by have := hrp.1; omega)]
            rfl
          | some v =>
            obtain ⟨x, hx, hp⟩ := hrp.get e
            rw [hx]
            exact congrArg some (prOf_at hp)
        have hrs : (ys.map (prOf H')).Perm ps := by
          rw [← hps]
          exact hpm.map _
        refine k l ys _ _ (ys.map (prOf H')) hs3 ⟨(List.length_map _).symm, fun j u x h1 h2 => ?_⟩ ⟨?_, hrs.nodup_iff.mpr hnd, fun x => by rw [hrs.mem_iff, hmem x]⟩
        · rw [List.getElem?_map, h1] at h2
          cases h2
          exact (hat u (List.mem_of_getElem? h1)).same (same_upd hln)
        · refine List.pairwise_map.mpr (hsrt.imp_of_mem fun {u v} hu hv q => ?_)
          have q2 : lexI (flK (kOf H' v)) (flK (kOf H' u)) = false := q
          rw [kOf_at (hat u hu), kOf_at (hat v hv), fl_itP, fl_itP] at q2
          exact q2
end
local macro_rules | `(tactic| walk_at "v") => `(tactic| first | exact v0 | exact v1 | exact v2 | exact v3 | exact v4 | exact v5 | exact v6 | exact v7 | exact v8)
local macro_rules | `(tactic| walk_at "vs") => `(tactic| first | exact st0 | exact st1 | exact st2 | exact st3 | exact st4 | exact st5 | exact st6 | exact st7 | exact st8)
local macro_rules | `(tactic| walk_at "s") => `(tactic| first
  | with_reducible refine w_dget ?_
  | ((with_reducible refine' w_dgetZ ?h ?nd ?hk ?hv ?_); (case h => walk_at "g"); (case nd => walk_at "nd"); (case hk => walk_at "k"); (case hv => walk_at "v"))
  | ((with_reducible refine' w_dputZ ?hs ?h ?nd ?hk ?hv ?hu ?hl ?_); (case hs => assumption); (case h => walk_at "p"); (case nd => walk_at "nd"); (case hk => walk_at "k"); (case hv => walk_at "v"); (case hu => walk_at "vs"); (case hl => decide); intro _ _)
  | with_reducible refine w_gsub ?_
  | with_reducible refine w_setD ?_
  | with_reducible refine w_disp ?_
  | ((with_reducible refine' w_newP ?hs ?_); (case hs => assumption); intro _ _ _)
  | with_reducible refine w_pcons ?_
  | with_reducible refine w_pnil ?_)

local macro_rules | `(tactic| walk_at "s") => `(tactic| first
  | with_reducible refine w_nget ?_
  | with_reducible refine w_nin ?_
  | with_reducible refine w_nnot ?_
  | with_reducible refine w_nput ?_
  | with_reducible refine w_ndel ?_
  | with_reducible refine w_npop ?_
  | ((with_reducible refine' w_nnew ?hs ?_); (case hs => assumption); intro _ _ _))

section
variable {P : Program} [IsP P] {w : World} {K : PySem.W.Frag} {mg : Str → Option Value} {base : Heap} {a : Ad}
/-- the law's own rows: they stand and are never changed -/
def LwOk (H : Hp) (fs : List Rw) : Prop := ∀ f ∈ fs, H f.at_ = some (.lst f.us) ∧ Row (RlAt H) f.us f.rs ∧ ∀ r ∈ f.rs, WfR r
theorem LwOk.same {H H' : Hp} (s : Same H H') {fs : List Rw} (h : LwOk H fs) : LwOk H' fs := fun f hf => ⟨s _ _ (h f hf).1, (h f hf).2.1.mono fun _ _ => RlAt.same s, (h f hf).2.2⟩
def sp__law_does : Sp := fun vs H Q _ => ∃ (rd th : Addr) (fs : List Rw) (v port : Int) (h : List Int), vs = [.ref rd, .int v, .int port, .ref th] ∧ H rd = some (.dK (fs.map rwK)) ∧ LwOk H fs ∧ H th = some (.tup (h.map V.int)) ∧ h.length = 3 ∧
  ∀ l ys N H' ps, Hs H ((l, .lst ys) :: N) H' → Row (PrAt H') ys ps → IsDone (copiesR (rulesOf fs v) port h) ps → Q (.ref l) H'
theorem ok__law_does (T : Txt K mg a) : FnOk P w K mg base CX0 2 a._law_does a.fd__law_does ["rules", "version", "port", "header"] sp__law_does := by
  have G__law_fits := ok__law_fits (P := P) (w := w) (base := base) T
  have G__law_done := ok__law_done (P := P) (w := w) (base := base) T
  refine T.fn__law_does.ok sc__law_does (fun vs H Q E h => ?_) (fun cdv A outer s H vs Q E hr h => ?_)
  · obtain ⟨_, _, _, _, _, _, rfl, _⟩ := h
    rfl
  · obtain ⟨rd, th, fs, v, port, h, rfl, hrd, hfs, hth, hl, k⟩ := h
    have hu := hu_of hr
    have hs := Hs.start H
    refine ⟨_, (pss_cons (ps_for PassesOwn.never rfl (pi_listK (K := K) (pe_dget2 hu (pv 0) (pv 1) (pe_lst pa_nil) ⟨rfl, rfl, rfl, rfl⟩)) (pg_tupK (K := K) rfl (pgs_cons (pg_name (i := 4) sc__law_does.nd rfl (Or.inl rfl)) (pgs_cons (pg_name (i := 5) sc__law_does.nd rfl (Or.inl rfl)) pgs_nil)))
  (pss_one (ps_if (pt_val (pe_call G__law_fits (hr.mono (by decide)) rfl T.mg__law_fits T.kp__law_fits T.bi__law_fits .nil pass0 (pa_cons (pv 4) (pa_cons (pe_op (op_catTK (K := K)) (pe_tup (pa_cons (pv 2) pa_nil)) (pv 3)) pa_nil))))
  (pss_one (ps_ret (pe_call G__law_done (hr.mono (by decide)) rfl T.mg__law_done T.kp__law_done T.bi__law_done .nil pass0 (pa_cons (pv 5) (pa_cons (pv 3) pa_nil)))))
  pss_nil)))
  (pss_one (ps_ret (pe_lst pa_nil)))), ?_⟩
    refine w_seq (w_forS ?_)
    walk_at "ss"
    refine w_dget2 ?_
    walk_at "ss"
    rename_i l0 H1 hs1
    refine w_dg2 (hs1.same _ _ hrd) ?_
    rw [valR_find]
    have go : ∀ (ar : Addr) (us : List V), H1 ar = some (.lst us) → Row (RlAt H1) us (rulesOf fs v) → (∀ r ∈ rulesOf fs v, WfR r) → tFor (iList K (tC (.ref ar))) (gTup K 2 (gCons (gName 4) (gCons (gName 5) gNil))) (tIfS (tB (tCall sp__law_fits [] E0 (tCons (tVar 4) (tCons (tOp (rCatT K) (tTup (tCons (tVar 2) tNil)) (tVar 3)) tNil)))) (tRet (tCall sp_done [] E0 (tCons (tVar 5) (tCons (tVar 3) tNil)))) tNext)
        { nx := tRet (tLst tNil) { nx := fun _ H' => Q V.non H', rt := Q }, rt := Q } (L2.start N__law_does [.ref rd, .int v, .int port, .ref th]) H1 := fun ar us har hrow hwf => by
      refine w_forL (SqL.of har) (fun i σ' H' => Same H1 H' ∧ ((rulesOf fs v).take i).find? (fun r => fitsM r.1 (port :: h)) = none ∧ ∃ v4 v5, σ' = [some (.ref rd), some (.int v), some (.int port), some (.ref th), v4, v5]) (fun Q' q => q) ⟨Same.refl _, rfl, none, none, rfl⟩ (fun i σ' H' _ ⟨e, _⟩ => SqL.of (e _ _ har)) ?_ ?_
      · rintro i u σ' H' hu2 ⟨sm, hf, v4, v5, rfl⟩
        obtain ⟨r, hri, t, tm, lo, os, rfl, h2, h3, h4, h5⟩ := hrow.get hu2
        have wf := hwf r (List.mem_of_getElem? hri)
        have hth2 : H' th = some (.tup (h.map V.int)) := sm _ _ (hs1.same _ _ hth)
        refine w_gtup (SqT.of (sm _ _ h2)) rfl ?_
        have hsS := Hs.start H'
        walk_at "ss"
        rename_i tq H2 hs2
        refine w_catT hs2 (SqT.of hs2.g0) (SqT.of (hs2.same _ _ hth2)) (by simp) (by intro z; have := congrArg List.length z; rw [List.length_map, hl] at this; cases this) (by rw [List.length_map, hl]; show 1 + 3 ≤ 1000; omega) fun tl H3 hs3 => ?_
        have sm3 := sm.trans hs3.same
        have sm4 := hs3.same
        walk_at "ss"
        refine ⟨tm, tl, r.1, port :: h, rfl, sm3 _ _ h3, hs3.g0, wf.m, by rw [List.length_cons, hl], fun H4 sm5 => ?_⟩
        have sm6 := sm3.trans sm5
        walk_at "ss"
        cases hfit : fitsM r.1 (port :: h) with
        | true =>
          refine iteT ?_
          walk_at "ss"
          have ef : copiesR (rulesOf fs v) port h = copies r.2 h := by
            unfold copiesR
            rw [find_first hri hf hfit]
          refine ⟨lo, th, os, r.2, h, rfl, sm6 _ _ h4, h5.mono fun _ _ => OutAt.same sm6, sm5 _ _ (sm4 _ _ hth2), hl, wf.o, wf.z, fun l ys N H5 ps hs5 hp hd => ?_⟩
          have sm7 := hs1.same.trans sm6
          exact k l ys N H5 ps ⟨sm7.trans hs5.same, hs5.nd, fun e he => sm7.free (hs5.out e he), hs5.at_⟩ hp (by rw [ef]; exact hd)
        | false =>
          refine iteF ?_
          walk_at "ss"
          exact ⟨sm6, find_next hri hf hfit, _, _, rfl⟩
      · rintro σ' H' ⟨sm, hf, v4, v5, rfl⟩
        have ef : copiesR (rulesOf fs v) port h = [] := by
          unfold copiesR
          rw [List.take_of_length_le (by rw [hrow.1]; exact Nat.le_refl _)] at hf
          rw [hf]
        have hsS : Hs H [] H' := Hs.of_same (hs1.same.trans sm)
        walk_at "ss"
        rename_i l H2 hs2
        exact k l [] [] H2 [] hs2 ⟨rfl, fun _ _ _ z => nomatch z⟩ (by rw [ef]; exact IsDone.nil)
    cases hf : findR fs v with
    | none =>
      have er : rulesOf fs v = [] := by
        unfold rulesOf
        rw [hf]
      exact go l0 [] hs1.g0 (by rw [er]; exact ⟨rfl, fun _ _ _ z => nomatch z⟩) (by rw [er]; exact fun _ z => nomatch z)
    | some e =>
      have er : rulesOf fs v = e.rs := by
        unfold rulesOf
        rw [hf]
      obtain ⟨hm, _⟩ := findR_mem hf
      obtain ⟨g1, g2, g3⟩ := hfs e hm
      exact go e.at_ e.us (hs1.same _ _ g1) (by rw [er]; exact g2.mono fun _ _ => RlAt.same hs1.same) (by rw [er]; exact g3)
def sp__law_only : Sp := fun vs H Q _ => ∃ (rd : Addr) (fs : List Rw) (v : Int), vs = [.ref rd, .int v] ∧ H rd = some (.dK (fs.map rwK)) ∧ (fs.map (·.v)).Nodup ∧ ∀ d H', Hs H [(d, .dK ((keepR fs v).map rwK))] H' → Q (.ref d) H'
theorem keepR_find {fs : List Rw} {v : Int} (hnd : (fs.map (·.v)).Nodup) : keepR fs v = match findR fs v with
    | some e => [e]
    | none => [] := by
  induction fs with
  | nil => rfl
  | cons f fs ih =>
    rw [List.map_cons, List.nodup_cons] at hnd
    unfold keepR findR
    rw [List.filter_cons, List.find?_cons]
    by_cases h : f.v = v
    · rw [if_pos (decide_eq_true h), decide_eq_true h]
      have e : fs.filter (fun e => decide (e.v = v)) = [] := List.filter_eq_nil_iff.mpr fun g hg q => hnd.1 (List.mem_map.mpr ⟨g, hg, by rw [of_decide_eq_true q, h]⟩)
      rw [e]
    · rw [if_neg (by rw [decide_eq_true_iff]; exact h), decide_eq_false h]
      exact ih hnd.2
theorem ok__law_only (T : Txt K mg a) : FnOk P w K mg base CX0 1 a._law_only a.fd__law_only ["rules", "version"] sp__law_only := by
  refine T.fn__law_only.ok sc__law_only (fun vs H Q E h => ?_) (fun cdv A outer s H vs Q E hr h => ?_)
  · obtain ⟨_, _, _, rfl, _⟩ := h
    rfl
  · obtain ⟨rd, fs, v, rfl, hrd, hnd, k⟩ := h
    have hu := hu_of hr
    have hs := Hs.start H
    rw [keepR_find hnd] at k
    refine ⟨_, (pss_cons (ps_set (i := 2) sc__law_only.nd rfl (Or.inl rfl) pe_dnewK)
  (C8.pss_cut (ps_if (pt_cmp (pc_din hu (pv 1) (pv 0)))
  (pss_one (ps_dput hu (pv 2) (pv 1) (pe_dget hu (pv 0) (pv 1) (fun _ _ => rfl)) rfl))
  pss_nil)
  (pss_one (ps_ret (pv 2))))), ?_⟩
    walk_at "ss"
    rename_i d H1 hs1
    refine w_cut (fun σ' H' => σ' = [some (.ref rd), some (.int v), some (.ref d)] ∧ Hs H [(d, .dK ((match findR fs v with | some e => [e] | none => []).map rwK))] H') ?_ ?_
    · walk_at "ss"
      rw [valR_find]
      cases hf : findR fs v with
      | none =>
        refine iteF ?_
        walk_at "ss"
        exact ⟨rfl, hs1⟩
      | some e =>
        have hv := (findR_mem hf).2
        refine iteT ?_
        refine w_dput ?_
        refine w_dget ?_
        walk_at "ss"
        have hg : (valV (fs.map rwK) (Sum.inl v)) = some (.ref e.at_) := by
          rw [valR_find, hf]
          rfl
        refine ⟨rd, .ref e.at_, rfl, .inl ⟨fs.map rwK, Sum.inl v, .inl (hs1.same _ _ hrd), rfl, hg.symm⟩, ?_⟩
        walk_at "ss"
        rename_i H2 hs2
        refine ⟨rfl, ?_⟩
        rw [← hv] at hs2
        exact hs2
    · rintro σ' H' ⟨rfl, hs2⟩
      walk_at "ss"
      exact k d _ hs2
end
local macro_rules | `(tactic| walk_at "v") => `(tactic| first | exact v0 | exact v1 | exact v2 | exact v3 | exact v4 | exact v5 | exact v6 | exact v7 | exact v8)
local macro_rules | `(tactic| walk_at "vs") => `(tactic| first | exact st0 | exact st1 | exact st2 | exact st3 | exact st4 | exact st5 | exact st6 | exact st7 | exact st8)
local macro_rules | `(tactic| walk_at "s") => `(tactic| first
  | with_reducible refine w_dget ?_
  | ((with_reducible refine' w_dgetZ ?h ?nd ?hk ?hv ?_); (case h => walk_at "g"); (case nd => walk_at "nd"); (case hk => walk_at "k"); (case hv => walk_at "v"))
  | ((with_reducible refine' w_dputZ ?hs ?h ?nd ?hk ?hv ?hu ?hl ?_); (case hs => assumption); (case h => walk_at "p"); (case nd => walk_at "nd"); (case hk => walk_at "k"); (case hv => walk_at "v"); (case hu => walk_at "vs"); (case hl => decide); intro _ _)
  | with_reducible refine w_gsub ?_
  | with_reducible refine w_setD ?_
  | with_reducible refine w_disp ?_
  | ((with_reducible refine' w_newP ?hs ?_); (case hs => assumption); intro _ _ _)
  | with_reducible refine w_pcons ?_
  | with_reducible refine w_pnil ?_)

local macro_rules | `(tactic| walk_at "s") => `(tactic| first
  | with_reducible refine w_nget ?_
  | with_reducible refine w_nin ?_
  | with_reducible refine w_nnot ?_
  | with_reducible refine w_nput ?_
  | with_reducible refine w_ndel ?_
  | with_reducible refine w_npop ?_
  | ((with_reducible refine' w_nnew ?hs ?_); (case hs => assumption); intro _ _ _))

section
variable {P : Program} [IsP P] {w : World} {K : PySem.W.Frag} {mg : Str → Option Value} {base : Heap} {a : Ad}
theorem w_pick {B H : Hp} {Q : VK} {E : XK} {s c r : Addr} {m : Int} {cells : List Int} {xs : List V} {R : List (Addr × HO)} (hs : Hs B ((r, .lst xs) :: (s, sto c m) :: (c, clo cells) :: R) H) (g : Good m cells) (hne : xs ≠ []) (hl : xs.length ≤ 1000)
    (q : ∀ (x : V) m' cells' H', x ∈ xs → Hs B ((s, sto c m') :: (c, clo cells') :: R) H' → Good m' cells' → Q x H') : sp__law_pick [.ref s, .ref r] H Q E := by
  obtain ⟨sm1, hs1⟩ := hs.freeze
  obtain ⟨B', sm, h1, back⟩ := hs1.frame2
  exact ⟨B', s, c, r, m, cells, xs, rfl, h1, sm _ _ upd_same, g, hne, hl, fun x m' cells' H' hx h2 g2 => q x m' cells' H' hx (Hs.base sm1 (back _ _ h2)) g2⟩
theorem w_getLen {K : PySem.W.Frag} {σ : L2.St} {H : Hp} {Q : VK} {lr l0 : Addr} {fs : List Rw} {v : Int} (h1 : H lr = some (.dK (fs.map rwK))) (h2 : H l0 = some (.lst [])) (h3 : LwOk H fs) (q : Q (.int (lenR fs v)) H) : RDg2 lr (.int v) (.ref l0) H (fun y H1 => tNil σ H1 fun xs H2 => Hb.rLen K (y :: xs) H2 Q) := by
  show RDg2 lr (.int v) (.ref l0) H (fun y H1 => Hb.rLen K [y] H1 Q)
  refine w_dg2 h1 ?_
  rw [valR_find]
  cases hf : findR fs v with
  | none =>
    have e : lenR fs v = 0 := by
      unfold lenR
      rw [hf]
    rw [e] at q
    exact w_len (xs := []) (SqL.of h2) q
  | some f =>
    have e : lenR fs v = f.us.length := by
      unfold lenR
      rw [hf]
    rw [e] at q
    exact w_len (xs := f.us) (SqL.of (h3 f (findR_mem hf).1).1) q
theorem tab_frame {B H : Hp} {p1 p2 : Addr × HO} {A : List (Addr × HO)} (hs : Hs B (p1 :: p2 :: A) H) : ∃ B', Same B B' ∧ Hs B' A H ∧ ∀ A' H', Hs B' A' H' → Hs B (p1 :: p2 :: A') H' := by
  have h1 : Hs B (A ++ [p1, p2]) H := hs.perm (List.perm_append_comm (l₁ := A) (l₂ := [p1, p2]))
  obtain ⟨sm, h2, back⟩ := h1.frame A
  exact ⟨_, sm, h2, fun A' H' h3 => (back A' H' h3).perm (List.perm_append_comm (l₁ := [p1, p2]) (l₂ := A'))⟩
def sp__law_tagged (a : Ad) : Sp := fun vs H Q _ => ∃ (B : Hp) (s c : Addr) (m : Int) (cells : List Int) (x dx w r lw lr : Addr) (tag : Int) (ways : List (Int × Int)) (es fs : List Rw),
  vs = [.ref s, .ref x, .ref lw, .ref lr, .int tag] ∧ Hs B ((s, sto c m) :: (c, clo cells) :: tabL a x dx w r tag ways es) H ∧ Good m cells ∧ B lr = some (.dK (fs.map rwK)) ∧ LwOk B fs ∧ (es.map (·.v)).Nodup ∧ (fs.map (·.v)).Nodup ∧ es.length ≤ 1000 ∧ (∀ v, lenR es v = lenR fs v) ∧
  (∀ tag' t dw dr w2 r2 m' cells' H', Hs B ((t, .tup [.ref dw, .ref dr, .int tag']) :: (dr, .dK ((keepR fs tag').map rwK)) :: (dw, .dK []) :: (s, sto c m') :: (c, clo cells') :: tabL a x dx w2 r2 tag' [] (keepR es tag')) H' → Good m' cells' → Q (.ref t) H') ∧
  (∀ tag' t m' cells' H', Hs B ((t, .tup [.ref lw, .ref lr, .int tag']) :: (s, sto c m') :: (c, clo cells') :: tabL a x dx w r tag' ways es) H' → Good m' cells' → Q (.ref t) H')
theorem ok__law_tagged (T : Txt K mg a) : FnOk P w K mg base CX0 3 a._law_tagged a.fd__law_tagged ["state", "table", "ways", "rules", "tag"] (sp__law_tagged a) := by
  have G__law_draw := ok__law_draw (P := P) (w := w) (base := base) T
  have G__law_pick := ok__law_pick (P := P) (w := w) (base := base) T
  have G__law_only := ok__law_only (P := P) (w := w) (base := base) T
  have G_Table_strip := ok_Table_strip (P := P) (w := w) (base := base) T
  have G_Table_retag := ok_Table_retag (P := P) (w := w) (base := base) T
  have G_Table_keep := ok_Table_keep (P := P) (w := w) (base := base) T
  refine T.fn__law_tagged.ok sc__law_tagged (fun vs H Q E h => ?_) (fun cdv A outer s H vs Q E hr h => ?_)
  · obtain ⟨_, _, _, _, _, _, _, _, _, _, _, _, _, _, _, rfl, _⟩ := h
    rfl
  · obtain ⟨B, s, c, m, cells, x, dx, w1, r1, lw, lr, tag, ways, es, fs, rfl, hs, g, hlr, hlw, hnd, hnd2, hz, hlen, k1, k2⟩ := h
    have hu := hu_of hr
    refine ⟨_, (pss_cons (ps_set (i := 5) sc__law_tagged.nd rfl (Or.inl rfl) (pe_call G__law_draw (hr.mono (by decide)) rfl T.mg__law_draw T.kp__law_draw T.bi__law_draw .nil pass0 (pa_cons (pv 0) (pa_cons pe_int pa_nil))))
  (pss_cons (ps_set (i := 6) sc__law_tagged.nd rfl (Or.inl rfl) (pe_call G__law_pick (hr.mono (by decide)) rfl T.mg__law_pick T.kp__law_pick T.bi__law_pick .nil pass0 (pa_cons (pv 0) (pa_cons (pe_lst (pa_cons (pe_callB (call_lenK (K := K)) (by rfl) T.mg_len PySem.boot_len (pa_cons (pe_dget2 hu (pv 3) (pv 5) (pe_lst pa_nil) ⟨rfl, rfl, rfl, rfl⟩) pa_nil)) (pa_cons (pe_call G__law_draw (hr.mono (by decide)) rfl T.mg__law_draw T.kp__law_draw T.bi__law_draw .nil pass0 (pa_cons (pv 0) (pa_cons pe_int pa_nil))) pa_nil))) pa_nil))))
  (pss_cons (ps_set (i := 7) sc__law_tagged.nd rfl (Or.inl rfl) (pe_cmpR op_eq (pe_callB (call_lenK (K := K)) (by rfl) T.mg_len PySem.boot_len (pa_cons (pe_dget2 hu (pv 3) (pv 5) (pe_lst pa_nil) ⟨rfl, rfl, rfl, rfl⟩) pa_nil)) (pv 6) (nomark _)))
  (pss_cons (ps_set (i := 8) sc__law_tagged.nd rfl (Or.inl rfl) (pe_call G__law_draw (hr.mono (by decide)) rfl T.mg__law_draw T.kp__law_draw T.bi__law_draw .nil pass0 (pa_cons (pv 0) (pa_cons pe_int pa_nil))))
  (pss_cons (ps_if (pt_cmpR op_eq (pv 8) pe_int (nomark _))
  (pss_cons (ps_expr (pe_meth0 (pv 1) T.cl_Table T.me_Table_strip G_Table_strip (hr.mono (by decide)) T.bi_Table_strip .nil pass0))
  (pss_one (ps_ret (pe_tup (pa_cons pe_dnewK (pa_cons (pe_call G__law_only (hr.mono (by decide)) rfl T.mg__law_only T.kp__law_only T.bi__law_only .nil pass0 (pa_cons (pv 3) (pa_cons (pv 4) pa_nil))) (pa_cons (pv 4) pa_nil)))))))
  pss_nil)
  (pss_cons (ps_if (pt_cmpR op_ne (pe_ifExp (pt_cmpR op_eq (pv 8) pe_int (nomark _)) (pe_meth (pv 1) T.cl_Table T.me_Table_retag G_Table_retag (hr.mono (by decide)) T.bi_Table_retag .nil pass0 (pa_cons (pv 5) (pa_cons (pv 6) pa_nil))) (pe_meth (pv 1) T.cl_Table T.me_Table_keep G_Table_keep (hr.mono (by decide)) T.bi_Table_keep .nil pass0 (pa_cons (pv 5) (pa_cons (pv 6) pa_nil)))) (pv 7) (nomark _))
  (pss_one (ps_ret pe_non))
  pss_nil)
  (pss_cons (ps_if (pt_not (pt_val (pv 7)))
  (pss_one (ps_ret (pe_tup (pa_cons (pv 2) (pa_cons (pv 3) (pa_cons (pv 4) pa_nil))))))
  pss_nil)
  (pss_one (ps_ret (pe_ifExp (pt_cmpR op_eq (pv 8) pe_int (nomark _)) (pe_tup (pa_cons (pv 2) (pa_cons (pv 3) (pa_cons (pv 5) pa_nil)))) (pe_tup (pa_cons pe_dnewK (pa_cons (pe_call G__law_only (hr.mono (by decide)) rfl T.mg__law_only T.kp__law_only T.bi__law_only .nil pass0 (pa_cons (pv 3) (pa_cons (pv 5) pa_nil))) (pa_cons (pv 5) pa_nil)))))))))))))), ?_⟩
    walk_at "ss"
    refine w_draw hs g (by omega) fun v m1 c1 H1 hs1 g1 _ _ => ?_
    clear hs g
    walk_at "ss"
    refine w_dget2 ?_
    have hB : H1 lr = some (.dK (fs.map rwK)) := hs1.same _ _ hlr
    walk_at "ss"
    rename_i l0 H2 hs2
    refine w_getLen (hs2.same _ _ hlr) hs2.g0 (hlw.same hs2.same) ?_
    walk_at "ss"
    have hs3 := hs2.tl
    refine w_draw hs3 g1 (by omega) fun d m2 c2 H3 hs4 g2 _ _ => ?_
    clear hs1 hs2 hs3 hB
    walk_at "ss"
    rename_i row H4 hs5
    refine w_pick hs5 g2 (by simp) (by simp) fun y m3 c3 H5 hy hs6 g3 => ?_
    clear hs4 hs5
    obtain ⟨n, rfl⟩ : ∃ n : Int, y = .int n := by
      rcases List.mem_cons.mp hy with rfl | hy
      · exact ⟨_, rfl⟩
      · exact ⟨_, List.mem_singleton.mp hy⟩
    clear hy
    walk_at "ss"
    refine w_dget2 ?_
    have hB : H5 lr = some (.dK (fs.map rwK)) := hs6.same _ _ hlr
    walk_at "ss"
    rename_i l1 H6 hs7
    refine w_getLen (hs7.same _ _ hlr) hs7.g0 (hlw.same hs7.same) ?_
    walk_at "ss"
    refine w_draw hs7.tl g3 (by omega) fun word m4 c4 H7 hs8 g4 _ _ => ?_
    clear hs6 hs7 hB
    walk_at "ss"
    refine ifd (fun hw => ?_) (fun hw => ?_)
    · walk_at "ss"
      obtain ⟨B', sm, hA, back⟩ := tab_frame hs8
      refine ⟨B', x, dx, w1, r1, tag, ways, es, rfl, hA, hnd, hz, fun w2 r2 H8 hs9 => ?_⟩
      have hs10 := back _ _ hs9
      clear hs8 hA back hs9
      walk_at "ss"
      rename_i dw H9 hs11
      refine ⟨lr, fs, tag, rfl, hs11.same _ _ hlr, hnd2, fun dr H10 hs12 => ?_⟩
      have hs13 := hs11.add hs12
      clear hs10 hs11 hs12
      walk_at "ss"
      exact k1 _ _ _ _ _ _ _ _ _ (by assumption) g4
    · walk_at "ss"
      obtain ⟨B', sm, hA, back⟩ := tab_frame hs8
      by_cases hc : (lenR fs v : Int) = n
      · rw [decide_eq_true hc]
        refine ifd (fun h0 => ?_) (fun h0 => ?_)
        · walk_at "ss"
          refine ⟨B', x, dx, w1, r1, tag, ways, es, v, n, rfl, hA, fun _ H8 hs9 => ?_, fun z => absurd (by rw [hlen v]; exact hc) z⟩
          have hs10 := back _ _ hs9
          clear hs8 hA back hs9
          walk_at "ss"
          refine ifn (fun z => absurd rfl z) (fun _ => ?_)
          walk_at "ss"
          try rw [if_neg (show ¬ (!true) = true by decide)]
          walk_at "ss"
          refine ifd (fun _ => ?_) (fun z => absurd h0 z)
          walk_at "ss"
          exact k2 _ _ _ _ _ (by assumption) g4
        · walk_at "ss"
          refine ⟨B', x, dx, w1, r1, tag, ways, es, v, n, rfl, hA, hnd, hz, fun _ w2 r2 H8 hs9 => ?_, fun z => absurd (by rw [hlen v]; exact hc) z⟩
          have hs10 := back _ _ hs9
          clear hs8 hA back hs9
          walk_at "ss"
          refine ifn (fun z => absurd rfl z) (fun _ => ?_)
          walk_at "ss"
          try rw [if_neg (show ¬ (!true) = true by decide)]
          walk_at "ss"
          refine ifd (fun z => absurd z h0) (fun _ => ?_)
          walk_at "ss"
          rename_i dw H9 hs11
          refine ⟨lr, fs, v, rfl, hs11.same _ _ hlr, hnd2, fun dr H10 hs12 => ?_⟩
          have hs13 := hs11.add hs12
          clear hs10 hs11 hs12
          walk_at "ss"
          exact k1 _ _ _ _ _ _ _ _ _ (by assumption) g4
      · rw [decide_eq_false hc]
        refine ifd (fun h0 => ?_) (fun h0 => ?_)
        · walk_at "ss"
          refine ⟨B', x, dx, w1, r1, tag, ways, es, v, n, rfl, hA, fun z => absurd (by rw [← hlen v]; exact z) hc, fun _ H8 hs9 => ?_⟩
          have hs10 := back _ _ hs9
          clear hs8 hA back hs9
          walk_at "ss"
          refine ifn (fun z => absurd rfl z) (fun _ => ?_)
          walk_at "ss"
          try rw [if_pos (show (!false) = true by decide)]
          walk_at "ss"
          exact k2 _ _ _ _ _ (by assumption) g4
        · walk_at "ss"
          refine ⟨B', x, dx, w1, r1, tag, ways, es, v, n, rfl, hA, hnd, hz, fun z => absurd (by rw [← hlen v]; exact z) hc, fun _ H8 hs9 => ?_⟩
          have hs10 := back _ _ hs9
          clear hs8 hA back hs9
          walk_at "ss"
          refine ifn (fun z => absurd rfl z) (fun _ => ?_)
          walk_at "ss"
          try rw [if_pos (show (!false) = true by decide)]
          walk_at "ss"
          exact k2 _ _ _ _ _ (by assumption) g4
end
local macro_rules | `(tactic| walk_at "v") => `(tactic| first | exact v0 | exact v1 | exact v2 | exact v3 | exact v4 | exact v5 | exact v6 | exact v7 | exact v8)
local macro_rules | `(tactic| walk_at "vs") => `(tactic| first | exact st0 | exact st1 | exact st2 | exact st3 | exact st4 | exact st5 | exact st6 | exact st7 | exact st8)
local macro_rules | `(tactic| walk_at "s") => `(tactic| first
  | with_reducible refine w_dget ?_
  | ((with_reducible refine' w_dgetZ ?h ?nd ?hk ?hv ?_); (case h => walk_at "g"); (case nd => walk_at "nd"); (case hk => walk_at "k"); (case hv => walk_at "v"))
  | ((with_reducible refine' w_dputZ ?hs ?h ?nd ?hk ?hv ?hu ?hl ?_); (case hs => assumption); (case h => walk_at "p"); (case nd => walk_at "nd"); (case hk => walk_at "k"); (case hv => walk_at "v"); (case hu => walk_at "vs"); (case hl => decide); intro _ _)
  | with_reducible refine w_gsub ?_
  | with_reducible refine w_setD ?_
  | with_reducible refine w_disp ?_
  | ((with_reducible refine' w_newP ?hs ?_); (case hs => assumption); intro _ _ _)
  | with_reducible refine w_pcons ?_
  | with_reducible refine w_pnil ?_)

local macro_rules | `(tactic| walk_at "s") => `(tactic| first
  | with_reducible refine w_nget ?_
  | with_reducible refine w_nin ?_
  | with_reducible refine w_nnot ?_
  | with_reducible refine w_nput ?_
  | with_reducible refine w_ndel ?_
  | with_reducible refine w_npop ?_
  | ((with_reducible refine' w_nnew ?hs ?_); (case hs => assumption); intro _ _ _))

/-! ## the law's rules and the table's: the same for each version -/
def getV (l : List (Int × List Rl)) (v : Int) : List Rl := match l.find? fun p => decide (p.1 = v) with
  | some p => p.2
  | none => []
theorem getV_nil (v : Int) : getV [] v = [] := rfl
theorem getV_cons (p : Int × List Rl) (l : List (Int × List Rl)) (v : Int) : getV (p :: l) v = if p.1 = v then p.2 else getV l v := by
  unfold getV
  rw [List.find?_cons]
  by_cases h : p.1 = v
  · rw [decide_eq_true h, if_pos h]
  · rw [decide_eq_false h, if_neg h]
theorem rulesOf_getV (es : List Rw) (v : Int) : rulesOf es v = getV (vw es) v := by
  induction es with
  | nil => rfl
  | cons e es ih =>
    have h : vw (e :: es) = (e.v, e.rs) :: vw es := rfl
    rw [h, getV_cons, ← ih]
    unfold rulesOf findR
    rw [List.find?_cons]
    by_cases h : e.v = v
    · rw [decide_eq_true h, if_pos h]
    · rw [decide_eq_false h, if_neg h]
theorem getV_none {l : List (Int × List Rl)} {v : Int} (h : (l.any fun p => decide (p.1 = v)) = false) : getV l v = [] := by
  induction l with
  | nil => rfl
  | cons p l ih =>
    rw [List.any_cons, Bool.or_eq_false_iff] at h
    rw [getV_cons, if_neg (of_decide_eq_false h.1)]
    exact ih h.2
theorem getV_app (l m : List (Int × List Rl)) (v : Int) : getV (l ++ m) v = if (l.any fun p => decide (p.1 = v)) = true then getV l v else getV m v := by
  induction l with
  | nil => rfl
  | cons p l ih =>
    rw [List.cons_append, getV_cons, getV_cons, ih, List.any_cons]
    by_cases h : p.1 = v
    · rw [if_pos h, if_pos h, decide_eq_true h, Bool.true_or, if_pos rfl]
    · rw [if_neg h, if_neg h, decide_eq_false h, Bool.false_or]
theorem getV_touch (l : List (Int × List Rl)) (v u : Int) : getV (touchV l v) u = getV l u := by
  unfold touchV
  by_cases h : (l.any fun p => decide (p.1 = v)) = true
  · rw [if_pos h]
  · rw [if_neg h, getV_app]
    by_cases h2 : (l.any fun p => decide (p.1 = u)) = true
    · rw [if_pos h2]
    · have e : getV l u = [] := getV_none (by
        cases q : (l.any fun p => decide (p.1 = u)) with
        | false => rfl
        | true => exact absurd q h2)
      rw [if_neg h2, e, getV_cons, getV_nil]
      by_cases h3 : v = u
      · rw [if_pos h3]
      · rw [if_neg h3]
theorem touch_any (l : List (Int × List Rl)) (v : Int) : ((touchV l v).any fun p => decide (p.1 = v)) = true := by
  unfold touchV
  by_cases h : (l.any fun p => decide (p.1 = v)) = true
  · rw [if_pos h]
    exact h
  · rw [if_neg h, List.any_append]
    simp
theorem getV_map (l : List (Int × List Rl)) (v u : Int) (r : Rl) (h : (l.any fun p => decide (p.1 = v)) = true) : getV (l.map fun p => if p.1 = v then (p.1, p.2 ++ [r]) else p) u = if u = v then getV l v ++ [r] else getV l u := by
  by_cases hu : u = v
  · subst hu
    rw [if_pos rfl]
    induction l with
    | nil => cases h
    | cons p l ih =>
      by_cases hp : p.1 = u
      · rw [List.map_cons, if_pos hp, getV_cons, getV_cons, if_pos hp, if_pos hp]
      · rw [List.any_cons, decide_eq_false hp, Bool.false_or] at h
        rw [List.map_cons, if_neg hp, getV_cons, if_neg hp, getV_cons, if_neg hp]
        exact ih h
  · rw [if_neg hu]
    clear h
    induction l with
    | nil => rfl
    | cons p l ih =>
      rw [List.map_cons, getV_cons, getV_cons, ih]
      by_cases hp : p.1 = v
      · have h2 : ¬ p.1 = u := fun z => hu (by rw [← z, hp])
        rw [if_pos hp, if_neg h2, if_neg h2]
      · rw [if_neg hp]
theorem getV_add (l : List (Int × List Rl)) (v u : Int) (r : Rl) : getV (addV l v r) u = if u = v then getV l v ++ [r] else getV l u := by
  unfold addV
  rw [getV_map _ _ _ _ (touch_any l v), getV_touch, getV_touch]
theorem getV_drop (es : List Rw) (v u : Int) : getV (vw (dropR es v)) u = if u = v then [] else getV (vw es) u := by
  induction es with
  | nil =>
    show [] = _
    by_cases h : u = v
    · rw [if_pos h]
    · rw [if_neg h]; rfl
  | cons e es ih =>
    have h0 : vw (e :: es) = (e.v, e.rs) :: vw es := rfl
    unfold dropR at ih ⊢
    rw [List.filter_cons, h0, getV_cons]
    by_cases h : e.v = v
    · rw [if_neg (by simp [h]), ih]
      by_cases h2 : u = v
      · rw [if_pos h2, if_pos h2]
      · rw [if_neg h2, if_neg h2, if_neg (fun z => h2 (by rw [← z, h]))]
    · rw [if_pos (by simp [h])]
      have h1 : vw (e :: es.filter fun e => decide (e.v ≠ v)) = (e.v, e.rs) :: vw (es.filter fun e => decide (e.v ≠ v)) := rfl
      rw [h1, getV_cons, ih]
      by_cases h2 : e.v = u
      · rw [if_pos h2, if_neg (fun z => h (by rw [h2, z])), if_pos h2]
      · rw [if_neg h2, if_neg h2]
theorem getV_keep (es : List Rw) (v u : Int) : getV (vw (keepR es v)) u = if u = v then getV (vw es) v else [] := by
  induction es with
  | nil =>
    show [] = _
    by_cases h : u = v
    · rw [if_pos h]; rfl
    · rw [if_neg h]
  | cons e es ih =>
    have h0 : vw (e :: es) = (e.v, e.rs) :: vw es := rfl
    unfold keepR at ih ⊢
    rw [List.filter_cons, h0, getV_cons]
    by_cases h : e.v = v
    · rw [if_pos (by simp [h]), if_pos h]
      have h1 : vw (e :: es.filter fun e => decide (e.v = v)) = (e.v, e.rs) :: vw (es.filter fun e => decide (e.v = v)) := rfl
      rw [h1, getV_cons, ih]
      by_cases h2 : u = v
      · rw [if_pos (show e.v = u by rw [h, h2]), if_pos h2]
      · rw [if_neg h2, if_neg h2, if_neg (fun z => h2 (by rw [← z, h]))]
    · rw [if_neg (by simp [h]), if_neg h, ih]
/-- the same rules for each version -/
def Alike (es fs : List Rw) : Prop := ∀ v, rulesOf es v = rulesOf fs v
theorem Alike.drop {es fs : List Rw} (h : Alike es fs) (v : Int) : Alike (dropR es v) (dropR fs v) := fun u => by
  rw [rulesOf_getV, rulesOf_getV, getV_drop, getV_drop, ← rulesOf_getV, ← rulesOf_getV, h u]
theorem Alike.keep {es fs : List Rw} (h : Alike es fs) (v : Int) : Alike (keepR es v) (keepR fs v) := fun u => by
  rw [rulesOf_getV, rulesOf_getV, getV_keep, getV_keep, ← rulesOf_getV, ← rulesOf_getV, h v]
theorem Alike.add {es fs es2 fs2 : List Rw} (h : Alike es fs) {v : Int} {r : Rl} (h1 : vw es2 = addV (vw es) v r) (h2 : vw fs2 = addV (vw fs) v r) : Alike es2 fs2 := fun u => by
  rw [rulesOf_getV, rulesOf_getV, h1, h2, getV_add, getV_add, ← rulesOf_getV, ← rulesOf_getV, ← rulesOf_getV, ← rulesOf_getV, h u, h v]
theorem Alike.touch {es fs es2 : List Rw} (h : Alike es fs) {v : Int} (h1 : vw es2 = touchV (vw es) v) : Alike es2 fs := fun u => by
  rw [rulesOf_getV, h1, getV_touch, ← rulesOf_getV, h u]
def rowsR (es : List Rw) : Nat := (es.map fun e => e.rs.length).sum
theorem rows_R {B : Hp} {es : List Rw} (h : ∀ e ∈ es, Row (RlAt B) e.us e.rs) : rows es = rowsR es := by
  unfold rows rowsR
  rw [List.map_congr_left fun e he => (h e he).1]
theorem dropR_none {fs : List Rw} {v : Int} (h : ∀ f ∈ fs, f.v ≠ v) : dropR fs v = fs := List.filter_eq_self.mpr fun f hf => decide_eq_true (h f hf)
theorem rowsR_drop (v : Int) : ∀ {fs : List Rw}, (fs.map (·.v)).Nodup → rowsR fs = (rulesOf fs v).length + rowsR (dropR fs v)
  | [], _ => rfl
  | f :: fs, nd => by
    rw [List.map_cons, List.nodup_cons] at nd
    have ih := rowsR_drop v nd.2
    rw [rulesOf_getV, show vw (f :: fs) = (f.v, f.rs) :: vw fs from rfl, getV_cons]
    show f.rs.length + rowsR fs = _
    by_cases h : f.v = v
    · have hn : ∀ g ∈ fs, g.v ≠ v := fun g hg z => nd.1 (List.mem_map.mpr ⟨g, hg, by rw [z, h]⟩)
      have e : dropR (f :: fs) v = fs := by
        unfold dropR
        rw [List.filter_cons, if_neg (by simp [h])]
        exact dropR_none hn
      rw [if_pos h, e]
    · have e : dropR (f :: fs) v = f :: dropR fs v := by
        unfold dropR
        rw [List.filter_cons, if_pos (by simp [h])]
      rw [if_neg h, e, ih, rulesOf_getV]
      show _ = _ + (f.rs.length + rowsR (dropR fs v))
      omega
theorem dropR_nd {fs : List Rw} {v : Int} (nd : (fs.map (·.v)).Nodup) : ((dropR fs v).map (·.v)).Nodup := nd.sublist (List.Sublist.map _ List.filter_sublist)
theorem Alike.rows : ∀ {es fs : List Rw}, (es.map (·.v)).Nodup → (fs.map (·.v)).Nodup → Alike es fs → rowsR es = rowsR fs
  | [], fs, _, nd, h => by
    have z : ∀ f ∈ fs, f.rs.length = 0 := fun f hf => by
      have e := findR_self nd hf
      have e2 := h f.v
      unfold rulesOf at e2
      rw [e] at e2
      have e3 : f.rs = [] := e2.symm
      rw [e3]
      rfl
    unfold rowsR
    rw [List.map_congr_left z]
    show 0 = _
    clear nd h z
    induction fs with
    | nil => rfl
    | cons f fs ih =>
      rw [List.map_cons, List.sum_cons, ← ih]
      rfl
  | e :: es, fs, nd, nd2, h => by
    have nd' := nd
    rw [List.map_cons, List.nodup_cons] at nd'
    have hd : dropR (e :: es) e.v = es := by
      unfold dropR
      rw [List.filter_cons, if_neg (by simp)]
      exact dropR_none fun g hg z => nd'.1 (List.mem_map.mpr ⟨g, hg, z⟩)
    have h2 := h.drop e.v
    rw [hd] at h2
    rw [rowsR_drop e.v nd, rowsR_drop e.v nd2, hd, h e.v, Alike.rows nd'.2 (dropR_nd nd2) h2]
local macro_rules | `(tactic| walk_at "v") => `(tactic| first | exact v0 | exact v1 | exact v2 | exact v3 | exact v4 | exact v5 | exact v6 | exact v7 | exact v8)
local macro_rules | `(tactic| walk_at "vs") => `(tactic| first | exact st0 | exact st1 | exact st2 | exact st3 | exact st4 | exact st5 | exact st6 | exact st7 | exact st8)
local macro_rules | `(tactic| walk_at "s") => `(tactic| first
  | with_reducible refine w_dget ?_
  | ((with_reducible refine' w_dgetZ ?h ?nd ?hk ?hv ?_); (case h => walk_at "g"); (case nd => walk_at "nd"); (case hk => walk_at "k"); (case hv => walk_at "v"))
  | ((with_reducible refine' w_dputZ ?hs ?h ?nd ?hk ?hv ?hu ?hl ?_); (case hs => assumption); (case h => walk_at "p"); (case nd => walk_at "nd"); (case hk => walk_at "k"); (case hv => walk_at "v"); (case hu => walk_at "vs"); (case hl => decide); intro _ _)
  | with_reducible refine w_gsub ?_
  | with_reducible refine w_setD ?_
  | with_reducible refine w_disp ?_
  | ((with_reducible refine' w_newP ?hs ?_); (case hs => assumption); intro _ _ _)
  | with_reducible refine w_pcons ?_
  | with_reducible refine w_pnil ?_)

local macro_rules | `(tactic| walk_at "s") => `(tactic| first
  | with_reducible refine w_nget ?_
  | with_reducible refine w_nin ?_
  | with_reducible refine w_nnot ?_
  | with_reducible refine w_nput ?_
  | with_reducible refine w_ndel ?_
  | with_reducible refine w_npop ?_
  | ((with_reducible refine' w_nnew ?hs ?_); (case hs => assumption); intro _ _ _))

/-! ## the law's calls, with its own objects aside -/
section
variable {B H : Hp} {Q : VK} {E : XK} {a : Ad} {x dx w r : Addr} {tag : Int} {ways : List (Int × Int)} {es : List Rw} {p1 p2 p3 p4 : Addr × HO}
theorem flip4 {A : List (Addr × HO)} (hs : Hs B (p1 :: p2 :: p3 :: p4 :: A) H) : Hs B (A ++ [p1, p2, p3, p4]) H := hs.perm (List.perm_append_comm (l₁ := A) (l₂ := [p1, p2, p3, p4]))
theorem flop4 {A : List (Addr × HO)} (hs : Hs B (A ++ [p1, p2, p3, p4]) H) : Hs B (p1 :: p2 :: p3 :: p4 :: A) H := hs.perm (List.perm_append_comm (l₁ := [p1, p2, p3, p4]) (l₂ := A))
theorem tab4 {A : List (Addr × HO)} (hs : Hs B (p1 :: p2 :: p3 :: p4 :: A) H) : ∃ B', Same B B' ∧ Hs B' A H ∧ ∀ A' H', Hs B' A' H' → Hs B (p1 :: p2 :: p3 :: p4 :: A') H' := by
  obtain ⟨sm, h2, back⟩ := (flip4 hs).frame A
  exact ⟨_, sm, h2, fun A' H' h3 => flop4 (back A' H' h3)⟩
theorem w_add (hs : Hs B (p1 :: p2 :: p3 :: p4 :: tabL a x dx w r tag ways es) H) (hok : RwOk B es) (hnd : (es.map (·.v)).Nodup) (hz : es.length ≤ 900) {v : Int} {tm lo : Addr} {m : List (Option Int)} {outs : List Out} {os : List V} (h1 : B tm = some (.tup (m.map oV))) (h2 : B lo = some (.lst os)) (h3 : Row (OutAt B) os outs) (h4 : WfR (m, outs))
    (k1 : 64 ≤ cnt ways es → ∀ es2 H', Hs B (p1 :: p2 :: p3 :: p4 :: tabL a x dx w r tag ways es2) H' → RwOk B es2 → (es2.map (·.v)).Nodup → vw es2 = touchV (vw es) v → Q (.bl false) H')
    (k2 : cnt ways es < 64 → ∀ B2 es2 H', Same B B2 → Hs B2 (p1 :: p2 :: p3 :: p4 :: tabL a x dx w r tag ways es2) H' → RwOk B2 es2 → (es2.map (·.v)).Nodup → vw es2 = addV (vw es) v (m, outs) → Q (.bl true) H') : sp_Table_add a [.ref x, .int v, .ref tm, .ref lo] H Q E :=
  ⟨B, x, dx, w, r, tag, ways, es, v, tm, lo, m, outs, os, [p1, p2, p3, p4], rfl, flip4 hs, hok, hnd, hz, h1, h2, h3, h4, fun c es2 H' q => k1 c es2 H' (flop4 q), fun c B2 es2 H' sm q => k2 c B2 es2 H' sm (flop4 q)⟩
theorem w_lay (hs : Hs B (p1 :: p2 :: p3 :: p4 :: tabL a x dx w r tag ways es) H) (hz : es.length ≤ 1000) (hz2 : ways.length ≤ 1000) {t port : Int} (k1 : hasW ways t = false → 64 ≤ cnt ways es → ∀ H', Hs B (p1 :: p2 :: p3 :: p4 :: tabL a x dx w r tag ways es) H' → Q (.bl false) H')
    (k2 : hasW ways t = true ∨ cnt ways es < 64 → ∀ H', Hs B (p1 :: p2 :: p3 :: p4 :: tabL a x dx w r tag (putW ways t port) es) H' → Q (.bl true) H') : sp_Table_lay a [.ref x, .int t, .int port] H Q E := by
  obtain ⟨B', _, h1, back⟩ := tab4 hs
  exact ⟨B', x, dx, w, r, tag, ways, es, t, port, rfl, h1, hz, hz2, fun c d H' q => k1 c d H' (back _ _ q), fun c H' q => k2 c H' (back _ _ q)⟩
theorem w_unlay (hs : Hs B (p1 :: p2 :: p3 :: p4 :: tabL a x dx w r tag ways es) H) {t : Int} (k : ∀ H', Hs B (p1 :: p2 :: p3 :: p4 :: tabL a x dx w r tag (dropW ways t) es) H' → Q .non H') : sp_Table_unlay a [.ref x, .int t] H Q E := by
  obtain ⟨B', _, h1, back⟩ := tab4 hs
  exact ⟨B', x, dx, w, r, tag, ways, es, t, rfl, h1, fun H' q => k H' (back _ _ q)⟩
theorem w_dropT (hs : Hs B (p1 :: p2 :: p3 :: p4 :: tabL a x dx w r tag ways es) H) {v : Int} (k : ∀ H', Hs B (p1 :: p2 :: p3 :: p4 :: tabL a x dx w r tag ways (dropR es v)) H' → Q .non H') : sp_Table_drop a [.ref x, .int v] H Q E := by
  obtain ⟨B', _, h1, back⟩ := tab4 hs
  exact ⟨B', x, dx, w, r, tag, ways, es, v, rfl, h1, fun H' q => k H' (back _ _ q)⟩
theorem w_wipe (hs : Hs B (p1 :: p2 :: p3 :: p4 :: tabL a x dx w r tag ways es) H) (k : ∀ w2 r2 H', Hs B (p1 :: p2 :: p3 :: p4 :: tabL a x dx w2 r2 0 [] []) H' → Q .non H') : sp_Table_wipe a [.ref x] H Q E := by
  obtain ⟨B', _, h1, back⟩ := tab4 hs
  exact ⟨B', x, dx, w, r, tag, ways, es, rfl, h1, fun w2 r2 H' q => k w2 r2 H' (back _ _ q)⟩
theorem w_count (hs : Hs B (p1 :: p2 :: p3 :: p4 :: tabL a x dx w r tag ways es) H) (hz : es.length ≤ 1000) (k : ∀ H', Hs B (p1 :: p2 :: p3 :: p4 :: tabL a x dx w r tag ways es) H' → Q (.int (cnt ways es)) H') : sp_Table_count a [.ref x] H Q E := by
  obtain ⟨B', _, h1, back⟩ := tab4 hs
  exact ⟨B', x, dx, w, r, tag, ways, es, rfl, h1, hz, fun H' q => k H' (back _ _ q)⟩
theorem w_doesT (hs : Hs B (p1 :: p2 :: p3 :: p4 :: tabL a x dx w r tag ways es) H) (hok : RwOk B es) {v port : Int} {th : Addr} {h : List Int} (hth : H th = some (.tup (h.map V.int))) (hl : h.length = 3)
    (k : ∀ l ys H' ps, Hs B ((l, .lst ys) :: p1 :: p2 :: p3 :: p4 :: tabL a x dx w r tag ways es) H' → Row (PrAt H') ys ps → IsDone (copiesR (rulesOf es v) port h) ps → Q (.ref l) H') : sp_Table_does a [.ref x, .int v, .int port, .ref th] H Q E := by
  obtain ⟨B', sm, h1, back⟩ := tab4 hs
  refine ⟨B', x, dx, w, r, tag, ways, es, v, port, th, h, rfl, h1, hok.same sm, hth, hl, fun l ys N H' ps q hp hd => k l ys H' ps ?_ hp hd⟩
  have h2 := back _ _ q
  -- the new list ahead, what else is new away
  have h3 : Hs B ((l, .lst ys) :: ([p1, p2, p3, p4] ++ (N ++ tabL a x dx w r tag ways es))) H' := Hs.front (A := [p1, p2, p3, p4]) h2
  refine h3.sub (List.Sublist.cons_cons _ ?_)
  exact List.Sublist.append_left (List.sublist_append_right N (tabL a x dx w r tag ways es)) [p1, p2, p3, p4]
end
local macro_rules | `(tactic| walk_at "v") => `(tactic| first | exact v0 | exact v1 | exact v2 | exact v3 | exact v4 | exact v5 | exact v6 | exact v7 | exact v8)
local macro_rules | `(tactic| walk_at "vs") => `(tactic| first | exact st0 | exact st1 | exact st2 | exact st3 | exact st4 | exact st5 | exact st6 | exact st7 | exact st8)
local macro_rules | `(tactic| walk_at "s") => `(tactic| first
  | with_reducible refine w_dget ?_
  | ((with_reducible refine' w_dgetZ ?h ?nd ?hk ?hv ?_); (case h => walk_at "g"); (case nd => walk_at "nd"); (case hk => walk_at "k"); (case hv => walk_at "v"))
  | ((with_reducible refine' w_dputZ ?hs ?h ?nd ?hk ?hv ?hu ?hl ?_); (case hs => assumption); (case h => walk_at "p"); (case nd => walk_at "nd"); (case hk => walk_at "k"); (case hv => walk_at "v"); (case hu => walk_at "vs"); (case hl => decide); intro _ _)
  | with_reducible refine w_gsub ?_
  | with_reducible refine w_setD ?_
  | with_reducible refine w_disp ?_
  | ((with_reducible refine' w_newP ?hs ?_); (case hs => assumption); intro _ _ _)
  | with_reducible refine w_pcons ?_
  | with_reducible refine w_pnil ?_)

local macro_rules | `(tactic| walk_at "s") => `(tactic| first
  | with_reducible refine w_nget ?_
  | with_reducible refine w_nin ?_
  | with_reducible refine w_nnot ?_
  | with_reducible refine w_nput ?_
  | with_reducible refine w_ndel ?_
  | with_reducible refine w_npop ?_
  | ((with_reducible refine' w_nnew ?hs ?_); (case hs => assumption); intro _ _ _))

/-! ## the law -/
def sp_law (K : PySem.W.Frag) : Sp := fun vs H Q _ => ∃ (x : Addr) (ns : List Int), vs = [.ref x] ∧ SqL K H x (ns.map V.int) ∧ ns.length ≤ 63 ∧ ∀ H', Q (.bl true) H'
abbrev lawL (a : Ad) (s c lw lr x dx w r : Addr) (m : Int) (cells : List Int) (tag : Int) (ways : List (Int × Int)) (es fs : List Rw) : List (Addr × HO) :=
  (s, sto c m) :: (c, clo cells) :: (lw, .dK (ways.map wyK)) :: (lr, .dK (fs.map rwK)) :: tabL a x dx w r tag ways es
/-- what holds of the table and of the law's own values at every turn -/
structure I8 (B : Hp) (n : Nat) (ways : List (Int × Int)) (es fs : List Rw) : Prop where
  ok : RwOk B es
  lw : LwOk B fs
  ek : (es.map (·.v)).Nodup
  fk : (fs.map (·.v)).Nodup
  wk : (ways.map (·.1)).Nodup
  al : Alike es fs
  ez : es.length ≤ n
  wz : ways.length ≤ n
  fz : fs.length ≤ n
  ne : ∀ f ∈ fs, f.rs ≠ []
theorem I8.cnt {B : Hp} {n : Nat} {ways : List (Int × Int)} {es fs : List Rw} (i : I8 B n ways es fs) : rows es = rows fs := by
  rw [rows_R fun e he => (i.ok e he).1, rows_R fun f hf => (i.lw f hf).2.1]
  exact Alike.rows i.ek i.fk i.al
section
variable {P : Program} [IsP P] {w : World} {K : PySem.W.Frag} {mg : Str → Option Value} {base : Heap} {a : Ad}
theorem dropW_nd {ways : List (Int × Int)} {t : Int} (h : (ways.map (·.1)).Nodup) : ((dropW ways t).map (·.1)).Nodup := h.sublist (List.Sublist.map _ List.filter_sublist)
theorem I8.unlay {B : Hp} {n : Nat} {ways : List (Int × Int)} {es fs : List Rw} (i : I8 B n ways es fs) (t : Int) : I8 B n (dropW ways t) es fs :=
  ⟨i.ok, i.lw, i.ek, i.fk, dropW_nd i.wk, i.al, i.ez, Nat.le_trans (List.length_filter_le _ _) i.wz, i.fz, i.ne⟩
theorem I8.drop {B : Hp} {n : Nat} {ways : List (Int × Int)} {es fs : List Rw} (i : I8 B n ways es fs) (v : Int) : I8 B n ways (dropR es v) (dropR fs v) :=
  ⟨i.ok.drop, fun f hf => i.lw f (List.mem_filter.mp hf).1, dropR_nd i.ek, dropR_nd i.fk, i.wk, i.al.drop v, Nat.le_trans (List.length_filter_le _ _) i.ez, i.wz, Nat.le_trans (List.length_filter_le _ _) i.fz, fun f hf => i.ne f (List.mem_filter.mp hf).1⟩
theorem I8.keep {B : Hp} {n : Nat} {ways : List (Int × Int)} {es fs : List Rw} (i : I8 B n ways es fs) (v : Int) : I8 B n [] (keepR es v) (keepR fs v) :=
  ⟨fun e he => i.ok e (List.mem_filter.mp he).1, fun f hf => i.lw f (List.mem_filter.mp hf).1, i.ek.sublist (List.Sublist.map _ List.filter_sublist), i.fk.sublist (List.Sublist.map _ List.filter_sublist), List.nodup_nil, i.al.keep v,
    Nat.le_trans (List.length_filter_le _ _) i.ez, Nat.zero_le _, Nat.le_trans (List.length_filter_le _ _) i.fz, fun f hf => i.ne f (List.mem_filter.mp hf).1⟩
theorem I8.nil {B : Hp} {n : Nat} : I8 B n [] [] [] := ⟨(fun _ z => nomatch z), (fun _ z => nomatch z), List.nodup_nil, List.nodup_nil, List.nodup_nil, (fun _ => rfl), Nat.zero_le _, Nat.zero_le _, Nat.zero_le _, (fun _ z => nomatch z)⟩
theorem I8.up {B B' : Hp} {n n' : Nat} {ways : List (Int × Int)} {es fs : List Rw} (i : I8 B n ways es fs) (s : Same B B') (h : n ≤ n') : I8 B' n' ways es fs :=
  ⟨i.ok.same s, i.lw.same s, i.ek, i.fk, i.wk, i.al, Nat.le_trans i.ez h, Nat.le_trans i.wz h, Nat.le_trans i.fz h, i.ne⟩
theorem lenR_rules {es : List Rw} (h : ∀ e ∈ es, e.us.length = e.rs.length) (v : Int) : lenR es v = (rulesOf es v).length := by
  unfold lenR rulesOf
  cases hf : findR es v with
  | none => rfl
  | some e => exact h e (findR_mem hf).1
theorem I8.len {B : Hp} {n : Nat} {ways : List (Int × Int)} {es fs : List Rw} (i : I8 B n ways es fs) (v : Int) : lenR es v = lenR fs v := by
  rw [lenR_rules fun e he => (i.ok e he).1.1, lenR_rules fun f hf => (i.lw f hf).2.1.1, i.al v]
end
local macro_rules | `(tactic| walk_at "v") => `(tactic| first | exact v0 | exact v1 | exact v2 | exact v3 | exact v4 | exact v5 | exact v6 | exact v7 | exact v8)
local macro_rules | `(tactic| walk_at "vs") => `(tactic| first | exact st0 | exact st1 | exact st2 | exact st3 | exact st4 | exact st5 | exact st6 | exact st7 | exact st8)
local macro_rules | `(tactic| walk_at "s") => `(tactic| first
  | with_reducible refine w_dget ?_
  | ((with_reducible refine' w_dgetZ ?h ?nd ?hk ?hv ?_); (case h => walk_at "g"); (case nd => walk_at "nd"); (case hk => walk_at "k"); (case hv => walk_at "v"))
  | ((with_reducible refine' w_dputZ ?hs ?h ?nd ?hk ?hv ?hu ?hl ?_); (case hs => assumption); (case h => walk_at "p"); (case nd => walk_at "nd"); (case hk => walk_at "k"); (case hv => walk_at "v"); (case hu => walk_at "vs"); (case hl => decide); intro _ _)
  | with_reducible refine w_gsub ?_
  | with_reducible refine w_setD ?_
  | with_reducible refine w_disp ?_
  | ((with_reducible refine' w_newP ?hs ?_); (case hs => assumption); intro _ _ _)
  | with_reducible refine w_pcons ?_
  | with_reducible refine w_pnil ?_)

local macro_rules | `(tactic| walk_at "s") => `(tactic| first
  | with_reducible refine w_nget ?_
  | with_reducible refine w_nin ?_
  | with_reducible refine w_nnot ?_
  | with_reducible refine w_nput ?_
  | with_reducible refine w_ndel ?_
  | with_reducible refine w_npop ?_
  | ((with_reducible refine' w_nnew ?hs ?_); (case hs => assumption); intro _ _ _))

/-! ## the law's own dict of rules: a new list for a version -/
def putR (fs : List Rw) (v : Int) (l : Addr) (us : List V) (rs : List Rl) : List Rw := if (findR fs v).isSome = true then fs.map (fun f => if f.v = v then ⟨f.v, l, us, rs⟩ else f) else fs ++ [⟨v, l, us, rs⟩]
theorem putR_map (fs : List Rw) (v : Int) (l : Addr) (us : List V) (rs : List Rl) : putK (fs.map rwK) (Sum.inl v) (V.ref l) = (putR fs v l us rs).map rwK := by
  unfold putK putR
  rw [valV_any, valR_find, Option.isSome_map]
  by_cases h : (findR fs v).isSome = true
  · rw [if_pos h, if_pos h, List.map_map, List.map_map]
    refine List.map_congr_left fun f _ => ?_
    by_cases hf : f.v = v
    · simp [hf]
    · simp [hf]
  · rw [if_neg h, if_neg h, List.map_append]
    rfl
theorem putR_keys (fs : List Rw) (v : Int) (l : Addr) (us : List V) (rs : List Rl) (nd : (fs.map (·.v)).Nodup) : ((putR fs v l us rs).map (·.v)).Nodup := by
  unfold putR
  cases hf : findR fs v with
  | some f =>
    rw [if_pos (show (some f).isSome = true from rfl), List.map_map]
    have e : fs.map ((fun f : Rw => f.v) ∘ fun f => if f.v = v then (⟨f.v, l, us, rs⟩ : Rw) else f) = fs.map (·.v) := List.map_congr_left fun f _ => by
      by_cases h : f.v = v
      · simp [h]
      · simp [h]
    rw [e]
    exact nd
  | none =>
    rw [if_neg (by simp), List.map_append, List.nodup_append]
    refine ⟨nd, by simp, fun p hp q hq z => ?_⟩
    obtain ⟨g, hg, rfl⟩ := List.mem_map.mp hp
    rw [List.mem_singleton.mp (show q ∈ [v] from hq)] at z
    exact findR_none hf g hg z
theorem putR_len (fs : List Rw) (v : Int) (l : Addr) (us : List V) (rs : List Rl) : (putR fs v l us rs).length ≤ fs.length + 1 := by
  unfold putR
  by_cases h : (findR fs v).isSome = true
  · rw [if_pos h, List.length_map]
    omega
  · rw [if_neg h, List.length_append]
    exact Nat.le_refl _
theorem putR_mem {fs : List Rw} {v : Int} {l : Addr} {us : List V} {rs : List Rl} {g : Rw} (h : g ∈ putR fs v l us rs) : g ∈ fs ∨ (g.at_ = l ∧ g.us = us ∧ g.rs = rs) := by
  unfold putR at h
  by_cases hs : (findR fs v).isSome = true
  · rw [if_pos hs] at h
    obtain ⟨f, hf, rfl⟩ := List.mem_map.mp h
    by_cases hv : f.v = v
    · rw [if_pos hv]
      exact .inr ⟨rfl, rfl, rfl⟩
    · rw [if_neg hv]
      exact .inl hf
  · rw [if_neg hs] at h
    rcases List.mem_append.mp h with h | h
    · exact .inl h
    · rw [List.mem_singleton.mp h]
      exact .inr ⟨rfl, rfl, rfl⟩
theorem getV_put (fs : List Rw) (v u : Int) (l : Addr) (us : List V) (rs : List Rl) : rulesOf (putR fs v l us rs) u = if u = v then rs else rulesOf fs u := by
  unfold putR
  by_cases hs : (findR fs v).isSome = true
  · rw [if_pos hs]
    rw [← vw_any] at hs
    rw [rulesOf_getV, rulesOf_getV]
    induction fs with
    | nil => cases hs
    | cons f fs ih =>
      have e1 : vw (f :: fs) = (f.v, f.rs) :: vw fs := rfl
      rw [e1, List.any_cons] at hs
      rw [List.map_cons, e1, getV_cons]
      by_cases hf : f.v = v
      · rw [if_pos hf]
        have e2 : vw ((⟨f.v, l, us, rs⟩ : Rw) :: fs.map fun f => if f.v = v then (⟨f.v, l, us, rs⟩ : Rw) else f) = (f.v, rs) :: vw (fs.map fun f => if f.v = v then (⟨f.v, l, us, rs⟩ : Rw) else f) := rfl
        rw [e2, getV_cons]
        by_cases hu : u = v
        · rw [if_pos (show f.v = u by rw [hf, hu]), if_pos hu]
        · have hn : ¬ f.v = u := fun z => hu (by rw [← z, hf])
          rw [if_neg hn, if_neg hu, if_neg hn]
          clear ih hs e1 e2
          induction fs with
          | nil => rfl
          | cons g fs ih =>
            by_cases hg : g.v = v
            · have hn2 : ¬ g.v = u := fun z => hu (by rw [← z, hg])
              rw [List.map_cons, if_pos hg]
              have e3 : vw ((⟨g.v, l, us, rs⟩ : Rw) :: fs.map fun f => if f.v = v then (⟨f.v, l, us, rs⟩ : Rw) else f) = (g.v, rs) :: vw (fs.map fun f => if f.v = v then (⟨f.v, l, us, rs⟩ : Rw) else f) := rfl
              rw [e3, getV_cons, if_neg hn2, show vw (g :: fs) = (g.v, g.rs) :: vw fs from rfl, getV_cons, if_neg hn2]
              exact ih
            · rw [List.map_cons, if_neg hg]
              have e3 : vw (g :: fs.map fun f => if f.v = v then (⟨f.v, l, us, rs⟩ : Rw) else f) = (g.v, g.rs) :: vw (fs.map fun f => if f.v = v then (⟨f.v, l, us, rs⟩ : Rw) else f) := rfl
              rw [e3, getV_cons, show vw (g :: fs) = (g.v, g.rs) :: vw fs from rfl, getV_cons, ih]
      · rw [decide_eq_false hf, Bool.false_or] at hs
        rw [if_neg hf]
        have e2 : vw (f :: fs.map fun f => if f.v = v then (⟨f.v, l, us, rs⟩ : Rw) else f) = (f.v, f.rs) :: vw (fs.map fun f => if f.v = v then (⟨f.v, l, us, rs⟩ : Rw) else f) := rfl
        rw [e2, getV_cons, ih hs]
        by_cases hu : f.v = u
        · rw [if_pos hu, if_pos hu, if_neg (fun z => hf (by rw [hu, z]))]
        · rw [if_neg hu, if_neg hu]
  · rw [if_neg hs]
    rw [← vw_any] at hs
    have e : vw (fs ++ [(⟨v, l, us, rs⟩ : Rw)]) = vw fs ++ [(v, rs)] := by
      unfold vw
      rw [List.map_append]
      rfl
    rw [rulesOf_getV, rulesOf_getV, e, getV_app]
    by_cases hu : u = v
    · subst hu
      rw [if_neg hs, if_pos (show u = u from rfl), getV_cons, if_pos (show u = u from rfl)]
    · rw [if_neg hu]
      by_cases h2 : ((vw fs).any fun p => decide (p.1 = u)) = true
      · rw [if_pos h2]
      · rw [if_neg h2, getV_cons, if_neg (show ¬ v = u from fun z => hu z.symm), getV_nil]
        refine (getV_none ?_).symm
        cases q : ((vw fs).any fun p => decide (p.1 = u)) with
        | false => rfl
        | true => exact absurd q h2
/-- a rule is added on both sides -/
theorem I8.add {B B2 : Hp} {n : Nat} {ways : List (Int × Int)} {es fs es2 : List Rw} (i : I8 B n ways es fs) (sm : Same B B2) {v : Int} {r : Rl} (h1 : RwOk B2 es2) (h2 : (es2.map (·.v)).Nodup) (h3 : vw es2 = addV (vw es) v r) {l : Addr} {us : List V} (hl : B2 l = some (.lst us)) (hro : Row (RlAt B2) us (rulesOf fs v ++ [r])) (hw : WfR r) :
    I8 B2 (n + 1) ways es2 (putR fs v l us (rulesOf fs v ++ [r])) := by
  have hlen : es2.length ≤ es.length + 1 := by
    have e := congrArg List.length h3
    unfold addV touchV vw at e
    rw [List.length_map, List.length_map] at e
    rw [e]
    by_cases h : ((es.map fun e => (e.v, e.rs)).any fun p => decide (p.1 = v)) = true
    · rw [if_pos h, List.length_map]
      omega
    · rw [if_neg h, List.length_append, List.length_map]
      exact Nat.le_refl _
  refine ⟨h1, fun g hg => ?_, h2, putR_keys _ _ _ _ _ i.fk, i.wk, fun u => ?_, by have := i.ez; omega, by have := i.wz; omega, by have := i.fz; have := putR_len fs v l us (rulesOf fs v ++ [r]); omega, fun g hg => ?_⟩
  · rcases putR_mem hg with hg | ⟨e1, e2, e3⟩
    · exact i.lw.same sm g hg
    · rw [e1, e2, e3]
      refine ⟨hl, hro, fun q hq => ?_⟩
      rcases List.mem_append.mp hq with hq | hq
      · unfold rulesOf at hq
        cases hf : findR fs v with
        | none =>
          rw [hf] at hq
          cases hq
        | some f =>
          rw [hf] at hq
          exact (i.lw f (findR_mem hf).1).2.2 q hq
      · rw [List.mem_singleton.mp hq]
        exact hw
  · rw [getV_put, rulesOf_getV, h3, getV_add, ← rulesOf_getV, ← rulesOf_getV, i.al v, i.al u]
  · rcases putR_mem hg with hg | ⟨_, _, e3⟩
    · exact i.ne g hg
    · rw [e3]
      exact List.append_ne_nil_of_right_ne_nil _ (List.cons_ne_nil _ _)
local macro_rules | `(tactic| walk_at "v") => `(tactic| first | exact v0 | exact v1 | exact v2 | exact v3 | exact v4 | exact v5 | exact v6 | exact v7 | exact v8)
local macro_rules | `(tactic| walk_at "vs") => `(tactic| first | exact st0 | exact st1 | exact st2 | exact st3 | exact st4 | exact st5 | exact st6 | exact st7 | exact st8)
local macro_rules | `(tactic| walk_at "s") => `(tactic| first
  | with_reducible refine w_dget ?_
  | ((with_reducible refine' w_dgetZ ?h ?nd ?hk ?hv ?_); (case h => walk_at "g"); (case nd => walk_at "nd"); (case hk => walk_at "k"); (case hv => walk_at "v"))
  | ((with_reducible refine' w_dputZ ?hs ?h ?nd ?hk ?hv ?hu ?hl ?_); (case hs => assumption); (case h => walk_at "p"); (case nd => walk_at "nd"); (case hk => walk_at "k"); (case hv => walk_at "v"); (case hu => walk_at "vs"); (case hl => decide); intro _ _)
  | with_reducible refine w_gsub ?_
  | with_reducible refine w_setD ?_
  | with_reducible refine w_disp ?_
  | ((with_reducible refine' w_newP ?hs ?_); (case hs => assumption); intro _ _ _)
  | with_reducible refine w_pcons ?_
  | with_reducible refine w_pnil ?_)

local macro_rules | `(tactic| walk_at "s") => `(tactic| first
  | with_reducible refine w_nget ?_
  | with_reducible refine w_nin ?_
  | with_reducible refine w_nnot ?_
  | with_reducible refine w_nput ?_
  | with_reducible refine w_ndel ?_
  | with_reducible refine w_npop ?_
  | ((with_reducible refine' w_nnew ?hs ?_); (case hs => assumption); intro _ _ _))

theorem hasW_key {ways : List (Int × Int)} {t : Int} : hasW ways t = true ↔ t ∈ ways.map (·.1) := by
  unfold hasW
  rw [List.any_eq_true, List.mem_map]
  exact ⟨fun ⟨p, h1, h2⟩ => ⟨p, h1, of_decide_eq_true h2⟩, fun ⟨p, h1, h2⟩ => ⟨p, h1, decide_eq_true h2⟩⟩
theorem putW_nd {ways : List (Int × Int)} {t port : Int} (nd : (ways.map (·.1)).Nodup) : ((putW ways t port).map (·.1)).Nodup := by
  unfold putW
  by_cases h : hasW ways t = true
  · rw [if_pos h, List.map_map]
    have e : ways.map ((fun p : Int × Int => p.1) ∘ fun p => if p.1 = t then (p.1, port) else p) = ways.map (·.1) := List.map_congr_left fun p _ => by
      by_cases hp : p.1 = t
      · simp [hp]
      · simp [hp]
    rw [e]
    exact nd
  · rw [if_neg h, List.map_append, List.nodup_append]
    refine ⟨nd, by simp, fun p hp q hq z => ?_⟩
    rw [List.mem_singleton.mp (show q ∈ [t] from hq)] at z
    rw [z] at hp
    exact h (hasW_key.mpr hp)
theorem putW_len (ways : List (Int × Int)) (t port : Int) : (putW ways t port).length ≤ ways.length + 1 := by
  unfold putW
  by_cases h : hasW ways t = true
  · rw [if_pos h, List.length_map]
    omega
  · rw [if_neg h, List.length_append]
    exact Nat.le_refl _
theorem I8.lay {B : Hp} {n : Nat} {ways : List (Int × Int)} {es fs : List Rw} (i : I8 B n ways es fs) (t port : Int) : I8 B (n + 1) (putW ways t port) es fs :=
  ⟨i.ok, i.lw, i.ek, i.fk, putW_nd i.wk, i.al, Nat.le_succ_of_le i.ez, Nat.le_trans (putW_len _ _ _) (Nat.succ_le_succ i.wz), Nat.le_succ_of_le i.fz, i.ne⟩
/-- an entry of a dict whose keys are all different -/
theorem valW_self : ∀ {ways : List (Int × Int)} {p : Int × Int}, (ways.map (·.1)).Nodup → p ∈ ways → valV (ways.map wyK) (Sum.inl p.1) = some (.int p.2)
  | q :: ways, p, nd, hp => by
    rw [List.map_cons, List.nodup_cons] at nd
    rcases List.mem_cons.mp hp with rfl | hp
    · rw [List.map_cons, valV_pos (show (wyK p).1 = Sum.inl p.1 from rfl)]
    · have n : ¬ (wyK q).1 = Sum.inl p.1 := fun z => nd.1 (List.mem_map.mpr ⟨p, hp, (Sum.inl.inj z).symm⟩)
      rw [List.map_cons, valV_neg n]
      exact valW_self nd.2 hp
section
variable {K : PySem.W.Frag} {B H : Hp} {Q : VK} {σ : L2.St} {p1 p2 p3 : Addr × HO} {A : List (Addr × HO)} {lr : Addr} {fs : List Rw}
/-- [len(rules[version]) for version in rules] -/
theorem w_lens (hs : Hs B (p1 :: p2 :: p3 :: (lr, .dK (fs.map rwK)) :: A) H) (hlw : LwOk B fs) (nd : (fs.map (·.v)).Nodup) (hz : fs.length ≤ 1000) (h4 : ∀ x : V, ((wipe σ [9]).set 9 (some x))[4]? = some (some (.ref lr))) (h9 : ∀ x : V, ((wipe σ [9]).set 9 (some x))[9]? = some (some x)) (h0 : σ[4]? = some (some (.ref lr)))
    (hw : ∀ x : V, wipe ((wipe σ [9]).set 9 (some x)) [9] = wipe σ [9]) (k : ∀ D H', Hs B ((D, .lst ((fs.map fun f => (f.us.length : Int)).map V.int)) :: p1 :: p2 :: p3 :: (lr, .dK (fs.map rwK)) :: A) H' → Q (.ref D) H') :
    tLockE (tLc (iKeys (tVar 4)) (gName 9) tYes (tCB (Hb.rLen K) (tCons (tDGet (tVar 4) (tVar 9)) tNil)) [9]) σ H Q := by
  refine w_lockE hs (fun od => .there (.there (.there .here))) fun od H2 hs2 => ?_
  refine w_lcK ?_
  refine w_var h0 ?_
  refine w_keyR hs2.g3 fun D hD => ?_
  refine turns_keys (Body := LcBody (gName 9) tYes _ _ σ D) (fun i H' => Hs B ((D, .lst ((fs.take i).map fun f => V.int f.us.length)) :: p1 :: p2 :: p3 :: (lr, .frz od (.dK (fs.map rwK))) :: A) H') (hs2.new hD) (fun i H' _ q => q.g4) ?_ ?_
  · rintro i kk y H' hk hs3
    obtain ⟨f, hf, h2⟩ := map_at hk
    cases h2
    have hm : f ∈ fs := List.mem_of_getElem? hf
    refine w_name ?_
    refine ⟨hw _, ?_⟩
    refine w_yes (iteT ?_)
    refine w_cb (w_cons (w_dget (w_var (h4 _) (w_var (h9 _) ?_))))
    refine ⟨lr, .ref f.at_, rfl, .inl ⟨fs.map rwK, Sum.inl f.v, .inr ⟨od, hs3.g4⟩, rfl, ?_⟩, ?_⟩
    · rw [valR_find, findR_self nd hm]
      rfl
    · refine w_nil (w_len (SqL.of (hs3.same _ _ (hlw f hm).1)) ?_)
      have ht : (fs.take (i + 1)).map (fun f => V.int f.us.length) = (fs.take i).map (fun f => V.int f.us.length) ++ [V.int f.us.length] := by
        rw [List.take_add_one, hf, List.map_append]
        rfl
      refine ⟨_, hs3.g0, szl ?_, ?_⟩
      · rw [List.length_map, List.length_take]
        omega
      · rw [ht]
        exact hs3.p0 _
  · intro H' hs3
    rw [List.length_map, List.take_length] at hs3
    refine ⟨hs3.g4, ?_⟩
    have hs4 := hs3.p4 (.dK (fs.map rwK))
    refine k D _ ?_
    rw [List.map_map]
    exact hs4
end
local macro_rules | `(tactic| walk_at "v") => `(tactic| first | exact v0 | exact v1 | exact v2 | exact v3 | exact v4 | exact v5 | exact v6 | exact v7 | exact v8)
local macro_rules | `(tactic| walk_at "vs") => `(tactic| first | exact st0 | exact st1 | exact st2 | exact st3 | exact st4 | exact st5 | exact st6 | exact st7 | exact st8)
local macro_rules | `(tactic| walk_at "s") => `(tactic| first
  | with_reducible refine w_dget ?_
  | ((with_reducible refine' w_dgetZ ?h ?nd ?hk ?hv ?_); (case h => walk_at "g"); (case nd => walk_at "nd"); (case hk => walk_at "k"); (case hv => walk_at "v"))
  | ((with_reducible refine' w_dputZ ?hs ?h ?nd ?hk ?hv ?hu ?hl ?_); (case hs => assumption); (case h => walk_at "p"); (case nd => walk_at "nd"); (case hk => walk_at "k"); (case hv => walk_at "v"); (case hu => walk_at "vs"); (case hl => decide); intro _ _)
  | with_reducible refine w_gsub ?_
  | with_reducible refine w_setD ?_
  | with_reducible refine w_disp ?_
  | ((with_reducible refine' w_newP ?hs ?_); (case hs => assumption); intro _ _ _)
  | with_reducible refine w_pcons ?_
  | with_reducible refine w_pnil ?_)

local macro_rules | `(tactic| walk_at "s") => `(tactic| first
  | with_reducible refine w_nget ?_
  | with_reducible refine w_nin ?_
  | with_reducible refine w_nnot ?_
  | with_reducible refine w_nput ?_
  | with_reducible refine w_ndel ?_
  | with_reducible refine w_npop ?_
  | ((with_reducible refine' w_nnew ?hs ?_); (case hs => assumption); intro _ _ _))

/-! ## rules as data -/
def dOp : Option Int → PyData
  | none => .none
  | some z => .int z
def dO (o : Out) : PyData := .tuple [.int o.1, .tuple (o.2.map dOp)]
def dR (r : Rl) : PyData := .tuple [.tuple (r.1.map dOp), .list (r.2.map dO)]
theorem dOp_ok (x : Option Int) : (dOp x).canLay0 = true ∧ (dOp x).depth ≤ 1 := by
  cases x with
  | none => exact ⟨rfl, by simp [dOp, PyData.depth]⟩
  | some z => exact ⟨rfl, by simp [dOp, PyData.depth]⟩
theorem dOps_ok (xs : List (Option Int)) : PyData.canLayAll0 (xs.map dOp) = true ∧ PyData.depthAll (xs.map dOp) ≤ 1 :=
  ⟨lay_all _ fun d hd => by obtain ⟨x, _, rfl⟩ := List.mem_map.mp hd; exact (dOp_ok x).1, depth_all _ fun d hd => by obtain ⟨x, _, rfl⟩ := List.mem_map.mp hd; exact (dOp_ok x).2⟩
theorem dO_ok (o : Out) : (dO o).canLay0 = true ∧ (dO o).depth ≤ 3 := by
  have h := dOps_ok o.2
  unfold dO
  constructor
  · simp only [PyData.canLayAll0, PyData.canLay0, h.1, Bool.and_self]
  · simp only [PyData.depth, PyData.depthAll]
    omega
theorem dR_ok (r : Rl) : (dR r).canLay0 = true ∧ (dR r).depth ≤ 6 := by
  have h := dOps_ok r.1
  have h1 : PyData.canLayAll0 (r.2.map dO) = true := lay_all _ fun d hd => by obtain ⟨x, _, rfl⟩ := List.mem_map.mp hd; exact (dO_ok x).1
  have h2 : PyData.depthAll (r.2.map dO) ≤ 3 := depth_all _ fun d hd => by obtain ⟨x, _, rfl⟩ := List.mem_map.mp hd; exact (dO_ok x).2
  unfold dR
  constructor
  · simp only [PyData.canLayAll0, PyData.canLay0, h.1, h1, Bool.and_self]
  · simp only [PyData.depth, PyData.depthAll]
    omega
theorem dRs_shp (rs : List Rl) : SeqAt.shaped (.list (rs.map dR)) = true := shp_list fun d hd => by
  obtain ⟨r, _, rfl⟩ := List.mem_map.mp hd
  exact ⟨(dR_ok r).1, by have := (dR_ok r).2; omega⟩
theorem shp_can {d : PyData} (h : SeqAt.shaped d = true) : d.canLay0 = true := by
  unfold SeqAt.shaped at h
  exact (Bool.and_eq_true_iff.mp h).1
theorem dp_oV {K : PySem.W.Frag} {H : Hp} : ∀ xs : List (Option Int), DpAll K H (xs.map oV) (xs.map dOp)
  | [] => .nil
  | none :: xs => .cons .non (dp_oV xs)
  | some z :: xs => .cons (.int z) (dp_oV xs)
theorem Row.dpAll {α : Type} {K : PySem.W.Frag} {H : Hp} {R : V → α → Prop} {d : α → PyData} (hd : ∀ u x, R u x → Dp K H u (d x)) : ∀ {us : List V} {xs : List α}, Row R us xs → DpAll K H us (xs.map d)
  | [], [], _ => .nil
  | [], _ :: _, h => by cases h.1
  | _ :: _, [], h => by cases h.1
  | u :: us, x :: xs, h => .cons (hd _ _ (h.2 0 u x rfl rfl)) (Row.dpAll hd ⟨Nat.succ.inj h.1, fun i y z h1 h2 => h.2 (i + 1) y z (by simpa using h1) (by simpa using h2)⟩)
theorem OutAt.dp {K : PySem.W.Frag} {H : Hp} {u : V} {o : Out} (h : OutAt H u o) : Dp K H u (dO o) := by
  obtain ⟨t, tc, rfl, h1, h2⟩ := h
  exact .tup (SqT.of h1) (.cons (.int _) (.cons (.tup (SqT.of h2) (dp_oV o.2)) .nil))
theorem RlAt.dp {K : PySem.W.Frag} {H : Hp} {u : V} {r : Rl} (h : RlAt H u r) : Dp K H u (dR r) := by
  obtain ⟨t, tm, lo, os, rfl, h1, h2, h3, h4⟩ := h
  exact .tup (SqT.of h1) (.cons (.tup (SqT.of h2) (dp_oV r.1)) (.cons (.lst (SqL.of h3) (h4.dpAll (d := dO) fun _ _ => OutAt.dp)) .nil))
theorem rules_dp {K : PySem.W.Frag} {H : Hp} {l : Addr} {us : List V} {rs : List Rl} (hl : H l = some (.lst us)) (h : Row (RlAt H) us rs) : Dp K H (.ref l) (.list (rs.map dR)) := .lst (SqL.of hl) (h.dpAll (d := dR) fun _ _ => RlAt.dp)
theorem eqv_nil (ds : List PyData) : PyData.eqv (.list ds) (.list []) = decide (ds = []) := by
  cases ds with
  | nil => simp [PyData.eqv, PyData.eqvAll]
  | cons d ds => simp [PyData.eqv, PyData.eqvAll]
theorem w_neRefl {K : PySem.W.Frag} {H : Hp} {Q : VK} {p q : V} {d : PyData} (h1 : Dp K H p d) (h2 : Dp K H q d) (hs : SeqAt.shaped d = true) (k : Q (.bl false) H) : rNeD K p q H Q :=
  ⟨d, d, h1, h2, hs, hs, by
    rw [SeqAt.eqv_refl _ (shp_can hs)]
    exact k⟩
/-! ## the versions that have rules -/
def knownV (es : List Rw) : List Int := (es.filter fun e => decide (e.rs ≠ [])).map (·.v)
theorem knownV_mem {es : List Rw} (nd : (es.map (·.v)).Nodup) (v : Int) : v ∈ knownV es ↔ rulesOf es v ≠ [] := by
  unfold knownV
  rw [List.mem_map]
  constructor
  · rintro ⟨e, he, rfl⟩
    obtain ⟨h1, h2⟩ := List.mem_filter.mp he
    unfold rulesOf
    rw [findR_self nd h1]
    exact of_decide_eq_true h2
  · intro h
    unfold rulesOf at h
    cases hf : findR es v with
    | none =>
      rw [hf] at h
      exact absurd rfl h
    | some e =>
      rw [hf] at h
      obtain ⟨h1, h2⟩ := findR_mem hf
      exact ⟨e, List.mem_filter.mpr ⟨h1, decide_eq_true h⟩, h2⟩
theorem knownV_nd {es : List Rw} (nd : (es.map (·.v)).Nodup) : (knownV es).Nodup := nd.sublist (List.Sublist.map _ List.filter_sublist)
theorem known_sorted {es fs : List Rw} (n1 : (es.map (·.v)).Nodup) (n2 : (fs.map (·.v)).Nodup) (al : Alike es fs) {xs ys : List Int} (p1 : xs.Perm (knownV es)) (p2 : ys.Perm (knownV fs)) (s1 : xs.Pairwise (· ≤ ·)) (s2 : ys.Pairwise (· ≤ ·)) : xs = ys := by
  have pm : (knownV es).Perm (knownV fs) := (List.perm_ext_iff_of_nodup (knownV_nd n1) (knownV_nd n2)).mpr fun v => by
    rw [knownV_mem n1, knownV_mem n2, al v]
  exact ((p1.trans pm).trans p2.symm).eq_of_pairwise (fun a b _ _ h1 h2 => Int.le_antisymm h1 h2) s1 s2
theorem w_lockS {B H : Hp} {L : List (Addr × HO)} {L' : Obj → List (Addr × HO)} {d : Addr} {kvs : List (Key × V)} {t : TS} {D : Ends} {σ : L2.St} (hs : Hs B L H) (h : ∀ od, Put L d (.dK kvs) (.frz od (.dK kvs)) (L' od))
    (q : ∀ od H', Hs B (L' od) H' → t ⟨fun σ' H' => H' d = some (.frz od (.dK kvs)) ∧ D.nx σ' (upd H' d (.dK kvs)), fun v H' => H' d = some (.frz od (.dK kvs)) ∧ D.rt v (upd H' d (.dK kvs)), fun σ' H' => H' d = some (.frz od (.dK kvs)) ∧ D.bk σ' (upd H' d (.dK kvs)), fun σ' H' => H' d = some (.frz od (.dK kvs)) ∧ D.ct σ' (upd H' d (.dK kvs))⟩ σ H') : tLock t D σ H :=
  ⟨d, .dK kvs, hs.gets (h default), True.intro, fun od => q od _ (hs.puts (h od))⟩
/-- [version for version in d if d[version] != []] -/
theorem w_known {K : PySem.W.Frag} {B H : Hp} {Q : VK} {σ : L2.St} {td : TE} {L0 : List (Addr × HO)} {es : List Rw} {r : Addr} {od : Obj} (hs : Hs B L0 H) (hfr : ∀ H', Hs B L0 H' → H' r = some (.frz od (.dK (es.map rwK)))) (hrw : ∀ H', Hs B L0 H' → ∀ e ∈ es, H' e.at_ = some (.lst e.us)) (hok : RwOk B es) (nd : (es.map (·.v)).Nodup) (hz : es.length ≤ 1000)
    (h0 : ∀ Q' : VK, Q' (.ref r) H → td σ H Q') (h1 : ∀ (x : V) (H' : Hp) (Q' : VK), Hs B L0 H' → Q' (.ref r) H' → td ((wipe σ [9]).set 9 (some x)) H' Q') (h9 : ∀ x : V, ((wipe σ [9]).set 9 (some x))[9]? = some (some x)) (hw : ∀ x : V, wipe ((wipe σ [9]).set 9 (some x)) [9] = wipe σ [9])
    (k : ∀ D H', Hs B ((D, .lst ((knownV es).map V.int)) :: L0) H' → Q (.ref D) H') : tLc (iKeys td) (gName 9) (tTest (tOp (rNeD K) (tDGet td (tVar 9)) (tLst tNil))) (tVar 9) [9] σ H Q := by
  refine w_lcK ?_
  refine h0 _ ?_
  refine w_keyR (hfr _ hs) fun D hD => ?_
  refine turns_keys (Body := LcBody (gName 9) _ (tVar 9) _ σ D) (fun i H' => Hs B ((D, .lst ((knownV (es.take i)).map V.int)) :: L0) H') (hs.new hD) (fun i H' _ q => hfr _ q.tl) ?_ ?_
  · rintro i kk y H' hk hs3
    obtain ⟨e, he, h2⟩ := map_at hk
    cases h2
    have hm : e ∈ es := List.mem_of_getElem? he
    have hstep : knownV (es.take (i + 1)) = knownV (es.take i) ++ if e.rs ≠ [] then [e.v] else [] := by
      unfold knownV
      rw [List.take_add_one, he, List.filter_append, List.map_append]
      by_cases h : e.rs = []
      · rw [if_neg (not_not_intro h)]
        simp [h]
      · rw [if_pos h]
        simp [h]
    refine w_name ?_
    refine ⟨hw _, ?_⟩
    refine w_test (w_op (w_dget (h1 _ _ _ hs3.tl (w_var (h9 _) ?_))))
    refine ⟨r, .ref e.at_, rfl, .inl ⟨es.map rwK, Sum.inl e.v, .inr ⟨od, hfr _ hs3.tl⟩, rfl, ?_⟩, ?_⟩
    · rw [valR_find, findR_self nd hm]
      rfl
    · refine w_lst (w_nil (w_newL hs3 (sz (Nat.zero_le _)) fun p H2 hs4 => ?_))
      have hs5 := hs4.tl
      have hrow : Row (RlAt H2) e.us e.rs := (hok e hm).1.mono fun _ _ => RlAt.same hs5.same
      refine ⟨.list (e.rs.map dR), .list [], rules_dp (hrw _ hs5.tl e hm) hrow, .lst (SqL.of hs4.g0) .nil, dRs_shp _, rfl, ?_⟩
      rw [eqv_nil]
      refine w_exb ?_
      have hn : (e.rs.map dR = []) ↔ e.rs = [] := List.map_eq_nil_iff
      by_cases h : e.rs = []
      · rw [decide_eq_true (hn.mpr h)]
        refine iteF ?_
        show Hs B _ H2
        rw [hstep, if_neg (not_not_intro h), List.append_nil]
        exact hs5
      · rw [decide_eq_false fun z => h (hn.mp z)]
        refine iteT ?_
        refine w_var (h9 _) ?_
        refine ⟨_, hs5.g0, szl ?_, ?_⟩
        · rw [List.length_map]
          have : (knownV (es.take i)).length ≤ es.length := by
            unfold knownV
            rw [List.length_map]
            exact Nat.le_trans (List.length_filter_le _ _) (by rw [List.length_take]; omega)
          omega
        · show Hs B _ _
          rw [hstep, if_pos h, List.map_append]
          exact hs5.p0 _
  · intro H' hs3
    rw [List.length_map, List.take_length] at hs3
    exact k D _ hs3
section
variable {P : Program} [IsP P] {w : World} {K : PySem.W.Frag} {mg : Str → Option Value} {base : Heap} {a : Ad}
theorem w_rule {B H : Hp} {Q : VK} {E : XK} {s c : Addr} {m : Int} {cells : List Int} {R : List (Addr × HO)} (hs : Hs B ((s, sto c m) :: (c, clo cells) :: R) H) (g : Good m cells) (hR : ∀ e ∈ R, ∀ xs, e.2 ≠ .tup xs)
    (q : ∀ (B2 : Hp) (t tm lo : Addr) (ma : List (Option Int)) (outs : List Out) (os : List V) m' cells' H', Same B B2 → Hs B2 ((s, sto c m') :: (c, clo cells') :: R) H' → Good m' cells' → B2 t = some (.tup [.ref tm, .ref lo]) → B2 tm = some (.tup (ma.map oV)) → B2 lo = some (.lst os) → Row (OutAt B2) os outs → WfR (ma, outs) → Q (.ref t) H') : sp__law_rule [.ref s] H Q E := by
  have fr : ∃ B', B' = around [(s, sto c m), (c, clo cells)] H ∧ Same B B' ∧ Hs B' [(s, sto c m), (c, clo cells)] H ∧ ∀ A' H', Hs B' A' H' → Hs B (A' ++ R) H' := ⟨_, rfl, hs.frame [(s, sto c m), (c, clo cells)]⟩
  obtain ⟨B', eB, smB, h1, back⟩ := fr
  refine ⟨B', s, c, m, cells, rfl, h1, g, fun B2 t tm lo ma outs os m' cells' H' sm h2 g2 ht htm hlo hro wf hn => ?_⟩
  have nd := hs.nd
  have hRB : ∀ e ∈ R, B' e.1 = some e.2 := fun e he => by
    have nm : e.1 ∉ [(s, sto c m), (c, clo cells)].map (·.1) := fun z => by
      rw [List.map_cons, List.map_cons, List.nodup_cons, List.nodup_cons] at nd
      have h3 : e.1 ∈ R.map (·.1) := List.mem_map.mpr ⟨e, he, rfl⟩
      rcases List.mem_cons.mp z with z | z
      · rw [z] at h3
        exact nd.1 (List.mem_cons_of_mem _ h3)
      · rw [List.mem_singleton.mp z] at h3
        exact nd.2.1 h3
    rw [eB, around_out nm]
    exact hs.at_ e (List.mem_cons_of_mem _ (List.mem_cons_of_mem _ he))
  have hb := back _ _ (Hs.base sm h2)
  have keepT : ∀ p xs, B2 p = some (.tup xs) → around R B2 p = some (.tup xs) := fun p xs hp => by
    rw [around_out fun z => ?_]
    · exact hp
    · obtain ⟨e, he, rfl⟩ := List.mem_map.mp z
      have := sm _ _ (hRB e he)
      rw [hp] at this
      exact hR e he xs (Option.some.inj this).symm
  have keepL : around R B2 lo = some (.lst os) := by
    rw [around_out fun z => ?_]
    · exact hlo
    · obtain ⟨e, he, e2⟩ := List.mem_map.mp z
      have := hRB e he
      rw [e2, hn] at this
      cases this
  refine q (around R B2) t tm lo ma outs os m' cells' H' (fun b o e => ?_) ⟨fun b o e => ?_, hb.nd, fun e he => ?_, hb.at_⟩ g2 (keepT _ _ ht) (keepT _ _ htm) keepL (hro.mono fun u o ⟨t', tc', e1, e2, e3⟩ => ⟨t', tc', e1, keepT _ _ e2, keepT _ _ e3⟩) wf
  · rw [around_out fun z => ?_]
    · exact sm _ _ (smB _ _ e)
    · obtain ⟨x, hx, rfl⟩ := List.mem_map.mp z
      have := hs.out x (List.mem_cons_of_mem _ (List.mem_cons_of_mem _ hx))
      rw [e] at this
      cases this
  · unfold around at e
    split at e
    · cases e
    · exact h2.same _ _ e
  · rcases List.mem_append.mp (show e ∈ [(s, sto c m'), (c, clo cells')] ++ R from he) with he | he
    · unfold around
      split
      · rfl
      · exact h2.out e he
    · unfold around
      rw [if_pos (List.mem_map.mpr ⟨e, he, rfl⟩)]
end
local macro_rules | `(tactic| walk_at "v") => `(tactic| first | exact v0 | exact v1 | exact v2 | exact v3 | exact v4 | exact v5 | exact v6 | exact v7 | exact v8)
local macro_rules | `(tactic| walk_at "vs") => `(tactic| first | exact st0 | exact st1 | exact st2 | exact st3 | exact st4 | exact st5 | exact st6 | exact st7 | exact st8)
local macro_rules | `(tactic| walk_at "s") => `(tactic| first
  | with_reducible refine w_dget ?_
  | ((with_reducible refine' w_dgetZ ?h ?nd ?hk ?hv ?_); (case h => walk_at "g"); (case nd => walk_at "nd"); (case hk => walk_at "k"); (case hv => walk_at "v"))
  | ((with_reducible refine' w_dputZ ?hs ?h ?nd ?hk ?hv ?hu ?hl ?_); (case hs => assumption); (case h => walk_at "p"); (case nd => walk_at "nd"); (case hk => walk_at "k"); (case hv => walk_at "v"); (case hu => walk_at "vs"); (case hl => decide); intro _ _)
  | with_reducible refine w_gsub ?_
  | with_reducible refine w_setD ?_
  | with_reducible refine w_disp ?_
  | ((with_reducible refine' w_newP ?hs ?_); (case hs => assumption); intro _ _ _)
  | with_reducible refine w_pcons ?_
  | with_reducible refine w_pnil ?_)

local macro_rules | `(tactic| walk_at "s") => `(tactic| first
  | with_reducible refine w_nget ?_
  | with_reducible refine w_nin ?_
  | with_reducible refine w_nnot ?_
  | with_reducible refine w_nput ?_
  | with_reducible refine w_ndel ?_
  | with_reducible refine w_npop ?_
  | ((with_reducible refine' w_nnew ?hs ?_); (case hs => assumption); intro _ _ _))

section
variable {P : Program} [IsP P] {w : World} {K : PySem.W.Frag} {mg : Str → Option Value} {base : Heap} {a : Ad}
theorem w_ifS2 {c : TT} {t u : TS} {D : Ends} {σ : L2.St} {H : Hp} (M : Hp → Prop) (h2 : ∀ H1, M H1 → u D σ H1) (h1 : (∀ H1, M H1 → u D σ H1) → c σ H fun b H1 => if b = true then t D σ H1 else u D σ H1) : tIfS c t u D σ H := h1 h2
theorem noTup {x dx w r lw lr : Addr} {tag : Int} {ways : List (Int × Int)} {es fs : List Rw} : ∀ e ∈ (lw, HO.dK (ways.map wyK)) :: (lr, HO.dK (fs.map rwK)) :: tabL a x dx w r tag ways es, ∀ xs, e.2 ≠ .tup xs := fun e he xs z => by
  rcases List.mem_cons.mp he with rfl | he
  · cases z
  rcases List.mem_cons.mp he with rfl | he
  · cases z
  rcases List.mem_cons.mp he with rfl | he
  · cases z
  rcases List.mem_cons.mp he with rfl | he
  · cases z
  rcases List.mem_cons.mp he with rfl | he
  · cases z
  obtain ⟨f, _, rfl⟩ := List.mem_map.mp he
  cases z
theorem I8.touch {B : Hp} {n : Nat} {ways : List (Int × Int)} {es fs es2 : List Rw} (i : I8 B n ways es fs) {v : Int} (h1 : RwOk B es2) (h2 : (es2.map (·.v)).Nodup) (h3 : vw es2 = touchV (vw es) v) : I8 B (n + 1) ways es2 fs := by
  have hlen : es2.length ≤ es.length + 1 := by
    have e := congrArg List.length h3
    unfold touchV vw at e
    rw [List.length_map] at e
    rw [e]
    by_cases h : ((es.map fun e => (e.v, e.rs)).any fun p => decide (p.1 = v)) = true
    · rw [if_pos h, List.length_map]
      omega
    · rw [if_neg h, List.length_append, List.length_map]
      exact Nat.le_refl _
  exact ⟨h1, i.lw, h2, i.fk, i.wk, i.al.touch h3, by have := i.ez; omega, by have := i.wz; omega, by have := i.fz; omega, i.ne⟩
theorem rows_mem {B H : Hp} {p0 p1 p2 p3 p4 p5 p6 : Addr × HO} {es : List Rw} (hs : Hs B (p0 :: p1 :: p2 :: p3 :: p4 :: p5 :: p6 :: es.map rwE) H) : ∀ e ∈ es, H e.at_ = some (.lst e.us) := fun e he =>
  hs.mem (List.mem_cons_of_mem _ (List.mem_cons_of_mem _ (List.mem_cons_of_mem _ (List.mem_cons_of_mem _ (List.mem_cons_of_mem _ (List.mem_cons_of_mem _ (List.mem_cons_of_mem _ (List.mem_map.mpr ⟨e, he, rfl⟩))))))))
theorem sum_len : ∀ l : List Rw, (l.map fun f => (f.us.length : Int)).sum = (rows l : Int)
  | [] => rfl
  | f :: l => by
    rw [List.map_cons, List.sum_cons, sum_len l]
    exact (Int.natCast_add _ _).symm
theorem sum_cnt {B : Hp} {n : Nat} {ways : List (Int × Int)} {es fs : List Rw} (i : I8 B n ways es fs) : (cnt ways es : Int) = ((ways.map wyK).length : Int) + (fs.map fun f => (f.us.length : Int)).sum := by
  rw [sum_len, List.length_map, ← i.cnt]
  exact Int.natCast_add _ _
theorem rows_le {fs : List Rw} {f : Rw} (h : f ∈ fs) : f.us.length ≤ rows fs := by
  induction fs with
  | nil => cases h
  | cons g fs ih =>
    show _ ≤ g.us.length + rows fs
    rcases List.mem_cons.mp h with rfl | h
    · omega
    · have := ih h
      omega
theorem thaw {B H : Hp} {p : Addr} {o : HO} {L : List (Addr × HO)} (hs : Hs (upd B p o) L H) (hp : B p = none) : Hs B ((p, o) :: L) H := by
  have nm : ∀ e ∈ L, e.1 ≠ p := fun e he z => by
    have := hs.out e he
    rw [z, upd_same] at this
    cases this
  refine ⟨fun b u e => ?_, ?_, fun e he => ?_, fun e he => ?_⟩
  · have n : b ≠ p := fun z => by
      rw [z, hp] at e
      cases e
    exact hs.same _ _ (by rw [upd_ne n]; exact e)
  · rw [List.map_cons, List.nodup_cons]
    refine ⟨fun z => ?_, hs.nd⟩
    obtain ⟨e, he, e2⟩ := List.mem_map.mp z
    exact nm e he e2
  · rcases List.mem_cons.mp he with rfl | he
    · exact hp
    · have := hs.out e he
      rw [upd_ne (nm e he)] at this
      exact this
  · rcases List.mem_cons.mp he with rfl | he
    · exact hs.same _ _ upd_same
    · exact hs.at_ e he
theorem w_tagged {B H : Hp} {Q : VK} {E : XK} {s c lw lr x dx w r : Addr} {m : Int} {cells : List Int} {tag : Int} {ways : List (Int × Int)} {es fs : List Rw} {n : Nat} (hs : Hs B (lawL a s c lw lr x dx w r m cells tag ways es fs) H) (g : Good m cells) (i : I8 B n ways es fs) (hn : n ≤ 1000)
    (k1 : ∀ B2 tag' t dw dr w2 r2 m' cells' H', Same B B2 → Hs B2 ((t, .tup [.ref dw, .ref dr, .int tag']) :: lawL a s c dw dr x dx w2 r2 m' cells' tag' [] (keepR es tag') (keepR fs tag')) H' → Good m' cells' → Q (.ref t) H')
    (k2 : ∀ tag' t m' cells' H', Hs B ((t, .tup [.ref lw, .ref lr, .int tag']) :: lawL a s c lw lr x dx w r m' cells' tag' ways es fs) H' → Good m' cells' → Q (.ref t) H') : sp__law_tagged a [.ref s, .ref x, .ref lw, .ref lr, .int tag] H Q E := by
  have h1 : Hs B ((lr, .dK (fs.map rwK)) :: (lw, .dK (ways.map wyK)) :: (s, sto c m) :: (c, clo cells) :: tabL a x dx w r tag ways es) H := hs.m2.m3
  have b1 := h1.out _ List.mem_cons_self
  obtain ⟨sm1, h2⟩ := h1.freeze
  have b2 := h2.out _ List.mem_cons_self
  obtain ⟨sm2, h3⟩ := h2.freeze
  have hlr := sm2 _ _ (upd_same (H := B) (a := lr) (o := HO.dK (fs.map rwK)))
  have sm := sm1.trans sm2
  refine ⟨_, s, c, m, cells, x, dx, w, r, lw, lr, tag, ways, es, fs, rfl, h3, g, hlr, i.lw.same sm, i.ek, i.fk, by have := i.ez; omega, i.len, fun tag' t dw dr w2 r2 m' cells' H' h4 g4 => ?_, fun tag' t m' cells' H' h4 g4 => ?_⟩
  · exact k1 _ tag' t dw dr w2 r2 m' cells' H' sm h4.m1.m2.m4.m4.m4 g4
  · have h5 := thaw (thaw h4 b2) b1
    exact k2 tag' t m' cells' H' (h5.m1.m4.m4.m4) g4
theorem frz_hs {B H : Hp} {p : Addr} {o : HO} {L : List (Addr × HO)} (hs : Hs B ((p, o) :: L) H) : ∃ B2, Same B B2 ∧ B2 p = some o ∧ Hs B2 L H := ⟨_, hs.freeze.1, upd_same, hs.freeze.2⟩
/-- behind the deed of a turn -/
def Mid (a : Ad) (x st tb dx : Addr) (n : Nat) (σ' : L2.St) (H' : Hp) : Prop := ∃ (B : Hp) (m : Int) (cells : List Int) (c w0 r0 lw lr : Addr) (tag : Int) (ways : List (Int × Int)) (es fs : List Rw) (v6 v7 v8 v9 v10 v11 v12 v13 v14 v15 v16 v17 : Option V),
  σ' = [some (.ref x), some (.ref st), some (.ref tb), some (.ref lw), some (.ref lr), some (.int tag), v6, v7, v8, v9, v10, v11, v12, v13, v14, v15, v16, v17] ∧ Hs B (lawL a st c lw lr tb dx w0 r0 m cells tag ways es fs) H' ∧ Good m cells ∧ I8 B n ways es fs
theorem ok_law (T : Txt K mg a) : FnOk P w K mg base CX0 5 a.law a.fd_law ["script"] (sp_law K) := by
  have G__law_state := ok__law_state (P := P) (w := w) (base := base) T
  have G__law_draw := ok__law_draw (P := P) (w := w) (base := base) T
  have G__law_pick := ok__law_pick (P := P) (w := w) (base := base) T
  have G__law_rule := ok__law_rule (P := P) (w := w) (base := base) T
  have G__law_fits := ok__law_fits (P := P) (w := w) (base := base) T
  have G__law_done := ok__law_done (P := P) (w := w) (base := base) T
  have G__law_does := ok__law_does (P := P) (w := w) (base := base) T
  have G__law_tagged := ok__law_tagged (P := P) (w := w) (base := base) T
  have G_fits := ok_fits (P := P) (w := w) (base := base) T
  have G_done := ok_done (P := P) (w := w) (base := base) T
  have G_Table_init := ok_Table_init (P := P) (w := w) (base := base) T
  have G_Table_add := ok_Table_add (P := P) (w := w) (base := base) T
  have G_Table_lay := ok_Table_lay (P := P) (w := w) (base := base) T
  have G_Table_unlay := ok_Table_unlay (P := P) (w := w) (base := base) T
  have G_Table_drop := ok_Table_drop (P := P) (w := w) (base := base) T
  have G_Table_wipe := ok_Table_wipe (P := P) (w := w) (base := base) T
  have G_Table_count := ok_Table_count (P := P) (w := w) (base := base) T
  have G_Table_does := ok_Table_does (P := P) (w := w) (base := base) T
  refine T.fn_law.ok sc_law (fun vs H Q E h => ?_) (fun cdv A outer s H vs Q E hr h => ?_)
  · obtain ⟨_, _, rfl, _⟩ := h
    rfl
  · obtain ⟨x, ns, rfl, hx, hl, k⟩ := h
    have hu := hu_of hr
    have c1 := T.cl_Table
    have n1 := T.na_Table_ways
    have n2 := T.na_Table_rules
    have n3 := T.na_Table_tag
    refine ⟨_, (pss_cons (ps_set (i := 1) sc_law.nd rfl (Or.inl rfl) (pe_call G__law_state (hr.mono (by decide)) rfl T.mg__law_state T.kp__law_state T.bi__law_state .nil pass0 (pa_cons (pv 0) pa_nil)))
  (pss_cons (ps_set (i := 2) sc_law.nd rfl (Or.inr rfl) (pe_make0 T.mk_Table G_Table_init (hr.mono (by decide)) rfl T.mg_Table T.bi_Table_init .nil pass0))
  (pss_cons (ps_asg (pe_tup (pa_cons pe_dnewK (pa_cons pe_dnewK (pa_cons pe_int pa_nil)))) (pg_tupK (K := K) rfl (pgs_cons (pg_name (i := 3) sc_law.nd rfl (Or.inl rfl)) (pgs_cons (pg_name (i := 4) sc_law.nd rfl (Or.inr rfl)) (pgs_cons (pg_name (i := 5) sc_law.nd rfl (Or.inl rfl)) pgs_nil)))))
  (C8.pss_cut (ps_if (pt_cmpR op_eq (pe_call G__law_draw (hr.mono (by decide)) rfl T.mg__law_draw T.kp__law_draw T.bi__law_draw .nil pass0 (pa_cons (pv 1) (pa_cons pe_int pa_nil))) pe_int (nomark _))
  (pss_cons (ps_for PassesOwn.never rfl (pi_range1 rfl T.mg_range (pa_cons pe_int pa_nil)) (pg_name (i := 6) sc_law.nd rfl (Or.inl rfl))
  (pss_one (ps_expr (pe_meth (pv 2) T.cl_Table T.me_Table_add G_Table_add (hr.mono (by decide)) T.bi_Table_add .nil pass0 (pa_cons pe_int (pa_cons (pe_tup (pa_cons pe_non (pa_cons pe_non (pa_cons pe_non (pa_cons pe_non pa_nil))))) (pa_cons (pe_lst pa_nil) pa_nil)))))))
  (pss_one (ps_dput hu (pv 4) pe_int (pe_op op_rep (pe_lst (pa_cons (pe_tup (pa_cons (pe_tup (pa_cons pe_non (pa_cons pe_non (pa_cons pe_non (pa_cons pe_non pa_nil))))) (pa_cons (pe_lst pa_nil) pa_nil))) pa_nil)) pe_int) rfl)))
  pss_nil)
  (pss_cons (ps_for PassesOwn.never rfl (pi_range1 rfl T.mg_range (pa_cons (pe_call G__law_draw (hr.mono (by decide)) rfl T.mg__law_draw T.kp__law_draw T.bi__law_draw .nil pass0 (pa_cons (pv 1) (pa_cons pe_int pa_nil))) pa_nil)) (pg_name (i := 6) sc_law.nd rfl (Or.inl rfl))
  (pss_cons (ps_set (i := 7) sc_law.nd rfl (Or.inl rfl) (pe_call G__law_draw (hr.mono (by decide)) rfl T.mg__law_draw T.kp__law_draw T.bi__law_draw .nil pass0 (pa_cons (pv 1) (pa_cons pe_int pa_nil))))
  (pss_cons (ps_set (i := 8) sc_law.nd rfl (Or.inl rfl) (pe_cmpR op_lt (pe_op op_add (pe_callB call_lenD (by rfl) T.mg_len PySem.boot_len (pa_cons (pv 3) pa_nil)) (pe_callB (cr_sumK (K := K) rfl) (by rfl) T.mg_sum (by decide +kernel) (pa_cons (pe_lock (pe_lc (own := [("version", 9)]) (g := (gName 9)) (tt := tYes) rfl sc_law.nd (pi_keys (pv 4)) (blkOk_by (own := [("version", 9)]) (N := N_law) (sc := defScope s_law) (by decide +kernel)) (fun _ _ _ _ _ => by exact (pg_name (i := 9) sc_law.nd rfl (Or.inl rfl))) (fun _ _ _ _ _ => pts_nil) (fun _ _ _ _ _ => by exact (pe_callB (call_lenK (K := K)) (by rfl) T.mg_len PySem.boot_len (pa_cons (pe_dget hu (pv 4) (pv 9) (fun _ _ => rfl)) pa_nil))))) pa_nil))) pe_int (nomark _)))
  (C8.pss_cut (ps_if (pt_cmpR op_lt (pv 7) pe_int (nomark _))
  (pss_cons (ps_set (i := 9) sc_law.nd rfl (Or.inl rfl) (pe_op op_add pe_int (pe_call G__law_draw (hr.mono (by decide)) rfl T.mg__law_draw T.kp__law_draw T.bi__law_draw .nil pass0 (pa_cons (pv 1) (pa_cons pe_int pa_nil)))))
  (pss_cons (ps_asg (pe_call G__law_rule (hr.mono (by decide)) rfl T.mg__law_rule T.kp__law_rule T.bi__law_rule .nil pass0 (pa_cons (pv 1) pa_nil)) (pg_tupK (K := K) rfl (pgs_cons (pg_name (i := 10) sc_law.nd rfl (Or.inl rfl)) (pgs_cons (pg_name (i := 11) sc_law.nd rfl (Or.inl rfl)) pgs_nil))))
  (pss_cons (ps_if (pt_cmpR op_ne (pe_meth (pv 2) T.cl_Table T.me_Table_add G_Table_add (hr.mono (by decide)) T.bi_Table_add .nil pass0 (pa_cons (pv 9) (pa_cons (pv 10) (pa_cons (pv 11) pa_nil)))) (pv 8) (nomark _))
  (pss_one (ps_ret pe_bl))
  pss_nil)
  (pss_one (ps_if (pt_val (pv 8))
  (pss_one (ps_dput hu (pv 4) (pv 9) (pe_op op_cat (pe_dget2 hu (pv 4) (pv 9) (pe_lst pa_nil) ⟨rfl, rfl, rfl, rfl⟩) (pe_lst (pa_cons (pe_tup (pa_cons (pv 10) (pa_cons (pv 11) pa_nil))) pa_nil))) rfl))
  pss_nil)))))
  (pss_one (ps_if (pt_cmpR op_lt (pv 7) pe_int (nomark _))
  (pss_cons (ps_par (i := 12) (j := 13) rfl sc_law.nd rfl rfl (by decide) rfl rfl (pa_cons (pe_call G__law_draw (hr.mono (by decide)) rfl T.mg__law_draw T.kp__law_draw T.bi__law_draw .nil pass0 (pa_cons (pv 1) (pa_cons pe_int pa_nil))) (pa_cons (pe_call G__law_draw (hr.mono (by decide)) rfl T.mg__law_draw T.kp__law_draw T.bi__law_draw .nil pass0 (pa_cons (pv 1) (pa_cons pe_int pa_nil))) pa_nil)) (by rfl))
  (pss_cons (ps_set (i := 14) sc_law.nd rfl (Or.inl rfl) (pe_or (pv 8) (pe_one (pe_cmp (pc_din hu (pv 12) (pv 3)) rfl))))
  (pss_cons (ps_if (pt_cmpR op_ne (pe_meth (pv 2) T.cl_Table T.me_Table_lay G_Table_lay (hr.mono (by decide)) T.bi_Table_lay .nil pass0 (pa_cons (pv 12) (pa_cons (pv 13) pa_nil))) (pv 14) (nomark _))
  (pss_one (ps_ret pe_bl))
  pss_nil)
  (pss_one (ps_if (pt_val (pv 14))
  (pss_one (ps_dput hu (pv 3) (pv 12) (pv 13) rfl))
  pss_nil)))))
  (pss_one (ps_if (pt_cmpR op_eq (pv 7) pe_int (nomark _))
  (pss_cons (ps_set (i := 12) sc_law.nd rfl (Or.inl rfl) (pe_call G__law_draw (hr.mono (by decide)) rfl T.mg__law_draw T.kp__law_draw T.bi__law_draw .nil pass0 (pa_cons (pv 1) (pa_cons pe_int pa_nil))))
  (pss_cons (ps_expr (pe_meth (pv 2) T.cl_Table T.me_Table_unlay G_Table_unlay (hr.mono (by decide)) T.bi_Table_unlay .nil pass0 (pa_cons (pv 12) pa_nil)))
  (pss_one (ps_expr (pe_dpop2 (pv 3) (pv 12) pe_non ⟨rfl, rfl, rfl, rfl⟩)))))
  (pss_one (ps_if (pt_cmpR op_eq (pv 7) pe_int (nomark _))
  (pss_cons (ps_set (i := 9) sc_law.nd rfl (Or.inl rfl) (pe_call G__law_pick (hr.mono (by decide)) rfl T.mg__law_pick T.kp__law_pick T.bi__law_pick .nil pass0 (pa_cons (pv 1) (pa_cons (pe_lst (pa_cons pe_int (pa_cons pe_int (pa_cons pe_int (pa_cons pe_int pa_nil))))) pa_nil))))
  (pss_cons (ps_expr (pe_meth (pv 2) T.cl_Table T.me_Table_drop G_Table_drop (hr.mono (by decide)) T.bi_Table_drop .nil pass0 (pa_cons (pv 9) pa_nil)))
  (pss_one (ps_expr (pe_dpop2 (pv 4) (pv 9) pe_non ⟨rfl, rfl, rfl, rfl⟩)))))
  (pss_one (ps_if (PW.pt (pw_and (pt_cmpR op_eq (pv 7) pe_int (nomark _)) (pw_and1 (pt_cmpR op_eq (pe_call G__law_draw (hr.mono (by decide)) rfl T.mg__law_draw T.kp__law_draw T.bi__law_draw .nil pass0 (pa_cons (pv 1) (pa_cons pe_int pa_nil))) pe_int (nomark _)))))
  (pss_cons (ps_expr (pe_meth0 (pv 2) T.cl_Table T.me_Table_wipe G_Table_wipe (hr.mono (by decide)) T.bi_Table_wipe .nil pass0))
  (pss_one (ps_asg (pe_tup (pa_cons pe_dnewK (pa_cons pe_dnewK (pa_cons pe_int pa_nil)))) (pg_tupK (K := K) rfl (pgs_cons (pg_name (i := 3) sc_law.nd rfl (Or.inl rfl)) (pgs_cons (pg_name (i := 4) sc_law.nd rfl (Or.inr rfl)) (pgs_cons (pg_name (i := 5) sc_law.nd rfl (Or.inl rfl)) pgs_nil)))))))
  (pss_one (ps_if (pt_cmpR op_eq (pv 7) pe_int (nomark _))
  (pss_cons (ps_set (i := 15) sc_law.nd rfl (Or.inl rfl) (pe_call G__law_tagged (hr.mono (by decide)) rfl T.mg__law_tagged T.kp__law_tagged T.bi__law_tagged .nil pass0 (pa_cons (pv 1) (pa_cons (pv 2) (pa_cons (pv 3) (pa_cons (pv 4) (pa_cons (pv 5) pa_nil)))))))
  (pss_cons (ps_if (pt_cmpR op_isNQ (pv 15) pe_non (nomark _))
  (pss_one (ps_ret pe_bl))
  pss_nil)
  (pss_one (ps_asg (pv 15) (pg_tupK (K := K) rfl (pgs_cons (pg_name (i := 3) sc_law.nd rfl (Or.inl rfl)) (pgs_cons (pg_name (i := 4) sc_law.nd rfl (Or.inr rfl)) (pgs_cons (pg_name (i := 5) sc_law.nd rfl (Or.inl rfl)) pgs_nil))))))))
  (pss_cons (ps_par (i := 13) (j := 16) rfl sc_law.nd rfl rfl (by decide) rfl rfl (pa_cons (pe_call G__law_draw (hr.mono (by decide)) rfl T.mg__law_draw T.kp__law_draw T.bi__law_draw .nil pass0 (pa_cons (pv 1) (pa_cons pe_int pa_nil))) (pa_cons (pe_tup (pa_cons (pe_call G__law_draw (hr.mono (by decide)) rfl T.mg__law_draw T.kp__law_draw T.bi__law_draw .nil pass0 (pa_cons (pv 1) (pa_cons pe_int pa_nil))) (pa_cons (pe_call G__law_draw (hr.mono (by decide)) rfl T.mg__law_draw T.kp__law_draw T.bi__law_draw .nil pass0 (pa_cons (pv 1) (pa_cons pe_int pa_nil))) (pa_cons (pe_call G__law_draw (hr.mono (by decide)) rfl T.mg__law_draw T.kp__law_draw T.bi__law_draw .nil pass0 (pa_cons (pv 1) (pa_cons pe_int pa_nil))) pa_nil)))) pa_nil)) (by rfl))
  (pss_cons (ps_set (i := 9) sc_law.nd rfl (Or.inl rfl) (pe_op op_add pe_int (pe_call G__law_draw (hr.mono (by decide)) rfl T.mg__law_draw T.kp__law_draw T.bi__law_draw .nil pass0 (pa_cons (pv 1) (pa_cons pe_int pa_nil)))))
  (pss_cons (ps_set (i := 15) sc_law.nd rfl (Or.inl rfl) (pe_meth (pv 2) T.cl_Table T.me_Table_does G_Table_does (hr.mono (by decide)) T.bi_Table_does .nil pass0 (pa_cons (pv 9) (pa_cons (pv 13) (pa_cons (pv 16) pa_nil)))))
  (pss_cons (ps_if (pt_cmpR (op_neDK (K := K) hr.units) (pv 15) (pe_call G__law_does (hr.mono (by decide)) rfl T.mg__law_does T.kp__law_does T.bi__law_does .nil pass0 (pa_cons (pv 4) (pa_cons (pv 9) (pa_cons (pv 13) (pa_cons (pv 16) pa_nil))))) (nomark _))
  (pss_one (ps_ret pe_bl))
  pss_nil)
  (pss_cons (ps_expr (pe_bmK (K := K) PySem.F.plainAttrs_list PySem.F.slot_list_append PySem.F.type_list_append mt_append (pv 15) (pa_cons pe_int pa_nil)))
  (pss_cons (ps_asg (pe_call G__law_rule (hr.mono (by decide)) rfl T.mg__law_rule T.kp__law_rule T.bi__law_rule .nil pass0 (pa_cons (pv 1) pa_nil)) (pg_tupK (K := K) rfl (pgs_cons (pg_name (i := 10) sc_law.nd rfl (Or.inl rfl)) (pgs_cons (pg_name (i := 11) sc_law.nd rfl (Or.inl rfl)) pgs_nil))))
  (pss_one (ps_if (PW.pt (pw_or (pt_cmpR op_ne (pe_call G_fits (hr.mono (by decide)) rfl T.mg_fits T.kp_fits T.bi_fits .nil pass0 (pa_cons (pv 10) (pa_cons (pv 13) (pa_cons (pv 16) pa_nil)))) (pe_call G__law_fits (hr.mono (by decide)) rfl T.mg__law_fits T.kp__law_fits T.bi__law_fits .nil pass0 (pa_cons (pv 10) (pa_cons (pe_op (op_catTK (K := K)) (pe_tup (pa_cons (pv 13) pa_nil)) (pv 16)) pa_nil))) (nomark _)) (pw_or1 (pt_cmpR (op_neDK (K := K) hr.units) (pe_call G_done (hr.mono (by decide)) rfl T.mg_done T.kp_done T.bi_done .nil pass0 (pa_cons (pv 11) (pa_cons (pv 16) pa_nil))) (pe_call G__law_done (hr.mono (by decide)) rfl T.mg__law_done T.kp__law_done T.bi__law_done .nil pass0 (pa_cons (pv 11) (pa_cons (pv 16) pa_nil))) (nomark _)))))
  (pss_one (ps_ret pe_bl))
  pss_nil)))))))))))))))))))
  (pss_cons (ps_lock (ps_setLc (i := 17) (own := [("version", 9)]) (g := (gName 9)) rfl sc_law.nd rfl rfl (sw_true rfl rfl rfl (by decide +kernel)) (pi_keys (pe_fldK (K := K) (pv 2))) (blkOk_by (own := [("version", 9)]) (N := N_law) (sc := defScope s_law) (by decide +kernel)) (fun _ _ _ _ _ => by exact (pg_name (i := 9) sc_law.nd rfl (Or.inl rfl))) (fun _ _ _ _ _ => by exact pts_one (pt_cmpR (op_neDK (K := K) hr.units) (pe_dget hu (pe_fldK (K := K) (pv 2)) (pv 9) (fun _ _ => rfl)) (pe_lst pa_nil) (nomark _))) (fun _ _ _ _ _ => by exact (pv 9))))
  (pss_cons (ps_if (PW.pt (pw_or (pt_cmpR (op_ne_dictA (r0 hr)) (pe_fldK (K := K) (pv 2)) (pv 3) (nomark _)) (pw_or (pt_cmpR op_ne (pe_fldK (K := K) (pv 2)) (pv 5) (nomark _)) (pw_or1 (pt_cmpR (op_neDK (K := K) hr.units) (pe_callB (cr_sortedIK (K := K)) (by rfl) T.mg_sorted (by decide +kernel) (pa_cons (pv 17) pa_nil)) (pe_callB (cr_sortedIK (K := K)) (by rfl) T.mg_sorted (by decide +kernel) (pa_cons (pe_lock (pe_lc (own := [("version", 9)]) (g := (gName 9)) rfl sc_law.nd (pi_keys (pv 4)) (blkOk_by (own := [("version", 9)]) (N := N_law) (sc := defScope s_law) (by decide +kernel)) (fun _ _ _ _ _ => by exact (pg_name (i := 9) sc_law.nd rfl (Or.inl rfl))) (fun _ _ _ _ _ => by exact pts_one (pt_cmpR (op_neDK (K := K) hr.units) (pe_dget hu (pv 4) (pv 9) (fun _ _ => rfl)) (pe_lst pa_nil) (nomark _))) (fun _ _ _ _ _ => by exact (pv 9)))) pa_nil)) (nomark _))))))
  (pss_one (ps_ret pe_bl))
  pss_nil)
  (pss_cons (ps_if (pt_cmpR op_gt (pe_callB (call_lenK (K := K)) (by rfl) T.mg_len PySem.boot_len (pa_cons (pe_lc (own := [("version", 9)]) (g := (gName 9)) rfl sc_law.nd (pi_listK (K := K) (pv 17)) (blkOk_by (own := [("version", 9)]) (N := N_law) (sc := defScope s_law) (by decide +kernel)) (fun _ _ _ _ _ => by exact (pg_name (i := 9) sc_law.nd rfl (Or.inl rfl))) (fun _ _ _ _ _ => by exact pts_one (pt_cmpR (op_neDK (K := K) hr.units) (pe_dget hu (pe_fldK (K := K) (pv 2)) (pv 9) (fun _ _ => rfl)) (pe_dget hu (pv 4) (pv 9) (fun _ _ => rfl)) (nomark _))) (fun _ _ _ _ _ => by exact (pv 9))) pa_nil)) pe_int (nomark _))
  (pss_one (ps_ret pe_bl))
  pss_nil)
  (pss_one (ps_if (pt_cmpR op_ne (pe_meth0 (pv 2) T.cl_Table T.me_Table_count G_Table_count (hr.mono (by decide)) T.bi_Table_count .nil pass0) (pe_op op_add (pe_callB call_lenD (by rfl) T.mg_len PySem.boot_len (pa_cons (pv 3) pa_nil)) (pe_callB (cr_sumK (K := K) rfl) (by rfl) T.mg_sum (by decide +kernel) (pa_cons (pe_lock (pe_lc (own := [("version", 9)]) (g := (gName 9)) (tt := tYes) rfl sc_law.nd (pi_keys (pv 4)) (blkOk_by (own := [("version", 9)]) (N := N_law) (sc := defScope s_law) (by decide +kernel)) (fun _ _ _ _ _ => by exact (pg_name (i := 9) sc_law.nd rfl (Or.inl rfl))) (fun _ _ _ _ _ => pts_nil) (fun _ _ _ _ _ => by exact (pe_callB (call_lenK (K := K)) (by rfl) T.mg_len PySem.boot_len (pa_cons (pe_dget hu (pv 4) (pv 9) (fun _ _ => rfl)) pa_nil))))) pa_nil))) (nomark _))
  (pss_one (ps_ret pe_bl))
  pss_nil)))))))))
  (pss_one (ps_ret pe_bl))))))), ?_⟩
    walk_at "ss"
    refine ⟨x, ns, rfl, hx, by omega, fun st c m cells H1 hs1 g => ?_⟩
    walk_at "ss"
    refine w_mkr hs1 fun tb dx H2 hs2 => ?_
    clear hs1
    obtain ⟨B1, _, h1, back⟩ := hs2.frame1
    refine ⟨B1, tb, dx, rfl, h1, fun w0 r0 H3 hs3 => ?_⟩
    have hs4 := back _ _ hs3
    clear hs2 h1 back hs3
    refine ⟨rfl, ?_⟩
    walk_at "ss"
    rename_i lw Ha hsa lr Hb hsb tp Hc hsc
    have hs6 : Hs H (lawL a st c lw lr tb dx w0 r0 m cells 0 [] [] []) Hc := hsc.sel [6, 7, 2, 1, 3, 4, 5]
    clear hs4 hsa hsb hsc
    refine w_cut (fun σ' H' => ∃ (B : Hp) (m : Int) (cells : List Int) (es fs : List Rw) (v6 : Option V), σ' = [some (.ref x), some (.ref st), some (.ref tb), some (.ref lw), some (.ref lr), some (.int 0), v6, none, none, none, none, none, none, none, none, none, none, none] ∧ Hs B (lawL a st c lw lr tb dx w0 r0 m cells 0 [] es fs) H' ∧ Good m cells ∧ I8 B 1 [] es fs) ?_ ?_
    · walk_at "ss"
      refine w_draw hs6 g (by omega) fun d m2 c2 H2 hs7 g2 _ _ => ?_
      clear hs6 g
      walk_at "ss"
      refine ifd (fun hd => ?_) (fun hd => ?_)
      · walk_at "ss"
        -- the table is filled
        refine w_forR (n := 63) (by decide) (fun i σ' H' => ∃ (B : Hp) (es : List Rw) (v6 : Option V), σ' = [some (.ref x), some (.ref st), some (.ref tb), some (.ref lw), some (.ref lr), some (.int 0), v6, none, none, none, none, none, none, none, none, none, none, none] ∧ Hs B (lawL a st c lw lr tb dx w0 r0 m2 c2 0 [] es []) H' ∧ RwOk B es ∧ (es.map (·.v)).Nodup ∧
          ((i = 0 ∧ es = []) ∨ vw es = [(9, List.replicate i ([none, none, none, none], []))]))
          (fun Q q => ?_) (by decide) ⟨H, [], none, rfl, hs7, (fun _ z => nomatch z), List.nodup_nil, .inl ⟨rfl, rfl⟩⟩ ?_ ?_
        · walk_at "ss"
          exact q
        · clear hs7
          rintro i σ' H4 hi ⟨B, es, v6, rfl, hs8, hok, hnd, hes⟩
          walk_at "ss"
          rename_i tm H5 hs9 lo H6 hs10
          obtain ⟨sm1, hs11⟩ := hs10.freeze
          obtain ⟨sm2, hs12⟩ := hs11.freeze
          have hlo : upd (upd B lo (.lst [])) tm (.tup [V.non, V.non, V.non, V.non]) lo = some (.lst []) := sm2 _ _ upd_same
          have htm : upd (upd B lo (.lst [])) tm (.tup [V.non, V.non, V.non, V.non]) tm = some (.tup [V.non, V.non, V.non, V.non]) := upd_same
          have sm3 := sm1.trans sm2
          generalize upd (upd B lo (.lst [])) tm (.tup [V.non, V.non, V.non, V.non]) = B3 at hs12 hlo htm sm3
          have hok3 := hok.same sm3
          have hz : es.length ≤ 900 := by
            rcases hes with ⟨_, rfl⟩ | h
            · exact Nat.zero_le _
            · have := congrArg List.length h
              unfold vw at this
              rw [List.length_map] at this
              rw [this]
              show 1 ≤ 900
              decide
          have hc : cnt [] es = i := by
            unfold cnt
            rw [rows_R fun e he => (hok3 e he).1]
            rcases hes with ⟨rfl, rfl⟩ | h
            · rfl
            · have e : rowsR es = ((vw es).map fun p => p.2.length).sum := by
                unfold rowsR vw
                rw [List.map_map]
                rfl
              rw [e, h]
              simp
          refine w_add hs12 hok3 hnd hz (m := [none, none, none, none]) (outs := []) htm hlo ⟨rfl, fun _ _ _ z => nomatch z⟩ ⟨rfl, (fun _ z => nomatch z), Nat.zero_le _⟩ (fun h => ?_) (fun _ B4 es2 H7 sm4 hs13 hok4 hnd4 hv => ?_)
          · rw [hc] at h
            omega
          · walk_at "ss"
            refine ⟨B4, es2, _, rfl, hs13, hok4, hnd4, .inr ?_⟩
            rw [hv]
            rcases hes with ⟨rfl, rfl⟩ | h
            · rfl
            · rw [h]
              unfold addV touchV
              rw [if_pos (by simp), List.map_cons, List.map_nil, if_pos rfl]
              rw [List.replicate_succ' (n := i)]
        · clear hs7
          rintro σ' H4 ⟨B, es, v6, rfl, hs8, hok, hnd, hes⟩
          walk_at "ss"
          rename_i tm H5 _ lo H6 _ t H7 _ p H8 hs9
          refine ⟨p, 63, _, rfl, rfl, hs9.g0, by decide, by decide, sz (show 1 * 63 ≤ 1000000 by decide), fun q hq0 => ?_⟩
          have hs10 := hs9.new (o := .lst (List.replicate (Int.toNat 63) [V.ref t]).flatten) hq0
          walk_at "ss"
          rename_i H10 hs11
          obtain ⟨B1, sm1, hq, hs12⟩ := frz_hs hs11
          obtain ⟨B2, sm2, ht, hs13⟩ := frz_hs hs12.tl
          obtain ⟨B3, sm3, hlo, hs14⟩ := frz_hs hs13
          obtain ⟨B4, sm4, htm, hs15⟩ := frz_hs hs14
          have sm := sm1.trans (sm2.trans (sm3.trans sm4))
          have hq4 := (sm2.trans (sm3.trans sm4)) _ _ hq
          have ht4 := (sm3.trans sm4) _ _ ht
          have hlo4 := sm4 _ _ hlo
          have ev : vw es = [(9, List.replicate 63 ([none, none, none, none], []))] := by
            rcases hes with ⟨h, _⟩ | h
            · cases h
            · exact h
          have e63 : (List.replicate (Int.toNat 63) [V.ref t]).flatten = List.replicate 63 (V.ref t) := rfl
          rw [e63] at hq4
          have rp : ∀ {α : Type} {n j : Nat} {y z : α}, (List.replicate n y)[j]? = some z → z = y := fun {α n j y z} h => by
            rw [List.getElem?_replicate] at h
            split at h
            · exact (Option.some.inj h).symm
            · cases h
          refine ⟨B4, m2, c2, es, [⟨9, q, List.replicate 63 (V.ref t), List.replicate 63 ([none, none, none, none], [])⟩], _, rfl, hs15, g2, ⟨hok.same sm, ?_, hnd, (by simp), List.nodup_nil, ?_, ?_, Nat.zero_le _, Nat.le_refl _, ?_⟩⟩
          · intro f hf
            rw [List.mem_singleton.mp hf]
            refine ⟨hq4, ⟨rfl, fun j u r h1 h2 => ?_⟩, fun r hr => ?_⟩
            · rw [rp h1, rp h2]
              exact ⟨t, tm, lo, [], rfl, ht4, htm, hlo4, rfl, fun _ _ _ z => nomatch z⟩
            · rw [List.eq_of_mem_replicate hr]
              exact ⟨rfl, (fun _ z => nomatch z), Nat.zero_le _⟩
          · intro v
            rw [rulesOf_getV, rulesOf_getV, ev]
            rfl
          · have := congrArg List.length ev
            unfold vw at this
            rw [List.length_map] at this
            rw [this]
            exact Nat.le_refl _
          · intro f hf
            rw [List.mem_singleton.mp hf]
            exact List.cons_ne_nil _ _
      · walk_at "ss"
        exact ⟨H, m2, c2, [], [], none, rfl, hs7, g2, I8.nil⟩
    · rintro σ' H2 ⟨B, m2, c2, es, fs, v6, rfl, hs7, g2, inv⟩
      clear hs6 g
      walk_at "ss"
      refine w_for1 ?_
      walk_at "ss"
      refine w_draw hs7 g2 (by omega) fun d m3 c3 H3 hs8 g3 _ hd => ?_
      obtain ⟨d0, d1⟩ := hd (by omega)
      clear hs7 g2
      refine w_forR (n := d) (by omega) (fun i => Mid a x st tb dx (i + 1))
        (fun Q q => q) (by omega) ⟨B, m3, c3, c, w0, r0, lw, lr, 0, [], es, fs, v6, none, none, none, none, none, none, none, none, none, none, none, rfl, hs8, g3, inv⟩ ?_ ?_
      · clear hs8 g3 inv
        clear w0 r0 lw lr c
        rintro i σ' H4 hi ⟨B, m, cells, c, w0, r0, lw, lr, tag, ways, es, fs, v6, v7, v8, v9, v10, v11, v12, v13, v14, v15, v16, v17, rfl, hs1, g1, inv⟩
        have ez := inv.ez
        have wz := inv.wz
        walk_at "ss"
        refine w_draw hs1 g1 (by omega) fun kind m2 c2 H5 hs2 g2 _ hk => ?_
        clear hs1 g1
        walk_at "ss"
        refine ⟨lw, _, rfl, hs2.g2, ?_⟩
        walk_at "ss"
        have hi51 : (i : Int) < 51 := by omega
        have fz := inv.fz
        refine w_lens hs2 inv.lw inv.fk (by omega) (fun _ => rfl) (fun _ => rfl) rfl (fun _ => rfl) fun D H6 hs3 => ?_
        walk_at "ss"
        refine ⟨D, _, rfl, SqL.of hs3.g0, ?_⟩
        walk_at "ss"
        have hs4 := hs3.tl
        clear hs2 hs3
        refine w_cut (Mid a x st tb dx (i + 2)) ?_ ?_
        · have hroom : decide (((ways.map wyK).length : Int) + (fs.map fun f => (f.us.length : Int)).sum < 64) = decide (cnt ways es < 64) := by
            rw [← sum_cnt inv]
            exact decide_eq_decide.mpr (by omega)
          rw [hroom]
          clear hroom
          walk_at "ss"
          refine ifd (fun h4 => ?_) (fun h4 => ?_)
          · -- add
            walk_at "ss"
            refine w_draw hs4 g2 (by omega) fun dv m3 c3 H7 hs5 g3 _ hdv => ?_
            clear hs4 g2
            walk_at "ss"
            refine w_rule hs5 g3 noTup fun B2 t tm lo ma outs os m4 c4 H8 sm hs6 g4 ht htm hlo hro wf => ?_
            clear hs5 g3
            have inv2 := inv.up sm (Nat.le_refl _)
            walk_at "ss"
            refine w_add hs6 inv2.ok inv2.ek (by omega) htm hlo hro wf (fun hc es2 H9 hs7 hok hnd hv => ?_) (fun hc B3 es2 H9 sm3 hs7 hok hnd hv => ?_)
            · have e : decide (cnt ways es < 64) = false := decide_eq_false (by omega)
              rw [e]
              clear hs6
              walk_at "ss"
              refine ifn (fun z => absurd rfl z) (fun _ => ?_)
              walk_at "ss"
              exact ⟨B2, m4, c4, c, w0, r0, lw, lr, tag, ways, es2, fs, _, _, _, _, _, _, _, _, _, _, _, _, rfl, hs7, g4, inv2.touch hok hnd hv⟩
            · have e : decide (cnt ways es < 64) = true := decide_eq_true hc
              rw [e]
              clear hs6
              walk_at "ss"
              refine ifn (fun z => absurd rfl z) (fun _ => ?_)
              walk_at "ss"
              refine w_dget2 ?_
              walk_at "ss"
              rename_i l0 H10 hs8
              refine w_dg2 hs8.g4 ?_
              rw [valR_find]
              have hrf : ∀ f ∈ fs, f.us.length ≤ 64 := fun f hf => by
                have h1 := rows_le hf
                have h2 := inv.cnt
                have h3 : rows es ≤ cnt ways es := Nat.le_add_left _ _
                omega
              have hlw3 := inv2.lw.same sm3
              have ends : ∀ (us0 : List V) (l2 p t2 l3 : Addr) (HF : Hp) (v6 v7 v8 v9 v10 v11 v12 v13 v14 v15 v16 v17 : Option V), Row (RlAt B3) us0 (rulesOf fs (1 + dv)) →
                  Hs B3 ((l2, .lst (us0 ++ [.ref t2])) :: (p, .lst [.ref t2]) :: (t2, .tup [.ref tm, .ref lo]) :: (l3, .lst []) :: (st, sto c m4) :: (c, clo c4) :: (lw, .dK (ways.map wyK)) :: (lr, .dK (putK (fs.map rwK) (Sum.inl (1 + dv)) (.ref l2))) :: tabL a tb dx w0 r0 tag ways es2) HF →
                  Mid a x st tb dx (i + 2) [some (.ref x), some (.ref st), some (.ref tb), some (.ref lw), some (.ref lr), some (.int tag), v6, v7, v8, v9, v10, v11, v12, v13, v14, v15, v16, v17] HF := fun us0 l2 p t2 l3 HF v6 v7 v8 v9 v10 v11 v12 v13 v14 v15 v16 v17 hro0 hsE => by
                obtain ⟨B4, sm4, hl2, hsF⟩ := frz_hs hsE
                obtain ⟨B5, sm5, ht2, hsG⟩ := frz_hs hsF.tl
                have hsI := hsG.tl
                have sm45 := sm4.trans sm5
                rw [putR_map (fs := fs) (v := 1 + dv) (l := l2) (us := us0 ++ [.ref t2]) (rs := rulesOf fs (1 + dv) ++ [(ma, outs)])] at hsI
                have sm35 := sm3.trans sm45
                exact ⟨B5, m4, c4, c, w0, r0, lw, lr, tag, ways, es2, _, _, _, _, _, _, _, _, _, _, _, _, _, rfl, hsI, g4,
                  inv2.add sm35 (hok.same sm45) hnd hv (sm5 _ _ hl2) ((hro0.mono fun _ _ => RlAt.same sm45).snoc ⟨t2, tm, lo, os, rfl, ht2, sm35 _ _ htm, sm35 _ _ hlo, hro.mono fun _ _ => OutAt.same sm35⟩) wf⟩
              cases hf : findR fs (1 + dv) with
              | none =>
                have er : rulesOf fs (1 + dv) = [] := by
                  unfold rulesOf
                  rw [hf]
                show tLst _ _ _ fun y H2 => rCat (.ref l0) y H2 _
                have hz9 : (fs.map rwK).length < sizeLine := szl (by rw [List.length_map]; omega)
                walk_at "ss"
                exact ends [] _ _ _ _ _ _ _ _ _ _ _ _ _ _ _ _ _ (by rw [er]; exact ⟨rfl, fun _ _ _ z => nomatch z⟩) (by assumption)
              | some f =>
                obtain ⟨hfm, hfv⟩ := findR_mem hf
                have er : rulesOf fs (1 + dv) = f.rs := by
                  unfold rulesOf
                  rw [hf]
                have hfl := hrf f hfm
                have hfB := (hlw3 f hfm).1
                have hz9 : (fs.map rwK).length < sizeLine := szl (by rw [List.length_map]; omega)
                show tLst _ _ _ fun y H2 => rCat (.ref f.at_) y H2 _
                walk_at "ss"
                exact ends f.us _ _ _ _ _ _ _ _ _ _ _ _ _ _ _ _ _ (by rw [er]; exact (hlw3 f hfm).2.1) (by assumption)
          walk_at "ss"
          refine ifd (fun h6 => ?_) (fun h6 => ?_)
          · -- lay
            walk_at "ss"
            refine w_draw hs4 g2 (by omega) fun to m3 c3 H7 hs5 g3 _ _ => ?_
            clear hs4 g2
            walk_at "ss"
            refine w_draw hs5 g3 (by omega) fun port m4 c4 H8 hs6 g4 _ _ => ?_
            clear hs5 g3
            walk_at "ss"
            by_cases hc : cnt ways es < 64
            · rw [decide_eq_true hc]
              walk_at "ss"
              refine w_lay hs6 (by omega) (by omega) (fun _ h => absurd hc (by omega)) fun _ H9 hs7 => ?_
              clear hs6
              have hz9 : (ways.map wyK).length < sizeLine := szl (by rw [List.length_map]; omega)
              walk_at "ss"
              refine ifn (fun z => absurd rfl z) (fun _ => ?_)
              walk_at "ss"
              rename_i hsZ
              rw [putW_map] at hsZ
              exact ⟨B, m4, c4, c, w0, r0, lw, lr, tag, _, es, fs, _, _, _, _, _, _, _, _, _, _, _, _, rfl, hsZ, g4, inv.lay to port⟩
            · rw [decide_eq_false hc]
              walk_at "ss"
              rw [hasW_val]
              cases hh : hasW ways to with
              | true =>
                refine w_lay hs6 (by omega) (by omega) (fun h => absurd h (by rw [hh]; decide)) fun _ H9 hs7 => ?_
                clear hs6
                have hz9 : (ways.map wyK).length < sizeLine := szl (by rw [List.length_map]; omega)
                walk_at "ss"
                refine ifn (fun z => absurd rfl z) (fun _ => ?_)
                walk_at "ss"
                rename_i hsZ
                rw [putW_map] at hsZ
                exact ⟨B, m4, c4, c, w0, r0, lw, lr, tag, _, es, fs, _, _, _, _, _, _, _, _, _, _, _, _, rfl, hsZ, g4, inv.lay to port⟩
              | false =>
                refine w_lay hs6 (by omega) (by omega) (fun _ _ H9 hs7 => ?_) (fun h => absurd h (by rw [hh]; simp; omega))
                clear hs6
                walk_at "ss"
                refine ifn (fun z => absurd rfl z) (fun _ => ?_)
                walk_at "ss"
                exact ⟨B, m4, c4, c, w0, r0, lw, lr, tag, ways, es, fs, _, _, _, _, _, _, _, _, _, _, _, _, rfl, hs7, g4, inv.up (Same.refl _) (Nat.le_succ _)⟩
          walk_at "ss"
          refine ifd (fun h6 => ?_) (fun h6 => ?_)
          · -- unlay
            walk_at "ss"
            refine w_draw hs4 g2 (by omega) fun to m3 c3 H7 hs5 g3 _ _ => ?_
            clear hs4 g2
            walk_at "ss"
            refine w_unlay hs5 fun H8 hs6 => ?_
            clear hs5
            walk_at "ss"
            refine w_dpop2 ?_
            walk_at "ss"
            refine w_pop2 hs6 (.there (.there .here)) (fun u H' _ hs7 => ?_) (fun e => ?_)
            · walk_at "ss"
              rw [dropW_map] at hs7
              exact ⟨B, m3, c3, c, w0, r0, lw, lr, tag, _, es, fs, _, _, _, _, _, _, _, _, _, _, _, _, rfl, hs7, g3, (inv.unlay to).up (Same.refl _) (Nat.le_succ _)⟩
            · walk_at "ss"
              have e2 := valV_none e
              rw [dropW_map] at e2
              have hs7 := hs6
              unfold lawL at hs7
              rw [← e2] at hs7
              exact ⟨B, m3, c3, c, w0, r0, lw, lr, tag, _, es, fs, _, _, _, _, _, _, _, _, _, _, _, _, rfl, hs7, g3, (inv.unlay to).up (Same.refl _) (Nat.le_succ _)⟩
          walk_at "ss"
          refine ifd (fun h7 => ?_) (fun h7 => ?_)
          · -- drop
            walk_at "ss"
            rename_i row H7 hs5
            refine w_pick hs5 g2 (by simp) (by simp) fun y m3 c3 H8 hy hs6 g3 => ?_
            clear hs4 hs5 g2
            obtain ⟨v, rfl⟩ : ∃ v : Int, y = .int v := by
              simp only [List.mem_cons, List.not_mem_nil, or_false] at hy
              rcases hy with rfl | rfl | rfl | rfl <;> exact ⟨_, rfl⟩
            clear hy
            walk_at "ss"
            refine w_dropT hs6 fun H9 hs7 => ?_
            clear hs6
            walk_at "ss"
            refine w_dpop2 ?_
            walk_at "ss"
            refine w_pop2 hs7 (.there (.there (.there .here))) (fun u H' _ hs8 => ?_) (fun e => ?_)
            · walk_at "ss"
              rw [dropR_map] at hs8
              exact ⟨B, m3, c3, c, w0, r0, lw, lr, tag, ways, _, _, _, _, _, _, _, _, _, _, _, _, _, _, rfl, hs8, g3, (inv.drop v).up (Same.refl _) (Nat.le_succ _)⟩
            · walk_at "ss"
              have e2 := valV_none e
              rw [dropR_map] at e2
              have hs8 := hs7
              unfold lawL at hs8
              rw [← e2] at hs8
              exact ⟨B, m3, c3, c, w0, r0, lw, lr, tag, ways, _, _, _, _, _, _, _, _, _, _, _, _, _, _, rfl, hs8, g3, (inv.drop v).up (Same.refl _) (Nat.le_succ _)⟩
          refine w_ifS2 (fun H' => kind ≠ 7 ∧ ∃ m3 c3, Hs B (lawL a st c lw lr tb dx w0 r0 m3 c3 tag ways es fs) H' ∧ Good m3 c3) ?_ ?_
          · rintro H7 ⟨_, m3, c3, hs5, g3⟩
            clear hs4 g2
            walk_at "ss"
            refine ifd (fun h9 => ?_) (fun h9 => ?_)
            · -- tagged
              walk_at "ss"
              refine w_tagged hs5 g3 inv (by omega) (fun B2 tag' t dw dr w2 r2 m4 c4 H8 sm hs6 g4 => ?_) (fun tag' t m4 c4 H8 hs6 g4 => ?_)
              · clear hs5
                walk_at "ss"
                refine ifd (fun z => nomatch z) (fun _ => ?_)
                walk_at "ss"
                exact ⟨B2, m4, c4, c, w2, r2, dw, dr, tag', [], _, _, _, _, _, _, _, _, _, _, _, _, _, _, rfl, hs6.tl, g4, (inv.keep tag').up sm (Nat.le_succ _)⟩
              · clear hs5
                walk_at "ss"
                refine ifd (fun z => nomatch z) (fun _ => ?_)
                walk_at "ss"
                exact ⟨B, m4, c4, c, w0, r0, lw, lr, tag', ways, es, fs, _, _, _, _, _, _, _, _, _, _, _, _, rfl, hs6.tl, g4, inv.up (Same.refl _) (Nat.le_succ _)⟩
            · -- does
              walk_at "ss"
              refine w_draw hs5 g3 (by omega) fun port m4 c4 H8 hs6 g4 _ _ => ?_
              clear hs5 g3
              walk_at "ss"
              refine w_draw hs6 g4 (by omega) fun ha m5 c5 H9 hs7 g5 _ _ => ?_
              clear hs6 g4
              walk_at "ss"
              refine w_draw hs7 g5 (by omega) fun hb m6 c6 H10 hs8 g6 _ _ => ?_
              clear hs7 g5
              walk_at "ss"
              refine w_draw hs8 g6 (by omega) fun hc m7 c7 H11 hs9 g7 _ _ => ?_
              clear hs8 g6
              walk_at "ss"
              rename_i th H12 hsA
              clear hs9
              obtain ⟨B2, sm2, hth, hsB⟩ := frz_hs hsA
              clear hsA
              have inv2 := inv.up sm2 (Nat.le_refl _)
              refine w_draw hsB g7 (by omega) fun dv m8 c8 H13 hsC g8 _ _ => ?_
              clear hsB g7
              walk_at "ss"
              have hth2 : H13 th = some (.tup (([ha, hb, hc] : List Int).map V.int)) := hsC.same _ _ hth
              refine w_doesT hsC inv2.ok hth2 rfl fun l ys H14 ps hsD hps hdn => ?_
              clear hsC
              walk_at "ss"
              refine ⟨lr, th, fs, 1 + dv, port, [ha, hb, hc], rfl, hsD.g4, inv2.lw.same hsD.same, hsD.same _ _ hth, rfl, fun l2 ys2 N H15 ps2 hsE hps2 hdn2 => ?_⟩
              have eps : ps = ps2 := by
                have e1 : copiesR (rulesOf es (1 + dv)) port [ha, hb, hc] = copiesR (rulesOf fs (1 + dv)) port [ha, hb, hc] := by rw [inv2.al (1 + dv)]
                rw [e1] at hdn
                exact hdn.unique hdn2
              subst eps
              have hps' := hps.mono (R' := PrAt H15) fun _ _ => PrAt.same hsE.same
              refine w_neRefl (d := .list (ps.map dP)) (.lst (SqL.of (hsE.same _ _ hsD.g0)) hps'.dps) (.lst (SqL.of hsE.g0) hps2.dps) (dPs_shp _) ?_
              have hsF : Hs B2 ((l, .lst ys) :: lawL a st c lw lr tb dx w0 r0 m8 c8 tag ways es fs) H15 := (hsD.add hsE).sub (List.sublist_append_right ((l2, HO.lst ys2) :: N) _)
              clear hsD hsE
              have hysz : ys.length < sizeLine := by
                have h1 : ps.length ≤ (copiesR (rulesOf fs (1 + dv)) port [ha, hb, hc]).length := hdn2.nd.length_le_of_subset fun z hz => (hdn2.mem z).mp hz
                have h2 : (copiesR (rulesOf fs (1 + dv)) port [ha, hb, hc]).length ≤ 60 := by
                  unfold copiesR
                  cases hq : (rulesOf fs (1 + dv)).find? fun r => fitsM r.1 (port :: [ha, hb, hc]) with
                  | none => exact Nat.zero_le _
                  | some r =>
                    show (copies r.2 _).length ≤ 60
                    unfold copies
                    rw [List.length_map]
                    have hr := List.mem_of_find?_eq_some hq
                    unfold rulesOf at hr
                    cases hf : findR fs (1 + dv) with
                    | none =>
                      rw [hf] at hr
                      cases hr
                    | some f =>
                      rw [hf] at hr
                      exact ((inv2.lw f (findR_mem hf).1).2.2 r hr).z
                have h3 := hps2.1
                have h4 := hps.1
                exact szl (by omega)
              walk_at "ss"
              rename_i H16 hsG
              clear hsF
              refine w_rule hsG.tl g8 noTup fun B3 t tm lo ma outs os m9 c9 H17 sm3 hsH g9 ht htm hlo hro wf => ?_
              clear hsG
              have inv3 := inv2.up sm3 (Nat.le_refl _)
              have hth3 : B3 th = some (.tup (([ha, hb, hc] : List Int).map V.int)) := sm3 _ _ hth
              walk_at "ss"
              refine ⟨tm, th, ma, port, [ha, hb, hc], rfl, hsH.same _ _ htm, hsH.same _ _ hth3, by rw [wf.m]; rfl, (show 3 ≤ 1000 by decide), fun H18 sm18 => ?_⟩
              have hsI := hsH.keep sm18
              clear hsH
              walk_at "ss"
              rename_i tq H19 hsJ
              refine w_catT hsJ (SqT.of hsJ.g0) (SqT.of (hsJ.same _ _ hth3)) (by simp) (by simp) (by simp) fun tl H20 hsK => ?_
              clear hsI hsJ
              walk_at "ss"
              refine ⟨tm, tl, ma, port :: [ha, hb, hc], rfl, hsK.same _ _ htm, hsK.g0, wf.m, rfl, fun H21 sm21 => ?_⟩
              have hsL := (hsK.keep sm21).tl.tl
              clear hsK
              walk_at "ss"
              refine ifn (fun z => absurd rfl z) (fun _ => ?_)
              walk_at "ss"
              refine ⟨lo, th, os, outs, [ha, hb, hc], rfl, hsL.same _ _ hlo, hro.mono fun _ _ => OutAt.same hsL.same, hsL.same _ _ hth3, rfl, wf.o, wf.z, fun l3 ys3 N3 H22 rs hsM hr3 hd3 => ?_⟩
              have hsN := hsL.add hsM
              walk_at "ss"
              refine ⟨lo, th, os, outs, [ha, hb, hc], rfl, hsN.same _ _ hlo, hro.mono fun _ _ => OutAt.same hsN.same, hsN.same _ _ hth3, rfl, wf.o, wf.z, fun l4 ys4 N4 H23 rs2 hsO hr4 hd4 => ?_⟩
              have er : rs = rs2 := hd3.unique hd4
              subst er
              refine w_neRefl (d := .list (rs.map dP)) (.lst (SqL.of (hsO.same _ _ hsM.g0)) (hr3.mono (R' := PrAt H23) fun _ _ => PrAt.same hsO.same).dps) (.lst (SqL.of hsO.g0) hr4.dps) (dPs_shp _) ?_
              have hsP : Hs B3 (lawL a st c lw lr tb dx w0 r0 m9 c9 tag ways es fs) H23 := hsL.keep (hsM.same.trans hsO.same)
              clear hsL hsM hsN hsO
              walk_at "ss"
              exact ⟨B3, m9, c9, c, w0, r0, lw, lr, tag, ways, es, fs, _, _, _, _, _, _, _, _, _, _, _, _, rfl, hsP, g9, inv3.up (Same.refl _) (Nat.le_succ _)⟩
          · intro G
            walk_at "ss"
            refine ifd (fun h8 => ?_) (fun h8 => ?_)
            · walk_at "ss"
              refine w_draw hs4 g2 (by omega) fun d4 m3 c3 H7 hs5 g3 _ _ => ?_
              clear hs4 g2
              walk_at "ss"
              refine ifd (fun h0 => ?_) (fun h0 => ?_)
              · -- wipe
                walk_at "ss"
                refine w_wipe hs5 fun w2 r2 H8 hs6 => ?_
                clear hs5
                walk_at "ss"
                exact ⟨B, m3, c3, c, w2, r2, _, _, 0, [], [], [], _, _, _, _, _, _, _, _, _, _, _, _, rfl, by
                  rename_i hsZ
                  exact hsZ.sel [3, 4, 2, 1, 7, 8, 9], g3, I8.nil⟩
              · exact G _ ⟨h7, m3, c3, hs5, g3⟩
            · refine iteF ?_
              exact G _ ⟨h7, m2, c2, hs4, g2⟩
        · clear inv ez wz fz hs4 g2
          clear w0 r0 lw lr c
          rintro σ' H7 ⟨B, m, cells, c, w0, r0, lw, lr, tag, ways, es, fs, v6, v7, v8, v9, v10, v11, v12, v13, v14, v15, v16, v17, rfl, hs1, g1, inv⟩
          have ez := inv.ez
          have fz := inv.fz
          have hokf : RwOk B fs := fun e he => ⟨(inv.lw e he).2.1, (inv.lw e he).2.2⟩
          walk_at "ss"
          refine w_lockS hs1 (fun od => .there (.there (.there (.there (.there (.there .here)))))) fun od H8 hs2 => ?_
          walk_at "ss"
          refine w_known hs2 (fun H' h => h.g6) (fun H' h => rows_mem h) inv.ok inv.ek (by omega) (fun Q' q => ?_) (fun y H' Q' h q => ?_) (fun _ => rfl) (fun _ => rfl) fun D1 H9 hs3 => ?_
          · walk_at "ss"
            exact q
          · walk_at "ss"
            exact q
          walk_at "ss"
          refine ⟨hs3.g7, ?_⟩
          have hs4 := hs3.p7 (.dK (es.map rwK))
          clear hs1 hs2 hs3
          walk_at "ss"
          refine ⟨w0, lw, _, _, rfl, rfl, hs4.g6, hs4.g3, rfl, fun p hp => ?_, ?_⟩
          · obtain ⟨q, hq, rfl⟩ := List.mem_map.mp hp
            exact ⟨valW_self inv.wk hq, rfl⟩
          walk_at "ss"
          refine ifn (fun z => absurd rfl z) (fun _ => ?_)
          walk_at "ss"
          refine ⟨D1, knownV es, rfl, SqL.of hs4.g0, fun xs q1 hp1 so1 hn1 => ?_⟩
          have hs5 := hs4.new (o := .lst (xs.map V.int)) hn1
          walk_at "ss"
          refine w_lockE hs5 (fun od => .there (.there (.there (.there (.there .here))))) fun od2 H10 hs6 => ?_
          refine w_known hs6 (fun H' h => h.g5) (fun H' h e he => h.same _ _ (inv.lw e he).1) hokf inv.fk (by omega) (fun Q' q => ?_) (fun y H' Q' h q => ?_) (fun _ => rfl) (fun _ => rfl) fun D2 H11 hs7 => ?_
          · walk_at "ss"
            exact q
          · walk_at "ss"
            exact q
          refine ⟨hs7.g6, ?_⟩
          have hs8 := hs7.p6 (.dK (fs.map rwK))
          clear hs5 hs6 hs7
          walk_at "ss"
          refine ⟨D2, knownV fs, rfl, SqL.of hs8.g0, fun ys q2 hp2 so2 hn2 => ?_⟩
          have hs9 := hs8.new (o := .lst (ys.map V.int)) hn2
          have exy : xs = ys := known_sorted inv.ek inv.fk inv.al hp1 hp2 so1 so2
          subst exy
          refine w_neRefl (d := .list (xs.map PyData.int)) (.lst (SqL.of hs9.g2) (dpa_int xs)) (.lst (SqL.of hs9.g0) (dpa_int xs)) (shp_list fun d hd => by
            obtain ⟨n, _, rfl⟩ := List.mem_map.mp hd
            exact ⟨rfl, by simp [PyData.depth]⟩) ?_
          have hsA := hs9.tl.tl.tl
          clear hs4 hs8 hs9
          walk_at "ss"
          refine w_lc (xs := (knownV es).map V.int) (SqL.of hsA.g0) (fun D' _ H' => Hs B ((D', .lst []) :: (D1, .lst ((knownV es).map V.int)) :: lawL a st c lw lr tb dx w0 r0 m cells tag ways es fs) H') (fun Q' q => ?_) (fun D' hD => hsA.new hD) (fun D' j H' _ q => SqL.of q.g1) ?_ ?_
          · walk_at "ss"
            exact q
          · rintro D' j y H' hj hsB
            obtain ⟨v, hv, rfl⟩ := map_at hj
            have hne := (knownV_mem inv.ek v).mp (List.mem_of_getElem? hv)
            have hal := inv.al v
            have hne2 : rulesOf fs v ≠ [] := hal ▸ hne
            obtain ⟨e, he⟩ : ∃ e, findR es v = some e := by
              cases h : findR es v with
              | none =>
                unfold rulesOf at hne
                rw [h] at hne
                exact absurd rfl hne
              | some e => exact ⟨e, rfl⟩
            obtain ⟨f, hf⟩ : ∃ f, findR fs v = some f := by
              cases h : findR fs v with
              | none =>
                unfold rulesOf at hne2
                rw [h] at hne2
                exact absurd rfl hne2
              | some f => exact ⟨f, rfl⟩
            have hrs : e.rs = f.rs := by
              unfold rulesOf at hal
              rw [he, hf] at hal
              exact hal
            have hem := (findR_mem he).1
            have hfm := (findR_mem hf).1
            walk_at "ss"
            refine ⟨rfl, ?_⟩
            refine w_test (w_op (w_dget ?_))
            walk_at "ss"
            refine ⟨r0, .ref e.at_, rfl, .inl ⟨es.map rwK, Sum.inl v, .inl hsB.g8, rfl, ?_⟩, ?_⟩
            · rw [valR_find, he]
              rfl
            refine w_dget ?_
            walk_at "ss"
            refine ⟨lr, .ref f.at_, rfl, .inl ⟨fs.map rwK, Sum.inl v, .inl hsB.g5, rfl, ?_⟩, ?_⟩
            · rw [valR_find, hf]
              rfl
            refine w_neRefl (d := .list (e.rs.map dR)) (rules_dp (rows_mem hsB.tl.tl e hem) ((inv.ok e hem).1.mono fun _ _ => RlAt.same hsB.same)) (hrs ▸ rules_dp (hsB.same _ _ (inv.lw f hfm).1) ((inv.lw f hfm).2.1.mono fun _ _ => RlAt.same hsB.same)) (dRs_shp _) ?_
            walk_at "ss"
            exact hsB
          · intro D' H' hsB
            walk_at "ss"
            refine ifd (fun z => ?_) (fun _ => ?_)
            · exact absurd z (by decide)
            have hsC := hsB.tl.tl
            clear hsA hsB
            walk_at "ss"
            refine w_count hsC (by omega) fun H12 hsD => ?_
            walk_at "ss"
            refine ⟨lw, _, rfl, hsD.g2, ?_⟩
            walk_at "ss"
            refine w_lens hsD inv.lw inv.fk (by omega) (fun _ => rfl) (fun _ => rfl) rfl (fun _ => rfl) fun D3 H13 hsE => ?_
            walk_at "ss"
            refine ⟨D3, _, rfl, SqL.of hsE.g0, ?_⟩
            walk_at "ss"
            have hsF := hsE.tl
            refine ifn (fun z => absurd (sum_cnt inv) z) (fun _ => ?_)
            walk_at "ss"
            exact ⟨B, m, cells, c, w0, r0, lw, lr, tag, ways, es, fs, _, _, _, _, _, _, _, _, _, _, _, _, rfl, hsF, g1, inv⟩
      · rintro σ' H4 ⟨B, m, cells, c, w0, r0, lw, lr, tag, ways, es, fs, v6, v7, v8, v9, v10, v11, v12, v13, v14, v15, v16, v17, rfl, hs1, g1, inv⟩
        walk_at "ss"
        exact k _
end
theorem all_mk {l : PySem.W.OpenLaw} {w : World} {K : PySem.W.Frag} {h : Heap} {mg : Str → Option Value} {fa : Addr} (hl : l.prog = PySem.Challenge.pw_hangbridge_k08_tables_of_switches) (X : K.In h) (G : h.Ns mainGlobals mg) (hfa : mg "law" = some (.ref fa))
    {A_Table A_fits A_changed A_done A_rules_do A_Table_init A_Table_count A_Table_wipe A_Table_drop A_Table_add A_Table_lay A_Table_unlay A_Table_retag A_Table_strip A_Table_keep A_Table_does A__law_state A__law_draw A__law_pick A__law_part A__law_rule A__law_fits A__law_done A__law_does A__law_only A__law_tagged A_law : Addr} {od_fits an_fits od_changed an_changed od_done an_done od_rules_do an_rules_do od_Table_init an_Table_init od_Table_count an_Table_count od_Table_wipe an_Table_wipe od_Table_drop an_Table_drop od_Table_add an_Table_add od_Table_lay an_Table_lay od_Table_unlay an_Table_unlay od_Table_retag an_Table_retag od_Table_strip an_Table_strip od_Table_keep an_Table_keep od_Table_does an_Table_does od__law_state an__law_state od__law_draw an__law_draw od__law_pick an__law_pick od__law_part an__law_part od__law_rule an__law_rule od__law_fits an__law_fits od__law_done an__law_done od__law_does an__law_does od__law_only an__law_only od__law_tagged an__law_tagged od_law an_law : Option Addr} {sl_fits sl_changed sl_done sl_rules_do sl_Table_init sl_Table_count sl_Table_wipe sl_Table_drop sl_Table_add sl_Table_lay sl_Table_unlay sl_Table_retag sl_Table_strip sl_Table_keep sl_Table_does sl__law_state sl__law_draw sl__law_pick sl__law_part sl__law_rule sl__law_fits sl__law_done sl__law_does sl__law_only sl__law_tagged sl_law : Array (Option Value)} {oc_fits kV_fits dc_fits pm_fits cd_fits ct_fits oc_changed kV_changed dc_changed pm_changed cd_changed ct_changed oc_done kV_done dc_done pm_done cd_done ct_done oc_rules_do kV_rules_do dc_rules_do pm_rules_do cd_rules_do ct_rules_do oc_Table_init kV_Table_init dc_Table_init pm_Table_init cd_Table_init ct_Table_init oc_Table_count kV_Table_count dc_Table_count pm_Table_count cd_Table_count ct_Table_count oc_Table_wipe kV_Table_wipe dc_Table_wipe pm_Table_wipe cd_Table_wipe ct_Table_wipe oc_Table_drop kV_Table_drop dc_Table_drop pm_Table_drop cd_Table_drop ct_Table_drop oc_Table_add kV_Table_add dc_Table_add pm_Table_add cd_Table_add ct_Table_add oc_Table_lay kV_Table_lay dc_Table_lay pm_Table_lay cd_Table_lay ct_Table_lay oc_Table_unlay kV_Table_unlay dc_Table_unlay pm_Table_unlay cd_Table_unlay ct_Table_unlay oc_Table_retag kV_Table_retag dc_Table_retag pm_Table_retag cd_Table_retag ct_Table_retag oc_Table_strip kV_Table_strip dc_Table_strip pm_Table_strip cd_Table_strip ct_Table_strip oc_Table_keep kV_Table_keep dc_Table_keep pm_Table_keep cd_Table_keep ct_Table_keep oc_Table_does kV_Table_does dc_Table_does pm_Table_does cd_Table_does ct_Table_does oc__law_state kV__law_state dc__law_state pm__law_state cd__law_state ct__law_state oc__law_draw kV__law_draw dc__law_draw pm__law_draw cd__law_draw ct__law_draw oc__law_pick kV__law_pick dc__law_pick pm__law_pick cd__law_pick ct__law_pick oc__law_part kV__law_part dc__law_part pm__law_part cd__law_part ct__law_part oc__law_rule kV__law_rule dc__law_rule pm__law_rule cd__law_rule ct__law_rule oc__law_fits kV__law_fits dc__law_fits pm__law_fits cd__law_fits ct__law_fits oc__law_done kV__law_done dc__law_done pm__law_done cd__law_done ct__law_done oc__law_does kV__law_does dc__law_does pm__law_does cd__law_does ct__law_does oc__law_only kV__law_only dc__law_only pm__law_only cd__law_only ct__law_only oc__law_tagged kV__law_tagged dc__law_tagged pm__law_tagged cd__law_tagged ct__law_tagged oc_law kV_law dc_law pm_law cd_law ct_law : Value} {tk_MOST_ENTRIES : Tok} 
        (h_cTable : PySem.W.nsIn K mainGlobals "Table" = some (some (.ref A_Table)))
    (h_pgTable : PySem.W.plainGet K A_Table Str.empty = true)
    (h_hdTable : PySem.W.hasDictIn K A_Table = true)
    (h_poTable : PySem.W.plainOver K A_Table = true)
    (h_saTable : PySem.W.findIn K (.ref A_Table) "__setattr__" = some (some (.builtin "object.__setattr__")))
    (h_mkTable : PySem.W.makesIn K A_Table = true)
    (h_kcTable : PySem.W.keepIn K (.ref A_Table) = true)
    (h_naTable_ways : PySem.W.findIn K (.ref A_Table) "ways" = some none)
    (h_naTable_rules : PySem.W.findIn K (.ref A_Table) "rules" = some none)
    (h_naTable_tag : PySem.W.findIn K (.ref A_Table) "tag" = some none)
    (h_afits : PySem.W.nsIn K mainGlobals "fits" = some (some (.ref A_fits)))
    (h_lfits : K.lookup A_fits = some ⟨oc_fits, od_fits, .func (PySem.W.fnOf "fits" "fits" (defArgs s_fits) (defBody s_fits) (defScope s_fits) .none kV_fits dc_fits pm_fits an_fits cd_fits ct_fits), sl_fits⟩)
    (h_cdfits : PySem.W.codeIn K cd_fits "fits" = true)
    (h_kfits : PySem.W.keepIn K (.ref A_fits) = true)
    (h_achanged : PySem.W.nsIn K mainGlobals "changed" = some (some (.ref A_changed)))
    (h_lchanged : K.lookup A_changed = some ⟨oc_changed, od_changed, .func (PySem.W.fnOf "changed" "changed" (defArgs s_changed) (defBody s_changed) (defScope s_changed) .none kV_changed dc_changed pm_changed an_changed cd_changed ct_changed), sl_changed⟩)
    (h_cdchanged : PySem.W.codeIn K cd_changed "changed" = true)
    (h_kchanged : PySem.W.keepIn K (.ref A_changed) = true)
    (h_adone : PySem.W.nsIn K mainGlobals "done" = some (some (.ref A_done)))
    (h_ldone : K.lookup A_done = some ⟨oc_done, od_done, .func (PySem.W.fnOf "done" "done" (defArgs s_done) (defBody s_done) (defScope s_done) .none kV_done dc_done pm_done an_done cd_done ct_done), sl_done⟩)
    (h_cddone : PySem.W.codeIn K cd_done "done" = true)
    (h_kdone : PySem.W.keepIn K (.ref A_done) = true)
    (h_arules_do : PySem.W.nsIn K mainGlobals "rules_do" = some (some (.ref A_rules_do)))
    (h_lrules_do : K.lookup A_rules_do = some ⟨oc_rules_do, od_rules_do, .func (PySem.W.fnOf "rules_do" "rules_do" (defArgs s_rules_do) (defBody s_rules_do) (defScope s_rules_do) .none kV_rules_do dc_rules_do pm_rules_do an_rules_do cd_rules_do ct_rules_do), sl_rules_do⟩)
    (h_cdrules_do : PySem.W.codeIn K cd_rules_do "rules_do" = true)
    (h_krules_do : PySem.W.keepIn K (.ref A_rules_do) = true)
    (h_aTable_init : PySem.W.findIn K (.ref A_Table) "__init__" = some (some (.ref A_Table_init)))
    (h_iTable_init : PySem.W.isFn K (.ref A_Table_init) = true)
    (h_lTable_init : K.lookup A_Table_init = some ⟨oc_Table_init, od_Table_init, .func (PySem.W.fnOf "__init__" "Table.__init__" (defArgs s_Table_init) (defBody s_Table_init) (defScope s_Table_init) .none kV_Table_init dc_Table_init pm_Table_init an_Table_init cd_Table_init ct_Table_init), sl_Table_init⟩)
    (h_cdTable_init : PySem.W.codeIn K cd_Table_init "Table.__init__" = true)
    (h_kTable_init : PySem.W.keepIn K (.ref A_Table_init) = true)
    (h_aTable_count : PySem.W.findIn K (.ref A_Table) "count" = some (some (.ref A_Table_count)))
    (h_iTable_count : PySem.W.isFn K (.ref A_Table_count) = true)
    (h_lTable_count : K.lookup A_Table_count = some ⟨oc_Table_count, od_Table_count, .func (PySem.W.fnOf "count" "Table.count" (defArgs s_Table_count) (defBody s_Table_count) (defScope s_Table_count) .none kV_Table_count dc_Table_count pm_Table_count an_Table_count cd_Table_count ct_Table_count), sl_Table_count⟩)
    (h_cdTable_count : PySem.W.codeIn K cd_Table_count "Table.count" = true)
    (h_kTable_count : PySem.W.keepIn K (.ref A_Table_count) = true)
    (h_aTable_wipe : PySem.W.findIn K (.ref A_Table) "wipe" = some (some (.ref A_Table_wipe)))
    (h_iTable_wipe : PySem.W.isFn K (.ref A_Table_wipe) = true)
    (h_lTable_wipe : K.lookup A_Table_wipe = some ⟨oc_Table_wipe, od_Table_wipe, .func (PySem.W.fnOf "wipe" "Table.wipe" (defArgs s_Table_wipe) (defBody s_Table_wipe) (defScope s_Table_wipe) .none kV_Table_wipe dc_Table_wipe pm_Table_wipe an_Table_wipe cd_Table_wipe ct_Table_wipe), sl_Table_wipe⟩)
    (h_cdTable_wipe : PySem.W.codeIn K cd_Table_wipe "Table.wipe" = true)
    (h_kTable_wipe : PySem.W.keepIn K (.ref A_Table_wipe) = true)
    (h_aTable_drop : PySem.W.findIn K (.ref A_Table) "drop" = some (some (.ref A_Table_drop)))
    (h_iTable_drop : PySem.W.isFn K (.ref A_Table_drop) = true)
    (h_lTable_drop : K.lookup A_Table_drop = some ⟨oc_Table_drop, od_Table_drop, .func (PySem.W.fnOf "drop" "Table.drop" (defArgs s_Table_drop) (defBody s_Table_drop) (defScope s_Table_drop) .none kV_Table_drop dc_Table_drop pm_Table_drop an_Table_drop cd_Table_drop ct_Table_drop), sl_Table_drop⟩)
    (h_cdTable_drop : PySem.W.codeIn K cd_Table_drop "Table.drop" = true)
    (h_kTable_drop : PySem.W.keepIn K (.ref A_Table_drop) = true)
    (h_aTable_add : PySem.W.findIn K (.ref A_Table) "add" = some (some (.ref A_Table_add)))
    (h_iTable_add : PySem.W.isFn K (.ref A_Table_add) = true)
    (h_lTable_add : K.lookup A_Table_add = some ⟨oc_Table_add, od_Table_add, .func (PySem.W.fnOf "add" "Table.add" (defArgs s_Table_add) (defBody s_Table_add) (defScope s_Table_add) .none kV_Table_add dc_Table_add pm_Table_add an_Table_add cd_Table_add ct_Table_add), sl_Table_add⟩)
    (h_cdTable_add : PySem.W.codeIn K cd_Table_add "Table.add" = true)
    (h_kTable_add : PySem.W.keepIn K (.ref A_Table_add) = true)
    (h_aTable_lay : PySem.W.findIn K (.ref A_Table) "lay" = some (some (.ref A_Table_lay)))
    (h_iTable_lay : PySem.W.isFn K (.ref A_Table_lay) = true)
    (h_lTable_lay : K.lookup A_Table_lay = some ⟨oc_Table_lay, od_Table_lay, .func (PySem.W.fnOf "lay" "Table.lay" (defArgs s_Table_lay) (defBody s_Table_lay) (defScope s_Table_lay) .none kV_Table_lay dc_Table_lay pm_Table_lay an_Table_lay cd_Table_lay ct_Table_lay), sl_Table_lay⟩)
    (h_cdTable_lay : PySem.W.codeIn K cd_Table_lay "Table.lay" = true)
    (h_kTable_lay : PySem.W.keepIn K (.ref A_Table_lay) = true)
    (h_aTable_unlay : PySem.W.findIn K (.ref A_Table) "unlay" = some (some (.ref A_Table_unlay)))
    (h_iTable_unlay : PySem.W.isFn K (.ref A_Table_unlay) = true)
    (h_lTable_unlay : K.lookup A_Table_unlay = some ⟨oc_Table_unlay, od_Table_unlay, .func (PySem.W.fnOf "unlay" "Table.unlay" (defArgs s_Table_unlay) (defBody s_Table_unlay) (defScope s_Table_unlay) .none kV_Table_unlay dc_Table_unlay pm_Table_unlay an_Table_unlay cd_Table_unlay ct_Table_unlay), sl_Table_unlay⟩)
    (h_cdTable_unlay : PySem.W.codeIn K cd_Table_unlay "Table.unlay" = true)
    (h_kTable_unlay : PySem.W.keepIn K (.ref A_Table_unlay) = true)
    (h_aTable_retag : PySem.W.findIn K (.ref A_Table) "retag" = some (some (.ref A_Table_retag)))
    (h_iTable_retag : PySem.W.isFn K (.ref A_Table_retag) = true)
    (h_lTable_retag : K.lookup A_Table_retag = some ⟨oc_Table_retag, od_Table_retag, .func (PySem.W.fnOf "retag" "Table.retag" (defArgs s_Table_retag) (defBody s_Table_retag) (defScope s_Table_retag) .none kV_Table_retag dc_Table_retag pm_Table_retag an_Table_retag cd_Table_retag ct_Table_retag), sl_Table_retag⟩)
    (h_cdTable_retag : PySem.W.codeIn K cd_Table_retag "Table.retag" = true)
    (h_kTable_retag : PySem.W.keepIn K (.ref A_Table_retag) = true)
    (h_aTable_strip : PySem.W.findIn K (.ref A_Table) "strip" = some (some (.ref A_Table_strip)))
    (h_iTable_strip : PySem.W.isFn K (.ref A_Table_strip) = true)
    (h_lTable_strip : K.lookup A_Table_strip = some ⟨oc_Table_strip, od_Table_strip, .func (PySem.W.fnOf "strip" "Table.strip" (defArgs s_Table_strip) (defBody s_Table_strip) (defScope s_Table_strip) .none kV_Table_strip dc_Table_strip pm_Table_strip an_Table_strip cd_Table_strip ct_Table_strip), sl_Table_strip⟩)
    (h_cdTable_strip : PySem.W.codeIn K cd_Table_strip "Table.strip" = true)
    (h_kTable_strip : PySem.W.keepIn K (.ref A_Table_strip) = true)
    (h_aTable_keep : PySem.W.findIn K (.ref A_Table) "keep" = some (some (.ref A_Table_keep)))
    (h_iTable_keep : PySem.W.isFn K (.ref A_Table_keep) = true)
    (h_lTable_keep : K.lookup A_Table_keep = some ⟨oc_Table_keep, od_Table_keep, .func (PySem.W.fnOf "keep" "Table.keep" (defArgs s_Table_keep) (defBody s_Table_keep) (defScope s_Table_keep) .none kV_Table_keep dc_Table_keep pm_Table_keep an_Table_keep cd_Table_keep ct_Table_keep), sl_Table_keep⟩)
    (h_cdTable_keep : PySem.W.codeIn K cd_Table_keep "Table.keep" = true)
    (h_kTable_keep : PySem.W.keepIn K (.ref A_Table_keep) = true)
    (h_aTable_does : PySem.W.findIn K (.ref A_Table) "does" = some (some (.ref A_Table_does)))
    (h_iTable_does : PySem.W.isFn K (.ref A_Table_does) = true)
    (h_lTable_does : K.lookup A_Table_does = some ⟨oc_Table_does, od_Table_does, .func (PySem.W.fnOf "does" "Table.does" (defArgs s_Table_does) (defBody s_Table_does) (defScope s_Table_does) .none kV_Table_does dc_Table_does pm_Table_does an_Table_does cd_Table_does ct_Table_does), sl_Table_does⟩)
    (h_cdTable_does : PySem.W.codeIn K cd_Table_does "Table.does" = true)
    (h_kTable_does : PySem.W.keepIn K (.ref A_Table_does) = true)
    (h_a_law_state : PySem.W.nsIn K mainGlobals "_law_state" = some (some (.ref A__law_state)))
    (h_l_law_state : K.lookup A__law_state = some ⟨oc__law_state, od__law_state, .func (PySem.W.fnOf "_law_state" "_law_state" (defArgs s__law_state) (defBody s__law_state) (defScope s__law_state) .none kV__law_state dc__law_state pm__law_state an__law_state cd__law_state ct__law_state), sl__law_state⟩)
    (h_cd_law_state : PySem.W.codeIn K cd__law_state "_law_state" = true)
    (h_k_law_state : PySem.W.keepIn K (.ref A__law_state) = true)
    (h_a_law_draw : PySem.W.nsIn K mainGlobals "_law_draw" = some (some (.ref A__law_draw)))
    (h_l_law_draw : K.lookup A__law_draw = some ⟨oc__law_draw, od__law_draw, .func (PySem.W.fnOf "_law_draw" "_law_draw" (defArgs s__law_draw) (defBody s__law_draw) (defScope s__law_draw) .none kV__law_draw dc__law_draw pm__law_draw an__law_draw cd__law_draw ct__law_draw), sl__law_draw⟩)
    (h_cd_law_draw : PySem.W.codeIn K cd__law_draw "_law_draw" = true)
    (h_k_law_draw : PySem.W.keepIn K (.ref A__law_draw) = true)
    (h_a_law_pick : PySem.W.nsIn K mainGlobals "_law_pick" = some (some (.ref A__law_pick)))
    (h_l_law_pick : K.lookup A__law_pick = some ⟨oc__law_pick, od__law_pick, .func (PySem.W.fnOf "_law_pick" "_law_pick" (defArgs s__law_pick) (defBody s__law_pick) (defScope s__law_pick) .none kV__law_pick dc__law_pick pm__law_pick an__law_pick cd__law_pick ct__law_pick), sl__law_pick⟩)
    (h_cd_law_pick : PySem.W.codeIn K cd__law_pick "_law_pick" = true)
    (h_k_law_pick : PySem.W.keepIn K (.ref A__law_pick) = true)
    (h_a_law_part : PySem.W.nsIn K mainGlobals "_law_part" = some (some (.ref A__law_part)))
    (h_l_law_part : K.lookup A__law_part = some ⟨oc__law_part, od__law_part, .func (PySem.W.fnOf "_law_part" "_law_part" (defArgs s__law_part) (defBody s__law_part) (defScope s__law_part) .none kV__law_part dc__law_part pm__law_part an__law_part cd__law_part ct__law_part), sl__law_part⟩)
    (h_cd_law_part : PySem.W.codeIn K cd__law_part "_law_part" = true)
    (h_k_law_part : PySem.W.keepIn K (.ref A__law_part) = true)
    (h_a_law_rule : PySem.W.nsIn K mainGlobals "_law_rule" = some (some (.ref A__law_rule)))
    (h_l_law_rule : K.lookup A__law_rule = some ⟨oc__law_rule, od__law_rule, .func (PySem.W.fnOf "_law_rule" "_law_rule" (defArgs s__law_rule) (defBody s__law_rule) (defScope s__law_rule) .none kV__law_rule dc__law_rule pm__law_rule an__law_rule cd__law_rule ct__law_rule), sl__law_rule⟩)
    (h_cd_law_rule : PySem.W.codeIn K cd__law_rule "_law_rule" = true)
    (h_k_law_rule : PySem.W.keepIn K (.ref A__law_rule) = true)
    (h_a_law_fits : PySem.W.nsIn K mainGlobals "_law_fits" = some (some (.ref A__law_fits)))
    (h_l_law_fits : K.lookup A__law_fits = some ⟨oc__law_fits, od__law_fits, .func (PySem.W.fnOf "_law_fits" "_law_fits" (defArgs s__law_fits) (defBody s__law_fits) (defScope s__law_fits) .none kV__law_fits dc__law_fits pm__law_fits an__law_fits cd__law_fits ct__law_fits), sl__law_fits⟩)
    (h_cd_law_fits : PySem.W.codeIn K cd__law_fits "_law_fits" = true)
    (h_k_law_fits : PySem.W.keepIn K (.ref A__law_fits) = true)
    (h_a_law_done : PySem.W.nsIn K mainGlobals "_law_done" = some (some (.ref A__law_done)))
    (h_l_law_done : K.lookup A__law_done = some ⟨oc__law_done, od__law_done, .func (PySem.W.fnOf "_law_done" "_law_done" (defArgs s__law_done) (defBody s__law_done) (defScope s__law_done) .none kV__law_done dc__law_done pm__law_done an__law_done cd__law_done ct__law_done), sl__law_done⟩)
    (h_cd_law_done : PySem.W.codeIn K cd__law_done "_law_done" = true)
    (h_k_law_done : PySem.W.keepIn K (.ref A__law_done) = true)
    (h_a_law_does : PySem.W.nsIn K mainGlobals "_law_does" = some (some (.ref A__law_does)))
    (h_l_law_does : K.lookup A__law_does = some ⟨oc__law_does, od__law_does, .func (PySem.W.fnOf "_law_does" "_law_does" (defArgs s__law_does) (defBody s__law_does) (defScope s__law_does) .none kV__law_does dc__law_does pm__law_does an__law_does cd__law_does ct__law_does), sl__law_does⟩)
    (h_cd_law_does : PySem.W.codeIn K cd__law_does "_law_does" = true)
    (h_k_law_does : PySem.W.keepIn K (.ref A__law_does) = true)
    (h_a_law_only : PySem.W.nsIn K mainGlobals "_law_only" = some (some (.ref A__law_only)))
    (h_l_law_only : K.lookup A__law_only = some ⟨oc__law_only, od__law_only, .func (PySem.W.fnOf "_law_only" "_law_only" (defArgs s__law_only) (defBody s__law_only) (defScope s__law_only) .none kV__law_only dc__law_only pm__law_only an__law_only cd__law_only ct__law_only), sl__law_only⟩)
    (h_cd_law_only : PySem.W.codeIn K cd__law_only "_law_only" = true)
    (h_k_law_only : PySem.W.keepIn K (.ref A__law_only) = true)
    (h_a_law_tagged : PySem.W.nsIn K mainGlobals "_law_tagged" = some (some (.ref A__law_tagged)))
    (h_l_law_tagged : K.lookup A__law_tagged = some ⟨oc__law_tagged, od__law_tagged, .func (PySem.W.fnOf "_law_tagged" "_law_tagged" (defArgs s__law_tagged) (defBody s__law_tagged) (defScope s__law_tagged) .none kV__law_tagged dc__law_tagged pm__law_tagged an__law_tagged cd__law_tagged ct__law_tagged), sl__law_tagged⟩)
    (h_cd_law_tagged : PySem.W.codeIn K cd__law_tagged "_law_tagged" = true)
    (h_k_law_tagged : PySem.W.keepIn K (.ref A__law_tagged) = true)
    (h_alaw : PySem.W.nsIn K mainGlobals "law" = some (some (.ref A_law)))
    (h_llaw : K.lookup A_law = some ⟨oc_law, od_law, .func (PySem.W.fnOf "law" "law" (defArgs s_law) (defBody s_law) (defScope s_law) .none kV_law dc_law pm_law an_law cd_law ct_law), sl_law⟩)
    (h_cdlaw : PySem.W.codeIn K cd_law "law" = true)
    (h_klaw : PySem.W.keepIn K (.ref A_law) = true)
    (h_gMOST_ENTRIES : PySem.W.nsIn K mainGlobals "MOST_ENTRIES" = some (some (.int 64 tk_MOST_ENTRIES)))
    (h_bzip : PySem.W.nsIn K mainGlobals "zip" = some none)
    (h_btuple : PySem.W.nsIn K mainGlobals "tuple" = some none)
    (h_bsorted : PySem.W.nsIn K mainGlobals "sorted" = some none)
    (h_blen : PySem.W.nsIn K mainGlobals "len" = some none)
    (h_bsum : PySem.W.nsIn K mainGlobals "sum" = some none)
    (h_blist : PySem.W.nsIn K mainGlobals "list" = some none)
    (h_babs : PySem.W.nsIn K mainGlobals "abs" = some none)
    (h_bint : PySem.W.nsIn K mainGlobals "int" = some none)
    (h_brange : PySem.W.nsIn K mainGlobals "range" = some none) :
    ∃ fd : FuncData, (∀ (s : Shared) (v : Value), BindsTo s fd ⟨[v], []⟩ [("script", v)]) ∧ ∀ base : Heap, K.In base → base.Ns mainGlobals mg → FnOk l.prog w K mg base CX0 5 fa fd ["script"] (sp_law K) := by
  haveI : IsP l.prog := ⟨hl⟩
  have e := hfa.symm.trans (PySem.W.mg_of X G h_alaw)
  have e2 : fa = A_law := Value.ref.inj (Option.some.inj e)
  rw [e2]
  have T : Txt K mg ⟨A_Table, A_fits, (PySem.W.fnOf "fits" "fits" (defArgs s_fits) (defBody s_fits) (defScope s_fits) .none kV_fits dc_fits pm_fits an_fits cd_fits ct_fits), A_changed, (PySem.W.fnOf "changed" "changed" (defArgs s_changed) (defBody s_changed) (defScope s_changed) .none kV_changed dc_changed pm_changed an_changed cd_changed ct_changed), A_done, (PySem.W.fnOf "done" "done" (defArgs s_done) (defBody s_done) (defScope s_done) .none kV_done dc_done pm_done an_done cd_done ct_done), A_rules_do, (PySem.W.fnOf "rules_do" "rules_do" (defArgs s_rules_do) (defBody s_rules_do) (defScope s_rules_do) .none kV_rules_do dc_rules_do pm_rules_do an_rules_do cd_rules_do ct_rules_do), A_Table_init, (PySem.W.fnOf "__init__" "Table.__init__" (defArgs s_Table_init) (defBody s_Table_init) (defScope s_Table_init) .none kV_Table_init dc_Table_init pm_Table_init an_Table_init cd_Table_init ct_Table_init), A_Table_count, (PySem.W.fnOf "count" "Table.count" (defArgs s_Table_count) (defBody s_Table_count) (defScope s_Table_count) .none kV_Table_count dc_Table_count pm_Table_count an_Table_count cd_Table_count ct_Table_count), A_Table_wipe, (PySem.W.fnOf "wipe" "Table.wipe" (defArgs s_Table_wipe) (defBody s_Table_wipe) (defScope s_Table_wipe) .none kV_Table_wipe dc_Table_wipe pm_Table_wipe an_Table_wipe cd_Table_wipe ct_Table_wipe), A_Table_drop, (PySem.W.fnOf "drop" "Table.drop" (defArgs s_Table_drop) (defBody s_Table_drop) (defScope s_Table_drop) .none kV_Table_drop dc_Table_drop pm_Table_drop an_Table_drop cd_Table_drop ct_Table_drop), A_Table_add, (PySem.W.fnOf "add" "Table.add" (defArgs s_Table_add) (defBody s_Table_add) (defScope s_Table_add) .none kV_Table_add dc_Table_add pm_Table_add an_Table_add cd_Table_add ct_Table_add), A_Table_lay, (PySem.W.fnOf "lay" "Table.lay" (defArgs s_Table_lay) (defBody s_Table_lay) (defScope s_Table_lay) .none kV_Table_lay dc_Table_lay pm_Table_lay an_Table_lay cd_Table_lay ct_Table_lay), A_Table_unlay, (PySem.W.fnOf "unlay" "Table.unlay" (defArgs s_Table_unlay) (defBody s_Table_unlay) (defScope s_Table_unlay) .none kV_Table_unlay dc_Table_unlay pm_Table_unlay an_Table_unlay cd_Table_unlay ct_Table_unlay), A_Table_retag, (PySem.W.fnOf "retag" "Table.retag" (defArgs s_Table_retag) (defBody s_Table_retag) (defScope s_Table_retag) .none kV_Table_retag dc_Table_retag pm_Table_retag an_Table_retag cd_Table_retag ct_Table_retag), A_Table_strip, (PySem.W.fnOf "strip" "Table.strip" (defArgs s_Table_strip) (defBody s_Table_strip) (defScope s_Table_strip) .none kV_Table_strip dc_Table_strip pm_Table_strip an_Table_strip cd_Table_strip ct_Table_strip), A_Table_keep, (PySem.W.fnOf "keep" "Table.keep" (defArgs s_Table_keep) (defBody s_Table_keep) (defScope s_Table_keep) .none kV_Table_keep dc_Table_keep pm_Table_keep an_Table_keep cd_Table_keep ct_Table_keep), A_Table_does, (PySem.W.fnOf "does" "Table.does" (defArgs s_Table_does) (defBody s_Table_does) (defScope s_Table_does) .none kV_Table_does dc_Table_does pm_Table_does an_Table_does cd_Table_does ct_Table_does), A__law_state, (PySem.W.fnOf "_law_state" "_law_state" (defArgs s__law_state) (defBody s__law_state) (defScope s__law_state) .none kV__law_state dc__law_state pm__law_state an__law_state cd__law_state ct__law_state), A__law_draw, (PySem.W.fnOf "_law_draw" "_law_draw" (defArgs s__law_draw) (defBody s__law_draw) (defScope s__law_draw) .none kV__law_draw dc__law_draw pm__law_draw an__law_draw cd__law_draw ct__law_draw), A__law_pick, (PySem.W.fnOf "_law_pick" "_law_pick" (defArgs s__law_pick) (defBody s__law_pick) (defScope s__law_pick) .none kV__law_pick dc__law_pick pm__law_pick an__law_pick cd__law_pick ct__law_pick), A__law_part, (PySem.W.fnOf "_law_part" "_law_part" (defArgs s__law_part) (defBody s__law_part) (defScope s__law_part) .none kV__law_part dc__law_part pm__law_part an__law_part cd__law_part ct__law_part), A__law_rule, (PySem.W.fnOf "_law_rule" "_law_rule" (defArgs s__law_rule) (defBody s__law_rule) (defScope s__law_rule) .none kV__law_rule dc__law_rule pm__law_rule an__law_rule cd__law_rule ct__law_rule), A__law_fits, (PySem.W.fnOf "_law_fits" "_law_fits" (defArgs s__law_fits) (defBody s__law_fits) (defScope s__law_fits) .none kV__law_fits dc__law_fits pm__law_fits an__law_fits cd__law_fits ct__law_fits), A__law_done, (PySem.W.fnOf "_law_done" "_law_done" (defArgs s__law_done) (defBody s__law_done) (defScope s__law_done) .none kV__law_done dc__law_done pm__law_done an__law_done cd__law_done ct__law_done), A__law_does, (PySem.W.fnOf "_law_does" "_law_does" (defArgs s__law_does) (defBody s__law_does) (defScope s__law_does) .none kV__law_does dc__law_does pm__law_does an__law_does cd__law_does ct__law_does), A__law_only, (PySem.W.fnOf "_law_only" "_law_only" (defArgs s__law_only) (defBody s__law_only) (defScope s__law_only) .none kV__law_only dc__law_only pm__law_only an__law_only cd__law_only ct__law_only), A__law_tagged, (PySem.W.fnOf "_law_tagged" "_law_tagged" (defArgs s__law_tagged) (defBody s__law_tagged) (defScope s__law_tagged) .none kV__law_tagged dc__law_tagged pm__law_tagged an__law_tagged cd__law_tagged ct__law_tagged), A_law, (PySem.W.fnOf "law" "law" (defArgs s_law) (defBody s_law) (defScope s_law) .none kV_law dc_law pm_law an_law cd_law ct_law)⟩ := {
    cl_Table := ⟨h_pgTable, h_hdTable, h_poTable, h_saTable⟩
    mg_Table := PySem.W.mg_of X G h_cTable
    na_Table_ways := h_naTable_ways
    na_Table_rules := h_naTable_rules
    na_Table_tag := h_naTable_tag
    fn_fits := fun_mk (st := s_fits) h_lfits h_cdfits h_kfits
    bi_fits := (fun_mk (st := s_fits) h_lfits h_cdfits h_kfits).binds (ps := ["match", "port", "header"]) fun _ _ _ _ _ _ us hl => match us, hl with | [_, _, _], _ => rfl
    mg_fits := PySem.W.mg_of X G h_afits
    kp_fits := h_kfits
    fn_changed := fun_mk (st := s_changed) h_lchanged h_cdchanged h_kchanged
    bi_changed := (fun_mk (st := s_changed) h_lchanged h_cdchanged h_kchanged).binds (ps := ["header", "changes"]) fun _ _ _ _ _ _ us hl => match us, hl with | [_, _], _ => rfl
    mg_changed := PySem.W.mg_of X G h_achanged
    kp_changed := h_kchanged
    fn_done := fun_mk (st := s_done) h_ldone h_cddone h_kdone
    bi_done := (fun_mk (st := s_done) h_ldone h_cddone h_kdone).binds (ps := ["outs", "header"]) fun _ _ _ _ _ _ us hl => match us, hl with | [_, _], _ => rfl
    mg_done := PySem.W.mg_of X G h_adone
    kp_done := h_kdone
    fn_rules_do := fun_mk (st := s_rules_do) h_lrules_do h_cdrules_do h_krules_do
    bi_rules_do := (fun_mk (st := s_rules_do) h_lrules_do h_cdrules_do h_krules_do).binds (ps := ["rules", "port", "header"]) fun _ _ _ _ _ _ us hl => match us, hl with | [_, _, _], _ => rfl
    mg_rules_do := PySem.W.mg_of X G h_arules_do
    kp_rules_do := h_krules_do
    fn_Table_init := fun_mk (st := s_Table_init) h_lTable_init h_cdTable_init h_kTable_init
    bi_Table_init := (fun_mk (st := s_Table_init) h_lTable_init h_cdTable_init h_kTable_init).binds (ps := ["self"]) fun _ _ _ _ _ _ us hl => match us, hl with | [_], _ => rfl
    mk_Table := ⟨h_mkTable, h_aTable_init, h_iTable_init, h_kcTable⟩
    fn_Table_count := fun_mk (st := s_Table_count) h_lTable_count h_cdTable_count h_kTable_count
    bi_Table_count := (fun_mk (st := s_Table_count) h_lTable_count h_cdTable_count h_kTable_count).binds (ps := ["self"]) fun _ _ _ _ _ _ us hl => match us, hl with | [_], _ => rfl
    me_Table_count := ⟨h_aTable_count, h_iTable_count, h_kTable_count⟩
    fn_Table_wipe := fun_mk (st := s_Table_wipe) h_lTable_wipe h_cdTable_wipe h_kTable_wipe
    bi_Table_wipe := (fun_mk (st := s_Table_wipe) h_lTable_wipe h_cdTable_wipe h_kTable_wipe).binds (ps := ["self"]) fun _ _ _ _ _ _ us hl => match us, hl with | [_], _ => rfl
    me_Table_wipe := ⟨h_aTable_wipe, h_iTable_wipe, h_kTable_wipe⟩
    fn_Table_drop := fun_mk (st := s_Table_drop) h_lTable_drop h_cdTable_drop h_kTable_drop
    bi_Table_drop := (fun_mk (st := s_Table_drop) h_lTable_drop h_cdTable_drop h_kTable_drop).binds (ps := ["self", "version"]) fun _ _ _ _ _ _ us hl => match us, hl with | [_, _], _ => rfl
    me_Table_drop := ⟨h_aTable_drop, h_iTable_drop, h_kTable_drop⟩
    fn_Table_add := fun_mk (st := s_Table_add) h_lTable_add h_cdTable_add h_kTable_add
    bi_Table_add := (fun_mk (st := s_Table_add) h_lTable_add h_cdTable_add h_kTable_add).binds (ps := ["self", "version", "match", "outs"]) fun _ _ _ _ _ _ us hl => match us, hl with | [_, _, _, _], _ => rfl
    me_Table_add := ⟨h_aTable_add, h_iTable_add, h_kTable_add⟩
    fn_Table_lay := fun_mk (st := s_Table_lay) h_lTable_lay h_cdTable_lay h_kTable_lay
    bi_Table_lay := (fun_mk (st := s_Table_lay) h_lTable_lay h_cdTable_lay h_kTable_lay).binds (ps := ["self", "to", "port"]) fun _ _ _ _ _ _ us hl => match us, hl with | [_, _, _], _ => rfl
    me_Table_lay := ⟨h_aTable_lay, h_iTable_lay, h_kTable_lay⟩
    fn_Table_unlay := fun_mk (st := s_Table_unlay) h_lTable_unlay h_cdTable_unlay h_kTable_unlay
    bi_Table_unlay := (fun_mk (st := s_Table_unlay) h_lTable_unlay h_cdTable_unlay h_kTable_unlay).binds (ps := ["self", "to"]) fun _ _ _ _ _ _ us hl => match us, hl with | [_, _], _ => rfl
    me_Table_unlay := ⟨h_aTable_unlay, h_iTable_unlay, h_kTable_unlay⟩
    fn_Table_retag := fun_mk (st := s_Table_retag) h_lTable_retag h_cdTable_retag h_kTable_retag
    bi_Table_retag := (fun_mk (st := s_Table_retag) h_lTable_retag h_cdTable_retag h_kTable_retag).binds (ps := ["self", "version", "count"]) fun _ _ _ _ _ _ us hl => match us, hl with | [_, _, _], _ => rfl
    me_Table_retag := ⟨h_aTable_retag, h_iTable_retag, h_kTable_retag⟩
    fn_Table_strip := fun_mk (st := s_Table_strip) h_lTable_strip h_cdTable_strip h_kTable_strip
    bi_Table_strip := (fun_mk (st := s_Table_strip) h_lTable_strip h_cdTable_strip h_kTable_strip).binds (ps := ["self"]) fun _ _ _ _ _ _ us hl => match us, hl with | [_], _ => rfl
    me_Table_strip := ⟨h_aTable_strip, h_iTable_strip, h_kTable_strip⟩
    fn_Table_keep := fun_mk (st := s_Table_keep) h_lTable_keep h_cdTable_keep h_kTable_keep
    bi_Table_keep := (fun_mk (st := s_Table_keep) h_lTable_keep h_cdTable_keep h_kTable_keep).binds (ps := ["self", "version", "count"]) fun _ _ _ _ _ _ us hl => match us, hl with | [_, _, _], _ => rfl
    me_Table_keep := ⟨h_aTable_keep, h_iTable_keep, h_kTable_keep⟩
    fn_Table_does := fun_mk (st := s_Table_does) h_lTable_does h_cdTable_does h_kTable_does
    bi_Table_does := (fun_mk (st := s_Table_does) h_lTable_does h_cdTable_does h_kTable_does).binds (ps := ["self", "version", "port", "header"]) fun _ _ _ _ _ _ us hl => match us, hl with | [_, _, _, _], _ => rfl
    me_Table_does := ⟨h_aTable_does, h_iTable_does, h_kTable_does⟩
    fn__law_state := fun_mk (st := s__law_state) h_l_law_state h_cd_law_state h_k_law_state
    bi__law_state := (fun_mk (st := s__law_state) h_l_law_state h_cd_law_state h_k_law_state).binds (ps := ["script"]) fun _ _ _ _ _ _ us hl => match us, hl with | [_], _ => rfl
    mg__law_state := PySem.W.mg_of X G h_a_law_state
    kp__law_state := h_k_law_state
    fn__law_draw := fun_mk (st := s__law_draw) h_l_law_draw h_cd_law_draw h_k_law_draw
    bi__law_draw := (fun_mk (st := s__law_draw) h_l_law_draw h_cd_law_draw h_k_law_draw).binds (ps := ["state", "many"]) fun _ _ _ _ _ _ us hl => match us, hl with | [_, _], _ => rfl
    mg__law_draw := PySem.W.mg_of X G h_a_law_draw
    kp__law_draw := h_k_law_draw
    fn__law_pick := fun_mk (st := s__law_pick) h_l_law_pick h_cd_law_pick h_k_law_pick
    bi__law_pick := (fun_mk (st := s__law_pick) h_l_law_pick h_cd_law_pick h_k_law_pick).binds (ps := ["state", "row"]) fun _ _ _ _ _ _ us hl => match us, hl with | [_, _], _ => rfl
    mg__law_pick := PySem.W.mg_of X G h_a_law_pick
    kp__law_pick := h_k_law_pick
    fn__law_part := fun_mk (st := s__law_part) h_l_law_part h_cd_law_part h_k_law_part
    bi__law_part := (fun_mk (st := s__law_part) h_l_law_part h_cd_law_part h_k_law_part).binds (ps := ["state", "most"]) fun _ _ _ _ _ _ us hl => match us, hl with | [_, _], _ => rfl
    mg__law_part := PySem.W.mg_of X G h_a_law_part
    kp__law_part := h_k_law_part
    fn__law_rule := fun_mk (st := s__law_rule) h_l_law_rule h_cd_law_rule h_k_law_rule
    bi__law_rule := (fun_mk (st := s__law_rule) h_l_law_rule h_cd_law_rule h_k_law_rule).binds (ps := ["state"]) fun _ _ _ _ _ _ us hl => match us, hl with | [_], _ => rfl
    mg__law_rule := PySem.W.mg_of X G h_a_law_rule
    kp__law_rule := h_k_law_rule
    fn__law_fits := fun_mk (st := s__law_fits) h_l_law_fits h_cd_law_fits h_k_law_fits
    bi__law_fits := (fun_mk (st := s__law_fits) h_l_law_fits h_cd_law_fits h_k_law_fits).binds (ps := ["match", "place"]) fun _ _ _ _ _ _ us hl => match us, hl with | [_, _], _ => rfl
    mg__law_fits := PySem.W.mg_of X G h_a_law_fits
    kp__law_fits := h_k_law_fits
    fn__law_done := fun_mk (st := s__law_done) h_l_law_done h_cd_law_done h_k_law_done
    bi__law_done := (fun_mk (st := s__law_done) h_l_law_done h_cd_law_done h_k_law_done).binds (ps := ["outs", "header"]) fun _ _ _ _ _ _ us hl => match us, hl with | [_, _], _ => rfl
    mg__law_done := PySem.W.mg_of X G h_a_law_done
    kp__law_done := h_k_law_done
    fn__law_does := fun_mk (st := s__law_does) h_l_law_does h_cd_law_does h_k_law_does
    bi__law_does := (fun_mk (st := s__law_does) h_l_law_does h_cd_law_does h_k_law_does).binds (ps := ["rules", "version", "port", "header"]) fun _ _ _ _ _ _ us hl => match us, hl with | [_, _, _, _], _ => rfl
    mg__law_does := PySem.W.mg_of X G h_a_law_does
    kp__law_does := h_k_law_does
    fn__law_only := fun_mk (st := s__law_only) h_l_law_only h_cd_law_only h_k_law_only
    bi__law_only := (fun_mk (st := s__law_only) h_l_law_only h_cd_law_only h_k_law_only).binds (ps := ["rules", "version"]) fun _ _ _ _ _ _ us hl => match us, hl with | [_, _], _ => rfl
    mg__law_only := PySem.W.mg_of X G h_a_law_only
    kp__law_only := h_k_law_only
    fn__law_tagged := fun_mk (st := s__law_tagged) h_l_law_tagged h_cd_law_tagged h_k_law_tagged
    bi__law_tagged := (fun_mk (st := s__law_tagged) h_l_law_tagged h_cd_law_tagged h_k_law_tagged).binds (ps := ["state", "table", "ways", "rules", "tag"]) fun _ _ _ _ _ _ us hl => match us, hl with | [_, _, _, _, _], _ => rfl
    mg__law_tagged := PySem.W.mg_of X G h_a_law_tagged
    kp__law_tagged := h_k_law_tagged
    fn_law := fun_mk (st := s_law) h_llaw h_cdlaw h_klaw
    bi_law := (fun_mk (st := s_law) h_llaw h_cdlaw h_klaw).binds (ps := ["script"]) fun _ _ _ _ _ _ us hl => match us, hl with | [_], _ => rfl
    mg_law := PySem.W.mg_of X G h_alaw
    kp_law := h_klaw
    mg_MOST_ENTRIES := ⟨_, PySem.W.mg_of X G h_gMOST_ENTRIES⟩
    mg_zip := PySem.W.mg_none_of X G h_bzip
    mg_tuple := PySem.W.mg_none_of X G h_btuple
    mg_sorted := PySem.W.mg_none_of X G h_bsorted
    mg_len := PySem.W.mg_none_of X G h_blen
    mg_sum := PySem.W.mg_none_of X G h_bsum
    mg_list := PySem.W.mg_none_of X G h_blist
    mg_abs := PySem.W.mg_none_of X G h_babs
    mg_int := PySem.W.mg_none_of X G h_bint
    mg_range := PySem.W.mg_none_of X G h_brange }
  exact ⟨_, fun s v => .of_eq rfl, fun base _ _ => ok_law T⟩
theorem walk {l : PySem.W.OpenLaw} {q : Program} {loose : List Str} {XP : (Str → Option Value) → Heap → Prop} {YP : World → Heap → Prop} {d : DefRec} {K : Params → PySem.W.Frag} (hn : l.most = some 63) (hdf : d.params.defaults = [])
    (hY : ∀ (w : World) (h : Heap), YP w h → (K w.params).In h)
    (F : ∀ (w : World) (mg : Str → Option Value) (fa : Addr) (h : Heap), (K w.params).In h → h.Ns mainGlobals mg → mg d.name = some (.ref fa) →
      ∃ fd : FuncData, (∀ (s : Shared) (u : Value), BindsTo s fd ⟨[u], []⟩ [("script", u)]) ∧ ∀ base : Heap, (K w.params).In base → base.Ns mainGlobals mg → FnOk l.prog w (K w.params) mg base CX0 5 fa fd ["script"] (sp_law (K w.params))) :
    PySem.W.WalkO q loose XP YP l.row.toRowW d [] (fun f vs => PySem.call f vs) :=
  L2.walk_of (n := 63) (k := 5) (x := "script") (CX := fun _ => CX0) (sp := fun w => sp_law (K w.params)) hn (by decide) hdf ⟨rfl, by decide, by decide⟩ hY F (fun _ _ a ns hl _ hS => ⟨a, ns, rfl, hS, hl, fun _ => rfl⟩) fun _ _ _ _ _ z => z
end K8

open PySem PySem.W PyProof.Rows in
set_option maxRecDepth 100000 in
set_option maxHeartbeats 0 in
theorem PySem.Challenge.cw_hangbridge_k08_tables_of_switches_holds : PySem.Challenge.rw_hangbridge_k08_tables_of_switches.Holds := by
  w_on; o_law; k_head; (case hw => w_witness2)
  k_fill
  refine K8.walk (l := PySem.Challenge.rw_hangbridge_k08_tables_of_switches) rfl rfl (fun w h Y => PySem.W.kIn_of Y) ?F
  case F =>
    intro w mg fa h KX G hmg
    refine' K8.all_mk (l := PySem.Challenge.rw_hangbridge_k08_tables_of_switches) rfl KX G hmg ?h_cTable ?h_pgTable ?h_hdTable ?h_poTable ?h_saTable ?h_mkTable ?h_kcTable ?h_naTable_ways ?h_naTable_rules ?h_naTable_tag ?h_afits ?h_lfits ?h_cdfits ?h_kfits ?h_achanged ?h_lchanged ?h_cdchanged ?h_kchanged ?h_adone ?h_ldone ?h_cddone ?h_kdone ?h_arules_do ?h_lrules_do ?h_cdrules_do ?h_krules_do ?h_aTable_init ?h_iTable_init ?h_lTable_init ?h_cdTable_init ?h_kTable_init ?h_aTable_count ?h_iTable_count ?h_lTable_count ?h_cdTable_count ?h_kTable_count ?h_aTable_wipe ?h_iTable_wipe ?h_lTable_wipe ?h_cdTable_wipe ?h_kTable_wipe ?h_aTable_drop ?h_iTable_drop ?h_lTable_drop ?h_cdTable_drop ?h_kTable_drop ?h_aTable_add ?h_iTable_add ?h_lTable_add ?h_cdTable_add ?h_kTable_add ?h_aTable_lay ?h_iTable_lay ?h_lTable_lay ?h_cdTable_lay ?h_kTable_lay ?h_aTable_unlay ?h_iTable_unlay ?h_lTable_unlay ?h_cdTable_unlay ?h_kTable_unlay ?h_aTable_retag ?h_iTable_retag ?h_lTable_retag ?h_cdTable_retag ?h_kTable_retag ?h_aTable_strip ?h_iTable_strip ?h_lTable_strip ?h_cdTable_strip ?h_kTable_strip ?h_aTable_keep ?h_iTable_keep ?h_lTable_keep ?h_cdTable_keep ?h_kTable_keep ?h_aTable_does ?h_iTable_does ?h_lTable_does ?h_cdTable_does ?h_kTable_does ?h_a_law_state ?h_l_law_state ?h_cd_law_state ?h_k_law_state ?h_a_law_draw ?h_l_law_draw ?h_cd_law_draw ?h_k_law_draw ?h_a_law_pick ?h_l_law_pick ?h_cd_law_pick ?h_k_law_pick ?h_a_law_part ?h_l_law_part ?h_cd_law_part ?h_k_law_part ?h_a_law_rule ?h_l_law_rule ?h_cd_law_rule ?h_k_law_rule ?h_a_law_fits ?h_l_law_fits ?h_cd_law_fits ?h_k_law_fits ?h_a_law_done ?h_l_law_done ?h_cd_law_done ?h_k_law_done ?h_a_law_does ?h_l_law_does ?h_cd_law_does ?h_k_law_does ?h_a_law_only ?h_l_law_only ?h_cd_law_only ?h_k_law_only ?h_a_law_tagged ?h_l_law_tagged ?h_cd_law_tagged ?h_k_law_tagged ?h_alaw ?h_llaw ?h_cdlaw ?h_klaw ?h_gMOST_ENTRIES ?h_bzip ?h_btuple ?h_bsorted ?h_blen ?h_bsum ?h_blist ?h_babs ?h_bint ?h_brange
    (case h_cTable => k_is)
    (case h_pgTable => k_is)
    (case h_hdTable => k_is)
    (case h_poTable => k_is)
    (case h_saTable => k_is)
    (case h_mkTable => k_is)
    (case h_kcTable => k_is)
    (case h_naTable_ways => k_is)
    (case h_naTable_rules => k_is)
    (case h_naTable_tag => k_is)
    (case h_afits => k_is)
    (case h_lfits => k_is)
    (case h_cdfits => k_is)
    (case h_kfits => k_is)
    (case h_achanged => k_is)
    (case h_lchanged => k_is)
    (case h_cdchanged => k_is)
    (case h_kchanged => k_is)
    (case h_adone => k_is)
    (case h_ldone => k_is)
    (case h_cddone => k_is)
    (case h_kdone => k_is)
    (case h_arules_do => k_is)
    (case h_lrules_do => k_is)
    (case h_cdrules_do => k_is)
    (case h_krules_do => k_is)
    (case h_aTable_init => k_is)
    (case h_iTable_init => k_is)
    (case h_lTable_init => k_is)
    (case h_cdTable_init => k_is)
    (case h_kTable_init => k_is)
    (case h_aTable_count => k_is)
    (case h_iTable_count => k_is)
    (case h_lTable_count => k_is)
    (case h_cdTable_count => k_is)
    (case h_kTable_count => k_is)
    (case h_aTable_wipe => k_is)
    (case h_iTable_wipe => k_is)
    (case h_lTable_wipe => k_is)
    (case h_cdTable_wipe => k_is)
    (case h_kTable_wipe => k_is)
    (case h_aTable_drop => k_is)
    (case h_iTable_drop => k_is)
    (case h_lTable_drop => k_is)
    (case h_cdTable_drop => k_is)
    (case h_kTable_drop => k_is)
    (case h_aTable_add => k_is)
    (case h_iTable_add => k_is)
    (case h_lTable_add => k_is)
    (case h_cdTable_add => k_is)
    (case h_kTable_add => k_is)
    (case h_aTable_lay => k_is)
    (case h_iTable_lay => k_is)
    (case h_lTable_lay => k_is)
    (case h_cdTable_lay => k_is)
    (case h_kTable_lay => k_is)
    (case h_aTable_unlay => k_is)
    (case h_iTable_unlay => k_is)
    (case h_lTable_unlay => k_is)
    (case h_cdTable_unlay => k_is)
    (case h_kTable_unlay => k_is)
    (case h_aTable_retag => k_is)
    (case h_iTable_retag => k_is)
    (case h_lTable_retag => k_is)
    (case h_cdTable_retag => k_is)
    (case h_kTable_retag => k_is)
    (case h_aTable_strip => k_is)
    (case h_iTable_strip => k_is)
    (case h_lTable_strip => k_is)
    (case h_cdTable_strip => k_is)
    (case h_kTable_strip => k_is)
    (case h_aTable_keep => k_is)
    (case h_iTable_keep => k_is)
    (case h_lTable_keep => k_is)
    (case h_cdTable_keep => k_is)
    (case h_kTable_keep => k_is)
    (case h_aTable_does => k_is)
    (case h_iTable_does => k_is)
    (case h_lTable_does => k_is)
    (case h_cdTable_does => k_is)
    (case h_kTable_does => k_is)
    (case h_a_law_state => k_is)
    (case h_l_law_state => k_is)
    (case h_cd_law_state => k_is)
    (case h_k_law_state => k_is)
    (case h_a_law_draw => k_is)
    (case h_l_law_draw => k_is)
    (case h_cd_law_draw => k_is)
    (case h_k_law_draw => k_is)
    (case h_a_law_pick => k_is)
    (case h_l_law_pick => k_is)
    (case h_cd_law_pick => k_is)
    (case h_k_law_pick => k_is)
    (case h_a_law_part => k_is)
    (case h_l_law_part => k_is)
    (case h_cd_law_part => k_is)
    (case h_k_law_part => k_is)
    (case h_a_law_rule => k_is)
    (case h_l_law_rule => k_is)
    (case h_cd_law_rule => k_is)
    (case h_k_law_rule => k_is)
    (case h_a_law_fits => k_is)
    (case h_l_law_fits => k_is)
    (case h_cd_law_fits => k_is)
    (case h_k_law_fits => k_is)
    (case h_a_law_done => k_is)
    (case h_l_law_done => k_is)
    (case h_cd_law_done => k_is)
    (case h_k_law_done => k_is)
    (case h_a_law_does => k_is)
    (case h_l_law_does => k_is)
    (case h_cd_law_does => k_is)
    (case h_k_law_does => k_is)
    (case h_a_law_only => k_is)
    (case h_l_law_only => k_is)
    (case h_cd_law_only => k_is)
    (case h_k_law_only => k_is)
    (case h_a_law_tagged => k_is)
    (case h_l_law_tagged => k_is)
    (case h_cd_law_tagged => k_is)
    (case h_k_law_tagged => k_is)
    (case h_alaw => k_is)
    (case h_llaw => k_is)
    (case h_cdlaw => k_is)
    (case h_klaw => k_is)
    (case h_gMOST_ENTRIES => k_is)
    (case h_bzip => k_is)
    (case h_btuple => k_is)
    (case h_bsorted => k_is)
    (case h_blen => k_is)
    (case h_bsum => k_is)
    (case h_blist => k_is)
    (case h_babs => k_is)
    (case h_bint => k_is)
    (case h_brange => k_is)
