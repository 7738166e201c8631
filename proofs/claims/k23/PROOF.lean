import PyProof.Rows.All
import Wide.All
import OpenK.AllK
import Wide.FinOn
import HandS.Base
import HandS.Call
import HandS.List
import HandS.Comp
import HandS.Ends
import KE.DataEq
import KE.LtSeq
import HandS.ForMost
import HandS.IsInst
import HandS.Wide
import HandS.TupAny
import HandS.Codes
import HandS.RevRange
import HandS.Walk
import HandS.More
import HandS.Sort
import PyProof.Rows.Range3
import KE.GoesEnum
import HandS.Style
import HandS.ForExc
import PyProof.EqAt
import PyProof.EqKinds
import PyProof.TupleCall
import HandS.SetKeys
import HandS.Defaults
import HandS.DictComp
import HandS.Flow
import HandS.Conv
import PyProof.MeetsIn
import HandS.Dict
import PyProof.DictUpdate
import PyProof.DictCopy
import PyProof.DictDisplay
import HandS.ForDict
import HandS.TryOnly
import PySem.Challenge.RW_rulestead_k23_sound_states
set_option Elab.async false
set_option linter.all false
set_option maxRecDepth 100000
set_option maxHeartbeats 8000000
/-! Tuples compared by < and >, where only the first pair that differs need be comparable. -/
namespace KA
open PySem PySem.SeqAt
open PySem.AutoSeq1 (wpAny_loadPart')
open PySem.MeetsSeq PySem.MeetsSeq2 PySem.MeetsSeq3

/-- u op v gives k, nothing changes -/
def Rc (op : CmpOp) (A : Around) (s : Shared) (u v : Value) (k : Bool) : Prop :=
  ∀ (prog : Program) (w : World) (E : Value → Shared → Prop) (Q : Value → Shared → Prop), Q (.bool k) s → wpAny (model prog w) A (richCompare op u v) Q E s
theorem lt_mixed (p q : Addr) (as bs : Array Value) (m m2 : Nat) (da db : Option Addr) (sa sb : Array (Option Value)) (e r : Nat → Bool) :
    Meets (Builtin.«tuple.__lt__» ⟨[.ref p, .ref q], []⟩)
      (fun A R s => s.heap.get? p = some { cls := .type "tuple", dict := da, data := .seq as m, slots := sa } ∧ s.heap.get? q = some { cls := .type "tuple", dict := db, data := .seq bs m2, slots := sb } ∧
        (∀ j (h1 : j < as.size) (h2 : j < bs.size), EqAt A.in1 s as[j] bs[j] (e j)) ∧
        (∀ j (h1 : j < as.size) (h2 : j < bs.size), (∀ i, i < j → e i = true) → e j = false → Rc .Lt A.in1 s as[j] bs[j] (r j)) ∧
        R (.ok (.ret (.bool (firstLt e r (decide (as.size < bs.size)) (List.range (min as.size bs.size)))))) s) :=
  .of_wp fun prog w A R s hyp => by
    obtain ⟨hp, gg, dr, tks, ox⟩ := s
    obtain ⟨gp, gq, heq, hrc, hR0⟩ := hyp
    have isT := AutoSeq1.sub_tuple_tuple
    have zl : (as.toList.zip bs.toList).length = min as.size bs.size := by simp
    wp_walk using wpAny_loadPart' gp, wpAny_loadPart' gq, wpAny_forIn_list _ (fun rem st s' => st.1 = none ∧ s' = ⟨hp, gg, dr, tks, ox⟩ ∧ ∃ i, (∀ x, x < i → e x = true) ∧ rem = (as.toList.zip bs.toList).drop i ∧
      R (.ok (.ret (.bool (firstLt e r (decide (as.size < bs.size)) ((List.range (min as.size bs.size)).drop i))))) ⟨hp, gg, dr, tks, ox⟩) _
    case turn =>
      rintro ⟨u, v⟩ rem st s' ⟨st1, rfl, i, same, hz, hR⟩
      have il : i < (as.toList.zip bs.toList).length := by
        rcases Nat.lt_or_ge i (as.toList.zip bs.toList).length with c | c
        · exact c
        · rw [List.drop_of_length_le c] at hz
          cases hz
      have im : i < min as.size bs.size := zl ▸ il
      have ia : i < as.size := Nat.lt_of_lt_of_le im (Nat.min_le_left _ _)
      have ib : i < bs.size := Nat.lt_of_lt_of_le im (Nat.min_le_right _ _)
      rw [List.drop_eq_getElem_cons il] at hz
      injection hz with huv hrem
      have eu : u = as[i] := by
        have t := congrArg Prod.fst huv
        simpa using t
      have ev : v = bs[i] := by
        have t := congrArg Prod.snd huv
        simpa using t
      subst eu ev
      have hcut : (List.range (min as.size bs.size)).drop i = i :: (List.range (min as.size bs.size)).drop (i + 1) := by
        simp [List.drop_eq_getElem_cons, im]
      rw [hcut] at hR
      refine wpAny_bind (heq i ia ib prog w _ _ ?_)
      cases ei : e i with
      | true =>
        rw [firstLt_yes ei] at hR
        wp_walk
        refine ⟨rfl, rfl, i + 1, fun x hx => ?_, hrem, hR⟩
        rcases Nat.lt_or_ge x i with c | c
        · exact same x c
        · rw [show x = i by omega]
          exact ei
      | false =>
        rw [firstLt_no ei] at hR
        have step := hrc i ia ib same ei prog w
        wp_walk using step
        exact ⟨_, rfl, by simpa using hR⟩
    case fin =>
      rintro ⟨c1, c2⟩ s' ⟨st1, rfl, i, same, hz, hR⟩
      simp only at st1
      subst st1
      have hge : min as.size bs.size ≤ i := by
        rcases Nat.lt_or_ge i (as.toList.zip bs.toList).length with c | c
        · rw [List.drop_eq_getElem_cons c] at hz
          cases hz
        · exact zl ▸ c
      rw [List.drop_of_length_le (by simpa using hge)] at hR
      wp_walk
      exact ⟨_, rfl, by simpa [Builtin.Tuple.tupleCompareSizes, firstLt] using hR⟩
    case h =>
      exact ⟨rfl, rfl, 0, fun x hx => absurd hx (Nat.not_lt_zero x), rfl, by simpa using hR0⟩
theorem gt_mixed (p q : Addr) (as bs : Array Value) (m m2 : Nat) (da db : Option Addr) (sa sb : Array (Option Value)) (e r : Nat → Bool) :
    Meets (Builtin.«tuple.__gt__» ⟨[.ref p, .ref q], []⟩)
      (fun A R s => s.heap.get? p = some { cls := .type "tuple", dict := da, data := .seq as m, slots := sa } ∧ s.heap.get? q = some { cls := .type "tuple", dict := db, data := .seq bs m2, slots := sb } ∧
        (∀ j (h1 : j < as.size) (h2 : j < bs.size), EqAt A.in1 s as[j] bs[j] (e j)) ∧
        (∀ j (h1 : j < as.size) (h2 : j < bs.size), (∀ i, i < j → e i = true) → e j = false → Rc .Gt A.in1 s as[j] bs[j] (r j)) ∧
        R (.ok (.ret (.bool (firstLt e r (decide (as.size > bs.size)) (List.range (min as.size bs.size)))))) s) :=
  .of_wp fun prog w A R s hyp => by
    obtain ⟨hp, gg, dr, tks, ox⟩ := s
    obtain ⟨gp, gq, heq, hrc, hR0⟩ := hyp
    have isT := AutoSeq1.sub_tuple_tuple
    have zl : (as.toList.zip bs.toList).length = min as.size bs.size := by simp
    wp_walk using wpAny_loadPart' gp, wpAny_loadPart' gq, wpAny_forIn_list _ (fun rem st s' => st.1 = none ∧ s' = ⟨hp, gg, dr, tks, ox⟩ ∧ ∃ i, (∀ x, x < i → e x = true) ∧ rem = (as.toList.zip bs.toList).drop i ∧
      R (.ok (.ret (.bool (firstLt e r (decide (as.size > bs.size)) ((List.range (min as.size bs.size)).drop i))))) ⟨hp, gg, dr, tks, ox⟩) _
    case turn =>
      rintro ⟨u, v⟩ rem st s' ⟨st1, rfl, i, same, hz, hR⟩
      have il : i < (as.toList.zip bs.toList).length := by
        rcases Nat.lt_or_ge i (as.toList.zip bs.toList).length with c | c
        · exact c
        · rw [List.drop_of_length_le c] at hz
          cases hz
      have im : i < min as.size bs.size := zl ▸ il
      have ia : i < as.size := Nat.lt_of_lt_of_le im (Nat.min_le_left _ _)
      have ib : i < bs.size := Nat.lt_of_lt_of_le im (Nat.min_le_right _ _)
      rw [List.drop_eq_getElem_cons il] at hz
      injection hz with huv hrem
      have eu : u = as[i] := by
        have t := congrArg Prod.fst huv
        simpa using t
      have ev : v = bs[i] := by
        have t := congrArg Prod.snd huv
        simpa using t
      subst eu ev
      have hcut : (List.range (min as.size bs.size)).drop i = i :: (List.range (min as.size bs.size)).drop (i + 1) := by
        simp [List.drop_eq_getElem_cons, im]
      rw [hcut] at hR
      refine wpAny_bind (heq i ia ib prog w _ _ ?_)
      cases ei : e i with
      | true =>
        rw [firstLt_yes ei] at hR
        wp_walk
        refine ⟨rfl, rfl, i + 1, fun x hx => ?_, hrem, hR⟩
        rcases Nat.lt_or_ge x i with c | c
        · exact same x c
        · rw [show x = i by omega]
          exact ei
      | false =>
        rw [firstLt_no ei] at hR
        have step := hrc i ia ib same ei prog w
        wp_walk using step
        exact ⟨_, rfl, by simpa using hR⟩
    case fin =>
      rintro ⟨c1, c2⟩ s' ⟨st1, rfl, i, same, hz, hR⟩
      simp only at st1
      subst st1
      have hge : min as.size bs.size ≤ i := by
        rcases Nat.lt_or_ge i (as.toList.zip bs.toList).length with c | c
        · rw [List.drop_eq_getElem_cons c] at hz
          cases hz
        · exact zl ▸ c
      rw [List.drop_of_length_le (by simpa using hge)] at hR
      wp_walk
      exact ⟨_, rfl, by simpa [Builtin.Tuple.tupleCompareSizes, firstLt] using hR⟩
    case h =>
      exact ⟨rfl, rfl, 0, fun x hx => absurd hx (Nat.not_lt_zero x), rfl, by simpa using hR0⟩
section
variable {A : Around} {s : Shared} {p q : Addr} {as bs : Array Value} {e r : Nat → Bool}
theorem rc_lt_tups (hp : s.heap.IsTuple p as) (hq : s.heap.IsTuple q bs) (hu : A.units < cLine) (he : ∀ j (h1 : j < as.size) (h2 : j < bs.size), EqAt A.in1 s as[j] bs[j] (e j))
    (hr : ∀ j (h1 : j < as.size) (h2 : j < bs.size), (∀ i, i < j → e i = true) → e j = false → Rc .Lt A.in1 s as[j] bs[j] (r j)) :
    Rc .Lt A s (.ref p) (.ref q) (firstLt e r (decide (as.size < bs.size)) (List.range (min as.size bs.size))) := fun prog w E Q k => by
  obtain ⟨⟨c1, d1, x1, z1⟩, o1, k1, n1, w1⟩ := id hp
  obtain ⟨⟨c2, d2, x2, z2⟩, o2, k2, n2, w2⟩ := id hq
  simp only at k1 w1 k2 w2
  subst k1 w1 k2 w2
  refine richCompare_meets_room (op := .Lt) ⟨_, o1, rfl⟩ ⟨_, o2, rfl⟩ F.slot_tuple_lt F.entry_tuple_lt (F.args_tuple_lt_2 _ _) (lt_mixed p q as bs n1 n2 d1 d2 z1 z2 e r) ?_ hu
  exact ⟨o1, o2, he, hr, ⟨(fun x => nomatch x), k⟩⟩
theorem rc_gt_tups (hp : s.heap.IsTuple p as) (hq : s.heap.IsTuple q bs) (hu : A.units < cLine) (he : ∀ j (h1 : j < as.size) (h2 : j < bs.size), EqAt A.in1 s as[j] bs[j] (e j))
    (hr : ∀ j (h1 : j < as.size) (h2 : j < bs.size), (∀ i, i < j → e i = true) → e j = false → Rc .Gt A.in1 s as[j] bs[j] (r j)) :
    Rc .Gt A s (.ref p) (.ref q) (firstLt e r (decide (as.size > bs.size)) (List.range (min as.size bs.size))) := fun prog w E Q k => by
  obtain ⟨⟨c1, d1, x1, z1⟩, o1, k1, n1, w1⟩ := id hp
  obtain ⟨⟨c2, d2, x2, z2⟩, o2, k2, n2, w2⟩ := id hq
  simp only at k1 w1 k2 w2
  subst k1 w1 k2 w2
  refine richCompare_meets_room (op := .Gt) ⟨_, o1, rfl⟩ ⟨_, o2, rfl⟩ F.slot_tuple_gt F.entry_tuple_gt (F.args_tuple_gt_2 _ _) (gt_mixed p q as bs n1 n2 d1 d2 z1 z2 e r) ?_ hu
  exact ⟨o1, o2, he, hr, ⟨(fun x => nomatch x), k⟩⟩
end
end KA

/-! < and > of data whose items may be of unlike kinds behind the first difference. -/
namespace KA
open PySem PySem.SeqAt
mutual
/-- x < y as Python says; none: not comparable -/
def dlt : PyData → PyData → Option Bool
  | .int a, .int b => some (decide (a < b))
  | .str a, .str b => some (decide (a.cps.toList < b.cps.toList))
  | .tuple xs, .tuple ys => dltAll xs ys
  | _, _ => none
def dltAll : List PyData → List PyData → Option Bool
  | [], [] => some false
  | [], _ :: _ => some true
  | _ :: _, [] => some false
  | x :: xs, y :: ys => if PyData.eqv x y = true then dltAll xs ys else dlt x y
end
mutual
def dgt : PyData → PyData → Option Bool
  | .int a, .int b => some (decide (a > b))
  | .str a, .str b => some (decide (b.cps.toList < a.cps.toList))
  | .tuple xs, .tuple ys => dgtAll xs ys
  | _, _ => none
def dgtAll : List PyData → List PyData → Option Bool
  | [], [] => some false
  | [], _ :: _ => some false
  | _ :: _, [] => some true
  | x :: xs, y :: ys => if PyData.eqv x y = true then dgtAll xs ys else dgt x y
end
/-- what the first unequal pair gives, by place -/
def rAt (f : PyData → PyData → Option Bool) (xs ys : List PyData) (j : Nat) : Bool :=
  match xs[j]?, ys[j]? with
  | some x, some y => (f x y).getD false
  | _, _ => false
theorem scan_succ (e r : Nat → Bool) (z : Bool) : ∀ l : List Nat, firstLt e r z (l.map (· + 1)) = firstLt (fun j => e (j + 1)) (fun j => r (j + 1)) z l
  | [] => rfl
  | j :: t => by
    rw [List.map_cons]
    show (if e (j + 1) = true then firstLt e r z (t.map (· + 1)) else r (j + 1)) = _
    rw [scan_succ e r z t]
    rfl
theorem scan_lt : ∀ (xs ys : List PyData) (k : Bool), dltAll xs ys = some k → firstLt (pairEq xs ys) (rAt dlt xs ys) (decide (xs.length < ys.length)) (List.range (min xs.length ys.length)) = k
  | [], [], k, h => by
    rw [dltAll] at h
    exact (Option.some.inj h)
  | [], y :: ys, k, h => by
    rw [dltAll] at h
    rw [← Option.some.inj h]
    simp [firstLt]
  | x :: xs, [], k, h => by
    rw [dltAll] at h
    rw [← Option.some.inj h]
    simp [firstLt]
  | x :: xs, y :: ys, k, h => by
    rw [dltAll] at h
    have em : min (x :: xs).length (y :: ys).length = min xs.length ys.length + 1 := by
      rw [List.length_cons, List.length_cons]
      omega
    rw [em, List.range_succ_eq_map]
    by_cases hxy : PyData.eqv x y = true
    · rw [if_pos hxy] at h
      rw [firstLt_yes (show pairEq (x :: xs) (y :: ys) 0 = true from hxy), scan_succ, ← scan_lt xs ys k h]
      simp only [List.length_cons, Nat.add_lt_add_iff_right]
      rfl
    · rw [if_neg hxy] at h
      have hf : PyData.eqv x y = false := by
        cases c : PyData.eqv x y
        · rfl
        · exact absurd c hxy
      rw [firstLt_no (show pairEq (x :: xs) (y :: ys) 0 = false from hf)]
      show (dlt x y).getD false = k
      rw [h]
      rfl
theorem scan_gt : ∀ (xs ys : List PyData) (k : Bool), dgtAll xs ys = some k → firstLt (pairEq xs ys) (rAt dgt xs ys) (decide (xs.length > ys.length)) (List.range (min xs.length ys.length)) = k
  | [], [], k, h => by
    rw [dgtAll] at h
    exact (Option.some.inj h)
  | [], y :: ys, k, h => by
    rw [dgtAll] at h
    rw [← Option.some.inj h]
    simp [firstLt]
  | x :: xs, [], k, h => by
    rw [dgtAll] at h
    rw [← Option.some.inj h]
    simp [firstLt]
  | x :: xs, y :: ys, k, h => by
    rw [dgtAll] at h
    have em : min (x :: xs).length (y :: ys).length = min xs.length ys.length + 1 := by
      rw [List.length_cons, List.length_cons]
      omega
    rw [em, List.range_succ_eq_map]
    by_cases hxy : PyData.eqv x y = true
    · rw [if_pos hxy] at h
      rw [firstLt_yes (show pairEq (x :: xs) (y :: ys) 0 = true from hxy), scan_succ, ← scan_gt xs ys k h]
      simp only [List.length_cons, gt_iff_lt, Nat.add_lt_add_iff_right]
      rfl
    · rw [if_neg hxy] at h
      have hf : PyData.eqv x y = false := by
        cases c : PyData.eqv x y
        · rfl
        · exact absurd c hxy
      rw [firstLt_no (show pairEq (x :: xs) (y :: ys) 0 = false from hf)]
      show (dgt x y).getD false = k
      rw [h]
      rfl
mutual
theorem rc_lt : ∀ (d e : PyData) (k : Bool) (A : Around) (s : Shared) (a b : Value) (as bs : List Addr), Reads s.heap a d as → Reads s.heap b e bs → d.plain = true → e.plain = true → dlt d e = some k →
    A.units + min d.depth e.depth < cLine → Rc .Lt A s a b k
  | .int x, e, k, A, s, a, b, as, bs, ra, rb, pd, pe, h, hu => by
    cases e with
    | int y =>
      cases ra
      cases rb
      intro prog w E Q hq
      rw [dlt] at h
      cases h
      exact P.lt_int hq
    | _ => exact absurd h (by simp [dlt])
  | .str x, e, k, A, s, a, b, as, bs, ra, rb, pd, pe, h, hu => by
    cases e with
    | str y =>
      cases ra
      cases rb
      intro prog w E Q hq
      rw [dlt] at h
      cases h
      exact P.lt_str hq
    | _ => exact absurd h (by simp [dlt])
  | .tuple xs, e, k, A, s, a, b, as, bs, ra, rb, pd, pe, h, hu => by
    cases e with
    | tuple ys =>
      rw [dlt] at h
      cases ra with
      | @tuple l o vs n _ as1 h1 h2 h3 h4 =>
        cases rb with
        | @tuple l2 o2 vs2 n2 _ bs1 k1 k2 k3 k4 =>
          have z1 : vs.size = xs.length := by simpa using ReadsAll.length _ _ _ h4
          have z2 : vs2.size = ys.length := by simpa using ReadsAll.length _ _ _ k4
          have px : PyData.plainAll xs = true := pd
          have py : PyData.plainAll ys = true := pe
          have q := rc_lt_tups (A := A) (s := s) (e := pairEq xs ys) (r := rAt dlt xs ys) ⟨_, h1, h2, _, h3⟩ ⟨_, k1, k2, _, k3⟩ (room_here hu) (fun j j1 j2 => by
            have t := eqAt_plainAll xs ys A.in1 s vs.toList vs2.toList _ _ h4 k4 px py (room_in hu) j (by simpa using j1) (by simpa using j2)
            simpa using t) (fun j j1 j2 hb hj => by
            have t := rc_ltAll xs ys k A.in1 s vs.toList vs2.toList _ _ h4 k4 px py h (room_in hu) j (by simpa using j1) (by simpa using j2) hb hj
            simpa using t)
          rw [z1, z2, scan_lt xs ys k h] at q
          exact q
    | _ => exact absurd h (by simp [dlt])
  | .none, e, k, _, _, _, _, _, _, _, _, _, _, h, _ => absurd h (by cases e <;> simp [dlt])
  | .bool _, e, k, _, _, _, _, _, _, _, _, _, _, h, _ => absurd h (by cases e <;> simp [dlt])
  | .list _, e, k, _, _, _, _, _, _, _, _, _, _, h, _ => absurd h (by cases e <;> simp [dlt])
  | .dict _, e, k, _, _, _, _, _, _, _, _, _, _, h, _ => absurd h (by cases e <;> simp [dlt])
theorem rc_ltAll : ∀ (xs ys : List PyData) (k : Bool) (A : Around) (s : Shared) (vs ws : List Value) (as bs : List Addr), ReadsAll s.heap vs xs as → ReadsAll s.heap ws ys bs → PyData.plainAll xs = true → PyData.plainAll ys = true →
    dltAll xs ys = some k → A.units + min (PyData.depthAll xs) (PyData.depthAll ys) < cLine → ∀ j (h1 : j < vs.length) (h2 : j < ws.length), (∀ i, i < j → pairEq xs ys i = true) → pairEq xs ys j = false →
    Rc .Lt A s vs[j] ws[j] (rAt dlt xs ys j)
  | [], _, _, _, _, _, _, _, _, ra, _, _, _, _, _, j, h1, _, _, _ => by
    cases ra
    exact absurd h1 (Nat.not_lt_zero _)
  | _ :: _, [], _, _, _, _, _, _, _, _, rb, _, _, _, _, j, _, h2, _, _ => by
    cases rb
    exact absurd h2 (Nat.not_lt_zero _)
  | x :: xs, y :: ys, k, A, s, _, _, _, _, ra, rb, pa, pb, h, hu, j, h1, h2, hb, hj => by
    have pa2 : x.plain = true ∧ PyData.plainAll xs = true := by simpa [PyData.plainAll] using pa
    have pb2 : y.plain = true ∧ PyData.plainAll ys = true := by simpa [PyData.plainAll] using pb
    rw [dltAll] at h
    cases ra with
    | cons r rs =>
      cases rb with
      | cons t ts =>
        cases j with
        | zero =>
          have hf : PyData.eqv x y = false := hj
          rw [if_neg (by rw [hf]; exact Bool.false_ne_true)] at h
          have q := rc_lt x y k A s _ _ _ _ r t pa2.1 pb2.1 h (room_head hu)
          have ek : rAt dlt (x :: xs) (y :: ys) 0 = k := by
            show (dlt x y).getD false = k
            rw [h]
            rfl
          rw [ek]
          exact q
        | succ j =>
          have ht : PyData.eqv x y = true := hb 0 (Nat.zero_lt_succ j)
          rw [if_pos ht] at h
          exact rc_ltAll xs ys k A s _ _ _ _ rs ts pa2.2 pb2.2 h (room_tail hu) j (Nat.lt_of_succ_lt_succ h1) (Nat.lt_of_succ_lt_succ h2) (fun i hi => hb (i + 1) (Nat.succ_lt_succ hi)) hj
end
mutual
theorem rc_gt : ∀ (d e : PyData) (k : Bool) (A : Around) (s : Shared) (a b : Value) (as bs : List Addr), Reads s.heap a d as → Reads s.heap b e bs → d.plain = true → e.plain = true → dgt d e = some k →
    A.units + min d.depth e.depth < cLine → Rc .Gt A s a b k
  | .int x, e, k, A, s, a, b, as, bs, ra, rb, pd, pe, h, hu => by
    cases e with
    | int y =>
      cases ra
      cases rb
      intro prog w E Q hq
      rw [dgt] at h
      cases h
      exact P.gt_int hq
    | _ => exact absurd h (by simp [dgt])
  | .str x, e, k, A, s, a, b, as, bs, ra, rb, pd, pe, h, hu => by
    cases e with
    | str y =>
      cases ra
      cases rb
      intro prog w E Q hq
      rw [dgt] at h
      cases h
      exact P.gt_str hq
    | _ => exact absurd h (by simp [dgt])
  | .tuple xs, e, k, A, s, a, b, as, bs, ra, rb, pd, pe, h, hu => by
    cases e with
    | tuple ys =>
      rw [dgt] at h
      cases ra with
      | @tuple l o vs n _ as1 h1 h2 h3 h4 =>
        cases rb with
        | @tuple l2 o2 vs2 n2 _ bs1 k1 k2 k3 k4 =>
          have z1 : vs.size = xs.length := by simpa using ReadsAll.length _ _ _ h4
          have z2 : vs2.size = ys.length := by simpa using ReadsAll.length _ _ _ k4
          have px : PyData.plainAll xs = true := pd
          have py : PyData.plainAll ys = true := pe
          have q := rc_gt_tups (A := A) (s := s) (e := pairEq xs ys) (r := rAt dgt xs ys) ⟨_, h1, h2, _, h3⟩ ⟨_, k1, k2, _, k3⟩ (room_here hu) (fun j j1 j2 => by
            have t := eqAt_plainAll xs ys A.in1 s vs.toList vs2.toList _ _ h4 k4 px py (room_in hu) j (by simpa using j1) (by simpa using j2)
            simpa using t) (fun j j1 j2 hb hj => by
            have t := rc_gtAll xs ys k A.in1 s vs.toList vs2.toList _ _ h4 k4 px py h (room_in hu) j (by simpa using j1) (by simpa using j2) hb hj
            simpa using t)
          rw [z1, z2, scan_gt xs ys k h] at q
          exact q
    | _ => exact absurd h (by simp [dgt])
  | .none, e, k, _, _, _, _, _, _, _, _, _, _, h, _ => absurd h (by cases e <;> simp [dgt])
  | .bool _, e, k, _, _, _, _, _, _, _, _, _, _, h, _ => absurd h (by cases e <;> simp [dgt])
  | .list _, e, k, _, _, _, _, _, _, _, _, _, _, h, _ => absurd h (by cases e <;> simp [dgt])
  | .dict _, e, k, _, _, _, _, _, _, _, _, _, _, h, _ => absurd h (by cases e <;> simp [dgt])
theorem rc_gtAll : ∀ (xs ys : List PyData) (k : Bool) (A : Around) (s : Shared) (vs ws : List Value) (as bs : List Addr), ReadsAll s.heap vs xs as → ReadsAll s.heap ws ys bs → PyData.plainAll xs = true → PyData.plainAll ys = true →
    dgtAll xs ys = some k → A.units + min (PyData.depthAll xs) (PyData.depthAll ys) < cLine → ∀ j (h1 : j < vs.length) (h2 : j < ws.length), (∀ i, i < j → pairEq xs ys i = true) → pairEq xs ys j = false →
    Rc .Gt A s vs[j] ws[j] (rAt dgt xs ys j)
  | [], _, _, _, _, _, _, _, _, ra, _, _, _, _, _, j, h1, _, _, _ => by
    cases ra
    exact absurd h1 (Nat.not_lt_zero _)
  | _ :: _, [], _, _, _, _, _, _, _, _, rb, _, _, _, _, j, _, h2, _, _ => by
    cases rb
    exact absurd h2 (Nat.not_lt_zero _)
  | x :: xs, y :: ys, k, A, s, _, _, _, _, ra, rb, pa, pb, h, hu, j, h1, h2, hb, hj => by
    have pa2 : x.plain = true ∧ PyData.plainAll xs = true := by simpa [PyData.plainAll] using pa
    have pb2 : y.plain = true ∧ PyData.plainAll ys = true := by simpa [PyData.plainAll] using pb
    rw [dgtAll] at h
    cases ra with
    | cons r rs =>
      cases rb with
      | cons t ts =>
        cases j with
        | zero =>
          have hf : PyData.eqv x y = false := hj
          rw [if_neg (by rw [hf]; exact Bool.false_ne_true)] at h
          have q := rc_gt x y k A s _ _ _ _ r t pa2.1 pb2.1 h (room_head hu)
          have ek : rAt dgt (x :: xs) (y :: ys) 0 = k := by
            show (dgt x y).getD false = k
            rw [h]
            rfl
          rw [ek]
          exact q
        | succ j =>
          have ht : PyData.eqv x y = true := hb 0 (Nat.zero_lt_succ j)
          rw [if_pos ht] at h
          exact rc_gtAll xs ys k A s _ _ _ _ rs ts pa2.2 pb2.2 h (room_tail hu) j (Nat.lt_of_succ_lt_succ h1) (Nat.lt_of_succ_lt_succ h2) (fun i hi => hb (i + 1) (Nat.succ_lt_succ hi)) hj
end
end KA

/-! Rules over the layer: data of tuples read by values, their comparisons, items of lists. -/
namespace KA
open PySem PySem.Spec PyProof.Rows L2
mutual
/-- a value that reads as data over the tuples that stand at H -/
inductive Tp (H : Hp) : V → PyData → Prop
  | non : Tp H .non .none
  | bl (b : Bool) : Tp H (.bl b) (.bool b)
  | int (i : Int) : Tp H (.int i) (.int i)
  | str (x : Str) : Tp H (.str x) (.str x)
  | tup {a : Addr} {xs : List V} {ds : List PyData} : H a = some (.tup xs) → Tps H xs ds → Tp H (.ref a) (.tuple ds)
inductive Tps (H : Hp) : List V → List PyData → Prop
  | nil : Tps H [] []
  | cons {v : V} {vs : List V} {d : PyData} {ds : List PyData} : Tp H v d → Tps H vs ds → Tps H (v :: vs) (d :: ds)
end
/-- the tuples stay -/
def Tk (H H' : Hp) : Prop := ∀ a xs, H a = some (.tup xs) → H' a = some (.tup xs)
theorem Tk.refl (H : Hp) : Tk H H := fun _ _ h => h
theorem Tk.trans {H H1 H2 : Hp} (a : Tk H H1) (b : Tk H1 H2) : Tk H H2 := fun x o h => b x o (a x o h)
theorem Tk.of {H H' : Hp} (s : Same H H') : Tk H H' := fun a _ h => s a _ h
theorem Tk.new {H : Hp} {p : Addr} {o : HO} (h : H p = none) : Tk H (upd H p o) := fun a xs e => by
  rw [upd_ne (ne_of_none e h)]
  exact e
theorem Tk.lst {H : Hp} {p : Addr} {ys : List V} {o : HO} (h : H p = some (.lst ys)) : Tk H (upd H p o) := fun a xs e => by
  rw [upd_ne (ne_of e h (fun z => by cases z))]
  exact e
mutual
theorem Tp.mono {H H' : Hp} (k : Tk H H') : ∀ {d : PyData} {v : V}, Tp H v d → Tp H' v d
  | .none, _, h => by cases h; exact .non
  | .bool _, _, h => by cases h; exact .bl _
  | .int _, _, h => by cases h; exact .int _
  | .str _, _, h => by cases h; exact .str _
  | .tuple _, _, h => by
    cases h with
    | tup e r => exact .tup (k _ _ e) (Tps.mono k r)
  | .list _, _, h => nomatch h
  | .dict _, _, h => nomatch h
theorem Tps.mono {H H' : Hp} (k : Tk H H') : ∀ {ds : List PyData} {vs : List V}, Tps H vs ds → Tps H' vs ds
  | [], _, h => by cases h; exact .nil
  | _ :: _, _, h => by
    cases h with
    | cons a r => exact .cons (Tp.mono k a) (Tps.mono k r)
end
mutual
theorem Tp.dp {K : PySem.W.Frag} {H : Hp} : ∀ {d : PyData} {v : V}, Tp H v d → Dp K H v d
  | .none, _, h => by cases h; exact .non
  | .bool _, _, h => by cases h; exact .bl _
  | .int _, _, h => by cases h; exact .int _
  | .str _, _, h => by cases h; exact .str _
  | .tuple _, _, h => by
    cases h with
    | tup e r => exact .tup (SqT.of e) (Tps.dp r)
  | .list _, _, h => nomatch h
  | .dict _, _, h => nomatch h
theorem Tps.dp {K : PySem.W.Frag} {H : Hp} : ∀ {ds : List PyData} {vs : List V}, Tps H vs ds → DpAll K H vs ds
  | [], _, h => by cases h; exact .nil
  | _ :: _, _, h => by
    cases h with
    | cons a r => exact .cons (Tp.dp a) (Tps.dp r)
end
mutual
theorem Tp.plain {H : Hp} : ∀ {d : PyData} {v : V}, Tp H v d → d.plain = true
  | .none, _, _ => rfl
  | .bool _, _, _ => rfl
  | .int _, _, _ => rfl
  | .str _, _, _ => rfl
  | .tuple _, _, h => by
    cases h with
    | tup e r => exact Tps.plain r
  | .list _, _, h => nomatch h
  | .dict _, _, h => nomatch h
theorem Tps.plain {H : Hp} : ∀ {ds : List PyData} {vs : List V}, Tps H vs ds → PyData.plainAll ds = true
  | [], _, _ => rfl
  | _ :: _, _, h => by
    cases h with
    | cons a r =>
      rw [PyData.plainAll, Tp.plain a, Tps.plain r]
      rfl
end
theorem Tps.length {H : Hp} : ∀ {ds : List PyData} {vs : List V}, Tps H vs ds → vs.length = ds.length
  | [], _, h => by cases h; rfl
  | _ :: _, _, h => by
    cases h with
    | cons a r => rw [List.length_cons, List.length_cons, Tps.length r]
theorem Tps.get {H : Hp} : ∀ {ds : List PyData} {vs : List V} {i : Nat} {v : V}, Tps H vs ds → vs[i]? = some v → ∃ d, ds[i]? = some d ∧ Tp H v d
  | [], _, _, _, h, e => by
    cases h
    simp at e
  | d :: _, _, 0, _, h, e => by
    cases h with
    | cons a r =>
      cases e
      exact ⟨d, rfl, a⟩
  | _ :: _, _, i + 1, _, h, e => by
    cases h with
    | cons a r => exact Tps.get (i := i) r e
theorem Tps.at_ {H : Hp} : ∀ {ds : List PyData} {vs : List V} {i : Nat} {d : PyData}, Tps H vs ds → ds[i]? = some d → ∃ v, vs[i]? = some v ∧ Tp H v d
  | [], _, _, _, h, e => by
    simp at e
  | d :: _, _, 0, _, h, e => by
    cases h with
    | cons a r =>
      cases e
      exact ⟨_, rfl, a⟩
  | _ :: _, _, i + 1, _, h, e => by
    cases h with
    | cons a r => exact Tps.at_ (i := i) r e
theorem Tps.append {H : Hp} : ∀ {ds es : List PyData} {vs ws : List V}, Tps H vs ds → Tps H ws es → Tps H (vs ++ ws) (ds ++ es)
  | [], _, _, _, h, h2 => by cases h; exact h2
  | _ :: _, _, _, _, h, h2 => by
    cases h with
    | cons a r => exact .cons a (Tps.append r h2)

section
variable {X : Cx}
/-- the room that a comparison of data wants -/
def small (d : PyData) : Prop := d.depth ≤ 64
theorem room_d {X : Cx} {d e : PyData} (hu : X.A.units + 64 < cLine) (sd : small d) : X.A.units + min d.depth e.depth < cLine :=
  Nat.lt_of_le_of_lt (Nat.add_le_add_left (Nat.le_trans (Nat.min_le_left _ _) sd) _) hu
def rEqP : R2 := fun x y H Q => ∃ d e, Tp H x d ∧ Tp H y e ∧ small d ∧ Q (.bl (PyData.eqv d e)) H
def rNeP : R2 := fun x y H Q => ∃ d e, Tp H x d ∧ Tp H y e ∧ small d ∧ Q (.bl (!PyData.eqv d e)) H
def rLtP : R2 := fun x y H Q => ∃ d e k, Tp H x d ∧ Tp H y e ∧ small d ∧ dlt d e = some k ∧ Q (.bl k) H
def rGtP : R2 := fun x y H Q => ∃ d e k, Tp H x d ∧ Tp H y e ∧ small d ∧ dgt d e = some k ∧ Q (.bl k) H
theorem op_eqP (hu : X.A.units + 64 < cLine) : OpR X (compareOp .Eq) rEqP := by
  intro pins s σ H x y v u Q I rx ry h
  obtain ⟨d, e, hd, he, sd, q⟩ := h
  obtain ⟨as, r1⟩ := Dp.reads I d x v hd.dp rx
  obtain ⟨bs, r2⟩ := Dp.reads I e y u he.dp ry
  exact SeqAt.eq_plain r1 r2 hd.plain he.plain (room_d hu sd) ⟨.bl _, H, I, rfl, q⟩
theorem op_neP (hu : X.A.units + 64 < cLine) : OpR X (compareOp .NotEq) rNeP := by
  intro pins s σ H x y v u Q I rx ry h
  obtain ⟨d, e, hd, he, sd, q⟩ := h
  obtain ⟨as, r1⟩ := Dp.reads I d x v hd.dp rx
  obtain ⟨bs, r2⟩ := Dp.reads I e y u he.dp ry
  exact SeqAt.ne_plain r1 r2 hd.plain he.plain (room_d hu sd) ⟨.bl _, H, I, rfl, q⟩
theorem op_ltP (hu : X.A.units + 64 < cLine) : OpR X (compareOp .Lt) rLtP := by
  intro pins s σ H x y v u Q I rx ry h
  obtain ⟨d, e, k, hd, he, sd, hk, q⟩ := h
  obtain ⟨as, r1⟩ := Dp.reads I d x v hd.dp rx
  obtain ⟨bs, r2⟩ := Dp.reads I e y u he.dp ry
  exact rc_lt d e k _ _ _ _ _ _ r1 r2 hd.plain he.plain hk (room_d hu sd) _ _ _ _ ⟨.bl _, H, I, rfl, q⟩
theorem op_gtP (hu : X.A.units + 64 < cLine) : OpR X (compareOp .Gt) rGtP := by
  intro pins s σ H x y v u Q I rx ry h
  obtain ⟨d, e, k, hd, he, sd, hk, q⟩ := h
  obtain ⟨as, r1⟩ := Dp.reads I d x v hd.dp rx
  obtain ⟨bs, r2⟩ := Dp.reads I e y u he.dp ry
  exact rc_gt d e k _ _ _ _ _ _ r1 r2 hd.plain he.plain hk (room_d hu sd) _ _ _ _ ⟨.bl _, H, I, rfl, q⟩
/-- xs[i] of a list, the place not below 0, as an operator's left side asks it -/
def rGetN : V → V → Hp → VK → Prop := fun x y H Q => ∃ p xs, ∃ i : Nat, ∃ v, x = .ref p ∧ y = .int i ∧ H p = some (.lst xs) ∧ xs[i]? = some v ∧ Q v H
theorem get_list : PGet X rGetN := by
  intro pins s σ H o i ov iv Q I ro ri h
  obtain ⟨p, xs, n, v, rfl, rfl, hp, hv, q⟩ := h
  cases ro
  obtain ⟨t, rfl⟩ := ri
  obtain ⟨its, r, pl, hz⟩ := I.list (SqL.of hp)
  obtain ⟨w, ew, rw'⟩ := r.get hv
  have hl := r.length
  have hn := line63
  have hi : n < xs.length := by
    rcases Nat.lt_or_ge n xs.length with c | c
    · exact c
    · rw [List.getElem?_eq_none c] at hv
      cases hv
  exact wpAny_getItem_list pl.isList (by omega) (by omega) (by simpa using ew) ⟨v, H, I, rw', q⟩
end
/-- what a value is, for isinstance -/
theorem Tp.tyx {K : PySem.W.Frag} {H : Hp} {v : V} {d : PyData} (h : Tp H v d) : ∃ n, TyX K H v (.type n) ∧
    n = (match d with | .none => "NoneType" | .bool _ => "bool" | .int _ => "int" | .str _ => "str" | .tuple _ => "tuple" | .list _ => "list" | .dict _ => "dict") := by
  cases h with
  | non => exact ⟨_, .base .non, rfl⟩
  | bl b => exact ⟨_, .base (.bl b), rfl⟩
  | int i => exact ⟨_, .base (.int i), rfl⟩
  | str x => exact ⟨_, .base (.str x), rfl⟩
  | tup e r => exact ⟨_, .base (.tup e), rfl⟩
end KA

/-! Ranges with a step as values; data of lists and tuples. -/
namespace KA
open PySem PySem.Spec PyProof.Rows L2
/-- a range object a, a + c, .. below b, at p -/
def rng3 (p : Addr) (a b c : Int) : HO := .ext fun h => ∃ t u v, IsRange h p a b c t u v
section
variable {X : Cx}
theorem cr_range3 : CallR X (.type "range") (fun vs H Q => ∃ i j c, vs = [V.int i, V.int j, V.int c] ∧ c ≠ 0 ∧ c.natAbs < 1073741824 ∧ ∀ p, H p = none → Q (.ref p) (upd H p (rng3 p i j c))) := by
  intro pins s σ H vs us Q I r h
  obtain ⟨i, j, c, rfl, c0, c1, q⟩ := h
  cases r with
  | cons r1 rr =>
    cases rr with
    | cons r2 rr =>
      cases rr with
      | cons r3 rr =>
        cases rr
        obtain ⟨t, rfl⟩ := r1
        obtain ⟨u, rfl⟩ := r2
        obtain ⟨v, rfl⟩ := r3
        refine call_range_3 c0 ?_ (.inl (PyProof.noPylong_small c1))
        refine ⟨.ref s.heap.objs.size, upd H s.heap.objs.size (rng3 s.heap.objs.size i j c), I.laid (t' := s.toks) (fun b o e => Heap.get?_push_of_some _ e) (Nat.le_refl _) ?_, rfl, q _ (I.hok.fresh (Nat.le_refl _))⟩
        refine ⟨⟨t, u, v, IsRange.new ..⟩, ⟨_, Heap.get?_push_size _ rfl⟩, fun h1 h2 ⟨t1, u1, v1, e⟩ k => ⟨t1, u1, v1, k _ e⟩⟩
theorem call_len_rng3 : CallR X (.builtin "len") (fun xs H Q => ∃ p i j c n, xs = [.ref p] ∧ H p = some (rng3 p i j c) ∧ RgC i j c n ∧ n < 2 ^ 62 ∧ Q (.int (n : Nat)) H) := by
  intro pins s σ H xs us Q I r h
  obtain ⟨p, i, j, c, n, rfl, hp, ⟨_, _, _, c3⟩, hn, q⟩ := h
  obtain ⟨u, rfl, rx⟩ := vals1 r
  cases rx
  obtain ⟨⟨t, u, v, e⟩, _⟩ := I.hok p _ hp
  exact call_len_range e c3 (by omega) ⟨.int (n : Nat), H, I.tok _, ⟨_, rfl⟩, q⟩
def iRngV (te : TE) : TI := fun σ H R => te σ H fun x H1 => ∃ p i j c n, x = .ref p ∧ H1 p = some (rng3 p i j c) ∧ RgC i j c n ∧ R (Itc i c n) H1
theorem pi_rng3 {tg e : Expr} {te : TE} (he : PE X e te) : PI X tg e (iRngV te) := by
  refine ⟨fun pins s σ H R I h => ?_⟩
  refine thn (he.run pins s σ H _ I h) fun v s1 ⟨x, H1, I1, r1, q1⟩ => ?_
  obtain ⟨p, i, j, c, n, e, hp, ⟨c0, c1, c2, c3⟩, q⟩ := q1
  subst e
  cases r1
  obtain ⟨⟨t, u, v, ho⟩, _⟩ := I1.hok p _ hp
  refine wpAny_pyIter_range ho c2 ?_
  refine pi_one (tk := s1.toks) I1 _ (turn_rangeC _ i c n) ?_ q
  have e1 : i + ((0 : Nat) : Int) * c = i := by simp
  have e2 : (n : Int) - ((0 : Nat) : Int) = Builtin.Range.rangeSize i j c := by rw [c3]; simp
  show IsRangeIter _ _ (i + ((0 : Nat) : Int) * c) ((n : Int) - ((0 : Nat) : Int)) c
  rw [e1, e2]
  exact Heap.get?_push_size _ rfl
end
theorem fits_l {i : Int} (h1 : -(2 ^ 62) ≤ i) (h2 : i < 2 ^ 62) : Builtin.Range.rangeFitsLong i = true := by
  unfold Builtin.Range.rangeFitsLong
  rw [Bool.and_eq_true]
  exact ⟨decide_eq_true (by omega), decide_eq_true (by omega)⟩
/-- range(0, m, 54): its turns -/
theorem rg_up {m : Nat} (hm : m < 1000000) : RgC 0 m 54 ((m + 53) / 54) := by
  have e : Builtin.Range.rangeSize 0 (m : Int) 54 = (((m + 53) / 54 : Nat) : Int) := by
    unfold Builtin.Range.rangeSize
    rw [if_pos (by decide)]
    split
    · omega
    · omega
  refine ⟨by decide, by decide, ?_, e⟩
  unfold Builtin.Range.small
  rw [e, fits_l (by omega) (by omega), fits_l (by omega) (by omega), fits_l (by omega) (by omega), fits_l (by omega) (by omega), if_pos (by decide), fits_l (by omega) (by omega), Bool.or_true]
  rfl
end KA

/-! Data over lists and tuples that stand at H; lists of ints; lists of such. -/
namespace KA
open PySem PySem.Spec PyProof.Rows L2
mutual
inductive Dl (H : Hp) : V → PyData → Prop
  | non : Dl H .non .none
  | bl (b : Bool) : Dl H (.bl b) (.bool b)
  | int (i : Int) : Dl H (.int i) (.int i)
  | str (x : Str) : Dl H (.str x) (.str x)
  | tup {a : Addr} {xs : List V} {ds : List PyData} : H a = some (.tup xs) → Dls H xs ds → Dl H (.ref a) (.tuple ds)
  | lst {a : Addr} {xs : List V} {ds : List PyData} : H a = some (.lst xs) → Dls H xs ds → Dl H (.ref a) (.list ds)
inductive Dls (H : Hp) : List V → List PyData → Prop
  | nil : Dls H [] []
  | cons {v : V} {vs : List V} {d : PyData} {ds : List PyData} : Dl H v d → Dls H vs ds → Dls H (v :: vs) (d :: ds)
end
mutual
theorem Dl.mono {H H' : Hp} (k : Same H H') : ∀ {d : PyData} {v : V}, Dl H v d → Dl H' v d
  | .none, _, h => by cases h; exact .non
  | .bool _, _, h => by cases h; exact .bl _
  | .int _, _, h => by cases h; exact .int _
  | .str _, _, h => by cases h; exact .str _
  | .tuple _, _, h => by
    cases h with
    | tup e r => exact .tup (k _ _ e) (Dls.mono k r)
  | .list _, _, h => by
    cases h with
    | lst e r => exact .lst (k _ _ e) (Dls.mono k r)
  | .dict _, _, h => nomatch h
theorem Dls.mono {H H' : Hp} (k : Same H H') : ∀ {ds : List PyData} {vs : List V}, Dls H vs ds → Dls H' vs ds
  | [], _, h => by cases h; exact .nil
  | _ :: _, _, h => by
    cases h with
    | cons a r => exact .cons (Dl.mono k a) (Dls.mono k r)
end
mutual
theorem Dl.dp {K : PySem.W.Frag} {H : Hp} : ∀ {d : PyData} {v : V}, Dl H v d → Dp K H v d
  | .none, _, h => by cases h; exact .non
  | .bool _, _, h => by cases h; exact .bl _
  | .int _, _, h => by cases h; exact .int _
  | .str _, _, h => by cases h; exact .str _
  | .tuple _, _, h => by
    cases h with
    | tup e r => exact .tup (SqT.of e) (Dls.dp r)
  | .list _, _, h => by
    cases h with
    | lst e r => exact .lst (SqL.of e) (Dls.dp r)
  | .dict _, _, h => nomatch h
theorem Dls.dp {K : PySem.W.Frag} {H : Hp} : ∀ {ds : List PyData} {vs : List V}, Dls H vs ds → DpAll K H vs ds
  | [], _, h => by cases h; exact .nil
  | _ :: _, _, h => by
    cases h with
    | cons a r => exact .cons (Dl.dp a) (Dls.dp r)
end
mutual
theorem Dl.plain {H : Hp} : ∀ {d : PyData} {v : V}, Dl H v d → d.plain = true
  | .none, _, _ => rfl
  | .bool _, _, _ => rfl
  | .int _, _, _ => rfl
  | .str _, _, _ => rfl
  | .tuple _, _, h => by
    cases h with
    | tup e r => exact Dls.plain r
  | .list _, _, h => by
    cases h with
    | lst e r => exact Dls.plain r
  | .dict _, _, h => nomatch h
theorem Dls.plain {H : Hp} : ∀ {ds : List PyData} {vs : List V}, Dls H vs ds → PyData.plainAll ds = true
  | [], _, _ => rfl
  | _ :: _, _, h => by
    cases h with
    | cons a r =>
      rw [PyData.plainAll, Dl.plain a, Dls.plain r]
      rfl
end
mutual
theorem Tp.dl {H : Hp} : ∀ {d : PyData} {v : V}, Tp H v d → Dl H v d
  | .none, _, h => by cases h; exact .non
  | .bool _, _, h => by cases h; exact .bl _
  | .int _, _, h => by cases h; exact .int _
  | .str _, _, h => by cases h; exact .str _
  | .tuple _, _, h => by
    cases h with
    | tup e r => exact .tup e (Tps.dl r)
  | .list _, _, h => nomatch h
  | .dict _, _, h => nomatch h
theorem Tps.dl {H : Hp} : ∀ {ds : List PyData} {vs : List V}, Tps H vs ds → Dls H vs ds
  | [], _, h => by cases h; exact .nil
  | _ :: _, _, h => by
    cases h with
    | cons a r => exact .cons (Tp.dl a) (Tps.dl r)
end
theorem Dls.length {H : Hp} : ∀ {ds : List PyData} {vs : List V}, Dls H vs ds → vs.length = ds.length
  | [], _, h => by cases h; rfl
  | _ :: _, _, h => by
    cases h with
    | cons a r => rw [List.length_cons, List.length_cons, Dls.length r]
theorem Dls.at_ {H : Hp} : ∀ {ds : List PyData} {vs : List V} {i : Nat} {d : PyData}, Dls H vs ds → ds[i]? = some d → ∃ v, vs[i]? = some v ∧ Dl H v d
  | [], _, _, _, h, e => by
    simp at e
  | d :: _, _, 0, _, h, e => by
    cases h with
    | cons a r =>
      cases e
      exact ⟨_, rfl, a⟩
  | _ :: _, _, i + 1, _, h, e => by
    cases h with
    | cons a r => exact Dls.at_ (i := i) r e
mutual
/-- no dict in it, nothing too long -/
def okD : PyData → Prop
  | .none => True
  | .bool _ => True
  | .int _ => True
  | .str _ => True
  | .tuple ds => ds.length ≤ 1000000 ∧ okDs ds
  | .list ds => ds.length ≤ 1000000 ∧ okDs ds
  | _ => False
def okDs : List PyData → Prop
  | [] => True
  | d :: r => okD d ∧ okDs r
end
theorem okDs_mem : ∀ {ds : List PyData} {d : PyData}, okDs ds → d ∈ ds → okD d
  | x :: r, d, h, m => by
    rw [okDs] at h
    rcases List.mem_cons.mp m with e | e
    · rw [e]
      exact h.1
    · exact okDs_mem h.2 e
theorem okDs_of : ∀ {ds : List PyData}, (∀ d ∈ ds, okD d) → okDs ds
  | [], _ => by rw [okDs]; trivial
  | x :: r, h => by
    rw [okDs]
    exact ⟨h x List.mem_cons_self, okDs_of fun d m => h d (List.mem_cons_of_mem _ m)⟩
theorem depth_at2 : ∀ {ds : List PyData} {i : Nat} {d : PyData}, ds[i]? = some d → d.depth ≤ PyData.depthAll ds
  | [], i, d, h => by simp at h
  | x :: r, 0, d, h => by
    cases h
    rw [PyData.depthAll]
    exact Nat.le_max_left _ _
  | x :: r, i + 1, d, h => by
    rw [PyData.depthAll]
    exact Nat.le_trans (depth_at2 (i := i) h) (Nat.le_max_right _ _)
theorem depthAll_of {n : Nat} : ∀ {ds : List PyData}, (∀ d ∈ ds, d.depth ≤ n) → PyData.depthAll ds ≤ n
  | [], _ => Nat.zero_le _
  | x :: r, h => by
    rw [PyData.depthAll]
    exact Nat.max_le.mpr ⟨h x List.mem_cons_self, depthAll_of fun d m => h d (List.mem_cons_of_mem _ m)⟩
/-- == and != of data -/
def rEqD (neg : Bool) : R2 := fun x y H Q => ∃ d e, Dl H x d ∧ Dl H y e ∧ small e ∧ Q (.bl (if neg then !PyData.eqv d e else PyData.eqv d e)) H
theorem op_eqQ {X : Cx} (hu : X.A.units + 64 < cLine) : OpR X (compareOp .Eq) (rEqD false) := by
  intro pins s σ H x y v u Q I rx ry h
  obtain ⟨d, e, hd, he, se, q⟩ := h
  obtain ⟨as, r1⟩ := Dp.reads I d x v hd.dp rx
  obtain ⟨bs, r2⟩ := Dp.reads I e y u he.dp ry
  refine SeqAt.eq_plain r1 r2 hd.plain he.plain ?_ ⟨.bl _, H, I, rfl, q⟩
  have h1 : e.depth ≤ 64 := se
  have h2 : min d.depth e.depth ≤ e.depth := Nat.min_le_right _ _
  omega
theorem op_neQ {X : Cx} (hu : X.A.units + 64 < cLine) : OpR X (compareOp .NotEq) (rEqD true) := by
  intro pins s σ H x y v u Q I rx ry h
  obtain ⟨d, e, hd, he, se, q⟩ := h
  obtain ⟨as, r1⟩ := Dp.reads I d x v hd.dp rx
  obtain ⟨bs, r2⟩ := Dp.reads I e y u he.dp ry
  refine SeqAt.ne_plain r1 r2 hd.plain he.plain ?_ ⟨.bl _, H, I, rfl, q⟩
  have h1 : e.depth ≤ 64 := se
  have h2 : min d.depth e.depth ≤ e.depth := Nat.min_le_right _ _
  omega
/-! ### lists of ints -/
abbrev intsD (ns : List Int) : List PyData := ns.map PyData.int
theorem dls_ints {H : Hp} : ∀ ns : List Int, Dls H (ns.map V.int) (intsD ns)
  | [] => .nil
  | n :: r => .cons (.int n) (dls_ints r)
/-- the value is a list of these ints -/
def IL (H : Hp) (v : V) (ns : List Int) : Prop := ∃ p, v = .ref p ∧ H p = some (.lst (ns.map V.int))
theorem IL.dl {H : Hp} {v : V} {ns : List Int} (h : IL H v ns) : Dl H v (.list (intsD ns)) := by
  obtain ⟨p, rfl, e⟩ := h
  exact .lst e (dls_ints ns)
theorem IL.mono {H H' : Hp} {v : V} {ns : List Int} (h : IL H v ns) (k : Same H H') : IL H' v ns := by
  obtain ⟨p, e, e2⟩ := h
  exact ⟨p, e, k _ _ e2⟩
/-- lists of ints, one for each -/
inductive Ils (H : Hp) : List V → List (List Int) → Prop
  | nil : Ils H [] []
  | cons {v : V} {vs : List V} {d : List Int} {ds : List (List Int)} : IL H v d → Ils H vs ds → Ils H (v :: vs) (d :: ds)
theorem Ils.length {H : Hp} {vs : List V} {ds : List (List Int)} (h : Ils H vs ds) : vs.length = ds.length := by
  induction h with
  | nil => rfl
  | cons a r ih => rw [List.length_cons, List.length_cons, ih]
theorem Ils.mono {H H' : Hp} {vs : List V} {ds : List (List Int)} (h : Ils H vs ds) (k : Same H H') : Ils H' vs ds := by
  induction h with
  | nil => exact .nil
  | cons a r ih => exact .cons (a.mono k) ih
theorem Ils.app {H : Hp} {vs ws : List V} {ds es : List (List Int)} (h : Ils H vs ds) (h2 : Ils H ws es) : Ils H (vs ++ ws) (ds ++ es) := by
  induction h with
  | nil => exact h2
  | cons a r ih => exact .cons a ih
theorem Ils.one {H : Hp} {v : V} {d : List Int} (h : IL H v d) : Ils H [v] [d] := .cons h .nil
theorem Ils.take {H : Hp} {vs : List V} {ds : List (List Int)} (h : Ils H vs ds) : ∀ n, Ils H (vs.take n) (ds.take n) := by
  induction h with
  | nil => intro n; rw [List.take_nil, List.take_nil]; exact .nil
  | cons a r ih =>
    intro n
    cases n with
    | zero => exact .nil
    | succ n => exact .cons a (ih n)
theorem Ils.drop {H : Hp} {vs : List V} {ds : List (List Int)} (h : Ils H vs ds) : ∀ n, Ils H (vs.drop n) (ds.drop n) := by
  induction h with
  | nil => intro n; rw [List.drop_nil, List.drop_nil]; exact .nil
  | cons a r ih =>
    intro n
    cases n with
    | zero => exact .cons a r
    | succ n => exact ih n
theorem Ils.at_ {H : Hp} {vs : List V} {ds : List (List Int)} (h : Ils H vs ds) : ∀ {i : Nat} {d : List Int}, ds[i]? = some d → ∃ v, vs[i]? = some v ∧ IL H v d := by
  induction h with
  | nil => intro i d e; simp at e
  | cons a r ih =>
    intro i d e
    cases i with
    | zero => cases e; exact ⟨_, rfl, a⟩
    | succ i => exact ih (i := i) e
theorem Ils.get {H : Hp} {vs : List V} {ds : List (List Int)} (h : Ils H vs ds) : ∀ {i : Nat} {v : V}, vs[i]? = some v → ∃ d, ds[i]? = some d ∧ IL H v d := by
  induction h with
  | nil => intro i d e; simp at e
  | cons a r ih =>
    intro i d e
    cases i with
    | zero => cases e; exact ⟨_, rfl, a⟩
    | succ i => exact ih (i := i) e
theorem Ils.dls {H : Hp} {vs : List V} {ds : List (List Int)} (h : Ils H vs ds) : Dls H vs (ds.map fun ns => PyData.list (intsD ns)) := by
  induction h with
  | nil => exact .nil
  | cons a r ih => exact .cons a.dl ih
/-- the value is a list of lists of ints -/
def LL (H : Hp) (v : V) (nss : List (List Int)) : Prop := ∃ p xs, v = .ref p ∧ H p = some (.lst xs) ∧ Ils H xs nss
theorem LL.mono {H H' : Hp} {v : V} {nss : List (List Int)} (h : LL H v nss) (k : Same H H') : LL H' v nss := by
  obtain ⟨p, xs, e, e2, e3⟩ := h
  exact ⟨p, xs, e, k _ _ e2, e3.mono k⟩
theorem LL.dl {H : Hp} {v : V} {nss : List (List Int)} (h : LL H v nss) : Dl H v (.list (nss.map fun ns => PyData.list (intsD ns))) := by
  obtain ⟨p, xs, rfl, e, r⟩ := h
  exact .lst e r.dls
theorem okD_ints {ns : List Int} (h : ns.length ≤ 1000000) : okD (.list (intsD ns)) := by
  rw [okD]
  refine ⟨by rw [List.length_map]; exact h, okDs_of fun d m => ?_⟩
  obtain ⟨n, _, rfl⟩ := List.mem_map.mp m
  rw [okD]
  trivial
theorem depth_ints (ns : List Int) : (PyData.list (intsD ns)).depth ≤ 1 := by
  show PyData.depthAll (intsD ns) + 1 ≤ 1
  have : PyData.depthAll (intsD ns) ≤ 0 := depthAll_of fun d m => by
    obtain ⟨n, _, rfl⟩ := List.mem_map.mp m
    exact Nat.le_refl _
  omega
theorem okD_lls {nss : List (List Int)} (h : nss.length ≤ 1000000) (h2 : ∀ ns ∈ nss, ns.length ≤ 1000000) : okD (.list (nss.map fun ns => PyData.list (intsD ns))) := by
  rw [okD]
  refine ⟨by rw [List.length_map]; exact h, okDs_of fun d m => ?_⟩
  obtain ⟨n, hn, rfl⟩ := List.mem_map.mp m
  exact okD_ints (h2 n hn)
theorem depth_lls (nss : List (List Int)) : (PyData.list (nss.map fun ns => PyData.list (intsD ns))).depth ≤ 2 := by
  show PyData.depthAll _ + 1 ≤ 2
  have : PyData.depthAll (nss.map fun ns => PyData.list (intsD ns)) ≤ 1 := depthAll_of fun d m => by
    obtain ⟨n, _, rfl⟩ := List.mem_map.mp m
    exact depth_ints n
  omega
/-! ### == of data by equality -/
theorem eqvI (i j : Int) : PyData.eqv (.int i) (.int j) = decide (i = j) := by
  show (i == j) = _
  by_cases h : i = j
  · rw [h, decide_eq_true rfl, beq_self_eq_true]
  · rw [decide_eq_false h, beq_eq_false_iff_ne.mpr h]
theorem eqv_ints : ∀ a b : List Int, PyData.eqvAll (intsD a) (intsD b) = decide (a = b)
  | [], [] => rfl
  | [], _ :: _ => rfl
  | _ :: _, [] => rfl
  | x :: a, y :: b => by
    show (PyData.eqv (.int x) (.int y) && PyData.eqvAll (intsD a) (intsD b)) = _
    rw [eqv_ints a b, eqvI]
    by_cases h : x = y
    · subst h
      simp
    · simp [h]
theorem eqv_il (a b : List Int) : PyData.eqv (.list (intsD a)) (.list (intsD b)) = decide (a = b) := eqv_ints a b
/-! ### slices -/
theorem cut_to (xs : List V) (k : Nat) : cutV xs none (some (k : Int)) = xs.take k := by
  unfold cutV
  rw [HT.sIx_none, HT.sIx_nat, List.drop_zero, Nat.sub_zero]
  rcases Nat.le_total k xs.length with h | h
  · rw [Nat.min_eq_left h]
  · rw [Nat.min_eq_right h, List.take_of_length_le h, List.take_of_length_le (Nat.le_refl _)]
theorem cut_from (xs : List V) (k : Nat) : cutV xs (some (k : Int)) none = xs.drop k := by
  unfold cutV
  rw [HT.sIx_none, HT.sIx_nat]
  rcases Nat.le_total k xs.length with h | h
  · rw [Nat.min_eq_left h, List.take_of_length_le (by rw [List.length_drop]; exact Nat.le_refl _)]
  · rw [Nat.min_eq_right h, Nat.sub_self, List.take_zero, List.drop_eq_nil_of_le h]
theorem cut_mid (xs : List V) (i j : Nat) : cutV xs (some (i : Int)) (some ((i + j : Nat) : Int)) = (xs.drop i).take j := by
  unfold cutV
  rw [HT.sIx_nat, HT.sIx_nat]
  rcases Nat.le_total (i + j) xs.length with h | h
  · rw [Nat.min_eq_left h, Nat.min_eq_left (by omega)]
    congr 1
    omega
  · rcases Nat.le_total i xs.length with h2 | h2
    · rw [Nat.min_eq_right h, Nat.min_eq_left h2, List.take_of_length_le (i := xs.length - i) (by rw [List.length_drop]; exact Nat.le_refl _), List.take_of_length_le (by rw [List.length_drop]; omega)]
    · rw [Nat.min_eq_right h, Nat.min_eq_right h2, Nat.sub_self, List.drop_eq_nil_of_le h2, List.drop_eq_nil_of_le (Nat.le_refl _)]
      simp
theorem cut_to' {xs : List V} {z : Int} (h : 0 ≤ z) : cutV xs none (some z) = xs.take z.toNat := by
  have : z = ((z.toNat : Nat) : Int) := by omega
  rw [this, cut_to, Int.toNat_natCast]
theorem map_take {ns : List Int} (k : Nat) : (ns.map V.int).take k = (ns.take k).map V.int := List.map_take.symm
theorem map_drop {ns : List Int} (k : Nat) : (ns.map V.int).drop k = (ns.drop k).map V.int := List.map_drop.symm
section
variable {X : Cx}
/-- a module's constant -/
theorem pe_con {x : Str} {i : Int} {pos : Pos} (hg : Gl X x) (h : ∃ t, X.mg x = some (.int i t)) (hd : (x == ("__debug__" : Str)) = false := by decide) : PE X (.Name x pos) (tC (.int i)) := by
  obtain ⟨t, h⟩ := h
  exact pe_glob hg h ⟨_, rfl⟩ hd
end
end KA

namespace KU
open PySem PySem.Spec PyProof.Rows L2 KA
inductive T where
  | any | val (k : Key) | var (x : Str)
  deriving DecidableEq
inductive L where
  | fact (r : Str) (ts : List T)
  | notl (r : Str) (ts : List T)
  | cmp (op : Str) (a b : T)
  | isl (x : Str) (op : Str) (a b : T)
  | cnt (x : Str) (r : Str) (ts : List T)
def topS (i : Nat) : Stmt := PySem.Challenge.pw_rulestead_k23_sound_states.main.body.getD i (.Pass ⟨0, 0, 0, 0⟩)
/-- the built-in names that are still the built-in ones -/
structure Bt (mg : Str → Option Value) : Prop where
  len : mg "len" = none
  int : mg "int" = none
  isi : mg "isinstance" = none
  bool : mg "bool" = none
  str : mg "str" = none
  tup : mg "tuple" = none
  lst : mg "list" = none
  rng : mg "range" = none
  min : mg "min" = none
/-- all that is tracked but the state's own list stays -/
def Kp (st : Addr) (H H' : Hp) : Prop := ∀ a o, a ≠ st → H a = some o → H' a = some o
theorem Kp.refl (st : Addr) (H : Hp) : Kp st H H := fun _ _ _ h => h
theorem Kp.trans {st : Addr} {H H1 H2 : Hp} (a : Kp st H H1) (b : Kp st H1 H2) : Kp st H H2 := fun x o n h => b x o n (a x o n h)
theorem Kp.of {st : Addr} {H H' : Hp} (s : Same H H') : Kp st H H' := fun a o _ h => s a o h
theorem Kp.st {st : Addr} {H : Hp} {o : HO} : Kp st H (upd H st o) := fun a u n h => by
  rw [upd_ne n]
  exact h
theorem Kp.new {st p : Addr} {H : Hp} {o : HO} (h : H p = none) : Kp st H (upd H p o) := fun a u _ e => by
  rw [upd_ne (ne_of_none e h)]
  exact e
/-- the drawing state at st: the script's copy at L, the place, the rest of a great cell, the seed -/
def Good (st L : Addr) (H : Hp) : Prop := ∃ (ns : List Int) (i : Nat) (a b : Int), H st = some (.lst [.ref L, .int i, .int a, .int b]) ∧ H L = some (.lst (ns.map V.int)) ∧ 0 ≤ a ∧ 0 ≤ b
/-- from H on only drawing and new objects -/
structure Dr (st L : Addr) (H H' : Hp) : Prop where
  kp : Kp st H H'
  good : Good st L H'
theorem Dr.refl {st L : Addr} {H : Hp} (g : Good st L H) : Dr st L H H := ⟨Kp.refl st H, g⟩
theorem Dr.trans {st L : Addr} {H H1 H2 : Hp} (a : Dr st L H H1) (b : Dr st L H1 H2) : Dr st L H H2 := ⟨a.kp.trans b.kp, b.good⟩
theorem Good.tk {st L : Addr} {H H' : Hp} (g : Good st L H) (k : Kp st H H') : Tk H H' := fun a xs h => by
  obtain ⟨ns, i, c, b, e, _⟩ := g
  exact k a _ (ne_of h e (fun z => by cases z)) h
theorem Dr.tk {st L : Addr} {H H' : Hp} (d : Dr st L H H') (g : Good st L H) : Tk H H' := g.tk d.kp
/-- an object that H does not know is written -/
theorem Dr.put {st L D : Addr} {H H' : Hp} {o : HO} (d : Dr st L H H') (g : Good st L H) (n : H D = none) : Dr st L H (upd H' D o) := by
  refine ⟨fun a u h1 h2 => ?_, ?_⟩
  · rw [upd_ne (ne_of_none h2 n)]
    exact d.kp a u h1 h2
  · obtain ⟨ns0, i0, a0, b0, e0, l0, _⟩ := g
    obtain ⟨ns, i, a, b, e, l, r⟩ := d.good
    refine ⟨ns, i, a, b, ?_, ?_, r⟩
    · rw [upd_ne (ne_of_none e0 n)]
      exact e
    · rw [upd_ne (ne_of_none l0 n)]
      exact l
theorem Dr.new {st L p : Addr} {H : Hp} {o : HO} (g : Good st L H) (h : H p = none) : Dr st L H (upd H p o) := (Dr.refl g).put g h
theorem Dr.add {st L p : Addr} {H H' : Hp} {o : HO} (d : Dr st L H H') (h : H' p = none) : Dr st L H (upd H' p o) := d.trans (Dr.new d.good h)
theorem Dr.same {st L : Addr} {H H' : Hp} (g : Good st L H) (s : Same H H') : Dr st L H H' := by
  refine ⟨Kp.of s, ?_⟩
  obtain ⟨ns, i, a, b, e, l, r⟩ := g
  exact ⟨ns, i, a, b, s _ _ e, s _ _ l, r⟩
/-- what was there is there -/
theorem Dr.at_ {st L p : Addr} {H H' : Hp} {o : HO} (d : Dr st L H H') (n : p ≠ st) (h : H p = some o) : H' p = some o := d.kp p o n h
theorem Dr.tup {st L p : Addr} {H H' : Hp} {xs : List V} (d : Dr st L H H') (g : Good st L H) (h : H p = some (.tup xs)) : H' p = some (.tup xs) := d.tk g p xs h
/-- an address that is free behind is free ahead -/
theorem Dr.free {st L p : Addr} {H H' : Hp} (d : Dr st L H H') (h : H' p = none) : H p = none := by
  cases c : H p with
  | none => rfl
  | some o =>
    by_cases e : p = st
    · subst e
      obtain ⟨ns, i, a, b, e2, _⟩ := d.good
      rw [e2] at h
      cases h
    · rw [d.kp p o e c] at h
      cases h
theorem ref_ne_ints {L : Addr} {ns : List Int} {r : List V} : HO.lst (.ref L :: r) ≠ HO.lst (ns.map V.int) := by
  cases ns with
  | nil => intro e; cases e
  | cons x xs => intro e; cases e
section
variable {P : Program} {w : World} {K : PySem.W.Frag} {mg : Str → Option Value} {base : Heap}
theorem pM : (0 : Int) < 2147483647 := by decide
abbrev sNext : Stmt := topS 35
theorem scNext : FnScope ["state", "limit", "cell", "value"] ["state", "limit"] (defScope sNext) := ⟨rfl, rfl, rfl, by decide +kernel, rfl, by decide +kernel, by decide +kernel⟩
def spNext : Sp := fun vs H Q _ => ∃ (st L : Addr) (lim : Int), vs = [.ref st, .int lim] ∧ Good st L H ∧ 0 < lim ∧ lim < 2 ^ 200 ∧ ∀ (v : Int) H', Dr st L H H' → 0 ≤ v → v < lim → Q (.int v) H'
theorem ok_next {f : Addr} {fd : FuncData} {k : Nat} (F : Fun K "_law_next" "_law_next" sNext f fd) (B : Bt mg) : FnOk P w K mg base CX0 (k + 1) f fd ["state", "limit"] spNext := by
  refine F.ok scNext (fun vs H Q E h => ?_) (fun cdv A outer s H vs Q E hr h => ?_)
  · obtain ⟨st, L, lim, rfl, _⟩ := h
    rfl
  · obtain ⟨st, L, lim, rfl, g, l0, l1, q⟩ := h
    refine ⟨_, C8.pss_cut (ps_if (PW.pt (pw_and (pt_cmpR op_eq (pe_ix ix_list (pv 0) pe_int (fun _ _ => rfl)) pe_int (nomark _))
          (pw_and1 (pt_cmpR op_lt (pe_ix ix_list (pv 0) pe_int (fun _ _ => rfl)) (pe_callB call_len_seq (by rfl) B.len PySem.boot_len (pa_cons (pe_ix ix_list (pv 0) pe_int (fun _ _ => rfl)) pa_nil)) (nomark _)))))
        (pss_cons (ps_set (i := 2) scNext.nd rfl (.inl rfl) (pe_ix ix_list (pe_ix ix_list (pv 0) pe_int (fun _ _ => rfl)) (pe_ix ix_list (pv 0) pe_int (fun _ _ => rfl)) (fun _ _ => rfl)))
        (pss_cons (ps_augS (pv 0) pe_int get_list pe_int ip_add set_list)
        (pss_one (ps_if (pt_cmpR op_ge (pv 2) (pe_op op_pow pe_int pe_int) (nomark _))
          (pss_one (ps_asg (pv 2) (pg_sub (pv 0) pe_int set_list)))
          (pss_one (ps_asg (pe_op op_mod (pe_callTy call_int1 (by rfl) B.int (by decide +kernel) (pa_cons (pe_op op_add (pe_op op_add (pe_op op_mul (pe_ix ix_list (pv 0) pe_int (fun _ _ => rfl)) pe_int)
              (pe_op op_mod (pe_callTy call_int1 (by rfl) B.int (by decide +kernel) (pa_cons (pv 2) pa_nil)) pe_int)) pe_int) pa_nil)) pe_int) (pg_sub (pv 0) pe_int set_list)))))))
        pss_nil)
      (C8.pss_cut (ps_if (pt_cmpR op_gt (pe_ix ix_list (pv 0) pe_int (fun _ _ => rfl)) pe_int (nomark _))
        (pss_cons (ps_set (i := 3) scNext.nd rfl (.inl rfl) (pe_op op_mod (pe_callTy call_int1 (by rfl) B.int (by decide +kernel) (pa_cons (pe_ix ix_list (pv 0) pe_int (fun _ _ => rfl)) pa_nil)) (pv 1)))
        (pss_cons (ps_asg (pe_op op_fdivW (pe_ix ix_list (pv 0) pe_int (fun _ _ => rfl)) (pv 1)) (pg_sub (pv 0) pe_int set_list))
        (pss_one (ps_ret (pv 3)))))
        pss_nil)
      (pss_cons (ps_asg (pe_op op_mod (pe_callTy call_int1 (by rfl) B.int (by decide +kernel) (pa_cons (pe_op op_add (pe_op op_mul (pe_ix ix_list (pv 0) pe_int (fun _ _ => rfl)) pe_int) pe_int) pa_nil)) pe_int) (pg_sub (pv 0) pe_int set_list))
      (pss_one (ps_ret (pe_op op_mod (pe_callTy call_int1 (by rfl) B.int (by decide +kernel) (pa_cons (pe_op op_fdiv (pe_ix ix_list (pv 0) pe_int (fun _ _ => rfl)) pe_int) pa_nil)) (pv 1)))))), ?_⟩
    obtain ⟨ns, i, a, b, e, eL, a0, b0⟩ := g
    have nL : L ≠ st := fun z => by
      subst z
      rw [e] at eL
      exact ref_ne_ints (Option.some.inj eL)
    have put : ∀ {H1 : Hp} (i' : Nat) (a' b' : Int), Kp st H H1 → 0 ≤ a' → 0 ≤ b' → Dr st L H (upd H1 st (.lst [.ref L, .int i', .int a', .int b'])) := fun i' a' b' k ha hb =>
      ⟨k.trans Kp.st, ns, i', a', b', upd_same, by
        rw [upd_ne nL]
        exact k L _ nL eL, ha, hb⟩
    refine ⟨fun σ' H' => ∃ x2 x3 i' a' b', σ' = [some (.ref st), some (.int lim), x2, x3] ∧ Kp st H H' ∧ H' st = some (.lst [.ref L, .int ((i' : Nat) : Int), .int a', .int b']) ∧ 0 ≤ a' ∧ 0 ≤ b', ?_, ?_⟩
    · -- the first if
      refine ⟨.ref st, rfl, st, _, 2, .int a, rfl, rfl, SqL.of e, rfl, rfl, _, rfl, ite2 (fun z => ?_) (fun z => ?_)⟩
      · refine ⟨.ref st, rfl, st, _, 1, .int (i : Nat), rfl, rfl, SqL.of e, rfl, .ref st, rfl, st, _, 0, .ref L, rfl, rfl, SqL.of e, rfl, L, _, rfl, .inl (SqL.of eL), _, _, rfl, rfl, _, rfl, ite2 (fun hi => ?_) (fun hi => ?_)⟩
        · have hlt : i < ns.length := by
            have t := of_decide_eq_true hi
            rw [List.length_map] at t
            omega
          have gc : (ns.map V.int)[i]? = some (.int ns[i]) := by
            rw [List.getElem?_map, List.getElem?_eq_getElem hlt]
            rfl
          refine ⟨.ref st, rfl, st, _, 0, .ref L, rfl, rfl, SqL.of e, rfl, .ref st, rfl, st, _, 1, .int (i : Nat), rfl, rfl, SqL.of e, rfl, L, _, (i : Nat), .int ns[i], rfl, rfl, SqL.of eL, atI_nat gc, ?_⟩
          refine ⟨.ref st, rfl, st, _, 1, .int (i : Nat), rfl, rfl, e, rfl, _, _, rfl, rfl, st, _, 1, 1, rfl, rfl, e, rfl, ?_⟩
          have e1 : upd H st (.lst (([.ref L, .int (i : Nat), .int a, .int b] : List V).set 1 (.int ((i : Nat) + 1)))) st = some (.lst [.ref L, .int ((i + 1 : Nat) : Int), .int a, .int b]) := upd_same
          have k1 : Kp st H (upd H st (.lst (([.ref L, .int (i : Nat), .int a, .int b] : List V).set 1 (.int ((i : Nat) + 1))))) := Kp.st
          refine ⟨.int ns[i], rfl, 10, 18, rfl, rfl, ⟨by decide, by decide, by decide⟩, _, _, rfl, rfl, _, rfl, ite2 (fun hb => ?_) (fun hb => ?_)⟩
          · have hb2 : (10 : Int) ^ 18 ≤ ns[i] := of_decide_eq_true hb
            refine ⟨.int ns[i], rfl, .ref st, rfl, st, _, 2, 2, rfl, rfl, e1, rfl, ?_⟩
            exact ⟨some (.int ns[i]), none, i + 1, ns[i], b, rfl, k1.trans Kp.st, upd_same, by omega, b0⟩
          · refine ⟨.ref st, rfl, st, _, 3, .int b, rfl, rfl, SqL.of e1, rfl, b, 48271, rfl, rfl, .inr ⟨by decide, by decide⟩, .int ns[i], rfl, .inl ⟨_, rfl, _, _, rfl, rfl, pM, _, _, rfl, rfl, _, _, rfl, rfl, .inl ⟨_, rfl, _, _, rfl, rfl, pM, ?_⟩⟩⟩
            refine ⟨.ref st, rfl, st, _, 3, 3, rfl, rfl, e1, rfl, ?_⟩
            exact ⟨some (.int ns[i]), none, i + 1, a, _, rfl, k1.trans Kp.st, upd_same, a0, Int.emod_nonneg _ (by decide)⟩
        · exact ⟨none, none, i, a, b, rfl, Kp.refl st H, e, a0, b0⟩
      · exact iteF ⟨none, none, i, a, b, rfl, Kp.refl st H, e, a0, b0⟩
    · intro σ' H' hm
      obtain ⟨x2, x3, i', a', b', rfl, k', e', a0', b0'⟩ := hm
      refine ⟨fun σ2 H2 => ∃ x2 x3, σ2 = [some (.ref st), some (.int lim), x2, x3] ∧ H2 = H', ?_, ?_⟩
      · refine ⟨.ref st, rfl, st, _, 2, .int a', rfl, rfl, SqL.of e', rfl, _, _, rfl, rfl, _, rfl, ite2 (fun z => ?_) (fun z => ?_)⟩
        · have z2 : (0 : Int) < a' := of_decide_eq_true z
          refine ⟨.ref st, rfl, st, _, 2, .int a', rfl, rfl, SqL.of e', rfl, .inl ⟨_, rfl, .int lim, rfl, _, _, rfl, rfl, l0, ?_⟩⟩
          refine ⟨.ref st, rfl, st, _, 2, .int a', rfl, rfl, SqL.of e', rfl, .int lim, rfl, _, _, rfl, rfl, wide_div (b := 200) l0 (by omega) (by decide) (by decide), .ref st, rfl, st, _, 2, 2, rfl, rfl, e', rfl, ?_⟩
          refine ⟨.int (a' % lim), rfl, ?_⟩
          exact q _ _ (put i' (a' / lim) b' k' (Int.ediv_nonneg a0' (Int.le_of_lt l0)) b0') (Int.emod_nonneg _ (by omega)) (Int.emod_lt_of_pos _ l0)
        · exact ⟨x2, x3, rfl, rfl⟩
      · intro σ2 H2 hm2
        obtain ⟨y2, y3, rfl, rfl⟩ := hm2
        refine ⟨.ref st, rfl, st, _, 3, .int b', rfl, rfl, SqL.of e', rfl, _, _, rfl, rfl, .inr ⟨by decide, by decide⟩, _, _, rfl, rfl, .inl ⟨_, rfl, _, _, rfl, rfl, pM, ?_⟩⟩
        refine ⟨.ref st, rfl, st, _, 3, 3, rfl, rfl, e', rfl, ?_⟩
        refine ⟨.ref st, rfl, st, _, 3, .int ((b' * 69621 + 12345) % 2147483647), rfl, rfl, SqL.of upd_same, rfl, _, _, rfl, rfl, ⟨by decide, by decide⟩, .inl ⟨_, rfl, .int lim, rfl, _, _, rfl, rfl, l0, ?_⟩⟩
        exact q _ _ (put i' a' _ k' a0' (Int.emod_nonneg _ (by decide))) (Int.emod_nonneg _ (by omega)) (Int.emod_lt_of_pos _ l0)
end
/-- a def of the text as its callers know it -/
structure Def (P : Program) (w : World) (K : PySem.W.Frag) (mg : Str → Option Value) (base : Heap) (x : Str) (k : Nat) (ps : List Str) (sp : Sp) : Prop where
  ex : ∃ (f : Addr) (fd : FuncData), FnOk P w K mg base CX0 k f fd ps sp ∧ mg x = some (.ref f) ∧ PySem.W.keepIn K (.ref f) = true ∧ Binds K fd ps []
section
variable {X : Cx} {k : Nat} {x : Str} {ps : List Str} {sp : Sp} {e : Expr} {es : List Expr} {t : TA} {p pos : Pos}
theorem pe_def (D : Def X.prog X.w X.K X.mg X.base x k ps sp) (hr : Room k X.A) (hg : Gl X x) (ha : PA X (e :: es) t) (hdb : (x == ("__debug__" : Str)) = false := by decide)
    (he : starEach (e :: es) X.env = (false, eval e X.env) :: starEach es X.env := by rfl) (hpl : (backTo pos (starEach es X.env)).any (·.1) = false := by rfl) : PE X (.Call (.Name x p) (e :: es) [] pos) (tCall sp [] E0 t) := by
  obtain ⟨f, fd, F, hm, hk, hb⟩ := D.ex
  exact pe_call F hr hg hm hk hb .nil pass0 ha hdb he hpl
theorem pe_def0 (D : Def X.prog X.w X.K X.mg X.base x k ps sp) (hr : Room k X.A) (hg : Gl X x) (hdb : (x == ("__debug__" : Str)) = false := by decide) : PE X (.Call (.Name x p) [] [] pos) (tCall sp [] E0 tNil) := by
  obtain ⟨f, fd, F, hm, hk, hb⟩ := D.ex
  exact pe_call0 F hr hg hm hk hb .nil pass0 hdb
end
section
variable {P : Program} {w : World} {K : PySem.W.Frag} {mg : Str → Option Value} {base : Heap}
abbrev dNext (P : Program) (w : World) (K : PySem.W.Frag) (mg : Str → Option Value) (base : Heap) : Prop := Def P w K mg base "_law_next" 1 ["state", "limit"] spNext
end
section
variable {P : Program} {w : World} {K : PySem.W.Frag} {mg : Str → Option Value} {base : Heap}
theorem same_new {H : Hp} {p : Addr} {o : HO} (h : H p = none) : Same H (upd H p o) := fun a u e => by
  rw [upd_ne (ne_of_none e h)]
  exact e
theorem str_eq {x y : Str} (h : x.cps.toList = y.cps.toList) : x = y := by
  obtain ⟨⟨a⟩⟩ := x
  obtain ⟨⟨b⟩⟩ := y
  have e : a = b := h
  rw [e]
theorem inl_iff {i j : Int} : ((Sum.inl i : Key) = Sum.inl j) ↔ i = j := ⟨fun h => by injection h, fun h => by rw [h]⟩
theorem inr_iff {i j : Str} : ((Sum.inr i : Key) = Sum.inr j) ↔ i = j := ⟨fun h => by injection h, fun h => by rw [h]⟩
theorem yes_if {A B : Prop} {x : V} (h : A) : if decide (x = x) = true then A else B := by
  rw [decide_eq_true rfl]
  exact iteT h
theorem no_if {A B : Prop} {x y : V} (n : x ≠ y) (h : B) : if decide (x = y) = true then A else B := by
  rw [decide_eq_false n]
  exact iteF h
end
/-- a term as a tuple -/
def tD : T → PyData
  | .any => .tuple [.str "any"]
  | .val (.inl i) => .tuple [.str "value", .int i]
  | .val (.inr z) => .tuple [.str "value", .str z]
  | .var x => .tuple [.str "variable", .str x]
theorem tD_val {H : Hp} {v : V} {k : Key} (t : Tp H v (tD (.val k))) : ∃ p, v = .ref p ∧ H p = some (.tup [.str "value", kV k]) := by
  cases k with
  | inl i =>
    cases t with
    | tup e r => cases r with
      | cons h1 r => cases r with
        | cons h2 r =>
          cases r
          cases h1
          cases h2
          exact ⟨_, rfl, e⟩
  | inr z =>
    cases t with
    | tup e r => cases r with
      | cons h1 r => cases r with
        | cons h2 r =>
          cases r
          cases h1
          cases h2
          exact ⟨_, rfl, e⟩
theorem tD_var {H : Hp} {v : V} {x : Str} (t : Tp H v (tD (.var x))) : ∃ p, v = .ref p ∧ H p = some (.tup [.str "variable", .str x]) := by
  cases t with
  | tup e r => cases r with
    | cons h1 r => cases r with
      | cons h2 r =>
        cases r
        cases h1
        cases h2
        exact ⟨_, rfl, e⟩
theorem tD_any {H : Hp} {v : V} (t : Tp H v (tD .any)) : ∃ p, v = .ref p ∧ H p = some (.tup [.str "any"]) := by
  cases t with
  | tup e r => cases r with
    | cons h1 r =>
      cases r
      cases h1
      exact ⟨_, rfl, e⟩
theorem term_get {H : Hp} {xs : List V} {ts : List T} {i : Nat} {x : V} (t : Tps H xs (ts.map tD)) (hx : xs[i]? = some x) : ∃ j, ts[i]? = some j ∧ Tp H x (tD j) := by
  obtain ⟨dd, ed, td⟩ := t.get hx
  rw [List.getElem?_map] at ed
  cases ej : ts[i]? with
  | none => rw [ej] at ed; cases ed
  | some j =>
    rw [ej] at ed
    have ed : tD j = dd := Option.some.inj ed
    exact ⟨j, rfl, by rw [ed]; exact td⟩
theorem take_next {α : Type} {ns : List α} {i : Nat} {x : α} (e : ns[i]? = some x) : ns.take (i + 1) = ns.take i ++ [x] := by
  rw [List.take_add_one, e]
  rfl
theorem Rd.same {H H' : Hp} {a : Addr} {u : HO} (h : Rd H a u) (s : Same H H') : Rd H' a u := by
  rcases h with h | ⟨o, h⟩
  · exact .inl (s _ _ h)
  · exact .inr ⟨o, s _ _ h⟩
theorem same_put {H0 H : Hp} {a : Addr} {o : HO} (s : Same H0 H) (n : H0 a = none) : Same H0 (upd H a o) := fun b u h => by
  rw [upd_ne (ne_of_none h n)]
  exact s b u h
def tName : T → Str
  | .any => "any"
  | .val _ => "value"
  | .var _ => "variable"
theorem pairs_get {H : Hp} {v : V} {t : T} (tt : Tp H v (tD t)) : ∃ p r, v = .ref p ∧ H p = some (.tup r) ∧ atI r 0 = some (.str (tName t)) ∧ (∀ x, t = .var x → atI r 1 = some (.str x)) ∧ (∀ k, t = .val k → atI r 1 = some (kV k)) := by
  cases t with
  | any =>
    obtain ⟨p, rfl, e⟩ := tD_any tt
    exact ⟨p, _, rfl, e, rfl, fun x h => (by cases h), fun x h => (by cases h)⟩
  | val k =>
    obtain ⟨p, rfl, e⟩ := tD_val tt
    exact ⟨p, _, rfl, e, rfl, fun x h => (by cases h), fun x h => (by cases h; rfl)⟩
  | var x =>
    obtain ⟨p, rfl, e⟩ := tD_var tt
    exact ⟨p, _, rfl, e, rfl, fun x h => (by cases h; rfl), fun x h => (by cases h)⟩
/-- a comprehension of values known ahead, that lays new things at most -/
theorem lc_vals {J : It} {n : Nat} {G : Hp → Prop} {Y : Nat → Hp → V → Hp → Prop} (w : Walk J n G Y) {g : TG} {tt : TT} {te : TE} {vs : List Nat} {σ : L2.St} {H1 : Hp} {D : Addr} {Qd : Hp → Prop} (ys : List V) (hl : ys.length = n) (hn : n ≤ 1000) (nD : H1 D = none)
    (hG : ∀ H, Same H1 H → G H)
    (hs : ∀ i x H2 H3 (Q : V → Hp → Prop) (R : Hp → Prop), i < n → Same H1 H2 → Y i H2 x H3 → (∀ y H5, Same H2 H5 → ys[i]? = some y → Q y H5) → g x (wipe σ vs) H3 fun σ2 H4 => wipe σ2 vs = wipe σ vs ∧ tt σ2 H4 fun b H5 => if b = true then te σ2 H5 Q else R H5)
    (hd : ∀ H, Same H1 H → H D = some (.lst ys) → Qd H) :
    ∃ W : Nat → Nat → Hp → Prop, (∃ m, W 0 m (upd H1 D (.lst []))) ∧ ∀ i m H, W i m H →
      (J.stop i H ∧ Qd H) ∨ (J.go i H ∧ ∃ Nx : Hp → Prop, (∀ H', Nx H' → ∃ m', m' < m ∧ W (i + 1) m' H') ∧ ∀ x H', J.yld i H x H' → g x (wipe σ vs) H' fun σ2 H2 => wipe σ2 vs = wipe σ vs ∧ tt σ2 H2 fun b H3 =>
        if b = true then te σ2 H3 fun y H4 => ∃ acc, H4 D = some (.lst acc) ∧ acc.length < sizeLine ∧ Nx (upd H4 D (.lst (acc ++ [y]))) else Nx H3) := by
  refine lc_it w (fun i H => Same H1 H ∧ H D = some (.lst (ys.take i))) ⟨same_new nD, upd_same⟩ (fun i H _ hP => hG H hP.1) (fun i x H H' hi hP hY => ?_) (fun H hP => ?_)
  · obtain ⟨sm, eD⟩ := hP
    refine hs i x H H' _ _ hi sm hY fun y H5 s5 ey => ?_
    refine ⟨_, s5 _ _ eD, small1000 (by rw [List.length_take]; omega), same_put (sm.trans s5) nD, ?_⟩
    rw [upd_same, take_next ey]
  · obtain ⟨sm, eD⟩ := hP
    rw [← hl, List.take_length] at eD
    exact hd H sm eD
def keyD : Key → PyData
  | .inl i => .int i
  | .inr z => .str z
theorem keyD_tp {H : Hp} (k : Key) : Tp H (kV k) (keyD k) := by
  cases k with
  | inl i => exact .int i
  | inr z => exact .str z
theorem tp_keyD {H : Hp} {v : V} {k : Key} (t : Tp H v (keyD k)) : v = kV k := by
  cases k with
  | inl i => cases t; rfl
  | inr z => cases t; rfl
theorem tps_keyD {H : Hp} : ∀ {r : List Key} {xs : List V}, Tps H xs (r.map keyD) → xs = r.map kV
  | [], _, h => by cases h; rfl
  | k :: r, _, h => by
    cases h with
    | cons a b => rw [tp_keyD a, tps_keyD b]; rfl
theorem keyD_tps {H : Hp} : ∀ (r : List Key), Tps H (r.map kV) (r.map keyD)
  | [] => .nil
  | k :: r => .cons (keyD_tp k) (keyD_tps r)
theorem kV_inj {a b : Key} : kV a = kV b ↔ a = b := by
  constructor
  · intro h
    cases a with
    | inl i => cases b with
      | inl j => injection h with h; rw [h]
      | inr y => cases h
    | inr x => cases b with
      | inl j => cases h
      | inr y => injection h with h; rw [h]
  · intro h
    rw [h]
theorem kV_dec (a b : Key) : decide (kV a = kV b) = decide (a = b) := by
  by_cases c : a = b
  · rw [c, decide_eq_true rfl, decide_eq_true rfl]
  · rw [decide_eq_false c, decide_eq_false (fun z => c (kV_inj.mp z))]
/-- all but lists stays -/
def Keep (H H' : Hp) : Prop := ∀ a o, H a = some o → (∀ xs, o ≠ .lst xs) → H' a = some o
theorem Keep.refl (H : Hp) : Keep H H := fun _ _ h _ => h
theorem Keep.trans {H H1 H2 : Hp} (a : Keep H H1) (b : Keep H1 H2) : Keep H H2 := fun x o h n => b x o (a x o h n) n
theorem Keep.of {H H' : Hp} (s : Same H H') : Keep H H' := fun a o h _ => s a o h
theorem Keep.lst {H : Hp} {D : Addr} {ys : List V} {o : HO} (h : H D = some (.lst ys)) : Keep H (upd H D o) := fun a u e n => by
  rw [upd_ne (fun z => by rw [z, h] at e; cases e; exact n _ rfl)]
  exact e
theorem Keep.tk {H H' : Hp} (k : Keep H H') : Tk H H' := fun a xs h => k a _ h (fun _ z => by cases z)
def litD : L → PyData
  | .fact r ts => .tuple [.str "fact", .str r, .tuple (ts.map tD)]
  | .notl r ts => .tuple [.str "not", .str r, .tuple (ts.map tD)]
  | .cmp op a b => .tuple [.str "compare", .str op, tD a, tD b]
  | .isl x op a b => .tuple [.str "is", .str x, .str op, tD a, tD b]
  | .cnt x r ts => .tuple [.str "count", .str x, .str r, .tuple (ts.map tD)]
section
variable {P : Program} {w : World} {K : PySem.W.Frag} {mg : Str → Option Value} {base : Heap} {C : Addr}
theorem lit3_inv {H : Hp} {v : V} {a b : Str} {ts : List T} (t : Tp H v (.tuple [.str a, .str b, .tuple (ts.map tD)])) : ∃ p u xs, v = .ref p ∧ H p = some (.tup [.str a, .str b, .ref u]) ∧ H u = some (.tup xs) ∧ Tps H xs (ts.map tD) := by
  cases t with
  | tup e r => cases r with
    | cons h1 r => cases r with
      | cons h2 r => cases r with
        | cons h3 r =>
          cases r
          cases h1
          cases h2
          cases h3 with
          | tup e3 r3 => exact ⟨_, _, _, rfl, e, e3, r3⟩
end
/-- a comprehension that keeps some of a list's values -/
theorem lc_keep {J : It} {n : Nat} {G : Hp → Prop} {Y : Nat → Hp → V → Hp → Prop} (w : Walk J n G Y) {g : TG} {tt : TT} {te : TE} {vs : List Nat} {σ : L2.St} {H1 : Hp} {D : Addr} {Qd : Hp → Prop} (ys : List V) (ks : List Bool) (hl : ys.length = n) (hk : ks.length = n) (hn : n ≤ 1000) (nD : H1 D = none)
    (hG : ∀ H, Same H1 H → G H)
    (hs : ∀ i x H2 H3 (Q : V → Hp → Prop) (R : Hp → Prop), i < n → Same H1 H2 → Y i H2 x H3 → (∀ y H5, Same H2 H5 → ks[i]? = some true → ys[i]? = some y → Q y H5) → (∀ H5, Same H2 H5 → ks[i]? = some false → R H5) → g x (wipe σ vs) H3 fun σ2 H4 => wipe σ2 vs = wipe σ vs ∧ tt σ2 H4 fun b H5 => if b = true then te σ2 H5 Q else R H5)
    (hd : ∀ H, Same H1 H → H D = some (.lst (((ys.zip ks).filter (·.2)).map (·.1))) → Qd H) :
    ∃ W : Nat → Nat → Hp → Prop, (∃ m, W 0 m (upd H1 D (.lst []))) ∧ ∀ i m H, W i m H →
      (J.stop i H ∧ Qd H) ∨ (J.go i H ∧ ∃ Nx : Hp → Prop, (∀ H', Nx H' → ∃ m', m' < m ∧ W (i + 1) m' H') ∧ ∀ x H', J.yld i H x H' → g x (wipe σ vs) H' fun σ2 H2 => wipe σ2 vs = wipe σ vs ∧ tt σ2 H2 fun b H3 =>
        if b = true then te σ2 H3 fun y H4 => ∃ acc, H4 D = some (.lst acc) ∧ acc.length < sizeLine ∧ Nx (upd H4 D (.lst (acc ++ [y]))) else Nx H3) := by
  refine lc_it w (fun i H => Same H1 H ∧ H D = some (.lst ((((ys.zip ks).take i).filter (·.2)).map (·.1)))) ⟨same_new nD, upd_same⟩ (fun i H _ hP => hG H hP.1) (fun i x H H' hi hP hY => ?_) (fun H hP => ?_)
  · obtain ⟨sm, eD⟩ := hP
    have z : ∀ {y : V} {b : Bool}, ys[i]? = some y → ks[i]? = some b → (ys.zip ks)[i]? = some (y, b) := fun h1 h2 => by
      rw [List.getElem?_zip_eq_some]
      exact ⟨h1, h2⟩
    have hy : i < ys.length := by omega
    refine hs i x H H' _ _ hi sm hY (fun y H5 s5 ek ey => ?_) (fun H5 s5 ek => ?_)
    · refine ⟨_, s5 _ _ eD, small1000 ?_, same_put (sm.trans s5) nD, ?_⟩
      · rw [List.length_map]
        exact Nat.le_trans (List.length_filter_le _ _) (by rw [List.length_take]; omega)
      · rw [upd_same, take_next (z ey ek), List.filter_append, List.map_append]
        rfl
    · refine ⟨sm.trans s5, ?_⟩
      rw [take_next (z (List.getElem?_eq_getElem hy) ek), List.filter_append, List.map_append]
      show _ = some (HO.lst (_ ++ []))
      rw [List.append_nil]
      exact s5 _ _ eD
  · obtain ⟨sm, eD⟩ := hP
    rw [List.take_of_length_le (by rw [List.length_zip]; omega)] at eD
    exact hd H sm eD
def rLenK (K : PySem.W.Frag) : List V → Hp → VK → Prop := fun xs H Q => ∃ p ys, xs = [.ref p] ∧ (SqL K H p ys ∨ SqT K H p ys) ∧ Q (.int ys.length) H
theorem call_lenK {X : Cx} : CallR X (.builtin "len") (rLenK X.K) := call_len_seq
theorem litC_inv {H : Hp} {v : V} {o : Str} {a b : T} (t : Tp H v (litD (.cmp o a b))) : ∃ p x y, v = .ref p ∧ H p = some (.tup [.str "compare", .str o, x, y]) ∧ Tp H x (tD a) ∧ Tp H y (tD b) := by
  cases t with
  | tup e r => cases r with
    | cons h1 r => cases r with
      | cons h2 r => cases r with
        | cons h3 r => cases r with
          | cons h4 r =>
            cases r
            cases h1
            cases h2
            exact ⟨_, _, _, rfl, e, h3, h4⟩
theorem litI_inv {H : Hp} {v : V} {z o : Str} {a b : T} (t : Tp H v (litD (.isl z o a b))) : ∃ p x y, v = .ref p ∧ H p = some (.tup [.str "is", .str z, .str o, x, y]) ∧ Tp H x (tD a) ∧ Tp H y (tD b) := by
  cases t with
  | tup e r => cases r with
    | cons h1 r => cases r with
      | cons h2 r => cases r with
        | cons h3 r => cases r with
          | cons h4 r => cases r with
            | cons h5 r =>
              cases r
              cases h1
              cases h2
              cases h3
              exact ⟨_, _, _, rfl, e, h4, h5⟩
theorem litN_inv {H : Hp} {v : V} {a b c : Str} {ts : List T} (t : Tp H v (.tuple [.str a, .str b, .str c, .tuple (ts.map tD)])) : ∃ p u xs, v = .ref p ∧ H p = some (.tup [.str a, .str b, .str c, .ref u]) ∧ H u = some (.tup xs) ∧ Tps H xs (ts.map tD) := by
  cases t with
  | tup e r => cases r with
    | cons h1 r => cases r with
      | cons h2 r => cases r with
        | cons h3 r => cases r with
          | cons h4 r =>
            cases r
            cases h1
            cases h2
            cases h3
            cases h4 with
            | tup e3 r3 => exact ⟨_, _, _, rfl, e, e3, r3⟩
def litName : L → Str
  | .fact _ _ => "fact"
  | .notl _ _ => "not"
  | .cmp _ _ _ => "compare"
  | .isl _ _ _ _ => "is"
  | .cnt _ _ _ => "count"
theorem lit_name {H : Hp} {v : V} {l : L} (t : Tp H v (litD l)) : ∃ p r, v = .ref p ∧ H p = some (.tup r) ∧ atI r 0 = some (.str (litName l)) := by
  cases l with
  | fact r ts => obtain ⟨p, u, xs, rfl, e, _⟩ := lit3_inv t; exact ⟨p, _, rfl, e, rfl⟩
  | notl r ts => obtain ⟨p, u, xs, rfl, e, _⟩ := lit3_inv t; exact ⟨p, _, rfl, e, rfl⟩
  | cmp o a b => obtain ⟨p, x, y, rfl, e, _⟩ := litC_inv t; exact ⟨p, _, rfl, e, rfl⟩
  | isl z o a b => obtain ⟨p, x, y, rfl, e, _⟩ := litI_inv t; exact ⟨p, _, rfl, e, rfl⟩
  | cnt z r ts => obtain ⟨p, u, xs, rfl, e, _⟩ := litN_inv t; exact ⟨p, _, rfl, e, rfl⟩
theorem lit_get {H : Hp} {xs : List V} {ls : List L} {i : Nat} {x : V} (t : Tps H xs (ls.map litD)) (hx : xs[i]? = some x) : ∃ l, ls[i]? = some l ∧ Tp H x (litD l) := by
  obtain ⟨dd, ed, td⟩ := t.get hx
  rw [List.getElem?_map] at ed
  cases ej : ls[i]? with
  | none => rw [ej] at ed; cases ed
  | some j =>
    rw [ej] at ed
    have ed : litD j = dd := Option.some.inj ed
    exact ⟨j, rfl, by rw [ed]; exact td⟩
end KU

namespace KU
open PySem PySem.Spec PyProof.Rows L2 KA
theorem eqv_str (x y : Str) : PyData.eqv (.str x) (.str y) = decide (x = y) := by
  show (x == y) = decide (x = y)
  rw [← dec_str]
  by_cases c : x = y
  · subst c
    rw [decide_eq_true rfl, decide_eq_true rfl]
  · rw [decide_eq_false c, decide_eq_false (fun z => c (V.str.inj z))]
theorem eqv_int (x y : Int) : PyData.eqv (.int x) (.int y) = decide (x = y) := by
  show (x == y) = decide (x = y)
  rfl
theorem drop_get {α : Type} {l : List α} {i : Nat} {x : α} (h : l[i]? = some x) : l.drop i = x :: l.drop (i + 1) := by
  obtain ⟨h1, h2⟩ := List.getElem?_eq_some_iff.mp h
  rw [List.drop_eq_getElem_cons h1, h2]
def isAtom : PyData → Prop
  | .int _ => True
  | .str _ => True
  | _ => False
mutual
def nice : PyData → Prop
  | .int _ => True
  | .str _ => True
  | .tuple ds => ds.length ≤ 1000 ∧ niceAll ds
  | _ => False
def niceAll : List PyData → Prop
  | [] => True
  | d :: r => nice d ∧ niceAll r
end
theorem nice_int (i : Int) : nice (.int i) := by
  rw [nice]
  trivial
theorem nice_str (z : Str) : nice (.str z) := by
  rw [nice]
  trivial
theorem nice_atom {d : PyData} (h : isAtom d) : nice d := by
  cases d with
  | int i => exact nice_int i
  | str z => exact nice_str z
  | _ => exact h.elim
theorem nice_tup {ds : List PyData} (h : niceAll ds) (l : ds.length ≤ 1000) : nice (.tuple ds) := by
  rw [nice]
  exact ⟨l, h⟩
theorem niceAll_nil : niceAll [] := by
  rw [niceAll]
  trivial
theorem niceAll_cons {d : PyData} {ds : List PyData} (h : nice d) (h2 : niceAll ds) : niceAll (d :: ds) := by
  rw [niceAll]
  exact ⟨h, h2⟩
theorem niceAll_snoc : ∀ {ds : List PyData} {d : PyData}, niceAll ds → nice d → niceAll (ds ++ [d])
  | [], d, _, h => niceAll_cons h niceAll_nil
  | x :: r, d, h, h2 => by
    rw [niceAll] at h
    exact niceAll_cons h.1 (niceAll_snoc h.2 h2)
theorem niceAll_of : ∀ {ds : List PyData}, (∀ d ∈ ds, nice d) → niceAll ds
  | [], _ => niceAll_nil
  | x :: r, h => niceAll_cons (h x List.mem_cons_self) (niceAll_of fun d hd => h d (List.mem_cons_of_mem _ hd))
theorem niceAll_mem : ∀ {ds : List PyData} {d : PyData}, niceAll ds → d ∈ ds → nice d
  | x :: r, d, h, m => by
    rw [niceAll] at h
    rcases List.mem_cons.mp m with e | e
    · rw [e]
      exact h.1
    · exact niceAll_mem h.2 e
theorem depthAll_snoc : ∀ {ds : List PyData} {d : PyData} {k : Nat}, PyData.depthAll ds ≤ k → d.depth ≤ k → PyData.depthAll (ds ++ [d]) ≤ k
  | [], d, k, _, h => by
    show max d.depth 0 ≤ k
    omega
  | x :: r, d, k, h, h2 => by
    rw [PyData.depthAll] at h
    show max x.depth (PyData.depthAll (r ++ [d])) ≤ k
    have t := depthAll_snoc (ds := r) (d := d) (k := k) (by omega) h2
    omega
abbrev sSM : Stmt := topS 36
theorem scSM : FnScope ["actual", "expected", "k"] ["actual", "expected"] (defScope sSM) := ⟨rfl, rfl, rfl, by decide +kernel, rfl, by decide +kernel, by decide +kernel⟩
/-- of two nice data -/
def spSM (n : Nat) : Sp := fun vs H Q _ => ∃ (v u : V) (d e : PyData), vs = [v, u] ∧ Tp H v d ∧ Tp H u e ∧ nice d ∧ nice e ∧ e.depth ≤ n ∧ Q (.bl (PyData.eqv d e)) H
/-- of two lists of nice data -/
def spSL (n : Nat) : Sp := fun vs H Q _ => ∃ (a b : Addr) (xs ys : List V) (ds es : List PyData), vs = [.ref a, .ref b] ∧ H a = some (.lst xs) ∧ H b = some (.lst ys) ∧ Tps H xs ds ∧ Tps H ys es ∧ niceAll ds ∧ niceAll es ∧ PyData.depthAll es ≤ n ∧ es.length ≤ 1000 ∧ Q (.bl (PyData.eqvAll ds es)) H
theorem depth_at : ∀ {ds : List PyData} {i : Nat} {d : PyData}, ds[i]? = some d → d.depth ≤ PyData.depthAll ds
  | [], _, _, e => by simp at e
  | _ :: _, 0, _, e => by
    cases e
    rw [PyData.depthAll]
    exact Nat.le_max_left _ _
  | _ :: _, i + 1, _, e => by
    rw [PyData.depthAll]
    exact Nat.le_trans (depth_at (i := i) e) (Nat.le_max_right _ _)
theorem eqvAll_len : ∀ {ds es : List PyData}, ds.length ≠ es.length → PyData.eqvAll ds es = false
  | [], [], h => absurd rfl h
  | [], _ :: _, _ => rfl
  | _ :: _, [], _ => rfl
  | d :: ds, e :: es, h => by
    rw [PyData.eqvAll, eqvAll_len (ds := ds) (es := es) (fun z => h (by rw [List.length_cons, List.length_cons, z])), Bool.and_false]
mutual
theorem eqv_eq : ∀ {d e : PyData}, nice d → nice e → PyData.eqv d e = true → d = e
  | .int a, .int b, _, _, h => by
    rw [eqv_int] at h
    rw [of_decide_eq_true h]
  | .str a, .str b, _, _, h => by
    rw [eqv_str] at h
    rw [of_decide_eq_true h]
  | .tuple xs, .tuple ys, h1, h2, h => by
    rw [nice] at h1 h2
    rw [eqvAll_eq2 h1.2 h2.2 h]
  | .int _, .str _, _, _, h => nomatch h
  | .int _, .tuple _, _, _, h => nomatch h
  | .str _, .int _, _, _, h => nomatch h
  | .str _, .tuple _, _, _, h => nomatch h
  | .tuple _, .int _, _, _, h => nomatch h
  | .tuple _, .str _, _, _, h => nomatch h
  | .none, _, h1, _, _ => by simp [nice] at h1
  | .bool _, _, h1, _, _ => by simp [nice] at h1
  | .list _, _, h1, _, _ => by simp [nice] at h1
  | .dict _, _, h1, _, _ => by simp [nice] at h1
  | .int _, .none, _, h2, _ => by simp [nice] at h2
  | .int _, .bool _, _, h2, _ => by simp [nice] at h2
  | .int _, .list _, _, h2, _ => by simp [nice] at h2
  | .int _, .dict _, _, h2, _ => by simp [nice] at h2
  | .str _, .none, _, h2, _ => by simp [nice] at h2
  | .str _, .bool _, _, h2, _ => by simp [nice] at h2
  | .str _, .list _, _, h2, _ => by simp [nice] at h2
  | .str _, .dict _, _, h2, _ => by simp [nice] at h2
  | .tuple _, .none, _, h2, _ => by simp [nice] at h2
  | .tuple _, .bool _, _, h2, _ => by simp [nice] at h2
  | .tuple _, .list _, _, h2, _ => by simp [nice] at h2
  | .tuple _, .dict _, _, h2, _ => by simp [nice] at h2
theorem eqvAll_eq2 : ∀ {ds es : List PyData}, niceAll ds → niceAll es → PyData.eqvAll ds es = true → ds = es
  | [], [], _, _, _ => rfl
  | [], _ :: _, _, _, h => nomatch h
  | _ :: _, [], _, _, h => nomatch h
  | d :: ds, e :: es, h1, h2, h => by
    rw [niceAll] at h1 h2
    rw [PyData.eqvAll, Bool.and_eq_true] at h
    rw [eqv_eq h1.1 h2.1 h.1, eqvAll_eq2 h1.2 h2.2 h.2]
end
theorem nice_plain : ∀ {d : PyData}, nice d → PyData.eqv d d = true
  | .int a, _ => by
    rw [eqv_int]
    exact decide_eq_true rfl
  | .str a, _ => by
    rw [eqv_str]
    exact decide_eq_true rfl
  | .tuple xs, h => by
    rw [nice] at h
    exact all_plain h.2
  | .none, h => by simp [nice] at h
  | .bool _, h => by simp [nice] at h
  | .list _, h => by simp [nice] at h
  | .dict _, h => by simp [nice] at h
where
  all_plain : ∀ {ds : List PyData}, niceAll ds → PyData.eqvAll ds ds = true
    | [], _ => rfl
    | d :: r, h => by
      rw [niceAll] at h
      rw [PyData.eqvAll, nice_plain h.1, all_plain h.2]
      rfl
theorem eqv_dec {d e : PyData} (h1 : nice d) (h2 : nice e) : PyData.eqv d e = true ↔ d = e := ⟨eqv_eq h1 h2, fun z => by
  subst z
  exact nice_plain h1⟩
section
variable {P : Program} {w : World} {K : PySem.W.Frag} {mg : Str → Option Value} {base : Heap}
theorem isi_no {x : V} {t c : String} {H : Hp} {A B : Prop} (ty : TyX K H x (.type t)) (k : kitB t c = some false) (h : B) :
    ∃ (y d : V) (s u : Value) (b : Bool), [x, V.ty c] = [y, d] ∧ ClsV d u ∧ TyX K H y s ∧ PySem.W.kitOne K s u = some b ∧ ∃ z, V.bl b = .bl z ∧ if z = true then A else B :=
  ⟨x, .ty c, _, _, false, rfl, .ty c, ty, kit_ty k, false, rfl, iteF h⟩
theorem isi_yes {x : V} {t c : String} {H : Hp} {A B : Prop} (ty : TyX K H x (.type t)) (k : kitB t c = some true) (h : A) :
    ∃ (y d : V) (s u : Value) (b : Bool), [x, V.ty c] = [y, d] ∧ ClsV d u ∧ TyX K H y s ∧ PySem.W.kitOne K s u = some b ∧ ∃ z, V.bl b = .bl z ∧ if z = true then A else B :=
  ⟨x, .ty c, _, _, true, rfl, .ty c, ty, kit_ty k, true, rfl, iteT h⟩
theorem ok_sm {f : Addr} {fd : FuncData} (F : Fun K "_law_same" "_law_same" sSM f fd) (B : Bt mg) (n : Nat) (DS : n = 0 ∨ ∃ m, n = m + 1 ∧ Def P w K mg base "_law_same" (m + 1) ["actual", "expected"] (spSM m)) :
    FnOk P w K mg base CX0 (n + 1) f fd ["actual", "expected"] (spSM n) := by
  refine F.ok scSM (fun vs H Q E h => ?_) (fun cdv A outer s H vs Q E hr h => ?_)
  · obtain ⟨v, u, _, _, rfl, _⟩ := h
    rfl
  · obtain ⟨v, u, d, e, rfl, tv, tu, nd, ne, dn, q⟩ := h
    cases tu with
    | non => rw [nice] at ne; all_goals first | exact ne.elim | (intros; contradiction)
    | bl b => rw [nice] at ne; all_goals first | exact ne.elim | (intros; contradiction)
    | int i =>
      refine ⟨_, pss_cons (ps_if (pt_cmpR op_isN (pv 1) pe_non (nomark _)) pss_never pss_nil)
        (pss_cons (ps_if (pt_val (pe_callB call_isi (by rfl) B.isi (by decide +kernel) (pa_cons (pv 1) (pa_cons (pe_bltn (v := .ty "bool") (u := .type "bool") (by rfl) B.bool (by decide +kernel) rfl) pa_nil)))) pss_never pss_nil)
        (pss_cons (ps_if (pt_val (pe_callB call_isi (by rfl) B.isi (by decide +kernel) (pa_cons (pv 1) (pa_cons (pe_bltn (v := .ty "int") (u := .type "int") (by rfl) B.int (by decide +kernel) rfl) pa_nil))))
          (pss_one (ps_ret (pe_and (pe_callB call_isi (by rfl) B.isi (by decide +kernel) (pa_cons (pv 0) (pa_cons (pe_bltn (v := .ty "int") (u := .type "int") (by rfl) B.int (by decide +kernel) rfl) pa_nil))) (pe_and (pe_not (pe_callB call_isi (by rfl) B.isi (by decide +kernel) (pa_cons (pv 0) (pa_cons (pe_bltn (v := .ty "bool") (u := .type "bool") (by rfl) B.bool (by decide +kernel) rfl) pa_nil)))) (pe_one (pe_cmpR (op_eqP hr.units) (pv 0) (pv 1) (nomark _))))))) pss_nil)
        pss_never)), ?_⟩
      refine ⟨.int i, rfl, rfl, _, rfl, no_if (fun z => nomatch z) ?_⟩
      refine ⟨.int i, rfl, isi_no (.base (.int i)) (by decide +kernel) ?_⟩
      refine ⟨.int i, rfl, isi_yes (.base (.int i)) (by decide +kernel) ?_⟩
      cases tv with
      | non => rw [nice] at nd; all_goals first | exact nd.elim | (intros; contradiction)
      | bl b => rw [nice] at nd; all_goals first | exact nd.elim | (intros; contradiction)
      | int j =>
        refine ⟨.int j, rfl, isi_yes (.base (.int j)) (by decide +kernel) ?_⟩
        refine ⟨.int j, rfl, .int j, .ty "bool", _, _, false, rfl, .ty "bool", .base (.int j), kit_ty (by decide +kernel), false, rfl, true, rfl, iteT ?_⟩
        exact ⟨.int j, rfl, .int i, rfl, _, _, .int j, .int i, Nat.zero_le _, q⟩
      | str z => exact ⟨.str z, rfl, isi_no (.base (.str z)) (by decide +kernel) q⟩
      | tup ea ra => exact ⟨_, rfl, isi_no (.base (.tup ea)) (by decide +kernel) q⟩
    | str z =>
      refine ⟨_, pss_cons (ps_if (pt_cmpR op_isN (pv 1) pe_non (nomark _)) pss_never pss_nil)
        (pss_cons (ps_if (pt_val (pe_callB call_isi (by rfl) B.isi (by decide +kernel) (pa_cons (pv 1) (pa_cons (pe_bltn (v := .ty "bool") (u := .type "bool") (by rfl) B.bool (by decide +kernel) rfl) pa_nil)))) pss_never pss_nil)
        (pss_cons (ps_if (pt_val (pe_callB call_isi (by rfl) B.isi (by decide +kernel) (pa_cons (pv 1) (pa_cons (pe_bltn (v := .ty "int") (u := .type "int") (by rfl) B.int (by decide +kernel) rfl) pa_nil)))) pss_never pss_nil)
        (pss_cons (ps_if (pt_val (pe_callB call_isi (by rfl) B.isi (by decide +kernel) (pa_cons (pv 1) (pa_cons (pe_bltn (v := .ty "str") (u := .type "str") (by rfl) B.str (by decide +kernel) rfl) pa_nil))))
          (pss_one (ps_ret (pe_and (pe_callB call_isi (by rfl) B.isi (by decide +kernel) (pa_cons (pv 0) (pa_cons (pe_bltn (v := .ty "str") (u := .type "str") (by rfl) B.str (by decide +kernel) rfl) pa_nil))) (pe_one (pe_cmpR (op_eqP hr.units) (pv 0) (pv 1) (nomark _)))))) pss_nil)
        pss_never))), ?_⟩
      refine ⟨.str z, rfl, rfl, _, rfl, no_if (fun z => nomatch z) ?_⟩
      refine ⟨.str z, rfl, isi_no (.base (.str z)) (by decide +kernel) ?_⟩
      refine ⟨.str z, rfl, isi_no (.base (.str z)) (by decide +kernel) ?_⟩
      refine ⟨.str z, rfl, isi_yes (.base (.str z)) (by decide +kernel) ?_⟩
      cases tv with
      | non => rw [nice] at nd; all_goals first | exact nd.elim | (intros; contradiction)
      | bl b => rw [nice] at nd; all_goals first | exact nd.elim | (intros; contradiction)
      | int j => exact ⟨.int j, rfl, isi_no (.base (.int j)) (by decide +kernel) q⟩
      | str y =>
        refine ⟨.str y, rfl, isi_yes (.base (.str y)) (by decide +kernel) ?_⟩
        exact ⟨.str y, rfl, .str z, rfl, _, _, .str y, .str z, Nat.zero_le _, q⟩
      | tup ea ra => exact ⟨_, rfl, isi_no (.base (.tup ea)) (by decide +kernel) q⟩
    | @tup b ys es e2 r2 =>
      rcases DS with rfl | ⟨m, rfl, DS⟩
      · exact absurd dn (by
          show ¬ PyData.depthAll es + 1 ≤ 0
          omega)
      have ly := r2.length
      rw [nice] at ne
      have dm : PyData.depthAll es ≤ m := by
        have t : PyData.depthAll es + 1 ≤ m + 1 := dn
        omega
      refine ⟨_, pss_cons (ps_if (pt_cmpR op_isN (pv 1) pe_non (nomark _)) pss_never pss_nil)
        (pss_cons (ps_if (pt_val (pe_callB call_isi (by rfl) B.isi (by decide +kernel) (pa_cons (pv 1) (pa_cons (pe_bltn (v := .ty "bool") (u := .type "bool") (by rfl) B.bool (by decide +kernel) rfl) pa_nil)))) pss_never pss_nil)
        (pss_cons (ps_if (pt_val (pe_callB call_isi (by rfl) B.isi (by decide +kernel) (pa_cons (pv 1) (pa_cons (pe_bltn (v := .ty "int") (u := .type "int") (by rfl) B.int (by decide +kernel) rfl) pa_nil)))) pss_never pss_nil)
        (pss_cons (ps_if (pt_val (pe_callB call_isi (by rfl) B.isi (by decide +kernel) (pa_cons (pv 1) (pa_cons (pe_bltn (v := .ty "str") (u := .type "str") (by rfl) B.str (by decide +kernel) rfl) pa_nil)))) pss_never pss_nil)
        (pss_cons (ps_if (PW.pt (pw_and (pt_val (pe_callB call_isi (by rfl) B.isi (by decide +kernel) (pa_cons (pv 1) (pa_cons (pe_bltn (v := .ty "tuple") (u := .type "tuple") (by rfl) B.tup (by decide +kernel) rfl) pa_nil)))) (pw_and1 (pt_not (pt_val (pe_callB call_isi (by rfl) B.isi (by decide +kernel) (pa_cons (pv 0) (pa_cons (pe_bltn (v := .ty "tuple") (u := .type "tuple") (by rfl) B.tup (by decide +kernel) rfl) pa_nil)))))))) (pss_one (ps_ret pe_bl)) pss_nil)
        (pss_cons (ps_if (PW.pt (pw_and (pt_val (pe_callB call_isi (by rfl) B.isi (by decide +kernel) (pa_cons (pv 1) (pa_cons (pe_bltn (v := .ty "list") (u := .type "list") (by rfl) B.lst (by decide +kernel) rfl) pa_nil)))) (pw_and1 (pt_not (pt_val (pe_callB call_isi (by rfl) B.isi (by decide +kernel) (pa_cons (pv 0) (pa_cons (pe_bltn (v := .ty "list") (u := .type "list") (by rfl) B.lst (by decide +kernel) rfl) pa_nil)))))))) pss_never pss_nil)
        (pss_cons (ps_if (pt_cmpR op_ne (pe_callB call_len_seq (by rfl) B.len PySem.boot_len (pa_cons (pv 0) pa_nil)) (pe_callB call_len_seq (by rfl) B.len PySem.boot_len (pa_cons (pv 1) pa_nil)) (nomark _)) (pss_one (ps_ret pe_bl)) pss_nil)
        (pss_cons (ps_for PassesOwn.never rfl (pi_range1 (by rfl) B.rng (pa_cons (pe_callB call_len_seq (by rfl) B.len PySem.boot_len (pa_cons (pv 1) pa_nil)) pa_nil)) (pg_name (i := 2) scSM.nd rfl (.inl rfl))
            (pss_one (ps_if (pt_not (pt_val (pe_def DS hr (by rfl) (pa_cons (pe_ix ix_tup (pv 0) (pv 2) (fun _ _ => rfl)) (pa_cons (pe_ix ix_tup (pv 1) (pv 2) (fun _ _ => rfl)) pa_nil))))) (pss_one (ps_ret pe_bl)) pss_nil)))
        (pss_one (ps_ret pe_bl))))))))), ?_⟩
      refine ⟨.ref b, rfl, rfl, _, rfl, no_if (fun z => nomatch z) ?_⟩
      refine ⟨.ref b, rfl, isi_no (.base (.tup e2)) (by decide +kernel) ?_⟩
      refine ⟨.ref b, rfl, isi_no (.base (.tup e2)) (by decide +kernel) ?_⟩
      refine ⟨.ref b, rfl, isi_no (.base (.tup e2)) (by decide +kernel) ?_⟩
      refine ⟨.ref b, rfl, isi_yes (.base (.tup e2)) (by decide +kernel) ?_⟩
      cases tv with
      | non => rw [nice] at nd; all_goals first | exact nd.elim | (intros; contradiction)
      | bl b => rw [nice] at nd; all_goals first | exact nd.elim | (intros; contradiction)
      | int j => exact ⟨.int j, rfl, .int j, .ty "tuple", _, _, false, rfl, .ty "tuple", .base (.int j), kit_ty (by decide +kernel), false, rfl, iteT q⟩
      | str y => exact ⟨.str y, rfl, .str y, .ty "tuple", _, _, false, rfl, .ty "tuple", .base (.str y), kit_ty (by decide +kernel), false, rfl, iteT q⟩
      | @tup a xs ds e r =>
        have lx := r.length
        rw [nice] at nd
        refine ⟨.ref a, rfl, .ref a, .ty "tuple", _, _, true, rfl, .ty "tuple", .base (.tup e), kit_ty (by decide +kernel), true, rfl, iteF ?_⟩
        refine ⟨.ref b, rfl, .ref b, .ty "list", _, _, false, rfl, .ty "list", .base (.tup e2), kit_ty (by decide +kernel), false, rfl, iteF (iteF ?_)⟩
        refine ⟨.ref a, rfl, a, xs, rfl, .inr (SqT.of e), .ref b, rfl, b, ys, rfl, .inr (SqT.of e2), rfl, _, rfl, ?_⟩
        have q2 : Q (.bl (PyData.eqvAll ds es)) H := q
        by_cases cl : ds.length = es.length
        · rw [lx, ly, cl, decide_eq_true rfl]
          refine iteF ?_
          refine ⟨.ref b, rfl, b, ys, rfl, .inr (SqT.of e2), _, rfl, by omega, by omega, ?_⟩
          rw [ly, Int.toNat_natCast]
          refine for_range (lo := 0) (n := es.length) (fun i σ H' => H' = H ∧ PyData.eqvAll ds es = PyData.eqvAll (ds.drop i) (es.drop i) ∧ ∃ x2, σ = [some (.ref a), some (.ref b), x2]) ⟨rfl, rfl, none, rfl⟩ (fun i σ H' hi hP => ?_) (fun σ H' hP => ?_)
          · obtain ⟨rfl, eq1, x2, rfl⟩ := hP
            have g2 := List.getElem?_eq_getElem hi
            have g1 := List.getElem?_eq_getElem (l := ds) (i := i) (by omega)
            obtain ⟨x, ex, tx⟩ := r.at_ g1
            obtain ⟨y, ey, ty⟩ := r2.at_ g2
            have e0 : (0 : Int) + (i : Int) = ((i : Nat) : Int) := Int.zero_add _
            rw [drop_get g1, drop_get g2, PyData.eqvAll] at eq1
            refine ⟨.ref a, rfl, .int (0 + i), rfl, a, xs, 0 + i, x, rfl, rfl, SqT.of e, at_of e0 ex, .ref b, rfl, .int (0 + i), rfl, b, ys, 0 + i, y, rfl, rfl, SqT.of e2, at_of e0 ey, ?_⟩
            refine ⟨x, y, _, _, rfl, tx, ty, niceAll_mem nd.2 (List.mem_of_getElem? g1), niceAll_mem ne.2 (List.mem_of_getElem? g2), Nat.le_trans (depth_at g2) dm, _, rfl, ?_⟩
            cases c : PyData.eqv ds[i] es[i] with
            | true =>
              rw [c, Bool.true_and] at eq1
              exact iteF ⟨rfl, eq1, _, rfl⟩
            | false =>
              rw [c, Bool.false_and] at eq1
              rw [eq1] at q2
              exact iteT q2
          · obtain ⟨rfl, eq1, x2, rfl⟩ := hP
            rw [List.drop_of_length_le (by omega), List.drop_of_length_le (by omega)] at eq1
            rw [eq1] at q2
            exact q2
        · rw [lx, ly, decide_eq_false (fun z => cl (by have t := V.int.inj z; omega))]
          refine iteT ?_
          rw [eqvAll_len cl] at q2
          exact q2
theorem ok_sl {f : Addr} {fd : FuncData} (F : Fun K "_law_same" "_law_same" sSM f fd) (B : Bt mg) (m : Nat) (DS : Def P w K mg base "_law_same" (m + 1) ["actual", "expected"] (spSM m)) :
    FnOk P w K mg base CX0 (m + 2) f fd ["actual", "expected"] (spSL m) := by
  refine F.ok scSM (fun vs H Q E h => ?_) (fun cdv A outer s H vs Q E hr h => ?_)
  · obtain ⟨_, _, _, _, _, _, rfl, _⟩ := h
    rfl
  · obtain ⟨a, b, xs, ys, ds, es, rfl, e, e2, r, r2, nd, ne, dm, le, q2⟩ := h
    have ly := r2.length
    have lx := r.length
    refine ⟨_, pss_cons (ps_if (pt_cmpR op_isN (pv 1) pe_non (nomark _)) pss_never pss_nil)
        (pss_cons (ps_if (pt_val (pe_callB call_isi (by rfl) B.isi (by decide +kernel) (pa_cons (pv 1) (pa_cons (pe_bltn (v := .ty "bool") (u := .type "bool") (by rfl) B.bool (by decide +kernel) rfl) pa_nil)))) pss_never pss_nil)
        (pss_cons (ps_if (pt_val (pe_callB call_isi (by rfl) B.isi (by decide +kernel) (pa_cons (pv 1) (pa_cons (pe_bltn (v := .ty "int") (u := .type "int") (by rfl) B.int (by decide +kernel) rfl) pa_nil)))) pss_never pss_nil)
        (pss_cons (ps_if (pt_val (pe_callB call_isi (by rfl) B.isi (by decide +kernel) (pa_cons (pv 1) (pa_cons (pe_bltn (v := .ty "str") (u := .type "str") (by rfl) B.str (by decide +kernel) rfl) pa_nil)))) pss_never pss_nil)
        (pss_cons (ps_if (PW.pt (pw_and (pt_val (pe_callB call_isi (by rfl) B.isi (by decide +kernel) (pa_cons (pv 1) (pa_cons (pe_bltn (v := .ty "tuple") (u := .type "tuple") (by rfl) B.tup (by decide +kernel) rfl) pa_nil)))) (pw_and1 (pt_not (pt_val (pe_callB call_isi (by rfl) B.isi (by decide +kernel) (pa_cons (pv 0) (pa_cons (pe_bltn (v := .ty "tuple") (u := .type "tuple") (by rfl) B.tup (by decide +kernel) rfl) pa_nil)))))))) pss_never pss_nil)
        (pss_cons (ps_if (PW.pt (pw_and (pt_val (pe_callB call_isi (by rfl) B.isi (by decide +kernel) (pa_cons (pv 1) (pa_cons (pe_bltn (v := .ty "list") (u := .type "list") (by rfl) B.lst (by decide +kernel) rfl) pa_nil)))) (pw_and1 (pt_not (pt_val (pe_callB call_isi (by rfl) B.isi (by decide +kernel) (pa_cons (pv 0) (pa_cons (pe_bltn (v := .ty "list") (u := .type "list") (by rfl) B.lst (by decide +kernel) rfl) pa_nil)))))))) pss_never pss_nil)
        (pss_cons (ps_if (pt_cmpR op_ne (pe_callB call_len_seq (by rfl) B.len PySem.boot_len (pa_cons (pv 0) pa_nil)) (pe_callB call_len_seq (by rfl) B.len PySem.boot_len (pa_cons (pv 1) pa_nil)) (nomark _)) (pss_one (ps_ret pe_bl)) pss_nil)
        (pss_cons (ps_for PassesOwn.never rfl (pi_range1 (by rfl) B.rng (pa_cons (pe_callB call_len_seq (by rfl) B.len PySem.boot_len (pa_cons (pv 1) pa_nil)) pa_nil)) (pg_name (i := 2) scSM.nd rfl (.inl rfl))
            (pss_one (ps_if (pt_not (pt_val (pe_def DS hr (by rfl) (pa_cons (pe_ix ix_list (pv 0) (pv 2) (fun _ _ => rfl)) (pa_cons (pe_ix ix_list (pv 1) (pv 2) (fun _ _ => rfl)) pa_nil))))) (pss_one (ps_ret pe_bl)) pss_nil)))
        (pss_one (ps_ret pe_bl))))))))), ?_⟩
    refine ⟨.ref b, rfl, rfl, _, rfl, no_if (fun z => nomatch z) ?_⟩
    refine ⟨.ref b, rfl, isi_no (.base (.lst e2)) (by decide +kernel) ?_⟩
    refine ⟨.ref b, rfl, isi_no (.base (.lst e2)) (by decide +kernel) ?_⟩
    refine ⟨.ref b, rfl, isi_no (.base (.lst e2)) (by decide +kernel) ?_⟩
    refine ⟨.ref b, rfl, .ref b, .ty "tuple", _, _, false, rfl, .ty "tuple", .base (.lst e2), kit_ty (by decide +kernel), false, rfl, iteF (iteF ?_)⟩
    refine ⟨.ref b, rfl, .ref b, .ty "list", _, _, true, rfl, .ty "list", .base (.lst e2), kit_ty (by decide +kernel), true, rfl, iteT ?_⟩
    refine ⟨.ref a, rfl, .ref a, .ty "list", _, _, true, rfl, .ty "list", .base (.lst e), kit_ty (by decide +kernel), true, rfl, iteF ?_⟩
    refine ⟨.ref a, rfl, a, xs, rfl, .inl (SqL.of e), .ref b, rfl, b, ys, rfl, .inl (SqL.of e2), rfl, _, rfl, ?_⟩
    by_cases cl : ds.length = es.length
    · rw [lx, ly, cl, decide_eq_true rfl]
      refine iteF ?_
      refine ⟨.ref b, rfl, b, ys, rfl, .inl (SqL.of e2), _, rfl, by omega, by omega, ?_⟩
      rw [ly, Int.toNat_natCast]
      refine for_range (lo := 0) (n := es.length) (fun i σ H' => H' = H ∧ PyData.eqvAll ds es = PyData.eqvAll (ds.drop i) (es.drop i) ∧ ∃ x2, σ = [some (.ref a), some (.ref b), x2]) ⟨rfl, rfl, none, rfl⟩ (fun i σ H' hi hP => ?_) (fun σ H' hP => ?_)
      · obtain ⟨rfl, eq1, x2, rfl⟩ := hP
        have g2 := List.getElem?_eq_getElem hi
        have g1 := List.getElem?_eq_getElem (l := ds) (i := i) (by omega)
        obtain ⟨x, ex, tx⟩ := r.at_ g1
        obtain ⟨y, ey, ty⟩ := r2.at_ g2
        have e0 : (0 : Int) + (i : Int) = ((i : Nat) : Int) := Int.zero_add _
        rw [drop_get g1, drop_get g2, PyData.eqvAll] at eq1
        refine ⟨.ref a, rfl, .int (0 + i), rfl, a, xs, 0 + i, x, rfl, rfl, SqL.of e, at_of e0 ex, .ref b, rfl, .int (0 + i), rfl, b, ys, 0 + i, y, rfl, rfl, SqL.of e2, at_of e0 ey, ?_⟩
        refine ⟨x, y, _, _, rfl, tx, ty, niceAll_mem nd (List.mem_of_getElem? g1), niceAll_mem ne (List.mem_of_getElem? g2), Nat.le_trans (depth_at g2) dm, _, rfl, ?_⟩
        cases c : PyData.eqv ds[i] es[i] with
        | true =>
          rw [c, Bool.true_and] at eq1
          exact iteF ⟨rfl, eq1, _, rfl⟩
        | false =>
          rw [c, Bool.false_and] at eq1
          rw [eq1] at q2
          exact iteT q2
      · obtain ⟨rfl, eq1, x2, rfl⟩ := hP
        rw [List.drop_of_length_le (by omega), List.drop_of_length_le (by omega)] at eq1
        rw [eq1] at q2
        exact q2
    · rw [lx, ly, decide_eq_false (fun z => cl (by have t := V.int.inj z; omega))]
      refine iteT ?_
      rw [eqvAll_len cl] at q2
      exact q2
end
end KU

namespace KU
open PySem PySem.Spec PyProof.Rows L2 KA
theorem Good.not_none {st L : Addr} {H : Hp} (g : Good st L H) : H st ≠ none := by
  obtain ⟨_, _, _, _, e, _⟩ := g
  rw [e]
  exact fun z => nomatch z
theorem Dr.keep {st L p : Addr} {H H' : Hp} {o : HO} (g : Good st L H) (n : H p = none) (d : Dr st L (upd H p o) H') : H' p = some o :=
  d.at_ (fun z => g.not_none (by rw [← z]; exact n)) upd_same
theorem pick_at {α : Type} {f : α → V} {ks : List α} {v : Int} (h0 : 0 ≤ v) (h1 : v < ks.length) : ∃ k ∈ ks, atI (ks.map f) v = some (f k) := by
  obtain ⟨m, rfl⟩ : ∃ m : Nat, v = m := ⟨v.toNat, by omega⟩
  have hm : m < ks.length := by omega
  refine ⟨ks[m], List.getElem_mem hm, atI_nat ?_⟩
  rw [List.getElem?_map, List.getElem?_eq_getElem hm]
  rfl
/-- ints of at most n bits, short texts -/
def KeyB (n : Nat) (k : Key) : Prop := (∀ i, k = Sum.inl i → i.natAbs < 2 ^ n) ∧ ∀ z, k = Sum.inr z → z.cps.size ≤ 100 ∧ ∀ c ∈ z.cps.toList, c < 16 ^ 8
def vars4 : List Str := ["x", "y", "z", "n_1"]
def TermB : T → Prop
  | .any => True
  | .val k => KeyB 100 k
  | .var x => x ∈ vars4
section
variable {P : Program} {w : World} {K : PySem.W.Frag} {mg : Str → Option Value} {base : Heap}
abbrev sLw : Stmt := topS 37
theorem scLw : FnScope ["state"] ["state"] (defScope sLw) := ⟨rfl, rfl, rfl, by decide +kernel, rfl, by decide +kernel, by decide +kernel⟩
def spLw : Sp := fun vs H Q _ => ∃ (st L : Addr), vs = [.ref st] ∧ Good st L H ∧ ∀ (k : Key) H', Dr st L H H' → KeyB 100 k → Q (kV k) H'
def worths : List Key := [.inl 0, .inl 1, .inl 2, .inl (-1), .inl 3, .inr "a", .inr "", .inr "1", .inl (10 ^ 30 - 1), .inl 2, .inr "A", .inr "ab", .inr "aB", .inr "ac", .inl (-7), .inl 12]
theorem worths_b : ∀ k ∈ worths, KeyB 100 k := by
  intro k hk
  refine ⟨fun i e => ?_, fun z e => ?_⟩
  · subst e
    simp only [worths, List.mem_cons, Sum.inl.injEq, reduceCtorEq, List.not_mem_nil, or_false, false_or] at hk
    rcases hk with rfl | rfl | rfl | rfl | rfl | rfl | rfl | rfl | rfl <;> decide
  · subst e
    simp only [worths, List.mem_cons, Sum.inr.injEq, reduceCtorEq, List.not_mem_nil, or_false, false_or] at hk
    rcases hk with rfl | rfl | rfl | rfl | rfl | rfl | rfl <;> exact ⟨by decide +kernel, by decide +kernel⟩
theorem ok_lw {f : Addr} {fd : FuncData} (F : Fun K "_law_worth" "_law_worth" sLw f fd) (DN : dNext P w K mg base) : FnOk P w K mg base CX0 2 f fd ["state"] spLw := by
  refine F.ok scLw (fun vs H Q E h => ?_) (fun cdv A outer s H vs Q E hr h => ?_)
  · obtain ⟨st, L, rfl, _⟩ := h
    rfl
  · obtain ⟨st, L, rfl, g, q⟩ := h
    refine ⟨_, pss_one (ps_ret (pe_ix ix_list (pe_lst (pa_cons pe_int (pa_cons pe_int (pa_cons pe_int (pa_cons (pe_un un_neg pe_int) (pa_cons pe_int (pa_cons pe_str (pa_cons pe_str (pa_cons pe_str (pa_cons (pe_op op_sub (pe_op op_pow pe_int pe_int) pe_int) (pa_cons pe_int (pa_cons pe_str (pa_cons pe_str (pa_cons pe_str (pa_cons pe_str (pa_cons (pe_un un_neg pe_int) (pa_cons pe_int pa_nil)))))))))))))))))
      (pe_def DN hr (by rfl) (pa_cons (pv 0) (pa_cons pe_int pa_nil))) (fun _ _ => rfl))), ?_⟩
    refine ⟨1, rfl, 10, 30, rfl, rfl, ⟨by decide, by decide, by decide⟩, _, _, rfl, rfl, 7, rfl, (by show 16 ≤ sizeLine; decide), fun p np => ?_⟩
    have d1 := Dr.new (o := .lst (worths.map kV)) g np
    refine ⟨.ref st, rfl, st, L, 16, rfl, d1.good, by decide, by decide, fun v H2 d2 v0 v1 => ?_⟩
    obtain ⟨k, hk, ek⟩ := pick_at (f := kV) (ks := worths) v0 v1
    exact ⟨p, _, v, kV k, rfl, rfl, SqL.of (Dr.keep g np d2), ek, q k _ (d1.trans d2) (worths_b k hk)⟩
abbrev sLv : Stmt := topS 38
theorem scLv : FnScope ["state"] ["state"] (defScope sLv) := ⟨rfl, rfl, rfl, by decide +kernel, rfl, by decide +kernel, by decide +kernel⟩
def spLv : Sp := fun vs H Q _ => ∃ (st L : Addr), vs = [.ref st] ∧ Good st L H ∧ ∀ (x : Str) H', Dr st L H H' → x ∈ vars4 → Q (.str x) H'
theorem ok_lv {f : Addr} {fd : FuncData} (F : Fun K "_law_variable" "_law_variable" sLv f fd) (DN : dNext P w K mg base) : FnOk P w K mg base CX0 2 f fd ["state"] spLv := by
  refine F.ok scLv (fun vs H Q E h => ?_) (fun cdv A outer s H vs Q E hr h => ?_)
  · obtain ⟨st, L, rfl, _⟩ := h
    rfl
  · obtain ⟨st, L, rfl, g, q⟩ := h
    refine ⟨_, pss_one (ps_ret (pe_ix ix_list (pe_lst (pa_cons pe_str (pa_cons pe_str (pa_cons pe_str (pa_cons pe_str pa_nil))))) (pe_def DN hr (by rfl) (pa_cons (pv 0) (pa_cons pe_int pa_nil))) (fun _ _ => rfl))), ?_⟩
    refine ⟨(by show 4 ≤ sizeLine; decide), fun p np => ?_⟩
    have d1 := Dr.new (o := .lst (vars4.map V.str)) g np
    refine ⟨.ref st, rfl, st, L, 4, rfl, d1.good, by decide, by decide, fun v H2 d2 v0 v1 => ?_⟩
    obtain ⟨x, hx, ex⟩ := pick_at (f := V.str) (ks := vars4) v0 v1
    exact ⟨p, _, v, .str x, rfl, rfl, SqL.of (Dr.keep g np d2), ex, q x _ (d1.trans d2) hx⟩
abbrev dLw (P : Program) (w : World) (K : PySem.W.Frag) (mg : Str → Option Value) (base : Heap) : Prop := Def P w K mg base "_law_worth" 2 ["state"] spLw
abbrev dLv (P : Program) (w : World) (K : PySem.W.Frag) (mg : Str → Option Value) (base : Heap) : Prop := Def P w K mg base "_law_variable" 2 ["state"] spLv
abbrev sLt : Stmt := topS 39
theorem scLt : FnScope ["state", "bound", "pick"] ["state", "bound"] (defScope sLt) := ⟨rfl, rfl, rfl, by decide +kernel, rfl, by decide +kernel, by decide +kernel⟩
def spLt : Sp := fun vs H Q _ => ∃ (st L b : Addr) (bs : List Str), vs = [.ref st, .ref b] ∧ Good st L H ∧ H b = some (.lst (bs.map V.str)) ∧ b ≠ st ∧ bs.length ≤ 40 ∧ (∀ x ∈ bs, x ∈ vars4) ∧
  ∀ (v : V) (t : T) H', Dr st L H H' → Tp H' v (tD t) → TermB t → Q v H'
theorem ok_lt {f : Addr} {fd : FuncData} (F : Fun K "_law_term" "_law_term" sLt f fd) (B : Bt mg) (DN : dNext P w K mg base) (DV : dLv P w K mg base) (DW : dLw P w K mg base) : FnOk P w K mg base CX0 3 f fd ["state", "bound"] spLt := by
  refine F.ok scLt (fun vs H Q E h => ?_) (fun cdv A outer s H vs Q E hr h => ?_)
  · obtain ⟨st, L, b, bs, rfl, _⟩ := h
    rfl
  · obtain ⟨st, L, b, bs, rfl, g, eb, nb, lb, hb, q⟩ := h
    have r1 : Room 1 _ := hr.mono (by decide)
    refine ⟨_, pss_cons (ps_set (i := 2) scLt.nd rfl (.inl rfl) (pe_def DN r1 (by rfl) (pa_cons (pv 0) (pa_cons pe_int pa_nil))))
      (C8.pss_cut (ps_if (PW.pt (pw_and (pt_cmpR op_lt (pv 2) pe_int (nomark _)) (pw_and1 (pt_cmpR op_gt (pe_callB call_len_seq (by rfl) B.len PySem.boot_len (pa_cons (pv 1) pa_nil)) pe_int (nomark _)))))
        (pss_one (ps_ret (pe_tup (pa_cons pe_str (pa_cons (pe_ix ix_list (pv 1) (pe_def DN r1 (by rfl) (pa_cons (pv 0) (pa_cons (pe_callB call_len_seq (by rfl) B.len PySem.boot_len (pa_cons (pv 1) pa_nil)) pa_nil))) (fun _ _ => rfl)) pa_nil))))) pss_nil)
      (pss_cons (ps_if (pt_cmpR op_lt (pv 2) pe_int (nomark _)) (pss_one (ps_ret (pe_tup (pa_cons pe_str (pa_cons (pe_def DV hr (by rfl) (pa_cons (pv 0) pa_nil)) pa_nil))))) pss_nil)
      (pss_one (ps_ret (pe_ix ix_list (pe_lst (pa_cons (pe_tup (pa_cons pe_str pa_nil)) (pa_cons (pe_tup (pa_cons pe_str (pa_cons (pe_def DW hr (by rfl) (pa_cons (pv 0) pa_nil)) pa_nil))) pa_nil)))
        (pe_callTy call_int1 (by rfl) B.int (by decide +kernel) (pa_cons (pe_cmpR op_lt (pv 2) pe_int (nomark _)) pa_nil)) (fun _ _ => rfl)))))), ?_⟩
    refine ⟨.ref st, rfl, st, L, 10, rfl, g, by decide, by decide, fun pick H1 d1 p0 p1 => ?_⟩
    have eb1 := d1.at_ nb eb
    have lbm : (bs.map V.str).length = bs.length := List.length_map _
    have gst := g.not_none
    refine ⟨fun σ' H' => σ' = [some (.ref st), some (.ref b), some (.int pick)] ∧ H' = H1, ?_, fun σ' H' hm => ?_⟩
    · refine ⟨.int pick, rfl, pick, 4, rfl, rfl, _, rfl, ite2 (fun c => ?_) (fun c => ?_)⟩
      · refine ⟨.ref b, rfl, b, _, rfl, .inl (SqL.of eb1), _, 0, rfl, rfl, _, rfl, ite2 (fun c2 => ?_) (fun c2 => ?_)⟩
        · have c3 : (0 : Int) < ((bs.map V.str).length : Nat) := of_decide_eq_true c2
          refine ⟨.ref b, rfl, .ref st, rfl, .ref b, rfl, b, _, rfl, .inl (SqL.of eb1), st, L, _, rfl, d1.good, c3, by rw [lbm]; exact Int.lt_of_le_of_lt (by omega : (bs.length : Int) ≤ 40) (by decide), fun v H2 d2 v0 v1 => ?_⟩
          rw [lbm] at v1
          obtain ⟨x, hx, ex⟩ := pick_at (f := V.str) (ks := bs) v0 v1
          refine ⟨b, _, v, .str x, rfl, rfl, SqL.of (d2.at_ nb eb1), ex, (by show 2 ≤ sizeLine; decide), fun p np => ?_⟩
          exact q _ (.var x) _ ((d1.trans d2).add np) (.tup upd_same (.cons (.str _) (.cons (.str _) .nil))) (hb x hx)
        · exact ⟨rfl, rfl⟩
      · exact iteF ⟨rfl, rfl⟩
    · obtain ⟨rfl, rfl⟩ := hm
      refine ⟨.int pick, rfl, pick, 7, rfl, rfl, _, rfl, ite2 (fun c => ?_) (fun c => ?_)⟩
      · refine ⟨.ref st, rfl, st, L, rfl, d1.good, fun x H2 d2 hx => ⟨(by show 2 ≤ sizeLine; decide), fun p np => ?_⟩⟩
        exact q _ (.var x) _ ((d1.trans d2).add np) (.tup upd_same (.cons (.str _) (.cons (.str _) .nil))) hx
      · refine ⟨(by show 1 ≤ sizeLine; decide), fun p np => ?_⟩
        have d2 := d1.add (o := .tup [.str "any"]) np
        have ep : (upd H' p (.tup [.str "any"])) p = some (.tup [.str "any"]) := upd_same
        refine ⟨.ref st, rfl, st, L, rfl, d2.good, fun k H3 d3 hk => ⟨(by show 2 ≤ sizeLine; decide), fun p2 np2 => ?_⟩⟩
        have npst : p ≠ st := fun z => d1.good.not_none (by rw [← z]; exact np)
        have ep3 := d3.at_ npst ep
        have d4 := (d2.trans d3).add (o := .tup [.str "value", kV k]) np2
        have ep4 : (upd H3 p2 (.tup [.str "value", kV k])) p = some (.tup [.str "any"]) := by
          rw [upd_ne (ne_of_none ep3 np2)]
          exact ep3
        have ep5 : (upd H3 p2 (.tup [.str "value", kV k])) p2 = some (.tup [.str "value", kV k]) := upd_same
        refine ⟨(by show 2 ≤ sizeLine; decide), fun l nl => ?_⟩
        have d5 := d4.add (o := .lst [.ref p, .ref p2]) nl
        have tkl : ∀ {a : Addr} {o : HO}, (upd H3 p2 (.tup [.str "value", kV k])) a = some o → (upd (upd H3 p2 (.tup [.str "value", kV k])) l (.lst [.ref p, .ref p2])) a = some o := fun h => by
          rw [upd_ne (ne_of_none h nl)]
          exact h
        refine ⟨.int pick, rfl, pick, 9, rfl, rfl, .inr ⟨_, rfl, ?_⟩⟩
        cases decide (pick < 9) with
        | true =>
          refine ⟨l, _, 1, .ref p2, rfl, rfl, SqL.of upd_same, rfl, ?_⟩
          refine q _ (.val k) _ d5 ?_ hk
          have : tD (.val k) = .tuple [.str "value", keyD k] := by cases k <;> rfl
          rw [this]
          exact .tup (tkl ep5) (.cons (.str _) (.cons (keyD_tp k) .nil))
        | false =>
          refine ⟨l, _, 0, .ref p, rfl, rfl, SqL.of upd_same, rfl, ?_⟩
          exact q _ .any _ d5 (.tup (tkl ep4) (.cons (.str _) .nil)) trivial
end
def settled (t : T) (bs : List Str) : T := match t with
  | .any => .val (.inl 1)
  | .var x => if x ∈ bs then .var x else .val (.inl 1)
  | .val k => .val k
theorem inV_str (x : Str) : ∀ bs : List Str, inV (.str x) (bs.map V.str) = decide (x ∈ bs)
  | [] => rfl
  | b :: bs => by
    have ih := inV_str x bs
    unfold inV at ih ⊢
    rw [List.map_cons, List.any_cons, ih, Bool.eq_iff_iff, Bool.or_eq_true, decide_eq_true_iff, decide_eq_true_iff, List.mem_cons]
    constructor
    · rintro (h | h)
      · refine .inl ?_
        have h2 : (x == b) = true ∨ (b == x) = true := by
          first | exact .inl h | exact .inr h
        rcases h2 with h2 | h2
        · exact eq_of_beq h2
        · exact (eq_of_beq h2).symm
      · exact .inr h
    · rintro (rfl | h)
      · refine .inl ?_
        show (x == x) = true
        exact beq_self_eq_true x
      · exact .inr h
theorem flat_strs : ∀ bs : List Str, (bs.map V.str).all flatV = true
  | [] => rfl
  | b :: bs => by
    rw [List.map_cons, List.all_cons, flat_strs bs]
    rfl
section
variable {P : Program} {w : World} {K : PySem.W.Frag} {mg : Str → Option Value} {base : Heap}
abbrev sLs : Stmt := topS 40
theorem scLs : FnScope ["term", "bound"] ["term", "bound"] (defScope sLs) := ⟨rfl, rfl, rfl, by decide +kernel, rfl, by decide +kernel, by decide +kernel⟩
def spLs : Sp := fun vs H Q _ => ∃ (v : V) (b : Addr) (t : T) (bs : List Str), vs = [v, .ref b] ∧ Tp H v (tD t) ∧ H b = some (.lst (bs.map V.str)) ∧
  ∀ (v' : V) H', Same H H' → Tp H' v' (tD (settled t bs)) → Q v' H'
theorem ok_ls {f : Addr} {fd : FuncData} (F : Fun K "_law_settled" "_law_settled" sLs f fd) : FnOk P w K mg base CX0 1 f fd ["term", "bound"] spLs := by
  refine F.ok scLs (fun vs H Q E h => ?_) (fun cdv A outer s H vs Q E hr h => ?_)
  · obtain ⟨_, _, _, _, rfl, _⟩ := h
    rfl
  · obtain ⟨v, b, t, bs, rfl, tv, eb, q⟩ := h
    refine ⟨_, pss_cons (ps_if (PW.pt (pw_or (pt_cmpR op_eq (pe_ix ix_tup (pv 0) pe_int (fun _ _ => rfl)) pe_str (nomark _)) (pw_or1 (PW.pt (pw_and (pt_cmpR op_eq (pe_ix ix_tup (pv 0) pe_int (fun _ _ => rfl)) pe_str (nomark _)) (pw_and1 (pt_cmpR op_notIn_seq (pe_ix ix_tup (pv 0) pe_int (fun _ _ => rfl)) (pv 1) rfl)))))))
        (pss_one (ps_ret (pe_tup (pa_cons pe_str (pa_cons pe_int pa_nil))))) pss_nil)
      (pss_one (ps_ret (pv 0))), ?_⟩
    have st : ∀ {x y : Str}, x ≠ y → V.str x ≠ V.str y := fun n z => n (by injection z)
    obtain ⟨p, r, rfl, ep, e0, e1, e2⟩ := pairs_get tv
    have one : ∀ (p2 : Addr), H p2 = none → settled t bs = .val (.inl 1) → Q (.ref p2) (upd H p2 (.tup [.str "value", .int 1])) := fun p2 n2 es => by
      refine q _ _ (same_new n2) ?_
      rw [es]
      exact .tup upd_same (.cons (.str _) (.cons (.int _) .nil))
    cases t with
    | any =>
      refine ⟨.ref p, rfl, p, r, 0, _, rfl, rfl, SqT.of ep, e0, rfl, _, rfl, ?_⟩
      rw [show tName .any = ("any" : Str) from rfl, decide_eq_true rfl]
      refine iteT (iteT ⟨(by show 2 ≤ sizeLine; decide), fun p2 n2 => one p2 n2 rfl⟩)
    | val k =>
      refine ⟨.ref p, rfl, p, r, 0, _, rfl, rfl, SqT.of ep, e0, rfl, _, rfl, ?_⟩
      rw [show tName (.val k) = ("value" : Str) from rfl, decide_eq_false (st (show ("value" : Str) ≠ "any" by decide +kernel))]
      refine iteF ⟨.ref p, rfl, p, r, 0, _, rfl, rfl, SqT.of ep, e0, rfl, _, rfl, ?_⟩
      rw [show tName (.val k) = ("value" : Str) from rfl, decide_eq_false (st (show ("value" : Str) ≠ "variable" by decide +kernel))]
      exact iteF (iteF ⟨.ref p, rfl, q _ _ (Same.refl _) tv⟩)
    | var x =>
      refine ⟨.ref p, rfl, p, r, 0, _, rfl, rfl, SqT.of ep, e0, rfl, _, rfl, ?_⟩
      rw [show tName (.var x) = ("variable" : Str) from rfl, decide_eq_false (st (show ("variable" : Str) ≠ "any" by decide +kernel))]
      refine iteF ⟨.ref p, rfl, p, r, 0, _, rfl, rfl, SqT.of ep, e0, rfl, _, rfl, ?_⟩
      rw [show tName (.var x) = ("variable" : Str) from rfl, decide_eq_true rfl]
      refine iteT ⟨.ref p, rfl, p, r, 1, _, rfl, rfl, SqT.of ep, e1 x rfl, .ref b, rfl, b, _, rfl, .inl (SqL.of eb), rfl, flat_strs bs, _, rfl, ?_⟩
      rw [inV_str]
      by_cases c : x ∈ bs
      · rw [decide_eq_true c]
        refine iteF ⟨.ref p, rfl, q _ _ (Same.refl _) ?_⟩
        show Tp H _ (tD (if x ∈ bs then .var x else .val (.inl 1)))
        rw [if_pos c]
        exact tv
      · rw [decide_eq_false c]
        refine iteT ⟨(by show 2 ≤ sizeLine; decide), fun p2 n2 => one p2 n2 ?_⟩
        show (if x ∈ bs then T.var x else .val (.inl 1)) = _
        rw [if_neg c]
end
def rInt1 : List V → Hp → VK → Prop := fun xs H Q => (∃ i, xs = [.int i] ∧ Q (.int i) H) ∨ ∃ k : Bool, xs = [.bl k] ∧ Q (.int (if k then 1 else 0)) H
theorem call_intB {X : Cx} : CallR X (.type "int") rInt1 := call_int1
/-- a comprehension of values that read as data known ahead, that lays new things at most -/
theorem lc_tps {J : It} {n : Nat} {G : Hp → Prop} {Y : Nat → Hp → V → Hp → Prop} (w : Walk J n G Y) {g : TG} {tt : TT} {te : TE} {vs : List Nat} {σ : L2.St} {H1 : Hp} {D : Addr} {Qd : Hp → Prop} (ds : List PyData) (hl : ds.length = n) (hn : n ≤ 1000) (nD : H1 D = none)
    (hG : ∀ H, Same H1 H → G H)
    (hs : ∀ i x H2 H3 (Q : V → Hp → Prop) (R : Hp → Prop), i < n → Same H1 H2 → Y i H2 x H3 → (∀ y H5 d, Same H2 H5 → ds[i]? = some d → Tp H5 y d → Q y H5) → g x (wipe σ vs) H3 fun σ2 H4 => wipe σ2 vs = wipe σ vs ∧ tt σ2 H4 fun b H5 => if b = true then te σ2 H5 Q else R H5)
    (hd : ∀ H acc, Same H1 H → H D = some (.lst acc) → Tps H acc ds → Qd H) :
    ∃ W : Nat → Nat → Hp → Prop, (∃ m, W 0 m (upd H1 D (.lst []))) ∧ ∀ i m H, W i m H →
      (J.stop i H ∧ Qd H) ∨ (J.go i H ∧ ∃ Nx : Hp → Prop, (∀ H', Nx H' → ∃ m', m' < m ∧ W (i + 1) m' H') ∧ ∀ x H', J.yld i H x H' → g x (wipe σ vs) H' fun σ2 H2 => wipe σ2 vs = wipe σ vs ∧ tt σ2 H2 fun b H3 =>
        if b = true then te σ2 H3 fun y H4 => ∃ acc, H4 D = some (.lst acc) ∧ acc.length < sizeLine ∧ Nx (upd H4 D (.lst (acc ++ [y]))) else Nx H3) := by
  refine lc_it w (fun i H => Same H1 H ∧ ∃ acc, H D = some (.lst acc) ∧ Tps H acc (ds.take i)) ⟨same_new nD, [], upd_same, .nil⟩ (fun i H _ hP => hG H hP.1) (fun i x H H' hi hP hY => ?_) (fun H hP => ?_)
  · obtain ⟨sm, acc, eD, ta⟩ := hP
    refine hs i x H H' _ _ hi sm hY fun y H5 d s5 ed ty => ?_
    have la := ta.length
    rw [List.length_take] at la
    have eD5 := s5 _ _ eD
    refine ⟨acc, eD5, small1000 (by omega), same_put (sm.trans s5) nD, _, upd_same, ?_⟩
    rw [take_next ed]
    exact ((ta.mono (Tk.of s5)).mono (Tk.lst eD5)).append (.cons (ty.mono (Tk.lst eD5)) .nil)
  · obtain ⟨sm, acc, eD, ta⟩ := hP
    rw [← hl, List.take_length] at ta
    exact hd H acc sm eD ta
def ops6 : List Str := ["=", "<>", "<", "<=", ">", ">="]
def ops3 : List Str := ["+", "-", "*"]
def forms : List Str := ["fact", "fact", "fact", "not", "compare", "is", "count"]
def keepN (bs : List Str) (t : T) : T := match t with
  | .var x => if x ∈ bs then .var x else .any
  | t => t
def keepO (x : Str) (t : T) : T := if t = .var x then .any else t
theorem eqv_var (t : T) (x : Str) : PyData.eqv (tD t) (.tuple [.str "variable", .str x]) = decide (t = .var x) := by
  have e2 : ∀ (a b c d : PyData), PyData.eqv (.tuple [a, b]) (.tuple [c, d]) = (PyData.eqv a c && (PyData.eqv b d && true)) := fun a b c d => rfl
  cases t with
  | any =>
    rw [decide_eq_false (fun z => by cases z)]
    show (PyData.eqv (.str "any") (.str "variable") && false) = false
    exact Bool.and_false _
  | val k =>
    rw [decide_eq_false (fun z => by cases z)]
    have : tD (.val k) = .tuple [.str "value", keyD k] := by cases k <;> rfl
    rw [this, e2, eqv_str, decide_eq_false (show ¬ ("value" : Str) = "variable" by decide +kernel), Bool.false_and]
  | var y =>
    show PyData.eqv (.tuple [.str "variable", .str y]) _ = _
    rw [e2, eqv_str, eqv_str, decide_eq_true rfl, Bool.true_and, Bool.and_true, Bool.eq_iff_iff, decide_eq_true_iff, decide_eq_true_iff]
    exact ⟨fun z => by rw [z], fun z => by injection z⟩
theorem tD_small (t : T) : small (tD t) := by
  cases t with
  | any => show 1 ≤ 64; decide
  | val k => cases k <;> (show 1 ≤ 64; decide)
  | var y => show 1 ≤ 64; decide
theorem two_of {H : Hp} {acc : List V} {d e : PyData} (t : Tps H acc [d, e]) : ∃ a b, acc = [a, b] ∧ Tp H a d ∧ Tp H b e := by
  cases t with
  | cons h1 r => cases r with
    | cons h2 r =>
      cases r
      exact ⟨_, _, rfl, h1, h2⟩
section
variable {P : Program} {w : World} {K : PySem.W.Frag} {mg : Str → Option Value} {base : Heap}
abbrev dLt (P : Program) (w : World) (K : PySem.W.Frag) (mg : Str → Option Value) (base : Heap) : Prop := Def P w K mg base "_law_term" 3 ["state", "bound"] spLt
abbrev dLs (P : Program) (w : World) (K : PySem.W.Frag) (mg : Str → Option Value) (base : Heap) : Prop := Def P w K mg base "_law_settled" 1 ["term", "bound"] spLs
end
def varsOf : List T → List Str
  | [] => []
  | .var x :: ts => x :: varsOf ts
  | .any :: ts => varsOf ts
  | .val _ :: ts => varsOf ts
theorem varsOf_append : ∀ a b : List T, varsOf (a ++ b) = varsOf a ++ varsOf b
  | [], b => rfl
  | .var x :: a, b => by rw [List.cons_append, varsOf, varsOf, varsOf_append a b, List.cons_append]
  | .any :: a, b => by rw [List.cons_append, varsOf, varsOf, varsOf_append a b]
  | .val _ :: a, b => by rw [List.cons_append, varsOf, varsOf, varsOf_append a b]
theorem varsOf_len : ∀ a : List T, (varsOf a).length ≤ a.length
  | [] => Nat.le_refl _
  | .var x :: a => by have := varsOf_len a; simp [varsOf]; omega
  | .any :: a => by have := varsOf_len a; simp [varsOf]; omega
  | .val _ :: a => by have := varsOf_len a; simp [varsOf]; omega
theorem varsOf_mem : ∀ {a : List T} {x : Str}, x ∈ varsOf a ↔ T.var x ∈ a
  | [], x => by simp [varsOf]
  | .var y :: a, x => by
    rw [varsOf, List.mem_cons, List.mem_cons, varsOf_mem (a := a)]
    constructor
    · rintro (h | h)
      · exact .inl (by rw [h])
      · exact .inr h
    · rintro (h | h)
      · exact .inl (by injection h)
      · exact .inr h
  | .any :: a, x => by rw [varsOf, List.mem_cons, varsOf_mem (a := a)]; simp
  | .val _ :: a, x => by rw [varsOf, List.mem_cons, varsOf_mem (a := a)]; simp
def bindsL : KU.L → List Str
  | .fact _ ts => varsOf ts
  | .isl x _ _ _ => [x]
  | .cnt x _ _ => [x]
  | .notl _ _ => []
  | .cmp _ _ _ => []
def addN (bs xs : List Str) : List Str := bs ++ xs.filter fun x => !decide (x ∈ bs)
section
variable {P : Program} {w : World} {K : PySem.W.Frag} {mg : Str → Option Value} {base : Heap}
abbrev sBi : Stmt := topS 42
theorem scBi : FnScope ["literal", "term"] ["literal"] (defScope sBi) := ⟨rfl, rfl, rfl, by decide +kernel, rfl, by decide +kernel, by decide +kernel⟩
def spBi : Sp := fun vs H Q _ => ∃ (v : V) (l : KU.L), vs = [v] ∧ Tp H v (litD l) ∧ (bindsL l).length ≤ 9 ∧ (∀ r ts, l = .fact r ts → ts.length ≤ 9) ∧ ∀ p H', Same H H' → H' p = some (.lst ((bindsL l).map V.str)) → H p = none → Q (.ref p) H'
theorem ok_bi {f : Addr} {fd : FuncData} (F : Fun K "_law_binds" "_law_binds" sBi f fd) : FnOk P w K mg base CX0 1 f fd ["literal"] spBi := by
  refine F.ok scBi (fun vs H Q E h => ?_) (fun cdv A outer s H vs Q E hr h => ?_)
  · obtain ⟨_, _, rfl, _⟩ := h
    rfl
  · obtain ⟨v, l, rfl, tv, lb, lf, q⟩ := h
    refine ⟨_, pss_cons (ps_if (pt_cmpR op_eq (pe_ix ix_tup (pv 0) pe_int (fun _ _ => rfl)) pe_str (nomark _))
        (pss_one (ps_ret (pe_lc (own := [("term", 1)]) (g := gName 1) (tt := tTest (tOp rEq (tOp (rIxT K) (tVar 1) (tC (.int 0))) (tC (.str "variable")))) (te := tOp (rIxT K) (tVar 1) (tC (.int 1))) rfl scBi.nd (pi_tup (pe_ix ix_tup (pv 0) pe_int (fun _ _ => rfl))) (blkOk_by (own := [("term", 1)]) (N := ["literal", "term"]) (sc := defScope sBi) (by decide +kernel))
          (fun _ _ _ _ _ => pg_name (i := 1) scBi.nd rfl (Or.inl rfl)) (fun _ _ _ _ _ => pts_one (pt_cmpR op_eq (pe_ix ix_tup (pv 1) pe_int (fun _ _ => rfl)) pe_str (nomark _))) (fun _ _ _ _ _ => pe_ix ix_tup (pv 1) pe_int (fun _ _ => rfl))))) pss_nil)
      (pss_cons (ps_if (pt_cmpR op_in_seq (pe_ix ix_tup (pv 0) pe_int (fun _ _ => rfl)) (pe_lst (pa_cons pe_str (pa_cons pe_str pa_nil))) rfl) (pss_one (ps_ret (pe_lst (pa_cons (pe_ix ix_tup (pv 0) pe_int (fun _ _ => rfl)) pa_nil)))) pss_nil)
      (pss_one (ps_ret (pe_lst pa_nil)))), ?_⟩
    have sne : ∀ {x y : Str}, x ≠ y → V.str x ≠ V.str y := fun n z => n (by injection z)
    have isc : ∀ z : Str, inV (.str z) [.str "is", .str "count"] = decide (z ∈ (["is", "count"] : List Str)) := fun z => inV_str z ["is", "count"]
    have ino : ∀ z : Str, z ∉ (["is", "count"] : List Str) → inV (.str z) [.str "is", .str "count"] = false := fun z n => (isc z).trans (decide_eq_false n)
    have iye : ∀ z : Str, z ∈ (["is", "count"] : List Str) → inV (.str z) [.str "is", .str "count"] = true := fun z n => (isc z).trans (decide_eq_true n)
    cases l with
    | fact r ts =>
      obtain ⟨p, u, xs, rfl, ep, eu, tx⟩ := lit3_inv tv
      refine ⟨.ref p, rfl, p, _, 0, .str "fact", rfl, rfl, SqT.of ep, rfl, rfl, _, rfl, yes_if ?_⟩
      refine ⟨.ref p, rfl, p, _, 2, .ref u, rfl, rfl, SqT.of ep, rfl, u, rfl, ⟨xs, SqT.of eu⟩, fun D nD => ?_⟩
      have lx : xs.length = ts.length := by rw [tx.length, List.length_map]
      have l3 := lf r ts rfl
      refine lc_it walk_tup (fun i H' => Same H H' ∧ H' D = some (.lst ((varsOf (ts.take i)).map V.str))) ⟨same_new nD, upd_same⟩ (fun i H' _ hP => SqT.of (hP.1 _ _ eu)) (fun i x H' H2 hi hP hY => ?_) (fun H' hP => ?_)
      · obtain ⟨rfl, hx⟩ := hY
        obtain ⟨sm, eD⟩ := hP
        obtain ⟨t, et, tt⟩ := term_get tx hx
        have tt := tt.mono (Tk.of sm)
        obtain ⟨pt, r0, rfl, ept, e0, e1, e2⟩ := pairs_get tt
        have lv := varsOf_len (ts.take i)
        rw [List.length_take] at lv
        have ev : varsOf (ts.take (i + 1)) = varsOf (ts.take i) ++ varsOf [t] := by rw [take_next et, varsOf_append]
        rw [ev]
        refine ⟨rfl, .ref pt, rfl, pt, r0, 0, _, rfl, rfl, SqT.of ept, e0, rfl, _, rfl, ?_⟩
        cases t with
        | any =>
          refine no_if (sne (show ("any" : Str) ≠ "variable" by decide +kernel)) ⟨sm, ?_⟩
          rw [varsOf, varsOf, List.append_nil]
          exact eD
        | val k =>
          refine no_if (sne (show ("value" : Str) ≠ "variable" by decide +kernel)) ⟨sm, ?_⟩
          rw [varsOf, varsOf, List.append_nil]
          exact eD
        | var y =>
          refine yes_if ⟨.ref pt, rfl, pt, r0, 1, _, rfl, rfl, SqT.of ept, e1 y rfl, _, eD, small1000 (by rw [List.length_map]; omega), same_put sm nD, ?_⟩
          rw [upd_same, List.map_append]
          rfl
      · obtain ⟨sm, eD⟩ := hP
        rw [lx, List.take_length] at eD
        exact q D H' sm eD nD
    | notl r ts =>
      obtain ⟨p, r0, rfl, ep, e0⟩ := lit_name tv
      refine ⟨.ref p, rfl, p, r0, 0, _, rfl, rfl, SqT.of ep, e0, rfl, _, rfl, no_if (sne (show ("not" : Str) ≠ "fact" by decide +kernel)) ?_⟩
      refine ⟨.ref p, rfl, p, r0, 0, _, rfl, rfl, SqT.of ep, e0, (by show 2 ≤ sizeLine; decide), fun pq npq => ⟨pq, _, rfl, .inl (SqL.of upd_same), rfl, by rfl, false, congrArg V.bl (ino "not" (show ("not" : Str) ∉ (["is", "count"] : List Str) by decide +kernel)), iteF ?_⟩⟩
      refine ⟨(by show 0 ≤ sizeLine; decide), fun pe npe => ?_⟩
      exact q pe _ ((same_new npq).trans (same_new npe)) upd_same ((same_new npq).free npe)
    | cmp o a b =>
      obtain ⟨p, r0, rfl, ep, e0⟩ := lit_name tv
      refine ⟨.ref p, rfl, p, r0, 0, _, rfl, rfl, SqT.of ep, e0, rfl, _, rfl, no_if (sne (show ("compare" : Str) ≠ "fact" by decide +kernel)) ?_⟩
      refine ⟨.ref p, rfl, p, r0, 0, _, rfl, rfl, SqT.of ep, e0, (by show 2 ≤ sizeLine; decide), fun pq npq => ⟨pq, _, rfl, .inl (SqL.of upd_same), rfl, by rfl, false, congrArg V.bl (ino "compare" (show ("compare" : Str) ∉ (["is", "count"] : List Str) by decide +kernel)), iteF ?_⟩⟩
      refine ⟨(by show 0 ≤ sizeLine; decide), fun pe npe => ?_⟩
      exact q pe _ ((same_new npq).trans (same_new npe)) upd_same ((same_new npq).free npe)
    | isl z o a b =>
      obtain ⟨p, x, y, rfl, ep, _⟩ := litI_inv tv
      refine ⟨.ref p, rfl, p, _, 0, .str "is", rfl, rfl, SqT.of ep, rfl, rfl, _, rfl, no_if (sne (show ("is" : Str) ≠ "fact" by decide +kernel)) ?_⟩
      refine ⟨.ref p, rfl, p, _, 0, .str "is", rfl, rfl, SqT.of ep, rfl, (by show 2 ≤ sizeLine; decide), fun pq npq => ⟨pq, _, rfl, .inl (SqL.of upd_same), rfl, by rfl, true, congrArg V.bl (iye "is" (show ("is" : Str) ∈ (["is", "count"] : List Str) by decide +kernel)), iteT ?_⟩⟩
      refine ⟨.ref p, rfl, p, _, 1, .str z, rfl, rfl, SqT.of (same_new npq _ _ ep), rfl, (by show 1 ≤ sizeLine; decide), fun pe npe => ?_⟩
      exact q pe _ ((same_new npq).trans (same_new npe)) upd_same ((same_new npq).free npe)
    | cnt z r ts =>
      obtain ⟨p, u, xs, rfl, ep, _⟩ := litN_inv tv
      refine ⟨.ref p, rfl, p, _, 0, .str "count", rfl, rfl, SqT.of ep, rfl, rfl, _, rfl, no_if (sne (show ("count" : Str) ≠ "fact" by decide +kernel)) ?_⟩
      refine ⟨.ref p, rfl, p, _, 0, .str "count", rfl, rfl, SqT.of ep, rfl, (by show 2 ≤ sizeLine; decide), fun pq npq => ⟨pq, _, rfl, .inl (SqL.of upd_same), rfl, by rfl, true, congrArg V.bl (iye "count" (show ("count" : Str) ∈ (["is", "count"] : List Str) by decide +kernel)), iteT ?_⟩⟩
      refine ⟨.ref p, rfl, p, _, 1, .str z, rfl, rfl, SqT.of (same_new npq _ _ ep), rfl, (by show 1 ≤ sizeLine; decide), fun pe npe => ?_⟩
      exact q pe _ ((same_new npq).trans (same_new npe)) upd_same ((same_new npq).free npe)
end
theorem or_ifs {A B R : Prop} {a b : Bool} (h : if (a || b) = true then A else B) (k : (if b = true then A else B) → R) : if a = true then (if true = true then A else B) else R := by
  cases a with
  | true =>
    refine iteT (iteT ?_)
    have h : if true = true then A else B := h
    rwa [if_pos rfl] at h
  | false => exact iteF (k h)
theorem lit_name_fact {l : KU.L} : litName l = "fact" ↔ ∃ r ts, l = .fact r ts := by
  cases l with
  | fact r ts => exact ⟨fun _ => ⟨r, ts, rfl⟩, fun _ => rfl⟩
  | notl r ts => exact ⟨fun h => absurd h (show ("not" : Str) ≠ "fact" by decide +kernel), fun ⟨_, _, h⟩ => by cases h⟩
  | cmp o a b => exact ⟨fun h => absurd h (show ("compare" : Str) ≠ "fact" by decide +kernel), fun ⟨_, _, h⟩ => by cases h⟩
  | isl z o a b => exact ⟨fun h => absurd h (show ("is" : Str) ≠ "fact" by decide +kernel), fun ⟨_, _, h⟩ => by cases h⟩
  | cnt z r ts => exact ⟨fun h => absurd h (show ("count" : Str) ≠ "fact" by decide +kernel), fun ⟨_, _, h⟩ => by cases h⟩
/-- == of plain data over lists and tuples, the second not deep -/
def rEqL (K : PySem.W.Frag) : R2 := fun x y H Q => ∃ d e, Dp K H x d ∧ Dp K H y e ∧ d.plain = true ∧ e.plain = true ∧ small e ∧ Q (.bl (PyData.eqv d e)) H
theorem op_eqL {X : Cx} (hu : X.A.units + 64 < cLine) : OpR X (compareOp .Eq) (rEqL X.K) := by
  intro pins s σ H x y v u Q I rx ry h
  obtain ⟨d, e, hd, he, pd, pe, se, q⟩ := h
  obtain ⟨as, r1⟩ := Dp.reads I d x v hd rx
  obtain ⟨bs, r2⟩ := Dp.reads I e y u he ry
  refine SeqAt.eq_plain r1 r2 pd pe ?_ ⟨.bl _, H, I, rfl, q⟩
  have h1 : e.depth ≤ 64 := se
  have h2 : min d.depth e.depth ≤ e.depth := Nat.min_le_right _ _
  omega
theorem eqv_nil (rs : List PyData) : PyData.eqv (.list rs) (.list []) = rs.isEmpty := by
  cases rs with
  | nil => rfl
  | cons a r => rfl
theorem tps_keep {H : Hp} {α : Type} (g : α → PyData) (f : α → Bool) : ∀ {rows : List α} {rs : List V}, Tps H rs (rows.map g) → Tps H (((rs.zip (rows.map f)).filter (·.2)).map (·.1)) ((rows.filter f).map g)
  | [], _, h => by
    cases h
    exact .nil
  | a :: rows, _, h => by
    cases h with
    | @cons v vs _ _ h1 h2 =>
      have ih := tps_keep g f h2
      rw [List.map_cons, List.zip_cons_cons]
      cases c : f a with
      | true =>
        rw [List.filter_cons_of_pos rfl, List.filter_cons_of_pos c, List.map_cons, List.map_cons]
        exact .cons h1 ih
      | false =>
        rw [List.filter_cons_of_neg Bool.false_ne_true, List.filter_cons_of_neg (by rw [c]; exact Bool.false_ne_true)]
        exact ih
/-- not in a list, of plain data -/
def rNiL (K : PySem.W.Frag) : R2 := fun x y H Q => ∃ d ds, Dp K H x d ∧ Dp K H y (.list ds) ∧ d.plain = true ∧ PyData.plainAll ds = true ∧ d.depth ≤ 60 ∧ Q (.bl (!ds.any fun z => PyData.eqv z d)) H
theorem op_niL {X : Cx} (hu : X.A.units + 64 < cLine) : OpR X (compareOp .NotIn) (rNiL X.K) := by
  intro pins s σ H x y v u Q I rx ry h
  obtain ⟨d, ds, hd, he, pd, pe, se, q⟩ := h
  obtain ⟨as, r1⟩ := Dp.reads I d x v hd rx
  obtain ⟨bs, r2⟩ := Dp.reads I (.list ds) y u he ry
  refine SeqAt.notIn_list_data r2 r1 pe pd ?_ ⟨.bl _, H, I, rfl, q⟩
  have h2 : min (PyData.depthAll ds) d.depth ≤ d.depth := Nat.min_le_right _ _
  omega
theorem upd_comm {H : Hp} {a b : Addr} {x y : HO} (n : a ≠ b) : upd (upd H a x) b y = upd (upd H b y) a x := by
  funext c
  by_cases c1 : c = b
  · rw [c1, upd_same, upd_ne n.symm, upd_same]
  · rw [upd_ne c1]
    by_cases c2 : c = a
    · rw [c2, upd_same, upd_same]
    · rw [upd_ne c2, upd_ne c2, upd_ne c1]
theorem Dr.keeps {st L : Addr} {H H' : Hp} (g : Good st L H) (d : Dr st L H H') : Keep H H' := fun a o h n => by
  refine d.at_ (fun z => ?_) h
  obtain ⟨_, _, _, _, e, _⟩ := g
  rw [z, e] at h
  exact n _ (Option.some.inj h).symm
end KU

namespace PySem
namespace RefX
open PySem.W PySem.Calls PyProof.Rows PySem.HandSPX
/-! ### the text of __init__ -/
def iA (p1 p2 : Pos) : Arguments := { posonlyargs := [], args := [{ arg := "self", annotation := none, pos := p1 }, { arg := "problem", annotation := none, pos := p2 }], vararg := none, kwonlyargs := [], kw_defaults := [], kwarg := none, defaults := [] }
def iB (q1 q2 q3 q4 : Pos) : List Stmt := [.Assign [.Attribute (.Name "self" q1) "problem" q2] (.Name "problem" q3) q4]
def iS : Scope := { kind := .function, names := [(PySem.Str.ofString "self", .local), (PySem.Str.ofString "problem", .local)], isGenerator := false, isCoroutine := false, more := [] }
/-- what the written part says of Low, at C, and of its __init__, at fI -/
structure RefTxt (K : Frag) (mg : Str → Option Value) (C fI : Addr) : Prop where
  gC : mg "Refused" = some (.ref C)
  cls : ∃ nm q N bs bm sn sub ab col dd k0 k1 k2 k3 k5, K.lookup C = some (excClassObj nm q C N bs bm true sn sub ab col dd k0 k1 k2 k3 k5 "ValueError.__new__") ∧ refsVE bm = true
  sa : findIn K (.ref C) "__setattr__" = some (some (.builtin "object.__setattr__"))
  ga : findIn K (.ref C) "__getattribute__" = some (some (.builtin "BaseException.__getattribute__"))
  gg : findIn K (.ref C) "__getattr__" = some none
  noN : findIn K (.ref C) "problem" = some none
  iC : findIn K (.ref C) "__init__" = some (some (.ref fI))
  tC : typeIn K (.ref fI) = some (.type "function")
  kC : keepIn K (.ref C) = true
  exC : subIn K (.ref C) (.type "BaseException") = some true
  tyC : typeIn K (.ref C) = some (.type "type")
  hdC : hasDictIn K C = true
  te : exmOne K (.ref C) (.ref C) = some true
  fn : ∃ (oc : Value) (od : Option Addr) (doc pm : Value) (an : Option Addr) (cdv ct : Value) (osl : Array (Option Value)) (p1 p2 q1 q2 q3 q4 : Pos),
    K.lookup fI = some ⟨oc, od, .func (fnOf "__init__" "Refused.__init__" (iA p1 p2) (iB q1 q2 q3 q4) iS .none .none doc pm an cdv ct), osl⟩ ∧ codeIn K cdv "Refused.__init__" = true
theorem one_size (v : Value) : [v].length ≤ sizeLine := by
  rw [sizeLine_eq]
  exact (by decide : 1 ≤ 16777216)
theorem kept_but {K : Frag} {h h' : Heap} {x : Addr} (X : K.In h) (hx : K.lookup x = none) (k : ∀ b o, b ≠ x → h.get? b = some o → h'.get? b = some o) : K.In h' := fun a o e =>
  k a o (fun z => by rw [z, hx] at e; cases e) (X a o e)
theorem ldC {M : Model} {s : Shared} {name : Str} {scope : Scope} {L a : Addr} {cd : Value} {m : Str → Option Value} {x : Str} {pos : Pos} {v : Value} {Q : Value → Shared → Prop} {A : Around} {E : Value → Shared → Prop} (hn : s.heap.Ns L m) (hv : m x = some v) (h : Q v s)
    (hk : scope.kind = .function := by rfl) (hl : (envOfC name scope L a cd).kindOf x = some .local := by rfl) (hd : (x == ("__debug__" : Str)) = false := by decide) :
    wpAny M A (eval (.Name x pos) (envOfC name scope L a cd)) Q E s := wpAny_Name (wpAny_loadName_local hk hl hn hv h) hd
/-- what __init__ leaves of a fresh exception at x -/
structure InitEnd (h h' : Heap) (x C dx t1 : Addr) (v : Value) : Prop where
  keep : ∀ b o, b ≠ x → h.get? b = some o → h'.get? b = some o
  obj : h'.get? x = some { cls := .ref C, dict := some dx, data := .fields #[.ref t1, .none, .none, .none, .bool false, .none] }
  dbig : h.objs.size ≤ dx
  dne : dx ≠ x
  ns : h'.Ns1 dx (fun y => if y = "problem" then some v else none)
/-- a made Low -/
structure OwnMade (h h' : Heap) (e C d : Addr) (v : Value) : Prop where
  keep : ∀ b o, h.get? b = some o → h'.get? b = some o
  new : h.objs.size ≤ e
  obj : ∃ oe vs, h'.get? e = some oe ∧ oe.cls = .ref C ∧ oe.dict = some d ∧ oe.data = .fields vs ∧ vs[1]? = some .none
  dbig : h.objs.size ≤ d
  dne : d ≠ e
  ns : h'.Ns1 d (fun y => if y = "problem" then some v else none)
section
variable {prog : Program} {w : World} {A : Around} {E : Value → Shared → Prop} {R : Result → Shared → Prop} {s : Shared} {K : Frag} {mg : Str → Option Value} {C fI : Addr}
theorem ref_init (T : RefTxt K mg C fI) {x t0 : Addr} {v : Value} (X : K.In s.heap) (hlim : s.heap.NoLimit) (hx : s.heap.get? x = some (excO C t0)) (hnx : K.lookup x = none) (hroom : A.depth < recursionLimit)
    (hq : ∀ h' tk dx, InitEnd s.heap h' x C dx t0 v → R (.ok (.ret .none)) { s with heap := h', toks := tk }) :
    codeAny (model prog w) A (.call (.ref fI) ⟨[.ref x, v], []⟩) R s := by
  obtain ⟨oc, od, doc, pm, an, cdv, ct, osl, p1, p2, q1, q2, q3, q4, ho, hcd⟩ := T.fn
  obtain ⟨nm, q, N, bs, bm, sn, sub, ab, col, dd, k0, k1, k2, k3, k5, hC, hbm⟩ := T.cls
  have hcl : clsIn K C = some { name := nm, bases := bs, mro := .ref C :: bm, ns := N, qualname := q, hasDict := true, slotNames := sn, subclasses := sub, abstract := ab, collection := col, hasDel := false } := by unfold clsIn; rw [hC] <;> rfl
  refine Att.call_fn (binds := [("self", .ref x), ("problem", v)]) X hlim ho hcd hroom (BindsTo.of_eq (by first | rfl | with_unfolding_all rfl)) (by first | rfl | decide | with_unfolding_all rfl) (fun s₁ IC => ?_) rfl rfl rfl
  obtain ⟨h₁, tk₁, rfl⟩ := IC.toInCall.same
  have k : ∀ b o, s.heap.get? b = some o → h₁.get? b = some o := IC.toInCall.keep
  have hn := IC.toInCall.ns
  have hxL : s.heap.objs.size ≠ x := Nat.ne_of_gt (Heap.lt_size hx)
  have X₁ : K.In h₁ := X.keeps k
  have hx₁ := k _ _ hx
  -- self.by = by
  show wpAny _ _ (execs _ _) _ _ _
  refine wpAny_execs_cons (plainObj_wpAny_Assign_Attribute ?_)
  refine ldC (v := v) hn (by first | rfl | with_unfolding_all rfl | kernel_rfl) (ldC (v := .ref x) hn (by first | rfl | with_unfolding_all rfl | kernel_rfl) ?_)
  refine set_plain X₁ (ox := excO C t0) (od := none) ⟨hx₁, rfl, rfl, trivial⟩ T.sa ?_
  refine exc_osa X₁ hx₁ hcl (show refsVE (.ref C :: bm) = true from hbm) rfl T.noN (fun h₃ tk₃ dx k₃ dn dne hx₃ hn₃ => ?_)
  show wpAny _ _ (execs _ _) _ _ _
  have z : s.heap.objs.size < h₁.objs.size := hn.lt
  exact wpAny_execs_nil (hq h₃ tk₃ dx ⟨fun b o hb e => k₃ b o hb (k b o e), hx₃, Nat.le_of_lt (Nat.lt_of_lt_of_le z dn), dne, hn₃⟩)
theorem ref_made (T : RefTxt K mg C fI) {v : Value} (X : K.In s.heap) (hlim : s.heap.NoLimit) (hroom : A.depth + 1 < recursionLimit)
    (hq : ∀ h' tk e d, OwnMade s.heap h' e C d v → R (.ok (.ret (.ref e))) { s with heap := h', toks := tk }) :
    codeAny (model prog w) A (.call (.ref C) ⟨[v], []⟩) R s := by
  obtain ⟨nm, q, N, bs, bm, sn, sub, ab, col, dd, k0, k1, k2, k3, k5, hC, hbm⟩ := T.cls
  obtain ⟨hp, g, dr, tk, os⟩ := s
  have k : ∀ b o, hp.get? b = some o → ((hp.push (kdv_tup [v])).push (excO C hp.objs.size)).get? b = some o := fun b o e => Heap.get?_push_of_some _ (Heap.get?_push_of_some _ e)
  have hget : ((hp.push (kdv_tup [v])).push (excO C hp.objs.size)).get? (hp.objs.size + 1) = some (excO C hp.objs.size) := by heap_get
  have hnx : K.lookup (hp.objs.size + 1) = none := by
    cases e : K.lookup (hp.objs.size + 1) with
    | none => rfl
    | some o =>
      have z : hp.get? (hp.objs.size + 1) = some o := X _ _ e
      exact absurd (Nat.lt_of_succ_lt (Heap.lt_size z)) (Nat.lt_irrefl _)
  refine call_own F.excBase_ValueError (fun X => refsVE_contains X bm hbm) (X _ _ hC) (looks_findIn X T.iC) (fun self => bind_fn X self T.tC) (one_size v) ?_
  refine ref_init (s := ⟨(hp.push (kdv_tup [v])).push (excO C hp.objs.size), g, dr, tk, os⟩) T (X.keeps k) (hlim.keeps k) hget hnx ?_ fun h' tk' dx ⟨k', hx, dn, dne, hns⟩ => ?_
  · show A.depth + 1 < recursionLimit
    exact hroom
  · have old : ∀ b o, hp.get? b = some o → h'.get? b = some o := fun b o e => k' b o (Nat.ne_of_lt (Nat.lt_succ_of_lt (Heap.lt_size e))) (k b o e)
    have z : hp.objs.size + 1 + 1 ≤ dx := by
      first
        | (simpa only [Heap.size_push] using dn)
        | exact dn
        | (have q := dn; rw [Heap.size_push, Heap.size_push] at q; exact q)
    exact ⟨rfl, hq h' tk' (hp.objs.size + 1) dx ⟨old, Nat.le_succ _, ⟨_, _, hx, rfl, rfl, rfl, rfl⟩, Nat.le_trans (Nat.le_trans (Nat.le_succ _) (Nat.le_succ _)) z, dne, hns⟩⟩
end
end RefX
end PySem
namespace L2
open PySem PySem.Spec PyProof.Rows
theorem relO_ref {v : V} {v' : Value} (r : RelV v v') (f : Str) : RelO (List.lookup f [(("problem" : Str), v)]) (if f = "problem" then some v' else none) := by
  by_cases hw : f = "problem"
  · subst hw
    rw [if_pos rfl]
    have q : List.lookup ("problem" : Str) [(("problem" : Str), v)] = some v := by simp [List.lookup]
    rw [q]
    exact r
  · rw [if_neg hw]
    have qw : (f == ("problem" : Str)) = false := by simpa using hw
    have q2 : List.lookup f [(("problem" : Str), v)] = none := by simp [List.lookup, qw]
    rw [q2]
    trivial
section
variable {X : Cx} {C fI : Addr}
/-- Low(e) -/
def tMkRef (C : Addr) (ta : TA) : St → Hp → XK → Prop := fun σ H Q => ta σ H fun vs H1 => ∃ v, vs = [v] ∧ ∀ d, H1 d = none → Q (.ref C) (some d) (upd H1 d (.xd [(("problem" : Str), v)]))
theorem pmk_ref {a : Expr} {ta : TA} {p pos : Pos} {k : Nat} (T : PySem.RefX.RefTxt X.K X.mg C fI) (hr : Room k X.A) (ha : PA X [a] ta) (hg : Gl X "Refused" := by rfl)
    (he : starEach (a :: []) X.env = (false, eval a X.env) :: starEach [] X.env := by rfl) (hpl : (backTo pos (starEach [] X.env)).any (·.1) = false := by rfl) :
    PMk X (.Call (.Name "Refused" p) [a] [] pos) (tMkRef C ta) := by
  intro pins s σ H Q I h
  refine wpAny_Call_Name_kw (ld_glob I hg T.gC ?_)
  refine PySem.W.callWith_K (h₀ := X.base) I.ok.mod.kin T.kC (thn (ha.run pos pins s σ H _ I h) fun us s1 hh => ?_) he hpl
  obtain ⟨vs, H1, I1, r1, v, ev, q1⟩ := hh
  subst ev
  refine ⟨I1.kIn, ?_⟩
  cases r1 with
  | cons rv rn =>
    rename_i v' us'
    cases rn
    show wpAny _ _ (call (.ref C) [v']) _ _ _
    have hlim := I1.nolimit
    obtain ⟨hp, g, dr, tk, os⟩ := s1
    refine wpAny_call (PySem.RefX.ref_made T I1.kIn hlim (by have := hr.dp; omega) fun h' tk' e d M => ?_)
    show MkP X pins σ Q (.ref e) ⟨h', g, dr, tk', os⟩
    obtain ⟨oe, fv, hoe, hc, hd, hdat, h1⟩ := M.obj
    have hns := M.ns
    obtain ⟨G', g1, g2⟩ := restrict h' fun b => decide (b ≠ e)
    have gk : ∀ b, b ≠ e → G'.get? b = h'.get? b := fun b hb => g1 b (decide_eq_true hb)
    have ge : G'.get? e = none := g2 e (by simp)
    have old : ∀ b o, hp.get? b = some o → G'.get? b = some o := fun b o q => (gk b (Nat.ne_of_lt (Nat.lt_of_lt_of_le (Heap.lt_size q) M.new))).trans (M.keep b o q)
    have ob : ObjOk X.prog X.w (upd H1 d (.xd [(("problem" : Str), v)])) G' d (.xd [(("problem" : Str), v)]) :=
      ⟨_, hns.at (fun o q => (gk d M.dne).trans q), fun f => relO_ref rv f⟩
    have J : Inv X pins σ (upd H1 d (.xd [(("problem" : Str), v)])) ⟨G', g, dr, tk', os⟩ := I1.laid (t' := tk') old M.dbig ob
    refine ⟨e, oe, fv, ⟨G', g, dr, tk', os⟩, _, .ref C, some d, rfl, J, fun b o q => ?_, ge, hoe, ⟨hc, hd⟩, hdat, h1, ?_, rfl, I1.bare, raises_own T.exC T.tyC, q1 d (I1.hok.fresh M.dbig)⟩
    · by_cases hb : b = e
      · have q' : G'.get? b = some o := q
        rw [hb, ge] at q'; cases q'
      · exact (gk b hb).symm.trans q
    · rw [upd_ne (Ne.symm M.dne)]
      exact I1.hok.fresh M.new
/-- raise Low(e) -/
def tRaiseRef (C : Addr) (W : WX) (ta : TA) : TS := fun _ σ H => tMkRef C ta σ H fun cls d H' => W cls d σ H'
theorem ps_raiseRef {a : Expr} {ta : TA} {W : WX} {p pos pos2 : Pos} {k : Nat} (hc : X.calm = true) (T : PySem.RefX.RefTxt X.K X.mg C fI) (hr : Room k X.A) (tk : Takes X W) (ha : PA X [a] ta) (hg : Gl X "Refused" := by rfl)
    (he : starEach (a :: []) X.env = (false, eval a X.env) :: starEach [] X.env := by rfl) (hpl : (backTo pos (starEach [] X.env)).any (·.1) = false := by rfl) :
    PS X (.Raise (some (.Call (.Name "Refused" p) [a] [] pos)) none pos2) (tRaiseRef C W ta) := ps_raise hc tk (pmk_ref T hr ha hg he hpl)
/-- low.by, low the exception that the suite holds (at a; its class cls, its dict d) -/
def tByRef (C : Addr) (a : Addr) (cls : Value) (d : Option Addr) (te : TE) : TE := fun σ H Q => te σ H fun x H1 => x = .ref a ∧ cls = .ref C ∧ ∃ (dd : Addr) (v : V), d = some dd ∧ H1 dd = some (.xd [(("problem" : Str), v)]) ∧ Q v H1
theorem pe_byRef {a : Addr} {oe : Obj} {cls : Value} {d : Option Addr} {pn : List (Addr × Obj)} {e : Expr} {te : TE} {pos : Pos} (T : PySem.RefX.RefTxt X.K X.mg C fI) (hz : Zc cls d oe) (hf : ∃ vs, oe.data = .fields vs) (he : PE (X.suite a ((a, oe) :: pn)) e te)
    (hb : attributeBase e "problem" X.env (eval e X.env) = eval e X.env := by rfl) :
    PE (X.suite a ((a, oe) :: pn)) (.Attribute e "problem" pos) (tByRef C a cls d te) := by
  refine ⟨fun pins s σ H Q I h => ?_⟩
  refine attr_of hb (thn (he.run pins s σ H _ I h) fun u s1 hh => ?_)
  obtain ⟨x, H1, I1, rx, ex, ec, dd, v, ed, ea, q⟩ := hh
  subst ex
  obtain rfl : u = Value.ref a := rx
  subst ec
  subst ed
  obtain ⟨ha, _⟩ := I1.pin (a, oe) (List.mem_append_left _ List.mem_cons_self)
  obtain ⟨vs, hd⟩ := hf
  have hx : ObjOk X.prog X.w H1 s1.heap dd (.xd [(("problem" : Str), v)]) := I1.hok dd _ ea
  obtain ⟨mA, hns, hr⟩ := hx
  obtain ⟨od, ho, hl⟩ := lookIn_ns hns
  have l : List.lookup ("problem" : Str) [(("problem" : Str), v)] = some v := by simp [List.lookup]
  obtain ⟨u, hu, ru⟩ := RelO.some_of (v := v) (o := mA "problem") (by rw [← l]; exact hr "problem")
  have J : PySem.W.InstAt s1.heap a oe C (some od) := ⟨ha, hz.1, by unfold PySem.W.notCls; rw [hd] <;> rfl, by rw [hz.2]; exact ho⟩
  exact HandSPX.exc_get I1.kIn J T.ga T.gg T.exC (PySem.W.findObj_own T.hdC T.noN rfl (by rw [hl, hu])) (handed_of ru) ⟨v, H1, I1.tok _, ru, q⟩
end
end L2

namespace L2
open PySem PySem.Spec PyProof.Rows
/-- an if whose test is known -/
theorem if_true_of {c : Bool} {A B : Prop} (hc : c = true) (h : A) : if c = true then A else B := by
  rw [if_pos hc]
  exact h
theorem if_false_of {c : Bool} {A B : Prop} (hc : c = false) (h : B) : if c = true then A else B := by
  rw [hc, if_neg Bool.false_ne_true]
  exact h
end L2

namespace KU
open PySem PySem.Spec PyProof.Rows L2 KA
/-- a def that may raise, as its callers know it -/
structure DefX (P : Program) (w : World) (K : PySem.W.Frag) (mg : Str → Option Value) (base : Heap) (x : Str) (k : Nat) (ps : List Str) (sp : Sp) : Prop where
  ex : ∃ (f : Addr) (fd : FuncData), FnOk P w K mg base (L2.CX P w) k f fd ps sp ∧ mg x = some (.ref f) ∧ PySem.W.keepIn K (.ref f) = true ∧ Binds K fd ps []
section
variable {X : Cx} {k : Nat} {x : Str} {ps : List Str} {sp : Sp} {e : Expr} {es : List Expr} {t : TA} {p pos : Pos} {E : XK}
theorem pe_defX (D : DefX X.prog X.w X.K X.mg X.base x k ps sp) (hr : Room k X.A) (hg : Gl X x) (hx : Passes (L2.CX X.prog X.w) X E) (ha : PA X (e :: es) t) (hdb : (x == ("__debug__" : Str)) = false := by decide)
    (he : starEach (e :: es) X.env = (false, eval e X.env) :: starEach es X.env := by rfl) (hpl : (backTo pos (starEach es X.env)).any (·.1) = false := by rfl) : PE X (.Call (.Name x p) (e :: es) [] pos) (tCall sp [] E t) := by
  obtain ⟨f, fd, F, hm, hk, hb⟩ := D.ex
  exact pe_call F hr hg hm hk hb .nil hx ha hdb he hpl
end
/-- what is wanted of a refusal -/
def Fails (C : Addr) (H : Hp) (E : XK) (d : PyData) : Prop := ∀ H' q v, Same H H' → H' q = some (.xd [(("problem" : Str), v)]) → Tp H' v d → E (.ref C) (some q) H'
theorem Fails.same {C : Addr} {H H1 : Hp} {E : XK} {d : PyData} (f : Fails C H E d) (s : Same H H1) : Fails C H1 E d := fun H' q v s2 e t => f H' q v (s.trans s2) e t
/-- the first problem of terms -/
def loose (bs : List Str) (a : Bool) : List T → Option PyData
  | [] => none
  | .any :: r => if a then loose bs a r else some (.tuple [.str "any"])
  | .var x :: r => if x ∈ bs then loose bs a r else some (.tuple [.str "unbound", .str x])
  | .val _ :: r => loose bs a r
theorem loose_app (bs : List Str) (a : Bool) : ∀ {ts us : List T}, loose bs a ts = none → loose bs a (ts ++ us) = loose bs a us
  | [], us, _ => rfl
  | .any :: r, us, h => by
    cases a with
    | true => exact loose_app bs true (ts := r) h
    | false => cases h
  | .var x :: r, us, h => by
    have h : (if x ∈ bs then loose bs a r else some (.tuple [.str "unbound", .str x])) = none := h
    show (if x ∈ bs then loose bs a (r ++ us) else _) = _
    by_cases c : x ∈ bs
    · rw [if_pos c] at h ⊢
      exact loose_app bs a h
    · rw [if_neg c] at h
      cases h
  | .val _ :: r, us, h => loose_app bs a (ts := r) h
/-- known's keys with texts: the columns by relation -/
def boundK (kvs : List (Key × V)) (bs : List Str) : Prop := ∀ x : Str, (valV kvs (Sum.inr x : Key)).isSome = decide (x ∈ bs)
section
variable {P : Program} {w : World} {K : PySem.W.Frag} {mg : Str → Option Value} {base : Heap} {C fI : Addr}
abbrev sCT : Stmt := topS 16
theorem scCT : FnScope ["terms", "bound", "term"] ["terms", "bound"] (defScope sCT) := ⟨rfl, rfl, rfl, by decide +kernel, rfl, by decide +kernel, by decide +kernel⟩
def spCT (K : PySem.W.Frag) (C : Addr) : Sp := fun vs H Q E => ∃ (u a : Addr) (xs : List V) (ts : List T) (kvs : List (Key × V)) (bs : List Str), vs = [.ref u, .ref a] ∧ (H u = some (.lst xs) ∨ H u = some (.tup xs)) ∧ Tps H xs (ts.map tD) ∧ H a = some (.dK kvs) ∧ boundK kvs bs ∧
  (loose bs false ts = none → Q .non H) ∧ ∀ d, loose bs false ts = some d → Fails C H E d
theorem len1 {a : V} : [a].length ≤ sizeLine := by
  rw [sizeLine_eq]
  exact (by decide : 1 ≤ 16777216)
theorem len2 {a b : V} : [a, b].length ≤ sizeLine := by
  rw [sizeLine_eq]
  exact (by decide : 2 ≤ 16777216)
theorem len3 {a b c : V} : [a, b, c].length ≤ sizeLine := by
  rw [sizeLine_eq]
  exact (by decide : 3 ≤ 16777216)
theorem tup1 {H : Hp} {p : Addr} {v : V} {d : PyData} (n : H p = none) (t : Tp H v d) : Tp (upd H p (.tup [v])) (.ref p) (.tuple [d]) := .tup upd_same (.cons (t.mono (Tk.of (same_new n))) .nil)
theorem tup2 {H : Hp} {p : Addr} {v u : V} {d e : PyData} (n : H p = none) (t : Tp H v d) (t2 : Tp H u e) : Tp (upd H p (.tup [v, u])) (.ref p) (.tuple [d, e]) := .tup upd_same (.cons (t.mono (Tk.of (same_new n))) (.cons (t2.mono (Tk.of (same_new n))) .nil))
theorem tup3 {H : Hp} {p : Addr} {v u x : V} {d e f : PyData} (n : H p = none) (t : Tp H v d) (t2 : Tp H u e) (t3 : Tp H x f) : Tp (upd H p (.tup [v, u, x])) (.ref p) (.tuple [d, e, f]) :=
  .tup upd_same (.cons (t.mono (Tk.of (same_new n))) (.cons (t2.mono (Tk.of (same_new n))) (.cons (t3.mono (Tk.of (same_new n))) .nil)))
theorem fails_at {H H1 : Hp} {E : XK} {d : PyData} {v : V} (f : Fails C H E d) (s : Same H H1) (t : Tp H1 v d) : ∀ q, H1 q = none → E (.ref C) (some q) (upd H1 q (.xd [(("problem" : Str), v)])) := fun q n =>
  f _ q v (s.trans (same_new n)) upd_same (t.mono (Tk.of (same_new n)))
theorem ok_ct {f : Addr} {fd : FuncData} (F : Fun K "check_terms" "check_terms" sCT f fd) (T0 : PySem.RefX.RefTxt K mg C fI) : FnOk P w K mg base (L2.CX P w) 3 f fd ["terms", "bound"] (spCT K C) := by
  refine F.okX scCT (fun vs H Q E h => ?_) (fun cdv A outer s H vs Q E hr h => ?_)
  · obtain ⟨_, _, _, _, _, _, rfl, _⟩ := h
    rfl
  · obtain ⟨u, a, xs, ts, kvs, bs, rfl, eu, tx, ea, hb, q0, q1⟩ := h
    have hu := hu_of hr
    have lx : xs.length = ts.length := by rw [tx.length, List.length_map]
    have sne : ∀ {x y : Str}, x ≠ y → V.str x ≠ V.str y := fun n z => n (by injection z)
    rcases eu with eu | eu
    · refine ⟨_, pss_one (ps_for (passes_of rfl) rfl (pi_list (pv 0)) (pg_name (i := 2) scCT.nd rfl (.inl rfl))
        (pss_cons (ps_if (pt_cmpR op_eq (pe_ix ix_tup (pv 2) pe_int (fun _ _ => rfl)) pe_str (nomark _)) (pss_one (ps_raiseRef rfl T0 hr (takes_of rfl rfl rfl rfl) (pa_cons (pe_tup (pa_cons pe_str pa_nil)) pa_nil))) pss_nil)
        (pss_one (ps_if (PW.pt (pw_and (pt_cmpR op_eq (pe_ix ix_tup (pv 2) pe_int (fun _ _ => rfl)) pe_str (nomark _)) (pw_and1 (pt_cmp (pc_dnotin hu (pe_ix ix_tup (pv 2) pe_int (fun _ _ => rfl)) (pv 1))))))
          (pss_one (ps_raiseRef rfl T0 hr (takes_of rfl rfl rfl rfl) (pa_cons (pe_tup (pa_cons pe_str (pa_cons (pe_ix ix_tup (pv 2) pe_int (fun _ _ => rfl)) pa_nil))) pa_nil))) pss_nil)))), ?_⟩
      refine ⟨.ref u, rfl, u, rfl, ⟨xs, SqL.of eu⟩, ?_⟩
      refine for_it walk_list (fun i σ H' => H' = H ∧ (∃ x2, σ = [some (.ref u), some (.ref a), x2]) ∧ loose bs false (ts.take i) = none) ⟨rfl, ⟨none, rfl⟩, rfl⟩ (fun i σ H' _ hP => by rw [hP.1]; exact SqL.of eu) (fun i x σ H1 H' hi hP hY => ?_) (fun σ H' hP => ?_)
      · obtain ⟨rfl, hx⟩ := hY
        obtain ⟨rfl, ⟨x2, rfl⟩, hn⟩ := hP
        obtain ⟨t, et, tt⟩ := term_get tx hx
        obtain ⟨pt, r0, rfl, ept, e0, e1, e2⟩ := pairs_get tt
        have etk := take_next et
        have hdr : ts.drop i = t :: ts.drop (i + 1) := drop_get et
        have hall : loose bs false ts = loose bs false (t :: ts.drop (i + 1)) := by
          conv => lhs; rw [← List.take_append_drop i ts, loose_app bs false hn, hdr]
        refine ⟨.ref pt, rfl, pt, r0, 0, _, rfl, rfl, SqT.of ept, e0, rfl, _, rfl, ?_⟩
        cases t with
        | any =>
          refine yes_if ?_
          have hd : loose bs false ts = some (.tuple [.str "any"]) := hall.trans rfl
          exact ⟨len1, fun p np => ⟨.ref p, rfl, fails_at (q1 _ hd) (same_new np) (tup1 np (.str _))⟩⟩
        | val k =>
          refine no_if (sne (show ("value" : Str) ≠ "any" by decide +kernel)) ?_
          refine ⟨.ref pt, rfl, pt, r0, 0, _, rfl, rfl, SqT.of ept, e0, rfl, _, rfl, no_if (sne (show ("value" : Str) ≠ "variable" by decide +kernel)) ?_⟩
          refine iteF ⟨rfl, ⟨_, rfl⟩, ?_⟩
          rw [etk, loose_app bs false hn]
          rfl
        | var y =>
          refine no_if (sne (show ("variable" : Str) ≠ "any" by decide +kernel)) ?_
          refine ⟨.ref pt, rfl, pt, r0, 0, _, rfl, rfl, SqT.of ept, e0, rfl, _, rfl, yes_if ?_⟩
          refine ⟨.ref pt, rfl, pt, r0, 1, _, rfl, rfl, SqT.of ept, e1 y rfl, .ref a, rfl, a, valV kvs (.inr y), rfl, .inl ⟨kvs, .inr y, .inl ea, rfl, rfl⟩, ?_⟩
          rw [hb y]
          by_cases c : y ∈ bs
          · rw [decide_eq_true c]
            refine ⟨false, rfl, iteF ⟨rfl, ⟨_, rfl⟩, ?_⟩⟩
            rw [etk, loose_app bs false hn]
            show (if y ∈ bs then none else _) = _
            rw [if_pos c]
          · rw [decide_eq_false c]
            refine ⟨true, rfl, iteT ?_⟩
            have hd : loose bs false ts = some (.tuple [.str "unbound", .str y]) := by
              rw [hall]
              show (if y ∈ bs then _ else _) = _
              rw [if_neg c]
            refine ⟨.ref pt, rfl, pt, r0, 1, _, rfl, rfl, SqT.of ept, e1 y rfl, len2, fun p np => ⟨.ref p, rfl, fails_at (q1 _ hd) (same_new np) (tup2 np (.str _) (.str _))⟩⟩
      · obtain ⟨rfl, ⟨x2, rfl⟩, hn⟩ := hP
        rw [lx, List.take_length] at hn
        exact q0 hn
    · refine ⟨_, pss_one (ps_for (passes_of rfl) rfl (pi_tup (pv 0)) (pg_name (i := 2) scCT.nd rfl (.inl rfl))
        (pss_cons (ps_if (pt_cmpR op_eq (pe_ix ix_tup (pv 2) pe_int (fun _ _ => rfl)) pe_str (nomark _)) (pss_one (ps_raiseRef rfl T0 hr (takes_of rfl rfl rfl rfl) (pa_cons (pe_tup (pa_cons pe_str pa_nil)) pa_nil))) pss_nil)
        (pss_one (ps_if (PW.pt (pw_and (pt_cmpR op_eq (pe_ix ix_tup (pv 2) pe_int (fun _ _ => rfl)) pe_str (nomark _)) (pw_and1 (pt_cmp (pc_dnotin hu (pe_ix ix_tup (pv 2) pe_int (fun _ _ => rfl)) (pv 1))))))
          (pss_one (ps_raiseRef rfl T0 hr (takes_of rfl rfl rfl rfl) (pa_cons (pe_tup (pa_cons pe_str (pa_cons (pe_ix ix_tup (pv 2) pe_int (fun _ _ => rfl)) pa_nil))) pa_nil))) pss_nil)))), ?_⟩
      refine ⟨.ref u, rfl, u, rfl, ⟨xs, SqT.of eu⟩, ?_⟩
      refine for_it walk_tup (fun i σ H' => H' = H ∧ (∃ x2, σ = [some (.ref u), some (.ref a), x2]) ∧ loose bs false (ts.take i) = none) ⟨rfl, ⟨none, rfl⟩, rfl⟩ (fun i σ H' _ hP => by rw [hP.1]; exact SqT.of eu) (fun i x σ H1 H' hi hP hY => ?_) (fun σ H' hP => ?_)
      · obtain ⟨rfl, hx⟩ := hY
        obtain ⟨rfl, ⟨x2, rfl⟩, hn⟩ := hP
        obtain ⟨t, et, tt⟩ := term_get tx hx
        obtain ⟨pt, r0, rfl, ept, e0, e1, e2⟩ := pairs_get tt
        have etk := take_next et
        have hdr : ts.drop i = t :: ts.drop (i + 1) := drop_get et
        have hall : loose bs false ts = loose bs false (t :: ts.drop (i + 1)) := by
          conv => lhs; rw [← List.take_append_drop i ts, loose_app bs false hn, hdr]
        refine ⟨.ref pt, rfl, pt, r0, 0, _, rfl, rfl, SqT.of ept, e0, rfl, _, rfl, ?_⟩
        cases t with
        | any =>
          refine yes_if ?_
          have hd : loose bs false ts = some (.tuple [.str "any"]) := hall.trans rfl
          exact ⟨len1, fun p np => ⟨.ref p, rfl, fails_at (q1 _ hd) (same_new np) (tup1 np (.str _))⟩⟩
        | val k =>
          refine no_if (sne (show ("value" : Str) ≠ "any" by decide +kernel)) ?_
          refine ⟨.ref pt, rfl, pt, r0, 0, _, rfl, rfl, SqT.of ept, e0, rfl, _, rfl, no_if (sne (show ("value" : Str) ≠ "variable" by decide +kernel)) ?_⟩
          refine iteF ⟨rfl, ⟨_, rfl⟩, ?_⟩
          rw [etk, loose_app bs false hn]
          rfl
        | var y =>
          refine no_if (sne (show ("variable" : Str) ≠ "any" by decide +kernel)) ?_
          refine ⟨.ref pt, rfl, pt, r0, 0, _, rfl, rfl, SqT.of ept, e0, rfl, _, rfl, yes_if ?_⟩
          refine ⟨.ref pt, rfl, pt, r0, 1, _, rfl, rfl, SqT.of ept, e1 y rfl, .ref a, rfl, a, valV kvs (.inr y), rfl, .inl ⟨kvs, .inr y, .inl ea, rfl, rfl⟩, ?_⟩
          rw [hb y]
          by_cases c : y ∈ bs
          · rw [decide_eq_true c]
            refine ⟨false, rfl, iteF ⟨rfl, ⟨_, rfl⟩, ?_⟩⟩
            rw [etk, loose_app bs false hn]
            show (if y ∈ bs then none else _) = _
            rw [if_pos c]
          · rw [decide_eq_false c]
            refine ⟨true, rfl, iteT ?_⟩
            have hd : loose bs false ts = some (.tuple [.str "unbound", .str y]) := by
              rw [hall]
              show (if y ∈ bs then _ else _) = _
              rw [if_neg c]
            refine ⟨.ref pt, rfl, pt, r0, 1, _, rfl, rfl, SqT.of ept, e1 y rfl, len2, fun p np => ⟨.ref p, rfl, fails_at (q1 _ hd) (same_new np) (tup2 np (.str _) (.str _))⟩⟩
      · obtain ⟨rfl, ⟨x2, rfl⟩, hn⟩ := hP
        rw [lx, List.take_length] at hn
        exact q0 hn
end
end KU

namespace KU
open PySem PySem.Spec PyProof.Rows PySem.HandSPX L2 KA
/-- in a tuple, of plain data -/
def rInT (K : PySem.W.Frag) : R2 := fun x y H Q => ∃ d ds, Dp K H x d ∧ Dp K H y (.tuple ds) ∧ d.plain = true ∧ PyData.plainAll ds = true ∧ d.depth ≤ 60 ∧ Q (.bl (ds.any fun z => PyData.eqv z d)) H
theorem op_inT {X : Cx} (hu : X.A.units + 64 < cLine) : OpR X (compareOp .In) (rInT X.K) := by
  intro pins s σ H x y v u Q I rx ry h
  obtain ⟨d, ds, hd, he, pd, pe, se, q⟩ := h
  obtain ⟨as, r1⟩ := Dp.reads I d x v hd rx
  obtain ⟨bs, r2⟩ := Dp.reads I (.tuple ds) y u he ry
  refine SeqAt.in_tuple_data r2 r1 pe pd ?_ ⟨.bl _, H, I, rfl, q⟩
  have h2 : min (PyData.depthAll ds) d.depth ≤ d.depth := Nat.min_le_right _ _
  omega
/-- the columns by relation -/
def WidK (kvs : List (Key × V)) (wd : Str → Option Nat) : Prop := ∀ x : Str, valV kvs (Sum.inr x : Key) = (wd x).map fun n => V.int (n : Int)
def relP (wd : Str → Option Nat) (r : Str) (n : Nat) : Option PyData := match wd r with
  | none => some (.tuple [.str "no relation", .str r])
  | some m => if n = m then none else some (.tuple [.str "width", .str r])
/-- the first problem of a literal -/
def litP (wd : Str → Option Nat) (bs : List Str) : L → Option PyData
  | .fact r ts => relP wd r ts.length
  | .notl r ts => match relP wd r ts.length with
    | some d => some d
    | none => loose bs true ts
  | .cmp _ a b => loose bs false [a, b]
  | .isl _ _ a b => loose bs false [a, b]
  | .cnt x r ts => match relP wd r ts.length with
    | some d => some d
    | none => if T.var x ∈ ts then some (.tuple [.str "own total", .str x]) else none
def noAny (ts : List T) : List T := ts.filter fun t => !decide (t = .any)
theorem noAny_app (a b : List T) : noAny (a ++ b) = noAny a ++ noAny b := List.filter_append ..
theorem noAny_len (a : List T) : (noAny a).length ≤ a.length := List.length_filter_le ..
theorem loose_noAny (bs : List Str) : ∀ ts : List T, loose bs false (noAny ts) = loose bs true ts
  | [] => rfl
  | .any :: r => by
    have e : noAny (.any :: r) = noAny r := rfl
    rw [e]
    exact loose_noAny bs r
  | .val k :: r => by
    have e : noAny (.val k :: r) = .val k :: noAny r := rfl
    rw [e]
    exact loose_noAny bs r
  | .var x :: r => by
    have e : noAny (.var x :: r) = .var x :: noAny r := rfl
    rw [e]
    show (if x ∈ bs then loose bs false (noAny r) else _) = (if x ∈ bs then loose bs true r else _)
    rw [loose_noAny bs r]
section
variable {P : Program} {w : World} {K : PySem.W.Frag} {mg : Str → Option Value} {base : Heap} {C fI : Addr}
abbrev sCR : Stmt := topS 17
theorem scCR : FnScope ["known", "relation", "terms"] ["known", "relation", "terms"] (defScope sCR) := ⟨rfl, rfl, rfl, by decide +kernel, rfl, by decide +kernel, by decide +kernel⟩
def spCR (C : Addr) : Sp := fun vs H Q E => ∃ (k u : Addr) (r : Str) (xs : List V) (kvs : List (Key × V)) (wd : Str → Option Nat), vs = [.ref k, .str r, .ref u] ∧ H u = some (.tup xs) ∧ H k = some (.dK kvs) ∧ WidK kvs wd ∧
  (relP wd r xs.length = none → Q .non H) ∧ ∀ d, relP wd r xs.length = some d → Fails C H E d
theorem ok_cr {f : Addr} {fd : FuncData} (F : Fun K "check_relation" "check_relation" sCR f fd) (T0 : PySem.RefX.RefTxt K mg C fI) (B : Bt mg) : FnOk P w K mg base (L2.CX P w) 3 f fd ["known", "relation", "terms"] (spCR C) := by
  refine F.okX scCR (fun vs H Q E h => ?_) (fun cdv A outer s H vs Q E hr h => ?_)
  · obtain ⟨_, _, _, _, _, _, rfl, _⟩ := h
    rfl
  · obtain ⟨k, u, r, xs, kvs, wd, rfl, eu, ek, hw, q0, q1⟩ := h
    have hu := hu_of hr
    refine ⟨_, pss_cons (ps_if (pt_cmp (pc_dnotin hu (pv 1) (pv 0))) (pss_one (ps_raiseRef rfl T0 hr (takes_of rfl rfl rfl rfl) (pa_cons (pe_tup (pa_cons pe_str (pa_cons (pv 1) pa_nil))) pa_nil))) pss_nil)
      (pss_one (ps_if (pt_cmpR op_ne (pe_callB call_len_seq (by rfl) B.len PySem.boot_len (pa_cons (pv 2) pa_nil)) (pe_dget hu (pv 0) (pv 1) (fun _ _ => rfl)) (nomark _))
        (pss_one (ps_raiseRef rfl T0 hr (takes_of rfl rfl rfl rfl) (pa_cons (pe_tup (pa_cons pe_str (pa_cons (pv 1) pa_nil))) pa_nil))) pss_nil)), ?_⟩
    refine ⟨.str r, rfl, .ref k, rfl, k, valV kvs (.inr r), rfl, .inl ⟨kvs, .inr r, .inl ek, rfl, rfl⟩, ?_⟩
    have e := hw r
    rw [e]
    unfold relP at q0 q1
    cases c : wd r with
    | none =>
      rw [c] at q1
      refine ⟨true, rfl, iteT ?_⟩
      exact ⟨.str r, rfl, len2, fun p np => ⟨.ref p, rfl, fails_at (q1 _ rfl) (same_new np) (tup2 np (.str _) (.str _))⟩⟩
    | some m =>
      rw [c] at q0 q1 e
      refine ⟨false, rfl, iteF ?_⟩
      refine ⟨.ref u, rfl, u, xs, rfl, .inr (SqT.of eu), .ref k, rfl, .str r, rfl, k, .int (m : Nat), rfl, .inl ⟨kvs, .inr r, .inl ek, rfl, e.symm⟩, rfl, _, rfl, ?_⟩
      by_cases z : xs.length = m
      · refine ite2 (fun h => ?_) (fun _ => q0 (if_pos z))
        have h2 : (!decide (V.int (xs.length : Nat) = V.int (m : Nat))) = true := h
        rw [z, decide_eq_true rfl] at h2
        cases h2
      · refine ite2 (fun h => ?_) (fun h => ?_)
        · exact ⟨.str r, rfl, len2, fun p np => ⟨.ref p, rfl, fails_at (q1 _ (if_neg z)) (same_new np) (tup2 np (.str _) (.str _))⟩⟩
        · have h2 : ¬ (!decide (V.int (xs.length : Nat) = V.int (m : Nat))) = true := h
          have n : V.int (xs.length : Nat) ≠ V.int (m : Nat) := fun y => z (by injection y with y; omega)
          rw [decide_eq_false n] at h2
          exact absurd rfl h2
end
end KU

namespace KU
open PySem PySem.Spec PyProof.Rows PySem.HandSPX L2 KA
section
variable {P : Program} {w : World} {K : PySem.W.Frag} {mg : Str → Option Value} {base : Heap} {C fI : Addr}
abbrev dCR (P : Program) (w : World) (K : PySem.W.Frag) (mg : Str → Option Value) (base : Heap) (C : Addr) : Prop := DefX P w K mg base "check_relation" 3 ["known", "relation", "terms"] (spCR C)
abbrev dCT (P : Program) (w : World) (K : PySem.W.Frag) (mg : Str → Option Value) (base : Heap) (C : Addr) : Prop := DefX P w K mg base "check_terms" 3 ["terms", "bound"] (spCT K C)
def litTs : L → List T
  | .fact _ ts => ts
  | .notl _ ts => ts
  | .cnt _ _ ts => ts
  | .cmp _ _ _ => []
  | .isl _ _ _ _ => []
abbrev sCL : Stmt := topS 18
theorem scCL : FnScope ["known", "literal", "bound", "term"] ["known", "literal", "bound"] (defScope sCL) := ⟨rfl, rfl, rfl, by decide +kernel, rfl, by decide +kernel, by decide +kernel⟩
def spCL (C : Addr) : Sp := fun vs H Q E => ∃ (k a : Addr) (v : V) (l : L) (kvs bvs : List (Key × V)) (wd : Str → Option Nat) (bs : List Str), vs = [.ref k, v, .ref a] ∧ Tp H v (litD l) ∧ (litTs l).length ≤ 1000 ∧ H k = some (.dK kvs) ∧ WidK kvs wd ∧ H a = some (.dK bvs) ∧ boundK bvs bs ∧
  (litP wd bs l = none → ∀ H', Same H H' → Q .non H') ∧ ∀ d, litP wd bs l = some d → Fails C H E d
theorem any_var (ts : List T) (x : Str) : (ts.map tD).any (fun z => PyData.eqv z (.tuple [.str "variable", .str x])) = decide (T.var x ∈ ts) := by
  rw [List.any_map]
  induction ts with
  | nil => rfl
  | cons t r ih =>
    rw [List.any_cons, ih]
    show (PyData.eqv (tD t) _ || _) = _
    rw [eqv_var, Bool.eq_iff_iff, Bool.or_eq_true, decide_eq_true_iff, decide_eq_true_iff, decide_eq_true_iff, List.mem_cons]
    exact ⟨fun h => h.imp Eq.symm id, fun h => h.imp Eq.symm id⟩
theorem ok_cl {f : Addr} {fd : FuncData} (F : Fun K "check_literal" "check_literal" sCL f fd) (T0 : PySem.RefX.RefTxt K mg C fI) (DR : dCR P w K mg base C) (DT : dCT P w K mg base C) : FnOk P w K mg base (L2.CX P w) 4 f fd ["known", "literal", "bound"] (spCL C) := by
  refine F.okX scCL (fun vs H Q E h => ?_) (fun cdv A outer s H vs Q E hr h => ?_)
  · obtain ⟨_, _, _, _, _, _, _, _, rfl, _⟩ := h
    rfl
  · obtain ⟨k, a, v, l, kvs, bvs, wd, bs, rfl, tv, hl0, ek, hw, ea, hb, q0, q1⟩ := h
    have hu := hu_of hr
    have r3 : Room 3 _ := hr.mono (by decide)
    refine ⟨_, pss_one (ps_if (pt_cmpR op_eq (pe_ix ix_tup (pv 1) pe_int (fun _ _ => rfl)) pe_str (nomark _))
        (pss_one (ps_expr (pe_defX DR r3 (by rfl) (passes_call (takes_of rfl rfl rfl rfl) (fun _ _ _ _ h => h)) (pa_cons (pv 0) (pa_cons (pe_ix ix_tup (pv 1) pe_int (fun _ _ => rfl)) (pa_cons (pe_ix ix_tup (pv 1) pe_int (fun _ _ => rfl)) pa_nil))))))
      (pss_one (ps_if (pt_cmpR op_eq (pe_ix ix_tup (pv 1) pe_int (fun _ _ => rfl)) pe_str (nomark _))
        (pss_cons (ps_expr (pe_defX DR r3 (by rfl) (passes_call (takes_of rfl rfl rfl rfl) (fun _ _ _ _ h => h)) (pa_cons (pv 0) (pa_cons (pe_ix ix_tup (pv 1) pe_int (fun _ _ => rfl)) (pa_cons (pe_ix ix_tup (pv 1) pe_int (fun _ _ => rfl)) pa_nil)))))
        (pss_one (ps_expr (pe_defX DT r3 (by rfl) (passes_call (takes_of rfl rfl rfl rfl) (fun _ _ _ _ h => h)) (pa_cons (pe_lc (own := [("term", 3)]) (g := gName 3) (tt := tTest (tOp rNe (tOp (rIxT K) (tVar 3) (tC (.int 0))) (tC (.str "any")))) (te := tVar 3) rfl scCL.nd (pi_tup (pe_ix ix_tup (pv 1) pe_int (fun _ _ => rfl))) (blkOk_by (own := [("term", 3)]) (N := ["known", "literal", "bound", "term"]) (sc := defScope sCL) (by decide +kernel))
          (fun _ _ _ _ _ => pg_name (i := 3) scCL.nd rfl (Or.inl rfl)) (fun _ _ _ _ _ => pts_one (pt_cmpR op_ne (pe_ix ix_tup (pv 3) pe_int (fun _ _ => rfl)) pe_str (nomark _))) (fun _ _ _ _ _ => pv 3)) (pa_cons (pv 2) pa_nil))))))
      (pss_one (ps_if (pt_cmpR op_eq (pe_ix ix_tup (pv 1) pe_int (fun _ _ => rfl)) pe_str (nomark _))
        (pss_one (ps_expr (pe_defX DT r3 (by rfl) (passes_call (takes_of rfl rfl rfl rfl) (fun _ _ _ _ h => h)) (pa_cons (pe_slice sl_tup (pv 1) (po_some pe_int) po_none) (pa_cons (pv 2) pa_nil)))))
      (pss_one (ps_if (pt_cmpR op_eq (pe_ix ix_tup (pv 1) pe_int (fun _ _ => rfl)) pe_str (nomark _))
        (pss_one (ps_expr (pe_defX DT r3 (by rfl) (passes_call (takes_of rfl rfl rfl rfl) (fun _ _ _ _ h => h)) (pa_cons (pe_slice sl_tup (pv 1) (po_some pe_int) po_none) (pa_cons (pv 2) pa_nil)))))
        (pss_cons (ps_expr (pe_defX DR r3 (by rfl) (passes_call (takes_of rfl rfl rfl rfl) (fun _ _ _ _ h => h)) (pa_cons (pv 0) (pa_cons (pe_ix ix_tup (pv 1) pe_int (fun _ _ => rfl)) (pa_cons (pe_ix ix_tup (pv 1) pe_int (fun _ _ => rfl)) pa_nil)))))
        (pss_one (ps_if (pt_cmpR (op_inT hr.units) (pe_tup (pa_cons pe_str (pa_cons (pe_ix ix_tup (pv 1) pe_int (fun _ _ => rfl)) pa_nil))) (pe_ix ix_tup (pv 1) pe_int (fun _ _ => rfl)) rfl)
          (pss_one (ps_raiseRef rfl T0 hr (takes_of rfl rfl rfl rfl) (pa_cons (pe_tup (pa_cons pe_str (pa_cons (pe_ix ix_tup (pv 1) pe_int (fun _ _ => rfl)) pa_nil))) pa_nil))) pss_nil)))))))))), ?_⟩
    have sne : ∀ {x y : Str}, x ≠ y → V.str x ≠ V.str y := fun n z => n (by injection z)
    have c4 : HT.sIx 4 0 (some 2) ≠ 0 := by decide
    have c5 : HT.sIx 5 0 (some 3) ≠ 0 := by decide
    cases l with
    | fact r ts =>
      obtain ⟨p, u, xs, rfl, ep, eu, tx⟩ := lit3_inv tv
      have lx : xs.length = ts.length := by rw [tx.length, List.length_map]
      refine ⟨.ref p, rfl, p, _, 0, .str "fact", rfl, rfl, SqT.of ep, rfl, rfl, _, rfl, yes_if ?_⟩
      refine ⟨.ref k, rfl, .ref p, rfl, p, _, 1, .str r, rfl, rfl, SqT.of ep, rfl, .ref p, rfl, p, _, 2, .ref u, rfl, rfl, SqT.of ep, rfl, ?_⟩
      refine ⟨k, u, r, xs, kvs, wd, rfl, eu, ek, hw, fun z => q0 ?_ H (Same.refl H), fun d z => q1 d ?_⟩
      · rw [lx] at z
        exact z
      · rw [lx] at z
        exact z
    | notl r ts =>
      obtain ⟨p, u, xs, rfl, ep, eu, tx⟩ := lit3_inv tv
      have lx : xs.length = ts.length := by rw [tx.length, List.length_map]
      refine ⟨.ref p, rfl, p, _, 0, .str "not", rfl, rfl, SqT.of ep, rfl, rfl, _, rfl, no_if (sne (show ("not" : Str) ≠ "fact" by decide +kernel)) ?_⟩
      refine ⟨.ref p, rfl, p, _, 0, .str "not", rfl, rfl, SqT.of ep, rfl, rfl, _, rfl, yes_if ?_⟩
      refine ⟨.ref k, rfl, .ref p, rfl, p, _, 1, .str r, rfl, rfl, SqT.of ep, rfl, .ref p, rfl, p, _, 2, .ref u, rfl, rfl, SqT.of ep, rfl, ?_⟩
      refine ⟨k, u, r, xs, kvs, wd, rfl, eu, ek, hw, fun z => ?_, fun d z => q1 d ?_⟩
      · rw [lx] at z
        have hl : litP wd bs (.notl r ts) = loose bs true ts := by
          show (match relP wd r ts.length with | some d => some d | none => loose bs true ts) = _
          rw [z]
        rw [hl] at q0 q1
        refine ⟨.ref p, rfl, p, _, 2, .ref u, rfl, rfl, SqT.of ep, rfl, u, rfl, ⟨xs, SqT.of eu⟩, fun D nD => ?_⟩
        refine lc_it walk_tup (fun i H' => Same H H' ∧ ∃ ys, H' D = some (.lst ys) ∧ Tps H' ys ((noAny (ts.take i)).map tD) ∧ ys.length ≤ i) ⟨same_new nD, [], upd_same, .nil, Nat.le_refl 0⟩ (fun i H' _ hP => SqT.of (hP.1 _ _ eu)) (fun i x H' H2 hi hP hY => ?_) (fun H' hP => ?_)
        · obtain ⟨rfl, hx⟩ := hY
          obtain ⟨sm, ys, eD, ty, ly⟩ := hP
          obtain ⟨t, et, tt⟩ := term_get tx hx
          have tt := tt.mono (Tk.of sm)
          obtain ⟨pt, r0, rfl, ept, e0, e1, e2⟩ := pairs_get tt
          have ev : noAny (ts.take (i + 1)) = noAny (ts.take i) ++ noAny [t] := by rw [take_next et, noAny_app]
          rw [ev]
          have li : i < sizeLine := small1000 (by rw [lx] at hi; have : ts.length ≤ 1000 := hl0; omega)
          refine ⟨rfl, .ref pt, rfl, pt, r0, 0, _, rfl, rfl, SqT.of ept, e0, rfl, _, rfl, ?_⟩
          have put : t ≠ .any → ∃ acc, H2 D = some (.lst acc) ∧ acc.length < sizeLine ∧ Same H (upd H2 D (.lst (acc ++ [.ref pt]))) ∧ ∃ ys, (upd H2 D (.lst (acc ++ [.ref pt]))) D = some (.lst ys) ∧ Tps (upd H2 D (.lst (acc ++ [.ref pt]))) ys ((noAny (ts.take i) ++ noAny [t]).map tD) ∧ ys.length ≤ i + 1 := fun n => by
            have en : noAny [t] = [t] := by
              unfold noAny
              rw [List.filter_cons_of_pos (by rw [decide_eq_false n]; rfl), List.filter_nil]
            have tk : Tk H2 (upd H2 D (.lst (ys ++ [.ref pt]))) := Tk.lst eD
            refine ⟨ys, eD, by omega, same_put sm nD, _, upd_same, ?_, by rw [List.length_append]; show ys.length + 1 ≤ i + 1; omega⟩
            rw [en, List.map_append]
            exact (ty.mono tk).append (.cons (tt.mono tk) .nil)
          cases t with
          | any =>
            refine ite2 (fun h => ?_) (fun _ => ⟨sm, ys, eD, ?_, by omega⟩)
            · have h2 : (!decide (V.str "any" = V.str "any")) = true := h
              rw [decide_eq_true rfl] at h2
              cases h2
            · have en : noAny [T.any] = [] := rfl
              rw [en, List.append_nil]
              exact ty
          | val kk =>
            refine ite2 (fun _ => ⟨_, rfl, put (fun z => nomatch z)⟩) (fun h => ?_)
            have h2 : ¬ (!decide (V.str "value" = V.str "any")) = true := h
            rw [decide_eq_false (sne (show ("value" : Str) ≠ "any" by decide +kernel))] at h2
            exact absurd rfl h2
          | var yy =>
            refine ite2 (fun _ => ⟨_, rfl, put (fun z => nomatch z)⟩) (fun h => ?_)
            have h2 : ¬ (!decide (V.str "variable" = V.str "any")) = true := h
            rw [decide_eq_false (sne (show ("variable" : Str) ≠ "any" by decide +kernel))] at h2
            exact absurd rfl h2
        · obtain ⟨sm, ys, eD, ty, _⟩ := hP
          rw [lx, List.take_length] at ty
          refine ⟨.ref a, rfl, D, a, ys, noAny ts, bvs, bs, rfl, .inl eD, ty, sm _ _ ea, hb, fun z => q0 ?_ _ sm, fun d z => (q1 d ?_).same sm⟩
          · rw [← loose_noAny]
            exact z
          · rw [← loose_noAny]
            exact z
      · rw [lx] at z
        show (match relP wd r ts.length with | some d => some d | none => loose bs true ts) = _
        rw [z]
    | cmp op x y =>
      obtain ⟨p, vx, vy, rfl, ep, tx, ty⟩ := litC_inv tv
      refine ⟨.ref p, rfl, p, _, 0, .str "compare", rfl, rfl, SqT.of ep, rfl, rfl, _, rfl, no_if (sne (show ("compare" : Str) ≠ "fact" by decide +kernel)) ?_⟩
      refine ⟨.ref p, rfl, p, _, 0, .str "compare", rfl, rfl, SqT.of ep, rfl, rfl, _, rfl, no_if (sne (show ("compare" : Str) ≠ "not" by decide +kernel)) ?_⟩
      refine ⟨.ref p, rfl, p, _, 0, .str "compare", rfl, rfl, SqT.of ep, rfl, rfl, _, rfl, yes_if ?_⟩
      refine ⟨.ref p, rfl, 2, rfl, p, _, rfl, SqT.of ep, (fun h => c4 h.1), fun q nq => ?_⟩
      have s1 : Same H (upd H q (.tup [vx, vy])) := same_new nq
      refine ⟨.ref a, rfl, q, a, [vx, vy], [x, y], bvs, bs, rfl, .inr upd_same, .cons (tx.mono (Tk.of s1)) (.cons (ty.mono (Tk.of s1)) .nil), s1 _ _ ea, hb, fun z => q0 z _ s1, fun d z => (q1 d z).same s1⟩
    | isl z op x y =>
      obtain ⟨p, vx, vy, rfl, ep, tx, ty⟩ := litI_inv tv
      refine ⟨.ref p, rfl, p, _, 0, .str "is", rfl, rfl, SqT.of ep, rfl, rfl, _, rfl, no_if (sne (show ("is" : Str) ≠ "fact" by decide +kernel)) ?_⟩
      refine ⟨.ref p, rfl, p, _, 0, .str "is", rfl, rfl, SqT.of ep, rfl, rfl, _, rfl, no_if (sne (show ("is" : Str) ≠ "not" by decide +kernel)) ?_⟩
      refine ⟨.ref p, rfl, p, _, 0, .str "is", rfl, rfl, SqT.of ep, rfl, rfl, _, rfl, no_if (sne (show ("is" : Str) ≠ "compare" by decide +kernel)) ?_⟩
      refine ⟨.ref p, rfl, p, _, 0, .str "is", rfl, rfl, SqT.of ep, rfl, rfl, _, rfl, yes_if ?_⟩
      refine ⟨.ref p, rfl, 3, rfl, p, _, rfl, SqT.of ep, (fun h => c5 h.1), fun q nq => ?_⟩
      have s1 : Same H (upd H q (.tup [vx, vy])) := same_new nq
      refine ⟨.ref a, rfl, q, a, [vx, vy], [x, y], bvs, bs, rfl, .inr upd_same, .cons (tx.mono (Tk.of s1)) (.cons (ty.mono (Tk.of s1)) .nil), s1 _ _ ea, hb, fun z => q0 z _ s1, fun d z => (q1 d z).same s1⟩
    | cnt x r ts =>
      obtain ⟨p, u, xs, rfl, ep, eu, tx⟩ := litN_inv tv
      have lx : xs.length = ts.length := by rw [tx.length, List.length_map]
      refine ⟨.ref p, rfl, p, _, 0, .str "count", rfl, rfl, SqT.of ep, rfl, rfl, _, rfl, no_if (sne (show ("count" : Str) ≠ "fact" by decide +kernel)) ?_⟩
      refine ⟨.ref p, rfl, p, _, 0, .str "count", rfl, rfl, SqT.of ep, rfl, rfl, _, rfl, no_if (sne (show ("count" : Str) ≠ "not" by decide +kernel)) ?_⟩
      refine ⟨.ref p, rfl, p, _, 0, .str "count", rfl, rfl, SqT.of ep, rfl, rfl, _, rfl, no_if (sne (show ("count" : Str) ≠ "compare" by decide +kernel)) ?_⟩
      refine ⟨.ref p, rfl, p, _, 0, .str "count", rfl, rfl, SqT.of ep, rfl, rfl, _, rfl, no_if (sne (show ("count" : Str) ≠ "is" by decide +kernel)) ?_⟩
      refine ⟨.ref k, rfl, .ref p, rfl, p, _, 2, .str r, rfl, rfl, SqT.of ep, rfl, .ref p, rfl, p, _, 3, .ref u, rfl, rfl, SqT.of ep, rfl, ?_⟩
      refine ⟨k, u, r, xs, kvs, wd, rfl, eu, ek, hw, fun z => ?_, fun d z => q1 d ?_⟩
      · rw [lx] at z
        have hl : litP wd bs (.cnt x r ts) = if T.var x ∈ ts then some (.tuple [.str "own total", .str x]) else none := by
          show (match relP wd r ts.length with | some d => some d | none => _) = _
          rw [z]
        rw [hl] at q0 q1
        refine ⟨.ref p, rfl, p, _, 1, .str x, rfl, rfl, SqT.of ep, rfl, len2, fun q nq => ?_⟩
        have s1 : Same H (upd H q (.tup [.str "variable", .str x])) := same_new nq
        refine ⟨.ref p, rfl, p, _, 3, .ref u, rfl, rfl, SqT.of (s1 _ _ ep), rfl, ?_⟩
        refine ⟨.tuple [.str "variable", .str x], ts.map tD, .tup (SqT.of upd_same) (.cons (.str _) (.cons (.str _) .nil)), (Tp.tup (s1 _ _ eu) (tx.mono (Tk.of s1))).dp, rfl, tx.plain, (show 1 ≤ 60 by decide), ?_⟩
        rw [any_var]
        by_cases c : T.var x ∈ ts
        · rw [decide_eq_true c]
          refine ⟨true, rfl, iteT ?_⟩
          rw [if_pos c] at q1
          exact ⟨.ref p, rfl, p, _, 1, .str x, rfl, rfl, SqT.of (s1 _ _ ep), rfl, len2, fun q2 nq2 => ⟨.ref q2, rfl, fails_at (q1 _ rfl) (s1.trans (same_new nq2)) (tup2 nq2 (.str _) (.str _))⟩⟩
        · rw [decide_eq_false c]
          rw [if_neg c] at q0
          exact ⟨false, rfl, iteF (q0 rfl _ s1)⟩
      · rw [lx] at z
        show (match relP wd r ts.length with | some d => some d | none => _) = _
        rw [z]
end
end KU

namespace PySem
open PySem.Spec PyProof.Rows
/-! tuple(d): the keys -/
section
variable {prog : Program} {w : World} {A : Around} {E : Value → Shared → Prop} {s : Shared} {r : Addr} {n : Nat} {P : Nat → Value → Prop}
theorem code_tuple_new_dict {o : Obj} {Q₁ : Value → Shared → Prop} (hh : A.handled = none) (ho : s.heap.get? r = some o) (hc : o.cls = .type "dict") (hn : n ≤ sizeLine)
    (col : ∀ (A' : Around) (E' : Value → Shared → Prop) (R : List Value → Shared → Prop), A'.handled = none → (∀ (h' : Heap) (tk : Nat) (acc : Array Value), (∀ b o, s.heap.get? b = some o → h'.get? b = some o) → ItemsOf P acc n → R acc.toList { s with heap := h', toks := tk }) → wpAny (model prog w) A' (collect (.ref r)) R E' s)
    (h : ∀ (h' : Heap) (tk : Nat) (acc : Array Value), (∀ b o, s.heap.get? b = some o → h'.get? b = some o) → ItemsOf P acc n →
      Q₁ (.ref h'.objs.size) { s with heap := h'.push { cls := .type "tuple", data := .seq acc }, toks := tk }) :
    codeAny (model prog w) A (.call (.builtin "tuple.__new__") ⟨[.type "tuple", .ref r], []⟩) (wants Q₁ E) s := by
  refine codeAny_of_tree ?_
  show wpAny _ A.in1 (do checkBuiltinCall "tuple.__new__" ⟨[.type "tuple", .ref r], []⟩; again (.builtin "tuple.__new__" ⟨[.type "tuple", .ref r], []⟩)) _ _ s
  refine wpAny_bind (wpAny_of_eq (F.newCall_tuple_1 _) (wpAny_pure ⟨plainId_quiet F.plain_tuple_new _, codeAny_builtin F.entry_tuple_new ?_⟩))
  rw [Around.under_plainId F.plain_tuple_new _]
  have hsub := sub_tuple_self
  have hinit := init_tuple_lookup
  have hmh := madeHere_tuple
  have hTI : s.TypeIs (.ref r) "dict" := ⟨_, ho, hc⟩
  have hh1 : A.in1.handled = none := hh
  wp_walk using wpAny_typeOf hTI, col A.in1 _ _ hh1
  intro h' tk acc hk hacc
  show wpAny _ _ (Builtin.Tuple.tupleExact acc.toList.toArray >>= fun v => ret v) _ _ _
  unfold Builtin.Tuple.tupleExact
  refine wpAny_bind (wpAny_newObj_type ?_ (by show acc.toList.toArray.size ≤ sizeLine; simp only [Array.toArray_toList]; rw [hacc.1]; exact hn))
  refine wpAny_pure ?_
  have e : acc.toList.toArray = acc := by simp
  rw [e]
  exact h h' tk acc hk hacc
theorem call_tuple_dict {o : Obj} {Q : Value → Shared → Prop} (hh : A.handled = none) (ho : s.heap.get? r = some o) (hc : o.cls = .type "dict") (hn : n ≤ sizeLine)
    (col : ∀ (A' : Around) (E' : Value → Shared → Prop) (R : List Value → Shared → Prop), A'.handled = none → (∀ (h' : Heap) (tk : Nat) (acc : Array Value), (∀ b o, s.heap.get? b = some o → h'.get? b = some o) → ItemsOf P acc n → R acc.toList { s with heap := h', toks := tk }) → wpAny (model prog w) A' (collect (.ref r)) R E' s)
    (hQ : ∀ (h' : Heap) (tk : Nat) (acc : Array Value), (∀ b o, s.heap.get? b = some o → h'.get? b = some o) → ItemsOf P acc n →
      Q (.ref h'.objs.size) { s with heap := h'.push { cls := .type "tuple", data := .seq acc }, toks := tk }) :
    wpAny (model prog w) A (call (.type "tuple") [.ref r]) Q E s := by
  refine callType_codes (Q₁ := fun obj s₁ => s₁.TypeIs obj "tuple" ∧ Q obj s₁) F.called_tuple (F.typeCall_tuple_1 _) F.entry_object_init
    (code_tuple_new_dict (A := A.in1) hh ho hc hn col fun h' tk acc hk hacc => ⟨⟨_, Heap.get?_push_size _ rfl, rfl⟩, hQ h' tk acc hk hacc⟩) fun obj s₁ h₁ => ?_
  exact ⟨h₁.1, F.args_object_init_2 obj _, object_init_meets F.called_tuple.init.lookup F.called_tuple.made (by decide) prog w A.in1 _ s₁ ⟨h₁.1, rfl, h₁.2⟩⟩
end
end PySem
namespace L2
open PySem PySem.Spec PyProof.Rows
theorem call_tupleDk {X : Cx} (hcalm : X.calm = true) : CallR X (.type "tuple") (fun xs H Q => ∃ (a : Addr) (kvs : List (Key × V)), xs = [.ref a] ∧ Rd H a (.dK kvs) ∧ ∀ p, H p = none → Q (.ref p) (upd H p (.tup (kvs.map fun kv => kV kv.1)))) := by
  intro pins s σ H xs us Q I r q
  obtain ⟨a, kvs, ex, hd, q⟩ := q
  subst ex
  obtain ⟨u, eu, rx⟩ := vals1 r
  subst eu
  cases rx
  obtain ⟨z, lo, vs, rel, dd⟩ := dk_rd I.hok hd
  obtain ⟨ep, hat⟩ := dd.dictAt
  have ek : (kvs.map fun kv => kV kv.1) = vs.map fun p => kV p.1 := by
    have e := congrArg (List.map kV) rel.keys
    rw [List.map_map, List.map_map] at e
    exact e
  have hz : vs.length ≤ sizeLine := by rw [← rel.length]; exact z
  obtain ⟨o, _, _, ho, hx, _⟩ := dd
  refine call_tuple_dict (n := vs.length) (I.ok.hd hcalm) ho hx.1 hz (fun A' E' R hh hR => PySem.W.kdu_collect (A := A') (PySem.W.kdl_dict (knd := mixKind X.prog X.w) (kvs := vs) (ep := ep) lo) hh hat hz hR) (fun h' tk acc hk hacc => ?_)
  have hv : Vals (vs.map fun p => kV p.1) acc.toList := keys_at (by rw [Array.length_toList]; exact hacc.1) fun j v e => hacc.2 j v (by rw [← Array.getElem?_toList]; exact e)
  have I1 : Inv X pins σ H { s with heap := h', toks := tk } := I.kept hk
  have I2 : Inv X pins σ (upd H h'.objs.size (.tup (kvs.map fun kv => kV kv.1))) { s with heap := h'.push { cls := .type "tuple", data := .seq acc }, toks := tk } :=
    I1.laid (t' := tk) (fun b o e => Heap.get?_push_of_some _ e) (Nat.le_refl _) (show ObjOk X.prog X.w _ _ _ (.tup (kvs.map fun kv => kV kv.1)) from ⟨by rw [List.length_map]; exact z, acc.toList, by rw [ek]; exact hv, by rw [Array.toArray_toList]; exact IsTup.new _ _⟩)
  exact ⟨.ref h'.objs.size, _, I2, rfl, q _ (I1.hok.fresh (Nat.le_refl _))⟩
end L2

namespace KU
open PySem PySem.Spec PyProof.Rows PySem.HandSPX L2 KA
def add1 (bs : List Str) (x : Str) : List Str := if x ∈ bs then bs else bs ++ [x]
def addU (bs xs : List Str) : List Str := xs.foldl add1 bs
/-- the first problem of a body, and what was bound before it -/
def bodyP (wd : Str → Option Nat) : List Str → List L → Option PyData × List Str
  | bs, [] => (none, bs)
  | bs, l :: r => match litP wd bs l with
    | some d => (some d, bs)
    | none => bodyP wd (addU bs (bindsL l)) r
def bK (bs : List Str) : List (Key × V) := bs.map fun x => (Sum.inr x, V.bl true)
theorem bK_any (bs : List Str) (x : Str) : ((bK bs).any fun kv => decide (kv.1 = (Sum.inr x : Key))) = decide (x ∈ bs) := by
  unfold bK
  rw [List.any_map, Bool.eq_iff_iff, List.any_eq_true, decide_eq_true_iff]
  constructor
  · rintro ⟨y, hy, e⟩
    have e2 : (Sum.inr y : Key) = Sum.inr x := of_decide_eq_true e
    rw [inr_iff] at e2
    rw [← e2]
    exact hy
  · exact fun h => ⟨x, h, decide_eq_true rfl⟩
theorem bK_bound (bs : List Str) : boundK (bK bs) bs := fun x => by rw [← valV_any, bK_any]
theorem bK_put (bs : List Str) (x : Str) : putK (bK bs) (Sum.inr x : Key) (.bl true) = bK (add1 bs x) := by
  unfold putK add1
  rw [bK_any]
  by_cases c : x ∈ bs
  · rw [if_pos (decide_eq_true c), if_pos c]
    unfold bK
    rw [List.map_map]
    refine List.map_congr_left fun y _ => ?_
    show (if (Sum.inr y : Key) = Sum.inr x then ((Sum.inr y : Key), V.bl true) else (Sum.inr y, V.bl true)) = _
    by_cases d : (Sum.inr y : Key) = Sum.inr x
    · rw [if_pos d]
    · rw [if_neg d]
  · rw [if_neg (by rw [decide_eq_false c]; exact Bool.false_ne_true), if_neg c]
    unfold bK
    rw [List.map_append]
    rfl
theorem bK_keys (bs : List Str) : (bK bs).map (fun kv => kV kv.1) = bs.map V.str := by
  unfold bK
  rw [List.map_map]
  rfl
theorem bK_len (bs : List Str) : (bK bs).length = bs.length := List.length_map ..
theorem add1_len (bs : List Str) (x : Str) : (add1 bs x).length ≤ bs.length + 1 := by
  unfold add1
  by_cases c : x ∈ bs
  · rw [if_pos c]; omega
  · rw [if_neg c, List.length_append]; exact Nat.le_refl _
theorem addU_len : ∀ (xs bs : List Str), (addU bs xs).length ≤ bs.length + xs.length
  | [], bs => Nat.le_refl _
  | x :: xs, bs => by
    have h := addU_len xs (add1 bs x)
    have h2 := add1_len bs x
    show (addU (add1 bs x) xs).length ≤ bs.length + (xs.length + 1)
    omega
theorem addU_snoc (bs xs : List Str) (x : Str) : addU bs (xs ++ [x]) = add1 (addU bs xs) x := List.foldl_append ..
section
variable {P : Program} {w : World} {K : PySem.W.Frag} {mg : Str → Option Value} {base : Heap} {C fI : Addr}
abbrev sBd : Stmt := topS 2
theorem scBd : FnScope ["literal", "term"] ["literal"] (defScope sBd) := ⟨rfl, rfl, rfl, by decide +kernel, rfl, by decide +kernel, by decide +kernel⟩
def spBd : Sp := fun vs H Q _ => ∃ (v : V) (l : L), vs = [v] ∧ Tp H v (litD l) ∧ (litTs l).length ≤ 1000 ∧ ∀ p H', Same H H' → H' p = some (.lst ((bindsL l).map V.str)) → H p = none → Q (.ref p) H'
theorem ok_bd {f : Addr} {fd : FuncData} (F : Fun K "binds" "binds" sBd f fd) : FnOk P w K mg base CX0 1 f fd ["literal"] spBd := by
  refine F.ok scBd (fun vs H Q E h => ?_) (fun cdv A outer s H vs Q E hr h => ?_)
  · obtain ⟨_, _, rfl, _⟩ := h
    rfl
  · obtain ⟨v, l, rfl, tv, lf, q⟩ := h
    refine ⟨_, pss_cons (ps_if (pt_cmpR op_eq (pe_ix ix_tup (pv 0) pe_int (fun _ _ => rfl)) pe_str (nomark _))
        (pss_one (ps_ret (pe_lc (own := [("term", 1)]) (g := gName 1) (tt := tTest (tOp rEq (tOp (rIxT K) (tVar 1) (tC (.int 0))) (tC (.str "variable")))) (te := tOp (rIxT K) (tVar 1) (tC (.int 1))) rfl scBd.nd (pi_tup (pe_ix ix_tup (pv 0) pe_int (fun _ _ => rfl))) (blkOk_by (own := [("term", 1)]) (N := ["literal", "term"]) (sc := defScope sBd) (by decide +kernel))
          (fun _ _ _ _ _ => pg_name (i := 1) scBd.nd rfl (Or.inl rfl)) (fun _ _ _ _ _ => pts_one (pt_cmpR op_eq (pe_ix ix_tup (pv 1) pe_int (fun _ _ => rfl)) pe_str (nomark _))) (fun _ _ _ _ _ => pe_ix ix_tup (pv 1) pe_int (fun _ _ => rfl))))) pss_nil)
      (pss_cons (ps_if (PW.pt (pw_or (pt_cmpR op_eq (pe_ix ix_tup (pv 0) pe_int (fun _ _ => rfl)) pe_str (nomark _)) (pw_or1 (pt_cmpR op_eq (pe_ix ix_tup (pv 0) pe_int (fun _ _ => rfl)) pe_str (nomark _))))) (pss_one (ps_ret (pe_lst (pa_cons (pe_ix ix_tup (pv 0) pe_int (fun _ _ => rfl)) pa_nil)))) pss_nil)
      (pss_one (ps_ret (pe_lst pa_nil)))), ?_⟩
    have sne : ∀ {x y : Str}, x ≠ y → V.str x ≠ V.str y := fun n z => n (by injection z)
    cases l with
    | fact r ts =>
      obtain ⟨p, u, xs, rfl, ep, eu, tx⟩ := lit3_inv tv
      refine ⟨.ref p, rfl, p, _, 0, .str "fact", rfl, rfl, SqT.of ep, rfl, rfl, _, rfl, yes_if ?_⟩
      refine ⟨.ref p, rfl, p, _, 2, .ref u, rfl, rfl, SqT.of ep, rfl, u, rfl, ⟨xs, SqT.of eu⟩, fun D nD => ?_⟩
      have lx : xs.length = ts.length := by rw [tx.length, List.length_map]
      have l3 : ts.length ≤ 1000 := lf
      refine lc_it walk_tup (fun i H' => Same H H' ∧ H' D = some (.lst ((varsOf (ts.take i)).map V.str))) ⟨same_new nD, upd_same⟩ (fun i H' _ hP => SqT.of (hP.1 _ _ eu)) (fun i x H' H2 hi hP hY => ?_) (fun H' hP => ?_)
      · obtain ⟨rfl, hx⟩ := hY
        obtain ⟨sm, eD⟩ := hP
        obtain ⟨t, et, tt⟩ := term_get tx hx
        have tt := tt.mono (Tk.of sm)
        obtain ⟨pt, r0, rfl, ept, e0, e1, e2⟩ := pairs_get tt
        have lv := varsOf_len (ts.take i)
        rw [List.length_take] at lv
        have ev : varsOf (ts.take (i + 1)) = varsOf (ts.take i) ++ varsOf [t] := by rw [take_next et, varsOf_append]
        rw [ev]
        refine ⟨rfl, .ref pt, rfl, pt, r0, 0, _, rfl, rfl, SqT.of ept, e0, rfl, _, rfl, ?_⟩
        cases t with
        | any =>
          refine no_if (sne (show ("any" : Str) ≠ "variable" by decide +kernel)) ⟨sm, ?_⟩
          rw [varsOf, varsOf, List.append_nil]
          exact eD
        | val k =>
          refine no_if (sne (show ("value" : Str) ≠ "variable" by decide +kernel)) ⟨sm, ?_⟩
          rw [varsOf, varsOf, List.append_nil]
          exact eD
        | var y =>
          refine yes_if ⟨.ref pt, rfl, pt, r0, 1, _, rfl, rfl, SqT.of ept, e1 y rfl, _, eD, small1000 (by rw [List.length_map]; omega), same_put sm nD, ?_⟩
          rw [upd_same, List.map_append]
          rfl
      · obtain ⟨sm, eD⟩ := hP
        rw [lx, List.take_length] at eD
        exact q D H' sm eD nD
    | notl r ts =>
      obtain ⟨p, r0, rfl, ep, e0⟩ := lit_name tv
      refine ⟨.ref p, rfl, p, r0, 0, _, rfl, rfl, SqT.of ep, e0, rfl, _, rfl, no_if (sne (show ("not" : Str) ≠ "fact" by decide +kernel)) ?_⟩
      refine ⟨.ref p, rfl, p, r0, 0, _, rfl, rfl, SqT.of ep, e0, rfl, _, rfl, no_if (sne (show ("not" : Str) ≠ "is" by decide +kernel)) ?_⟩
      refine ⟨.ref p, rfl, p, r0, 0, _, rfl, rfl, SqT.of ep, e0, rfl, _, rfl, no_if (sne (show ("not" : Str) ≠ "count" by decide +kernel)) ?_⟩
      exact ⟨(by show 0 ≤ sizeLine; decide), fun pe npe => q pe _ (same_new npe) upd_same npe⟩
    | cmp o a b =>
      obtain ⟨p, r0, rfl, ep, e0⟩ := lit_name tv
      refine ⟨.ref p, rfl, p, r0, 0, _, rfl, rfl, SqT.of ep, e0, rfl, _, rfl, no_if (sne (show ("compare" : Str) ≠ "fact" by decide +kernel)) ?_⟩
      refine ⟨.ref p, rfl, p, r0, 0, _, rfl, rfl, SqT.of ep, e0, rfl, _, rfl, no_if (sne (show ("compare" : Str) ≠ "is" by decide +kernel)) ?_⟩
      refine ⟨.ref p, rfl, p, r0, 0, _, rfl, rfl, SqT.of ep, e0, rfl, _, rfl, no_if (sne (show ("compare" : Str) ≠ "count" by decide +kernel)) ?_⟩
      exact ⟨(by show 0 ≤ sizeLine; decide), fun pe npe => q pe _ (same_new npe) upd_same npe⟩
    | isl z o a b =>
      obtain ⟨p, x, y, rfl, ep, _⟩ := litI_inv tv
      refine ⟨.ref p, rfl, p, _, 0, .str "is", rfl, rfl, SqT.of ep, rfl, rfl, _, rfl, no_if (sne (show ("is" : Str) ≠ "fact" by decide +kernel)) ?_⟩
      refine ⟨.ref p, rfl, p, _, 0, .str "is", rfl, rfl, SqT.of ep, rfl, rfl, _, rfl, yes_if (iteT ?_)⟩
      exact ⟨.ref p, rfl, p, _, 1, .str z, rfl, rfl, SqT.of ep, rfl, len1, fun pe npe => q pe _ (same_new npe) upd_same npe⟩
    | cnt z r ts =>
      obtain ⟨p, u, xs, rfl, ep, _⟩ := litN_inv tv
      refine ⟨.ref p, rfl, p, _, 0, .str "count", rfl, rfl, SqT.of ep, rfl, rfl, _, rfl, no_if (sne (show ("count" : Str) ≠ "fact" by decide +kernel)) ?_⟩
      refine ⟨.ref p, rfl, p, _, 0, .str "count", rfl, rfl, SqT.of ep, rfl, rfl, _, rfl, no_if (sne (show ("count" : Str) ≠ "is" by decide +kernel)) ?_⟩
      refine ⟨.ref p, rfl, p, _, 0, .str "count", rfl, rfl, SqT.of ep, rfl, rfl, _, rfl, yes_if ?_⟩
      exact ⟨.ref p, rfl, p, _, 1, .str z, rfl, rfl, SqT.of ep, rfl, len1, fun pe npe => q pe _ (same_new npe) upd_same npe⟩
end
end KU

namespace KU
open PySem PySem.Spec PyProof.Rows PySem.HandSPX L2 KA
theorem bindsL_len (l : L) : (bindsL l).length ≤ (litTs l).length + 1 := by
  cases l with
  | fact r ts => exact Nat.le_succ_of_le (varsOf_len ts)
  | notl r ts => exact Nat.zero_le _
  | cmp o a b => exact Nat.zero_le _
  | isl z o a b => exact Nat.le_refl _
  | cnt z r ts => exact Nat.succ_le_succ (Nat.zero_le _)
section
variable {P : Program} {w : World} {K : PySem.W.Frag} {mg : Str → Option Value} {base : Heap} {C fI : Addr}
abbrev dCL (P : Program) (w : World) (K : PySem.W.Frag) (mg : Str → Option Value) (base : Heap) (C : Addr) : Prop := DefX P w K mg base "check_literal" 4 ["known", "literal", "bound"] (spCL C)
abbrev dBd (P : Program) (w : World) (K : PySem.W.Frag) (mg : Str → Option Value) (base : Heap) : Prop := Def P w K mg base "binds" 1 ["literal"] spBd
abbrev sCK : Stmt := topS 19
theorem scCK : FnScope ["known", "body", "bound", "literal", "variable"] ["known", "body"] (defScope sCK) := ⟨rfl, rfl, rfl, by decide +kernel, rfl, by decide +kernel, by decide +kernel⟩
def spCK (C : Addr) : Sp := fun vs H Q E => ∃ (k u : Addr) (xs : List V) (ls : List L) (kvs : List (Key × V)) (wd : Str → Option Nat), vs = [.ref k, .ref u] ∧ H u = some (.tup xs) ∧ Tps H xs (ls.map litD) ∧ (∀ l ∈ ls, (litTs l).length ≤ 9) ∧ ls.length ≤ 9 ∧ H k = some (.dK kvs) ∧ WidK kvs wd ∧
  ((bodyP wd [] ls).1 = none → ∀ p H', Same H H' → H' p = some (.tup ((bodyP wd [] ls).2.map V.str)) → Q (.ref p) H') ∧ ∀ d, (bodyP wd [] ls).1 = some d → Fails C H E d
theorem ok_ck {f : Addr} {fd : FuncData} (F : Fun K "check_literals" "check_literals" sCK f fd) (B : Bt mg) (DL : dCL P w K mg base C) (DB : dBd P w K mg base) : FnOk P w K mg base (L2.CX P w) 5 f fd ["known", "body"] (spCK C) := by
  refine F.okX scCK (fun vs H Q E h => ?_) (fun cdv A outer s H vs Q E hr h => ?_)
  · obtain ⟨_, _, _, _, _, _, rfl, _⟩ := h
    rfl
  · obtain ⟨k, u, xs, ls, kvs, wd, rfl, eu, tx, hl, l9, ek, hw, q0, q1⟩ := h
    have hu := hu_of hr
    have r1 : Room 1 _ := hr.mono (by decide)
    have lx : xs.length = ls.length := by rw [tx.length, List.length_map]
    refine ⟨_, pss_cons (ps_set (i := 2) scCK.nd rfl (.inl rfl) pe_dnewK)
      (pss_cons (ps_for (passes_of rfl) rfl (pi_tup (pv 1)) (pg_name (i := 3) scCK.nd rfl (.inl rfl))
        (pss_cons (ps_expr (pe_defX DL hr (by rfl) (passes_call (takes_of rfl rfl rfl rfl) (fun _ _ _ _ h => h)) (pa_cons (pv 0) (pa_cons (pv 3) (pa_cons (pv 2) pa_nil)))))
        (pss_one (ps_for (passes_of rfl) rfl (pi_list (pe_def DB r1 (by rfl) (pa_cons (pv 3) pa_nil))) (pg_name (i := 4) scCK.nd rfl (.inl rfl)) (pss_one (ps_dput hu (pv 2) (pv 4) pe_bl rfl))))))
      (pss_one (ps_ret (pe_callTy (call_tupleDk rfl) (by rfl) B.tup (by decide +kernel) (pa_cons (pv 2) pa_nil))))), ?_⟩
    refine fun a na => ?_
    have s0 : Same H (upd H a (.dK [])) := same_new na
    refine ⟨.ref u, rfl, u, rfl, ⟨xs, SqT.of (s0 _ _ eu)⟩, ?_⟩
    refine for_it walk_tup (fun i σ H' => Same H H' ∧ (∃ x3 x4, σ = [some (.ref k), some (.ref u), some (.ref a), x3, x4]) ∧ ∃ bs, H' a = some (.dK (bK bs)) ∧ bs.length ≤ 10 * i ∧ bodyP wd [] ls = bodyP wd bs (ls.drop i)) ⟨s0, ⟨none, none, rfl⟩, [], upd_same, Nat.le_refl _, rfl⟩
      (fun i σ H' _ hP => SqT.of (hP.1 _ _ eu)) (fun i x σ H1 H' hi hP hY => ?_) (fun σ H' hP => ?_)
    · obtain ⟨rfl, hx⟩ := hY
      obtain ⟨sm, ⟨x3, x4, rfl⟩, bs, ea, lb, hbd⟩ := hP
      obtain ⟨l, el, tl⟩ := lit_get tx hx
      have tl := tl.mono (Tk.of sm)
      have hlm := hl l (List.mem_of_getElem? el)
      rw [drop_get el] at hbd
      refine ⟨.ref k, rfl, x, rfl, .ref a, rfl, ?_⟩
      refine ⟨k, a, x, l, kvs, bK bs, wd, bs, rfl, tl, by omega, sm _ _ ek, hw, ea, bK_bound bs, fun z H2 s2 => ?_, fun d z => ?_⟩
      · have hb2 : bodyP wd [] ls = bodyP wd (addU bs (bindsL l)) (ls.drop (i + 1)) := by
          rw [hbd]
          show (match litP wd bs l with | some d => (some d, bs) | none => _) = _
          rw [z]
        have sm2 := sm.trans s2
        refine ⟨x, rfl, x, l, rfl, tl.mono (Tk.of s2), by omega, fun p H3 s3 ep np => ?_⟩
        refine ⟨p, rfl, ⟨_, SqL.of ep⟩, ?_⟩
        have nap : p ≠ a := fun z => by rw [z, s2 _ _ ea] at np; cases np
        have lbl := bindsL_len l
        refine for_it walk_list (fun j σ H' => Same H H' ∧ (∃ x4, σ = [some (.ref k), some (.ref u), some (.ref a), some x, x4]) ∧ H' p = some (.lst ((bindsL l).map V.str)) ∧ H' a = some (.dK (bK (addU bs ((bindsL l).take j))))) ⟨sm2.trans s3, ⟨x4, rfl⟩, ep, s3 _ _ (s2 _ _ ea)⟩
          (fun j σ H' _ hP => SqL.of hP.2.2.1) (fun j y σ H4 H' hj hP hY => ?_) (fun σ H' hP => ?_)
        · obtain ⟨rfl, hy⟩ := hY
          obtain ⟨sm4, ⟨x4, rfl⟩, ep4, ea4⟩ := hP
          rw [List.getElem?_map] at hy
          cases ey : (bindsL l)[j]? with
          | none => rw [ey] at hy; cases hy
          | some z =>
            rw [ey] at hy
            have hy : y = .str z := (Option.some.inj hy).symm
            subst hy
            have lu := addU_len ((bindsL l).take j) bs
            rw [List.length_take] at lu
            refine ⟨.ref a, rfl, .str z, rfl, a, _, rfl, DPut.k (k := Sum.inr z) ea4 (small1000 (by rw [bK_len]; omega)), ?_⟩
            rw [bK_put]
            refine ⟨same_put sm4 na, ⟨_, rfl⟩, by rw [upd_ne nap]; exact ep4, ?_⟩
            rw [upd_same, take_next ey, addU_snoc]
        · obtain ⟨sm4, ⟨x4, rfl⟩, ep4, ea4⟩ := hP
          rw [List.length_map, List.take_length] at ea4
          refine ⟨sm4, ⟨_, _, rfl⟩, _, ea4, ?_, hb2⟩
          have lu := addU_len (bindsL l) bs
          omega
      · refine (q1 d ?_).same sm
        rw [hbd]
        show (match litP wd bs l with | some d => (some d, bs) | none => _).1 = _
        rw [z]
    · obtain ⟨sm, ⟨x3, x4, rfl⟩, bs, ea, lb, hbd⟩ := hP
      rw [lx, List.drop_length] at hbd
      have hbd : bodyP wd [] ls = (none, bs) := hbd
      rw [hbd] at q0
      refine ⟨.ref a, rfl, a, bK bs, rfl, .inl ea, fun p np => ?_⟩
      rw [bK_keys]
      exact q0 rfl p _ (sm.trans (same_new np)) upd_same
end
end KU

namespace KU
open PySem PySem.Spec PyProof.Rows L2 KA
section
variable {X : Cx} {k : Nat} {x : Str} {ps : List Str} {sp : Sp} {e : Expr} {es : List Expr} {t : TA} {p pos : Pos}
end
section
variable {P : Program} {w : World} {K : PySem.W.Frag} {mg : Str → Option Value} {base : Heap}
/-- an int or a text -/
def Atom (v : V) (d : PyData) : Prop := (∃ i, v = .int i ∧ d = .int i) ∨ ∃ z, v = .str z ∧ d = .str z
theorem fin_int {st L : Addr} {H H' : Hp} {Q : VK} {i : Int} (q : ∀ (v : V) (d : PyData) H', Dr st L H H' → isAtom d → (∀ H2, Tp H2 v d) → Q v H') (d : Dr st L H H') : Q (.int i) H' := q _ (.int i) _ d trivial (fun _ => .int i)
theorem fin_str {st L : Addr} {H H' : Hp} {Q : VK} {z : Str} (q : ∀ (v : V) (d : PyData) H', Dr st L H H' → isAtom d → (∀ H2, Tp H2 v d) → Q v H') (d : Dr st L H H') : Q (.str z) H' := q _ (.str z) _ d trivial (fun _ => .str z)
theorem nat_of {i : Int} (h : 0 ≤ i) : ∃ n : Nat, i = n := ⟨i.toNat, by omega⟩
end
section
variable {P : Program} {w : World} {K : PySem.W.Frag} {mg : Str → Option Value} {base : Heap}
theorem Tps.snoc_all {ys : List V} {ds : List PyData} {v : V} {d : PyData} (h : ∀ H2, Tps H2 ys ds) (h2 : ∀ H2, Tp H2 v d) : ∀ H2, Tps H2 (ys ++ [v]) (ds ++ [d]) := fun H2 => (h H2).append (.cons (h2 H2) .nil)
end
theorem atom_depth0 {d : PyData} (h : isAtom d) : d.depth = 0 := by
  cases d with
  | int _ => rfl
  | str _ => rfl
  | _ => exact h.elim
theorem dep1 {d : PyData} {k : Nat} (h : d.depth ≤ k) : (PyData.tuple [d]).depth ≤ k + 1 := by
  show max d.depth 0 + 1 ≤ k + 1
  omega
theorem dep2 {d e : PyData} {k : Nat} (h : d.depth ≤ k) (h2 : e.depth ≤ k) : (PyData.tuple [d, e]).depth ≤ k + 1 := by
  show max d.depth (max e.depth 0) + 1 ≤ k + 1
  omega
theorem dep3 {d e f : PyData} {k : Nat} (h : d.depth ≤ k) (h2 : e.depth ≤ k) (h3 : f.depth ≤ k) : (PyData.tuple [d, e, f]).depth ≤ k + 1 := by
  show max d.depth (max e.depth (max f.depth 0)) + 1 ≤ k + 1
  omega
theorem dep4 {d e f g : PyData} {k : Nat} (h : d.depth ≤ k) (h2 : e.depth ≤ k) (h3 : f.depth ≤ k) (h4 : g.depth ≤ k) : (PyData.tuple [d, e, f, g]).depth ≤ k + 1 := by
  show max d.depth (max e.depth (max f.depth (max g.depth 0))) + 1 ≤ k + 1
  omega
theorem dep5 {d e f g i : PyData} {k : Nat} (h : d.depth ≤ k) (h2 : e.depth ≤ k) (h3 : f.depth ≤ k) (h4 : g.depth ≤ k) (h5 : i.depth ≤ k) : (PyData.tuple [d, e, f, g, i]).depth ≤ k + 1 := by
  show max d.depth (max e.depth (max f.depth (max g.depth (max i.depth 0)))) + 1 ≤ k + 1
  omega
theorem n3 {a b c : PyData} (ha : nice a) (hb : nice b) (hc : nice c) : nice (.tuple [a, b, c]) := nice_tup (niceAll_cons ha (niceAll_cons hb (niceAll_cons hc niceAll_nil))) (by show 3 ≤ 1000; decide)
theorem n2 {a b : PyData} (ha : nice a) (hb : nice b) : nice (.tuple [a, b]) := nice_tup (niceAll_cons ha (niceAll_cons hb niceAll_nil)) (by show 2 ≤ 1000; decide)
theorem n4 {a b c d : PyData} (ha : nice a) (hb : nice b) (hc : nice c) (hd : nice d) : nice (.tuple [a, b, c, d]) := nice_tup (niceAll_cons ha (niceAll_cons hb (niceAll_cons hc (niceAll_cons hd niceAll_nil)))) (by show 4 ≤ 1000; decide)
theorem n5 {a b c d e : PyData} (ha : nice a) (hb : nice b) (hc : nice c) (hd : nice d) (he : nice e) : nice (.tuple [a, b, c, d, e]) := nice_tup (niceAll_cons ha (niceAll_cons hb (niceAll_cons hc (niceAll_cons hd (niceAll_cons he niceAll_nil))))) (by show 5 ≤ 1000; decide)
def vk : PyData → PyData
  | .str z => .tuple [.int 1, .str z]
  | d => .tuple [.int 0, d]
def kd (s : Int) (nm : Str) (ds : List PyData) : PyData := .tuple [.int s, .str nm, .tuple ds]
def bf : PyData → PyData → Bool
  | .int a, .int b => decide (a < b)
  | .str a, .str b => decide (a.cps.toList < b.cps.toList)
  | .int _, .str _ => true
  | _, _ => false
def rord : List PyData → List PyData → Int
  | [], [] => 0
  | [], _ :: _ => -1
  | _ :: _, [] => 1
  | x :: xs, y :: ys => if bf x y = true then -1 else if bf y x = true then 1 else rord xs ys
def plt (s : Int) (nm : Str) (s2 : Int) (nm2 : Str) : Bool := if s = s2 then decide (nm.cps.toList < nm2.cps.toList) else decide (s < s2)
def kord (s : Int) (nm : Str) (ds : List PyData) (s2 : Int) (nm2 : Str) (es : List PyData) : Int := if s = s2 ∧ nm = nm2 then rord ds es else 1 - 2 * (if plt s nm s2 nm2 = true then 1 else 0)
abbrev Atoms (ds : List PyData) : Prop := ∀ d ∈ ds, isAtom d
theorem atom_depth {d : PyData} (h : isAtom d) : d.depth = 0 := by
  cases d with
  | int _ => rfl
  | str _ => rfl
  | _ => exact h.elim
theorem vk_depth {d : PyData} (h : isAtom d) : (vk d).depth = 1 := by
  cases d with
  | int _ => rfl
  | str _ => rfl
  | _ => exact h.elim
theorem atoms_depth : ∀ {ds : List PyData}, Atoms ds → PyData.depthAll ds = 0
  | [], _ => rfl
  | d :: r, h => by
    rw [PyData.depthAll, atom_depth (h d List.mem_cons_self), atoms_depth (fun x hx => h x (List.mem_cons_of_mem _ hx))]
    rfl
theorem vks_depth : ∀ {ds : List PyData}, Atoms ds → PyData.depthAll (ds.map vk) ≤ 1
  | [], _ => Nat.zero_le _
  | d :: r, h => by
    rw [List.map_cons, PyData.depthAll, vk_depth (h d List.mem_cons_self)]
    have t := vks_depth (ds := r) (fun x hx => h x (List.mem_cons_of_mem _ hx))
    exact Nat.max_le.mpr ⟨Nat.le_refl 1, t⟩
/-- an item -/
inductive It1 where
  | rel (nm : Str) (n : Int)
  | fact (nm : Str) (ds : List PyData)
  | rule (nm rl : Str) (ts body : PyData)
  | den (nm : Str) (body : PyData)
def itD : It1 → PyData
  | .rel nm n => .tuple [.str "relation", .str nm, .int n]
  | .fact nm ds => .tuple [.str "fact", .str nm, .tuple ds]
  | .rule nm rl ts body => .tuple [.str "rule", .str nm, .str rl, ts, body]
  | .den nm body => .tuple [.str "denial", .str nm, body]
def okI : It1 → Prop
  | .rel _ _ => True
  | .fact _ ds => Atoms ds ∧ ds.length ≤ 1000
  | .rule _ _ ts body => nice ts ∧ nice body ∧ ts.depth ≤ 4 ∧ body.depth ≤ 4
  | .den _ body => nice body ∧ body.depth ≤ 4
def keyI : It1 → Int × Str × List PyData
  | .rel nm _ => (0, nm, [])
  | .fact nm ds => (1, nm, ds)
  | .rule nm _ _ _ => (2, nm, [])
  | .den nm _ => (3, nm, [])
abbrev kdI (i : It1) : PyData := kd (keyI i).1 (keyI i).2.1 (keyI i).2.2
theorem okI_key {i : It1} (h : okI i) : Atoms (keyI i).2.2 ∧ (keyI i).2.2.length ≤ 1000 := by
  cases i with
  | rel nm n => exact ⟨(fun x hx => by cases hx), Nat.zero_le _⟩
  | fact nm ds => exact h
  | rule nm rl ts body => exact ⟨(fun x hx => by cases hx), Nat.zero_le _⟩
  | den nm body => exact ⟨(fun x hx => by cases hx), Nat.zero_le _⟩
theorem nice_row {ds : List PyData} (h : Atoms ds) (l : ds.length ≤ 1000) : nice (.tuple ds) := nice_tup (niceAll_of fun d hd => nice_atom (h d hd)) l
theorem okI_nice {i : It1} (h : okI i) : nice (itD i) ∧ (itD i).depth ≤ 5 := by
  cases i with
  | rel nm n => exact ⟨n3 (nice_str _) (nice_str _) (nice_int _), dep3 (k := 4) (Nat.zero_le _) (Nat.zero_le _) (Nat.zero_le _)⟩
  | fact nm ds =>
    refine ⟨n3 (nice_str _) (nice_str _) (nice_row h.1 h.2), dep3 (k := 4) (Nat.zero_le _) (Nat.zero_le _) ?_⟩
    have t := atoms_depth h.1
    show PyData.depthAll ds + 1 ≤ 4
    omega
  | rule nm rl ts body => exact ⟨n5 (nice_str _) (nice_str _) (nice_str _) h.1 h.2.1, dep5 (k := 4) (Nat.zero_le _) (Nat.zero_le _) (Nat.zero_le _) h.2.2.1 h.2.2.2⟩
  | den nm body => exact ⟨n3 (nice_str _) (nice_str _) h.1, dep3 (k := 4) (Nat.zero_le _) (Nat.zero_le _) h.2⟩
theorem small_row {ds : List PyData} (h : Atoms ds) : small (.tuple (ds.map vk)) := by
  show PyData.depthAll (ds.map vk) + 1 ≤ 64
  have t := vks_depth h
  omega
theorem same_add {H H' : Hp} {p : Addr} {o : HO} (s : Same H H') (h : H' p = none) : Same H (upd H' p o) := s.trans (same_new h)
section
variable {P : Program} {w : World} {K : PySem.W.Frag} {mg : Str → Option Value} {base : Heap}
abbrev sVK : Stmt := topS 24
theorem scVK : FnScope ["value"] ["value"] (defScope sVK) := ⟨rfl, rfl, rfl, by decide +kernel, rfl, by decide +kernel, by decide +kernel⟩
def spVK : Sp := fun vs H Q _ => ∃ (v : V) (d : PyData), vs = [v] ∧ Tp H v d ∧ isAtom d ∧ ∀ (p : Addr) H', Same H H' → Tp H' (.ref p) (vk d) → Q (.ref p) H'
theorem ok_vk {f : Addr} {fd : FuncData} (F : Fun K "value_key" "value_key" sVK f fd) (B : Bt mg) : FnOk P w K mg base CX0 1 f fd ["value"] spVK := by
  refine F.ok scVK (fun vs H Q E h => ?_) (fun cdv A outer s H vs Q E hr h => ?_)
  · obtain ⟨v, d, rfl, _⟩ := h
    rfl
  · obtain ⟨v, d, rfl, tv, ad, q⟩ := h
    refine ⟨_, pss_cons (ps_if (pt_val (pe_callB call_isi (by rfl) B.isi (by decide +kernel) (pa_cons (pv 0) (pa_cons (pe_bltn (v := .ty "str") (u := .type "str") (by rfl) B.str (by decide +kernel) rfl) pa_nil)))) (pss_one (ps_ret (pe_tup (pa_cons pe_int (pa_cons (pv 0) pa_nil))))) pss_nil)
      (pss_one (ps_ret (pe_tup (pa_cons pe_int (pa_cons (pv 0) pa_nil))))), ?_⟩
    cases tv with
    | int i =>
      refine ⟨.int i, rfl, .int i, .ty "str", _, _, false, rfl, .ty "str", .base (.int i), kit_ty (by decide +kernel), _, rfl, iteF ?_⟩
      exact ⟨.int i, rfl, (by show 2 ≤ sizeLine; decide), fun p np => q p _ (same_new np) (.tup upd_same (.cons (.int 0) (.cons (.int i) .nil)))⟩
    | str z =>
      refine ⟨.str z, rfl, .str z, .ty "str", _, _, true, rfl, .ty "str", .base (.str z), kit_ty (by decide +kernel), _, rfl, iteT ?_⟩
      exact ⟨.str z, rfl, (by show 2 ≤ sizeLine; decide), fun p np => q p _ (same_new np) (.tup upd_same (.cons (.int 1) (.cons (.str z) .nil)))⟩
    | non => exact ad.elim
    | bl b => exact ad.elim
    | tup e r => exact ad.elim
abbrev sRK : Stmt := topS 25
theorem scRK : FnScope ["row", "value"] ["row"] (defScope sRK) := ⟨rfl, rfl, rfl, by decide +kernel, rfl, by decide +kernel, by decide +kernel⟩
def spRK : Sp := fun vs H Q _ => ∃ (v : V) (ds : List PyData), vs = [v] ∧ Tp H v (.tuple ds) ∧ Atoms ds ∧ ds.length ≤ 1000 ∧ ∀ (p : Addr) H', Same H H' → Tp H' (.ref p) (.tuple (ds.map vk)) → Q (.ref p) H'
theorem ok_rk {f : Addr} {fd : FuncData} (F : Fun K "row_key" "row_key" sRK f fd) (B : Bt mg) (DV : Def P w K mg base "value_key" 1 ["value"] spVK) : FnOk P w K mg base CX0 2 f fd ["row"] spRK := by
  refine F.ok scRK (fun vs H Q E h => ?_) (fun cdv A outer s H vs Q E hr h => ?_)
  · obtain ⟨v, d, rfl, _⟩ := h
    rfl
  · obtain ⟨v, ds, rfl, tv, ad, ld, q⟩ := h
    refine ⟨_, pss_one (ps_ret (pe_callTy call_tuple_of (by rfl) B.tup (by decide +kernel) (pa_cons (pe_lc (own := [("value", 1)]) (g := gName 1) (tt := tYes) rfl scRK.nd (pi_tup (pv 0))
      (blkOk_by (own := [("value", 1)]) (N := ["row", "value"]) (sc := defScope sRK) (by decide +kernel)) (fun _ _ _ _ _ => pg_name (i := 1) scRK.nd rfl (Or.inl rfl)) (fun _ _ _ _ _ => pts_nil)
      (fun _ _ _ _ _ => pe_def DV hr (by rfl) (pa_cons (pv 1) pa_nil))) pa_nil))), ?_⟩
    cases tv with
    | @tup a xs _ e r =>
      have lx := r.length
      refine ⟨.ref a, rfl, a, rfl, ⟨xs, SqT.of e⟩, fun D nD => ?_⟩
      refine lc_tup (K := K) (a := a) (xs := xs) (fun i H' => Same H H' ∧ ∃ ys, H' D = some (.lst ys) ∧ Tps H' ys ((ds.take i).map vk)) ⟨same_new nD, [], upd_same, .nil⟩ (fun i H' _ hP => SqT.of (hP.1 _ _ e)) (fun i x H' hx hP => ?_) (fun H' hP => ?_)
      · obtain ⟨sm, ys, eD, ht⟩ := hP
        obtain ⟨d, ed, td⟩ := r.get hx
        have hi : i < xs.length := by
          rcases Nat.lt_or_ge i xs.length with c | c
          · exact c
          · rw [List.getElem?_eq_none c] at hx
            cases hx
        refine ⟨rfl, ?_⟩
        refine iteT (B := True) ?_
        refine ⟨x, rfl, x, d, rfl, td.mono (Tk.of sm), ad d (List.mem_of_getElem? ed), fun p H2 s2 tp => ?_⟩
        have ly : ys.length ≤ 1000 := by
          rw [ht.length, List.length_map, List.length_take]
          omega
        have eD2 := s2 _ _ eD
        have kk : Tk H2 (upd H2 D (.lst (ys ++ [.ref p]))) := Tk.lst eD2
        refine ⟨ys, eD2, small1000 ly, same_put (sm.trans s2) nD, ys ++ [.ref p], upd_same, ?_⟩
        rw [List.take_add_one, ed, List.map_append]
        exact ((ht.mono (Tk.of s2)).mono kk).append (.cons (tp.mono kk) .nil)
      · obtain ⟨sm, ys, eD, ht⟩ := hP
        rw [List.take_of_length_le (by omega)] at ht
        exact ⟨D, ys, rfl, .inl ⟨SqL.of eD, fun p np => q p _ (same_add sm np) (.tup upd_same (ht.mono (Tk.new np)))⟩⟩
abbrev dRK (P : Program) (w : World) (K : PySem.W.Frag) (mg : Str → Option Value) (base : Heap) : Prop := Def P w K mg base "row_key" 2 ["row"] spRK
abbrev sSR : Stmt := topS 26
theorem scSR : FnScope ["first", "second"] ["first", "second"] (defScope sSR) := ⟨rfl, rfl, rfl, by decide +kernel, rfl, by decide +kernel, by decide +kernel⟩
def spSR : Sp := fun vs H Q _ => ∃ (v u : V) (ds es : List PyData), vs = [v, u] ∧ Tp H v (.tuple ds) ∧ Tp H u (.tuple es) ∧ Atoms ds ∧ Atoms es ∧ ds.length ≤ 1000 ∧ es.length ≤ 1000 ∧
  ∀ H', Same H H' → Q (.bl (PyData.eqv (.tuple (ds.map vk)) (.tuple (es.map vk)))) H'
theorem ok_sr {f : Addr} {fd : FuncData} (F : Fun K "same_row" "same_row" sSR f fd) (DR : dRK P w K mg base) : FnOk P w K mg base CX0 3 f fd ["first", "second"] spSR := by
  refine F.ok scSR (fun vs H Q E h => ?_) (fun cdv A outer s H vs Q E hr h => ?_)
  · obtain ⟨v, u, ds, es, rfl, _⟩ := h
    rfl
  · obtain ⟨v, u, ds, es, rfl, tv, tu, ad, ae, ld, le, q⟩ := h
    refine ⟨_, pss_one (ps_ret (pe_cmpR (op_eqP hr.units) (pe_def DR hr (by rfl) (pa_cons (pv 0) pa_nil)) (pe_def DR hr (by rfl) (pa_cons (pv 1) pa_nil)) (nomark _))), ?_⟩
    refine ⟨v, rfl, v, ds, rfl, tv, ad, ld, fun p H1 s1 t1 => ⟨u, rfl, u, es, rfl, tu.mono (Tk.of s1), ae, le, fun p2 H2 s2 t2 => ?_⟩⟩
    exact ⟨_, _, t1.mono (Tk.of s2), t2, small_row ad, q _ (s1.trans s2)⟩
theorem inv3 {H : Hp} {v : V} {a b : Str} {d : PyData} (t : Tp H v (.tuple [.str a, .str b, d])) : ∃ p, v = .ref p ∧ ∃ x, H p = some (.tup [.str a, .str b, x]) ∧ Tp H x d := by
  cases t with
  | tup e r =>
    cases r with
    | cons h1 r => cases r with
      | cons h2 r => cases r with
        | cons h3 r =>
          cases r
          cases h1
          cases h2
          exact ⟨_, rfl, _, e, h3⟩
theorem inv5 {H : Hp} {v : V} {a b c : Str} {d f : PyData} (t : Tp H v (.tuple [.str a, .str b, .str c, d, f])) : ∃ p, v = .ref p ∧ ∃ x y z, H p = some (.tup [.str a, .str b, x, y, z]) := by
  cases t with
  | tup e r =>
    cases r with
    | cons h1 r => cases r with
      | cons h2 r => cases r with
        | cons h3 r => cases r with
          | cons h4 r => cases r with
            | cons h5 r =>
              cases r
              cases h1
              cases h2
              exact ⟨_, rfl, _, _, _, e⟩
end
section
variable {P : Program} {w : World} {K : PySem.W.Frag} {mg : Str → Option Value} {base : Heap}
theorem rord_end : ∀ {ds es : List PyData}, min ds.length es.length = 0 → rord ds es = (if es.length < ds.length then (1 : Int) else 0) - (if ds.length < es.length then (1 : Int) else 0)
  | [], [], _ => rfl
  | [], e :: r, _ => by
    rw [rord, if_neg (by simp), if_pos (by simp)]
    rfl
  | d :: r, [], _ => by
    rw [rord, if_pos (by simp), if_neg (by simp)]
    rfl
  | d :: r, e :: t, h => by
    simp only [List.length_cons] at h
    omega
end
theorem str_tri (x y : Str) : (x.cps.toList < y.cps.toList ∧ ¬ y.cps.toList < x.cps.toList ∧ x ≠ y) ∨ (¬ x.cps.toList < y.cps.toList ∧ y.cps.toList < x.cps.toList ∧ x ≠ y) ∨ (x = y ∧ ¬ x.cps.toList < y.cps.toList ∧ ¬ y.cps.toList < x.cps.toList) := by
  by_cases h1 : x.cps.toList < y.cps.toList
  · refine .inl ⟨h1, List.lt_asymm h1, fun z => ?_⟩
    subst z
    exact List.lt_irrefl _ h1
  · by_cases h2 : y.cps.toList < x.cps.toList
    · refine .inr (.inl ⟨h1, h2, fun z => ?_⟩)
      subst z
      exact List.lt_irrefl _ h2
    · exact .inr (.inr ⟨str_eq (List.le_antisymm (List.not_lt.mp h2) (List.not_lt.mp h1)), h1, h2⟩)
/-- two atoms: less, greater, the same; and their keys -/
theorem atom_cmp : ∀ {d e : PyData}, isAtom d → isAtom e →
    (bf d e = true ∧ bf e d = false ∧ PyData.eqv (vk d) (vk e) = false ∧ dlt (vk d) (vk e) = some true ∧ dgt (vk d) (vk e) = some false) ∨
    (bf d e = false ∧ bf e d = true ∧ PyData.eqv (vk d) (vk e) = false ∧ dlt (vk d) (vk e) = some false ∧ dgt (vk d) (vk e) = some true) ∨
    (bf d e = false ∧ bf e d = false ∧ PyData.eqv (vk d) (vk e) = true ∧ dlt (vk d) (vk e) = some false ∧ dgt (vk d) (vk e) = some false)
  | .int a, .int b, _, _ => by
    rcases Int.lt_trichotomy a b with c | c | c
    · refine .inl ⟨decide_eq_true c, decide_eq_false (by omega), ?_, ?_, ?_⟩
      · simp [vk, PyData.eqv, PyData.eqvAll]
        omega
      · have n : ¬ a = b := by omega
        simp [vk, dlt, dltAll, PyData.eqv, c, n]
      · have n : ¬ a = b := by omega
        have n2 : ¬ b < a := by omega
        simp [vk, dgt, dgtAll, PyData.eqv, n, n2]
    · subst c
      refine .inr (.inr ⟨decide_eq_false (by omega), decide_eq_false (by omega), ?_, ?_, ?_⟩)
      · simp [vk, PyData.eqv, PyData.eqvAll]
      · simp [vk, dlt, dltAll, PyData.eqv]
      · simp [vk, dgt, dgtAll, PyData.eqv]
    · refine .inr (.inl ⟨decide_eq_false (by omega), decide_eq_true c, ?_, ?_, ?_⟩)
      · simp [vk, PyData.eqv, PyData.eqvAll]
        omega
      · have n : ¬ a = b := by omega
        have n2 : ¬ a < b := by omega
        simp [vk, dlt, dltAll, PyData.eqv, n, n2]
      · have n : ¬ a = b := by omega
        simp [vk, dgt, dgtAll, PyData.eqv, n, c]
  | .int a, .str z, _, _ => .inl ⟨rfl, rfl, by simp [vk, PyData.eqv, PyData.eqvAll], by simp [vk, dlt, dltAll, PyData.eqv], by simp [vk, dgt, dgtAll, PyData.eqv]⟩
  | .str z, .int a, _, _ => .inr (.inl ⟨rfl, rfl, by simp [vk, PyData.eqv, PyData.eqvAll], by simp [vk, dlt, dltAll, PyData.eqv], by simp [vk, dgt, dgtAll, PyData.eqv]⟩)
  | .str x, .str y, _, _ => by
    rcases str_tri x y with ⟨h1, h2, h3⟩ | ⟨h1, h2, h3⟩ | ⟨h3, h1, h2⟩
    · refine .inl ⟨decide_eq_true h1, decide_eq_false h2, ?_, ?_, ?_⟩
      · simp only [vk, PyData.eqv, PyData.eqvAll]
        rw [show (x == y) = false from (eqv_str x y).trans (decide_eq_false h3)]
        rfl
      · simp only [vk, dlt, dltAll, eqv_str, eqv_int, decide_eq_false h3, decide_eq_true h1]
        rfl
      · simp only [vk, dgt, dgtAll, eqv_str, eqv_int, decide_eq_false h3, decide_eq_false h2]
        rfl
    · refine .inr (.inl ⟨decide_eq_false h1, decide_eq_true h2, ?_, ?_, ?_⟩)
      · simp only [vk, PyData.eqv, PyData.eqvAll]
        rw [show (x == y) = false from (eqv_str x y).trans (decide_eq_false h3)]
        rfl
      · simp only [vk, dlt, dltAll, eqv_str, eqv_int, decide_eq_false h3, decide_eq_false h1]
        rfl
      · simp only [vk, dgt, dgtAll, eqv_str, eqv_int, decide_eq_false h3, decide_eq_true h2]
        rfl
    · subst h3
      refine .inr (.inr ⟨decide_eq_false h1, decide_eq_false h1, ?_, ?_, ?_⟩)
      · simp only [vk, PyData.eqv, PyData.eqvAll]
        rw [show (x == x) = true from (eqv_str x x).trans (decide_eq_true rfl)]
        rfl
      · simp only [vk, dlt, dltAll, eqv_str, eqv_int, decide_true]
        rfl
      · simp only [vk, dgt, dgtAll, eqv_str, eqv_int, decide_true]
        rfl
/-- what _law_agrees asks of two keys and a number -/
def Agree (d e : PyData) (o : Int) : Prop := dlt d e = some (decide (o < 0)) ∧ PyData.eqv d e = decide (o = 0) ∧ dgt d e = some (decide (0 < o))
theorem atom_agree {d e : PyData} (hd : isAtom d) (he : isAtom e) : Agree (vk d) (vk e) (rord [d] [e]) := by
  rcases atom_cmp hd he with ⟨h1, h2, h3, h4, h5⟩ | ⟨h1, h2, h3, h4, h5⟩ | ⟨h1, h2, h3, h4, h5⟩
  · have o : rord [d] [e] = -1 := by rw [rord, if_pos h1]
    rw [o]
    exact ⟨h4, h3, h5⟩
  · have o : rord [d] [e] = 1 := by rw [rord, if_neg (by rw [h1]; exact Bool.false_ne_true), if_pos h2]
    rw [o]
    exact ⟨h4, h3, h5⟩
  · have o : rord [d] [e] = 0 := by
      rw [rord, if_neg (by rw [h1]; exact Bool.false_ne_true), if_neg (by rw [h2]; exact Bool.false_ne_true)]
      rfl
    rw [o]
    exact ⟨h4, h3, h5⟩
theorem row_agree_all : ∀ {ds es : List PyData}, Atoms ds → Atoms es → dltAll (ds.map vk) (es.map vk) = some (decide (rord ds es < 0)) ∧ PyData.eqvAll (ds.map vk) (es.map vk) = decide (rord ds es = 0) ∧ dgtAll (ds.map vk) (es.map vk) = some (decide (0 < rord ds es))
  | [], [], _, _ => by
    refine ⟨?_, ?_, ?_⟩
    · rw [List.map_nil, dltAll]; rfl
    · rfl
    · rw [List.map_nil, dgtAll]; rfl
  | [], e :: r, _, _ => by
    refine ⟨?_, ?_, ?_⟩
    · rw [List.map_nil, List.map_cons, dltAll]; rfl
    · rfl
    · rw [List.map_nil, List.map_cons, dgtAll]; rfl
  | d :: r, [], _, _ => by
    refine ⟨?_, ?_, ?_⟩
    · rw [List.map_nil, List.map_cons, dltAll]; rfl
    · rfl
    · rw [List.map_nil, List.map_cons, dgtAll]; rfl
  | d :: r, e :: t, hd, he => by
    have ih := row_agree_all (ds := r) (es := t) (fun x hx => hd x (List.mem_cons_of_mem _ hx)) (fun x hx => he x (List.mem_cons_of_mem _ hx))
    rw [List.map_cons, List.map_cons, dltAll, dgtAll, PyData.eqvAll, rord]
    rcases atom_cmp (hd d List.mem_cons_self) (he e List.mem_cons_self) with ⟨h1, h2, h3, h4, h5⟩ | ⟨h1, h2, h3, h4, h5⟩ | ⟨h1, h2, h3, h4, h5⟩
    · rw [h1, h3, h4, h5]
      exact ⟨rfl, rfl, rfl⟩
    · rw [h1, h2, h3, h4, h5]
      exact ⟨rfl, rfl, rfl⟩
    · rw [h1, h2, h3, if_neg Bool.false_ne_true, if_neg Bool.false_ne_true, if_pos rfl, if_pos rfl, Bool.true_and]
      exact ih
theorem row_agree {ds es : List PyData} (hd : Atoms ds) (he : Atoms es) : Agree (.tuple (ds.map vk)) (.tuple (es.map vk)) (rord ds es) := by
  obtain ⟨h1, h2, h3⟩ := row_agree_all hd he
  refine ⟨?_, ?_, ?_⟩
  · rw [dlt]
    exact h1
  · exact h2
  · rw [dgt]
    exact h3
theorem pair_eqv (s : Int) (nm : Str) (s2 : Int) (nm2 : Str) : PyData.eqv (.tuple [.int s, .str nm]) (.tuple [.int s2, .str nm2]) = decide (s = s2 ∧ nm = nm2) := by
  show (PyData.eqv (.int s) (.int s2) && (PyData.eqv (.str nm) (.str nm2) && true)) = _
  rw [eqv_int, eqv_str, Bool.and_true, Bool.decide_and]
theorem pair_dlt {s : Int} {nm : Str} {s2 : Int} {nm2 : Str} (h : ¬ (s = s2 ∧ nm = nm2)) : dlt (.tuple [.int s, .str nm]) (.tuple [.int s2, .str nm2]) = some (plt s nm s2 nm2) := by
  rw [dlt, dltAll, dltAll, eqv_int, eqv_str, plt]
  by_cases c : s = s2
  · have n : nm ≠ nm2 := fun z => h ⟨c, z⟩
    rw [decide_eq_true c, decide_eq_false n, if_pos rfl, if_neg Bool.false_ne_true, if_pos c, dlt]
  · rw [decide_eq_false c, if_neg Bool.false_ne_true, if_neg c, dlt]
theorem key_agree {s : Int} {nm : Str} {ds : List PyData} {s2 : Int} {nm2 : Str} {es : List PyData} (hd : Atoms ds) (he : Atoms es) : Agree (kd s nm (ds.map vk)) (kd s2 nm2 (es.map vk)) (kord s nm ds s2 nm2 es) := by
  obtain ⟨h1, h2, h3⟩ := row_agree hd he
  unfold kord
  by_cases c : s = s2
  · subst c
    by_cases n : nm = nm2
    · subst n
      rw [if_pos ⟨rfl, rfl⟩]
      refine ⟨?_, ?_, ?_⟩
      · unfold kd
        rw [dlt, dltAll, dltAll, dltAll, dltAll, eqv_int, eqv_str, decide_eq_true rfl, decide_eq_true rfl, if_pos rfl, if_pos rfl, h1, h2]
        by_cases z : rord ds es = 0
        · rw [decide_eq_true z, if_pos rfl, z]
          rfl
        · rw [decide_eq_false z, if_neg Bool.false_ne_true]
      · show (PyData.eqv (.int s) (.int s) && (PyData.eqv (.str nm) (.str nm) && (PyData.eqv (.tuple (ds.map vk)) (.tuple (es.map vk)) && true))) = _
        rw [eqv_int, eqv_str, decide_eq_true rfl, decide_eq_true rfl, h2, Bool.true_and, Bool.true_and, Bool.and_true]
      · unfold kd
        rw [dgt, dgtAll, dgtAll, dgtAll, dgtAll, eqv_int, eqv_str, decide_eq_true rfl, decide_eq_true rfl, if_pos rfl, if_pos rfl, h3, h2]
        by_cases z : rord ds es = 0
        · rw [decide_eq_true z, if_pos rfl, z]
          rfl
        · rw [decide_eq_false z, if_neg Bool.false_ne_true]
    · rw [if_neg (fun z => n z.2)]
      have dn := decide_eq_false n
      rcases str_tri nm nm2 with ⟨g1, g2, g3⟩ | ⟨g1, g2, g3⟩ | ⟨g3, g1, g2⟩
      · have pl : plt s nm s nm2 = true := by rw [plt, if_pos rfl, decide_eq_true g1]
        rw [pl, if_pos rfl]
        refine ⟨?_, ?_, ?_⟩
        · unfold kd
          rw [dlt, dltAll, dltAll, eqv_int, eqv_str, decide_eq_true rfl, dn, if_pos rfl, if_neg Bool.false_ne_true, dlt, decide_eq_true g1]
          rfl
        · show (PyData.eqv (.int s) (.int s) && (PyData.eqv (.str nm) (.str nm2) && (PyData.eqv (.tuple (ds.map vk)) (.tuple (es.map vk)) && true))) = _
          rw [eqv_str, dn, Bool.false_and, Bool.and_false]
          rfl
        · unfold kd
          rw [dgt, dgtAll, dgtAll, eqv_int, eqv_str, decide_eq_true rfl, dn, if_pos rfl, if_neg Bool.false_ne_true, dgt, decide_eq_false g2]
          rfl
      · have pl : plt s nm s nm2 = false := by rw [plt, if_pos rfl, decide_eq_false g1]
        rw [pl, if_neg Bool.false_ne_true]
        refine ⟨?_, ?_, ?_⟩
        · unfold kd
          rw [dlt, dltAll, dltAll, eqv_int, eqv_str, decide_eq_true rfl, dn, if_pos rfl, if_neg Bool.false_ne_true, dlt, decide_eq_false g1]
          rfl
        · show (PyData.eqv (.int s) (.int s) && (PyData.eqv (.str nm) (.str nm2) && (PyData.eqv (.tuple (ds.map vk)) (.tuple (es.map vk)) && true))) = _
          rw [eqv_str, dn, Bool.false_and, Bool.and_false]
          rfl
        · unfold kd
          rw [dgt, dgtAll, dgtAll, eqv_int, eqv_str, decide_eq_true rfl, dn, if_pos rfl, if_neg Bool.false_ne_true, dgt, decide_eq_true g2]
          rfl
      · exact absurd g3 n
  · rw [if_neg (fun z => c z.1)]
    have dc := decide_eq_false c
    rcases Int.lt_or_gt_of_ne c with g1 | g1
    · have pl : plt s nm s2 nm2 = true := by rw [plt, if_neg c, decide_eq_true g1]
      rw [pl, if_pos rfl]
      refine ⟨?_, ?_, ?_⟩
      · unfold kd
        rw [dlt, dltAll, eqv_int, dc, if_neg Bool.false_ne_true, dlt, decide_eq_true g1]
        rfl
      · show (PyData.eqv (.int s) (.int s2) && (PyData.eqv (.str nm) (.str nm2) && (PyData.eqv (.tuple (ds.map vk)) (.tuple (es.map vk)) && true))) = _
        rw [eqv_int, dc, Bool.false_and]
        rfl
      · unfold kd
        rw [dgt, dgtAll, eqv_int, dc, if_neg Bool.false_ne_true, dgt, decide_eq_false (by omega)]
        rfl
    · have pl : plt s nm s2 nm2 = false := by rw [plt, if_neg c, decide_eq_false (by omega)]
      rw [pl, if_neg Bool.false_ne_true]
      refine ⟨?_, ?_, ?_⟩
      · unfold kd
        rw [dlt, dltAll, eqv_int, dc, if_neg Bool.false_ne_true, dlt, decide_eq_false (by omega)]
        rfl
      · show (PyData.eqv (.int s) (.int s2) && (PyData.eqv (.str nm) (.str nm2) && (PyData.eqv (.tuple (ds.map vk)) (.tuple (es.map vk)) && true))) = _
        rw [eqv_int, dc, Bool.false_and]
        rfl
      · unfold kd
        rw [dgt, dgtAll, eqv_int, dc, if_neg Bool.false_ne_true, dgt, decide_eq_true (show s > s2 from g1)]
        rfl
section
variable {P : Program} {w : World} {K : PySem.W.Frag} {mg : Str → Option Value} {base : Heap}
theorem cut3 : ¬ (HT.sIx 3 0 none = 0 ∧ HT.sIx 3 3 (some 2) = 3) := by decide
theorem small_pair (a : Int) (z : Str) : small (.tuple [.int a, .str z]) := by
  show max 0 (max 0 0) + 1 ≤ 64
  decide
end
section
variable {P : Program} {w : World} {K : PySem.W.Frag} {mg : Str → Option Value} {base : Heap}
end
end KU

namespace KU
open PySem PySem.Spec PyProof.Rows L2 KA
theorem atom_tri : ∀ {d e : PyData}, isAtom d → isAtom e → (bf d e = true ∧ bf e d = false ∧ d ≠ e) ∨ (bf d e = false ∧ bf e d = true ∧ d ≠ e) ∨ (bf d e = false ∧ bf e d = false ∧ d = e)
  | .int a, .int b, _, _ => by
    rcases Int.lt_trichotomy a b with c | c | c
    · exact .inl ⟨decide_eq_true c, decide_eq_false (by omega), fun z => by injection z with z; omega⟩
    · exact .inr (.inr ⟨decide_eq_false (by omega), decide_eq_false (by omega), by rw [c]⟩)
    · exact .inr (.inl ⟨decide_eq_false (by omega), decide_eq_true c, fun z => by injection z with z; omega⟩)
  | .int a, .str z, _, _ => .inl ⟨rfl, rfl, fun z => nomatch z⟩
  | .str z, .int a, _, _ => .inr (.inl ⟨rfl, rfl, fun z => nomatch z⟩)
  | .str x, .str y, _, _ => by
    rcases str_tri x y with ⟨h1, h2, h3⟩ | ⟨h1, h2, h3⟩ | ⟨h3, h1, h2⟩
    · exact .inl ⟨decide_eq_true h1, decide_eq_false h2, fun z => by injection z with z; exact h3 z⟩
    · exact .inr (.inl ⟨decide_eq_false h1, decide_eq_true h2, fun z => by injection z with z; exact h3 z⟩)
    · exact .inr (.inr ⟨decide_eq_false h1, decide_eq_false h2, by rw [h3]⟩)
theorem bf_trans : ∀ {d e f : PyData}, bf d e = true → bf e f = true → bf d f = true
  | .int a, .int b, .int c, h1, h2 => by
    have h1 := of_decide_eq_true h1
    have h2 := of_decide_eq_true h2
    exact decide_eq_true (Int.lt_trans h1 h2)
  | .int a, .int b, .str c, h1, h2 => rfl
  | .int a, .str b, .str c, h1, h2 => rfl
  | .str a, .str b, .str c, h1, h2 => by
    have h1 := of_decide_eq_true h1
    have h2 := of_decide_eq_true h2
    exact decide_eq_true (List.lt_trans h1 h2)
theorem rord_step {d e : PyData} {ds es : List PyData} : rord (d :: ds) (e :: es) = if bf d e = true then -1 else if bf e d = true then 1 else rord ds es := by
  rw [rord]
theorem rord_neg : ∀ {ds es : List PyData}, Atoms ds → Atoms es → rord es ds = - rord ds es
  | [], [], _, _ => rfl
  | [], _ :: _, _, _ => rfl
  | _ :: _, [], _, _ => rfl
  | d :: ds, e :: es, hd, he => by
    have ih := rord_neg (ds := ds) (es := es) (fun x hx => hd x (List.mem_cons_of_mem _ hx)) (fun x hx => he x (List.mem_cons_of_mem _ hx))
    rw [rord_step, rord_step]
    rcases atom_tri (hd d List.mem_cons_self) (he e List.mem_cons_self) with ⟨h1, h2, _⟩ | ⟨h1, h2, _⟩ | ⟨h1, h2, _⟩
    · rw [h1, h2]; rfl
    · rw [h1, h2]; rfl
    · rw [h1, h2]
      simpa using ih
theorem rord_zero : ∀ {ds es : List PyData}, Atoms ds → Atoms es → (rord ds es = 0 ↔ ds = es)
  | [], [], _, _ => ⟨fun _ => rfl, fun _ => rfl⟩
  | [], _ :: _, _, _ => ⟨fun h => by rw [rord] at h; omega, fun h => nomatch h⟩
  | _ :: _, [], _, _ => ⟨fun h => by rw [rord] at h; omega, fun h => nomatch h⟩
  | d :: ds, e :: es, hd, he => by
    have ih := rord_zero (ds := ds) (es := es) (fun x hx => hd x (List.mem_cons_of_mem _ hx)) (fun x hx => he x (List.mem_cons_of_mem _ hx))
    rw [rord_step]
    rcases atom_tri (hd d List.mem_cons_self) (he e List.mem_cons_self) with ⟨h1, h2, h3⟩ | ⟨h1, h2, h3⟩ | ⟨h1, h2, h3⟩
    · rw [h1]
      exact ⟨fun h => by simp at h, fun h => absurd (List.cons.inj h).1 h3⟩
    · rw [h1, h2]
      exact ⟨fun h => by simp at h, fun h => absurd (List.cons.inj h).1 h3⟩
    · rw [h1, h2, h3]
      simp only [Bool.false_eq_true, if_false]
      exact ⟨fun h => by rw [ih.mp h], fun h => ih.mpr (List.cons.inj h).2⟩
theorem rord_trans : ∀ {as bs cs : List PyData}, Atoms as → Atoms bs → Atoms cs → rord as bs < 0 → rord bs cs < 0 → rord as cs < 0
  | [], [], _, _, _, _, h, _ => by rw [rord] at h; omega
  | [], _ :: _, [], _, _, _, _, h => by rw [rord] at h; omega
  | [], _ :: _, _ :: _, _, _, _, _, _ => by rw [rord]; omega
  | _ :: _, [], _, _, _, _, h, _ => by rw [rord] at h; omega
  | _ :: _, _ :: _, [], _, _, _, _, h => by rw [rord] at h; omega
  | a :: as, b :: bs, c :: cs, ha, hb, hc, h1, h2 => by
    have ih := rord_trans (as := as) (bs := bs) (cs := cs) (fun x hx => ha x (List.mem_cons_of_mem _ hx)) (fun x hx => hb x (List.mem_cons_of_mem _ hx)) (fun x hx => hc x (List.mem_cons_of_mem _ hx))
    rw [rord_step] at h1 h2 ⊢
    rcases atom_tri (ha a List.mem_cons_self) (hb b List.mem_cons_self) with ⟨u1, u2, u3⟩ | ⟨u1, u2, u3⟩ | ⟨u1, u2, u3⟩
    · rcases atom_tri (hb b List.mem_cons_self) (hc c List.mem_cons_self) with ⟨v1, v2, v3⟩ | ⟨v1, v2, v3⟩ | ⟨v1, v2, v3⟩
      · rw [bf_trans u1 v1]; simp
      · rw [v1, v2] at h2; simp at h2
      · rw [← v3, u1]; simp
    · rw [u1, u2] at h1; simp at h1
    · rw [u3]
      rcases atom_tri (hb b List.mem_cons_self) (hc c List.mem_cons_self) with ⟨v1, v2, v3⟩ | ⟨v1, v2, v3⟩ | ⟨v1, v2, v3⟩
      · rw [v1]; simp
      · rw [v1, v2] at h2; simp at h2
      · rw [v1, v2] at h2 ⊢
        rw [u1, u2] at h1
        simp only [Bool.false_eq_true, if_false] at h1 h2 ⊢
        exact ih h1 h2
theorem rord_vals : ∀ (ds es : List PyData), rord ds es = -1 ∨ rord ds es = 0 ∨ rord ds es = 1
  | [], [] => .inr (.inl rfl)
  | [], _ :: _ => .inl rfl
  | _ :: _, [] => .inr (.inr rfl)
  | d :: ds, e :: es => by
    rw [rord_step]
    by_cases c : bf d e = true
    · exact .inl (if_pos c)
    · rw [if_neg c]
      by_cases c2 : bf e d = true
      · exact .inr (.inr (if_pos c2))
      · rw [if_neg c2]
        exact rord_vals ds es
abbrev Ky := Int × Str × List PyData
def kc (a b : Ky) : Int := kord a.1 a.2.1 a.2.2 b.1 b.2.1 b.2.2
def okK (a : Ky) : Prop := Atoms a.2.2
theorem kc_cases {a b : Ky} (ha : okK a) (hb : okK b) : (kc a b < 0 ∧ kc b a > 0 ∧ a ≠ b) ∨ (kc a b > 0 ∧ kc b a < 0 ∧ a ≠ b) ∨ (kc a b = 0 ∧ kc b a = 0 ∧ a = b) := by
  obtain ⟨s, n, ds⟩ := a
  obtain ⟨t, m, es⟩ := b
  unfold kc kord
  simp only []
  by_cases c : s = t ∧ n = m
  · obtain ⟨rfl, rfl⟩ := c
    rw [if_pos ⟨rfl, rfl⟩, if_pos ⟨rfl, rfl⟩]
    have neg := rord_neg (ds := ds) (es := es) ha hb
    have zer := rord_zero (ds := ds) (es := es) ha hb
    rcases rord_vals ds es with h | h | h
    · exact .inl ⟨by omega, by omega, fun z => by
        injection z with z1 z2
        injection z2 with z2 z3
        rw [zer.mpr z3] at h
        omega⟩
    · exact .inr (.inr ⟨h, by omega, by rw [zer.mp h]⟩)
    · exact .inr (.inl ⟨by omega, by omega, fun z => by
        injection z with z1 z2
        injection z2 with z2 z3
        rw [zer.mpr z3] at h
        omega⟩)
  · have c' : ¬ (t = s ∧ m = n) := fun z => c ⟨z.1.symm, z.2.symm⟩
    rw [if_neg c, if_neg c']
    have ne : ((s, n, ds) : Ky) ≠ (t, m, es) := fun z => c (by
      injection z with z1 z2
      injection z2 with z2 z3
      exact ⟨z1, z2⟩)
    unfold plt
    by_cases st : s = t
    · subst st
      rw [if_pos rfl, if_pos rfl]
      rcases str_tri n m with ⟨h1, h2, _⟩ | ⟨h1, h2, _⟩ | ⟨h3, _, _⟩
      · rw [decide_eq_true h1, decide_eq_false h2]
        exact .inl ⟨by decide, by decide, ne⟩
      · rw [decide_eq_false h1, decide_eq_true h2]
        exact .inr (.inl ⟨by decide, by decide, ne⟩)
      · exact absurd ⟨rfl, h3⟩ c
    · have ts : ¬ t = s := fun z => st z.symm
      rw [if_neg st, if_neg ts]
      rcases Int.lt_or_gt_of_ne st with h | h
      · rw [decide_eq_true h, decide_eq_false (by omega)]
        exact .inl ⟨by decide, by decide, ne⟩
      · rw [decide_eq_false (by omega), decide_eq_true (show t < s from h)]
        exact .inr (.inl ⟨by decide, by decide, ne⟩)
theorem kc_lt_iff {a b : Ky} : kc a b < 0 ↔ (a.1 < b.1 ∨ (a.1 = b.1 ∧ (a.2.1.cps.toList < b.2.1.cps.toList ∨ (a.2.1 = b.2.1 ∧ rord a.2.2 b.2.2 < 0)))) := by
  obtain ⟨s, n, ds⟩ := a
  obtain ⟨t, m, es⟩ := b
  unfold kc kord
  simp only []
  by_cases c : s = t ∧ n = m
  · obtain ⟨rfl, rfl⟩ := c
    rw [if_pos ⟨rfl, rfl⟩]
    exact ⟨fun h => .inr ⟨rfl, .inr ⟨rfl, h⟩⟩, fun h => by
      rcases h with h | ⟨_, h | ⟨_, h⟩⟩
      · omega
      · exact absurd h (List.lt_irrefl _)
      · exact h⟩
  · rw [if_neg c]
    unfold plt
    by_cases st : s = t
    · subst st
      rw [if_pos rfl]
      by_cases h : n.cps.toList < m.cps.toList
      · rw [decide_eq_true h, if_pos rfl]
        exact ⟨fun _ => .inr ⟨rfl, .inl h⟩, fun _ => by decide⟩
      · rw [decide_eq_false h, if_neg Bool.false_ne_true]
        exact ⟨fun z => absurd z (by decide), fun z => by
          rcases z with z | ⟨_, z | ⟨z, _⟩⟩
          · omega
          · exact absurd z h
          · exact absurd ⟨rfl, z⟩ c⟩
    · rw [if_neg st]
      by_cases h : s < t
      · rw [decide_eq_true h, if_pos rfl]
        exact ⟨fun _ => .inl h, fun _ => by decide⟩
      · rw [decide_eq_false h, if_neg Bool.false_ne_true]
        exact ⟨fun z => absurd z (by decide), fun z => by
          rcases z with z | ⟨z, _⟩
          · exact absurd z h
          · exact absurd z st⟩
theorem kc_trans {a b c : Ky} (ha : okK a) (hb : okK b) (hc : okK c) (h1 : kc a b < 0) (h2 : kc b c < 0) : kc a c < 0 := by
  rw [kc_lt_iff] at h1 h2 ⊢
  rcases h1 with h1 | ⟨e1, h1⟩
  · rcases h2 with h2 | ⟨e2, _⟩
    · exact .inl (Int.lt_trans h1 h2)
    · exact .inl (by rw [← e2]; exact h1)
  · rcases h2 with h2 | ⟨e2, h2⟩
    · exact .inl (by rw [e1]; exact h2)
    · refine .inr ⟨e1.trans e2, ?_⟩
      rcases h1 with h1 | ⟨m1, h1⟩
      · rcases h2 with h2 | ⟨m2, _⟩
        · exact .inl (List.lt_trans h1 h2)
        · exact .inl (by rw [← m2]; exact h1)
      · rcases h2 with h2 | ⟨m2, h2⟩
        · exact .inl (by rw [m1]; exact h2)
        · exact .inr ⟨m1.trans m2, rord_trans ha hb hc h1 h2⟩
abbrev ltI (a b : It1) : Prop := kc (keyI a) (keyI b) < 0
def SortedI (l : List It1) : Prop := l.Pairwise ltI
def OkL (l : List It1) : Prop := ∀ i ∈ l, okI i
theorem okK_of {i : It1} (h : okI i) : okK (keyI i) := (okI_key h).1
theorem ltI_irrefl {i : It1} (h : okI i) : ¬ ltI i i := fun z => by
  rcases kc_cases (okK_of h) (okK_of h) with ⟨_, _, c⟩ | ⟨_, _, c⟩ | ⟨c, _, _⟩
  · exact c rfl
  · exact c rfl
  · unfold ltI at z
    omega
/-- two sorted lists with the same members are one -/
theorem sorted_ext : ∀ {l m : List It1}, SortedI l → SortedI m → OkL l → OkL m → (∀ i, i ∈ l ↔ i ∈ m) → l = m
  | [], [], _, _, _, _, _ => rfl
  | [], x :: m, _, _, _, _, h => absurd ((h x).mpr List.mem_cons_self) (fun z => by cases z)
  | x :: l, [], _, _, _, _, h => absurd ((h x).mp List.mem_cons_self) (fun z => by cases z)
  | x :: l, y :: m, sl, sm, ol, om, h => by
    obtain ⟨x1, x2⟩ := List.pairwise_cons.mp sl
    obtain ⟨y1, y2⟩ := List.pairwise_cons.mp sm
    have ox := ol x List.mem_cons_self
    have oy := om y List.mem_cons_self
    have exy : x = y := by
      rcases List.mem_cons.mp ((h x).mp List.mem_cons_self) with e | e
      · exact e
      · rcases List.mem_cons.mp ((h y).mpr List.mem_cons_self) with e2 | e2
        · exact e2.symm
        · have a := y1 x e
          have b := x1 y e2
          exact absurd (kc_trans (okK_of ox) (okK_of oy) (okK_of ox) b a) (ltI_irrefl ox)
    subst exy
    rw [sorted_ext (l := l) (m := m) x2 y2 (fun i hi => ol i (List.mem_cons_of_mem _ hi)) (fun i hi => om i (List.mem_cons_of_mem _ hi)) (fun i => ?_)]
    constructor
    · intro hi
      rcases List.mem_cons.mp ((h i).mp (List.mem_cons_of_mem _ hi)) with e | e
      · subst e
        exact absurd (x1 i hi) (ltI_irrefl ox)
      · exact e
    · intro hi
      rcases List.mem_cons.mp ((h i).mpr (List.mem_cons_of_mem _ hi)) with e | e
      · subst e
        exact absurd (y1 i hi) (ltI_irrefl ox)
      · exact e
theorem sorted_key {l : List It1} (s : SortedI l) (o : OkL l) {i j : It1} (hi : i ∈ l) (hj : j ∈ l) (e : keyI i = keyI j) : i = j := by
  induction l with
  | nil => cases hi
  | cons x l ih =>
    obtain ⟨x1, x2⟩ := List.pairwise_cons.mp s
    have no : ∀ k ∈ l, keyI x ≠ keyI k := fun k hk z => by
      have a := x1 k hk
      unfold ltI at a
      rw [← z] at a
      exact ltI_irrefl (o x List.mem_cons_self) a
    rcases List.mem_cons.mp hi with h1 | h1
    · rcases List.mem_cons.mp hj with h2 | h2
      · rw [h1, h2]
      · exact absurd (h1 ▸ e) (no j h2)
    · rcases List.mem_cons.mp hj with h2 | h2
      · exact absurd (h2 ▸ e.symm) (no i h1)
      · exact ih x2 (fun k hk => o k (List.mem_cons_of_mem _ hk)) h1 h2
/-- an item in the place of the one with its key -/
def putI (l : List It1) (i : It1) : List It1 := (l.filter fun x => decide (kc (keyI x) (keyI i) < 0)) ++ [i] ++ l.filter fun x => decide (kc (keyI x) (keyI i) > 0)
def takeI (l : List It1) (k : Ky) : List It1 := l.filter fun x => decide (kc (keyI x) k ≠ 0)
theorem mem_putI {l : List It1} {i : It1} (o : OkL l) (oi : okI i) (x : It1) : x ∈ putI l i ↔ x = i ∨ (x ∈ l ∧ keyI x ≠ keyI i) := by
  unfold putI
  rw [List.mem_append, List.mem_append, List.mem_filter, List.mem_filter, List.mem_singleton]
  constructor
  · intro h
    rcases h with (⟨h, c⟩ | h) | ⟨h, c⟩
    · rcases kc_cases (okK_of (o x h)) (okK_of oi) with ⟨_, _, n⟩ | ⟨_, _, n⟩ | ⟨z, _, _⟩
      · exact .inr ⟨h, n⟩
      · exact .inr ⟨h, n⟩
      · have c := of_decide_eq_true c
        omega
    · exact .inl h
    · rcases kc_cases (okK_of (o x h)) (okK_of oi) with ⟨_, _, n⟩ | ⟨_, _, n⟩ | ⟨z, _, _⟩
      · exact .inr ⟨h, n⟩
      · exact .inr ⟨h, n⟩
      · have c := of_decide_eq_true c
        omega
  · intro h
    rcases h with h | ⟨h, n⟩
    · exact .inl (.inr h)
    · rcases kc_cases (okK_of (o x h)) (okK_of oi) with ⟨z, _, _⟩ | ⟨z, _, _⟩ | ⟨_, _, z⟩
      · exact .inl (.inl ⟨h, decide_eq_true z⟩)
      · exact .inr ⟨h, decide_eq_true z⟩
      · exact absurd z n
theorem ok_putI {l : List It1} {i : It1} (o : OkL l) (oi : okI i) : OkL (putI l i) := fun x hx => by
  rcases (mem_putI o oi x).mp hx with h | h
  · rw [h]
    exact oi
  · exact o x h.1
theorem sorted_putI {l : List It1} {i : It1} (s : SortedI l) (o : OkL l) (oi : okI i) : SortedI (putI l i) := by
  unfold SortedI putI
  rw [List.append_assoc, List.pairwise_append]
  refine ⟨List.Pairwise.filter _ s, ?_, fun a ha b hb => ?_⟩
  · rw [List.singleton_append, List.pairwise_cons]
    refine ⟨fun b hb => ?_, List.Pairwise.filter _ s⟩
    obtain ⟨hb, c⟩ := List.mem_filter.mp hb
    have c := of_decide_eq_true c
    rcases kc_cases (okK_of (o b hb)) (okK_of oi) with ⟨z, _, _⟩ | ⟨_, z, _⟩ | ⟨z, _, _⟩
    · omega
    · exact z
    · omega
  · obtain ⟨ha, c⟩ := List.mem_filter.mp ha
    have c := of_decide_eq_true c
    rcases List.mem_append.mp hb with hb | hb
    · rw [List.mem_singleton.mp hb]
      exact c
    · obtain ⟨hb, c2⟩ := List.mem_filter.mp hb
      have c2 := of_decide_eq_true c2
      have c3 : kc (keyI i) (keyI b) < 0 := by
        rcases kc_cases (okK_of (o b hb)) (okK_of oi) with ⟨z, _, _⟩ | ⟨_, z, _⟩ | ⟨z, _, _⟩
        · omega
        · exact z
        · omega
      exact kc_trans (okK_of (o a ha)) (okK_of oi) (okK_of (o b hb)) c c3
theorem mem_takeI {l : List It1} {k : Ky} (o : OkL l) (ok : okK k) (x : It1) : x ∈ takeI l k ↔ x ∈ l ∧ keyI x ≠ k := by
  unfold takeI
  rw [List.mem_filter]
  constructor
  · intro h
    refine ⟨h.1, fun z => ?_⟩
    have t := of_decide_eq_true h.2
    rcases kc_cases (okK_of (o x h.1)) ok with ⟨_, _, n⟩ | ⟨_, _, n⟩ | ⟨e, _, _⟩
    · exact n z
    · exact n z
    · exact t e
  · intro h
    refine ⟨h.1, decide_eq_true fun z => ?_⟩
    rcases kc_cases (okK_of (o x h.1)) ok with ⟨e, _, _⟩ | ⟨e, _, _⟩ | ⟨_, _, n⟩
    · omega
    · omega
    · exact h.2 n
theorem sorted_takeI {l : List It1} {k : Ky} (s : SortedI l) : SortedI (takeI l k) := List.Pairwise.filter _ s
theorem ok_takeI {l : List It1} {k : Ky} (o : OkL l) : OkL (takeI l k) := fun x hx => o x (List.mem_filter.mp hx).1
def SortedR (rs : List (List PyData)) : Prop := rs.Pairwise fun a b => rord a b < 0
theorem rows_split {rs : List (List PyData)} {row : List PyData} (s : SortedR rs) (ha : ∀ r ∈ rs, Atoms r) (hr : Atoms row) {p : Nat} (hp : p ≤ rs.length) (h1 : ∀ j (hj : j < rs.length), j < p → rord rs[j] row < 0) (h2 : ∀ j (hj : j < rs.length), p ≤ j → ¬ rord rs[j] row < 0) :
    (row ∈ rs ↔ ∃ h : p < rs.length, rs[p] = row) ∧ (row ∉ rs → SortedR (rs.take p ++ row :: rs.drop p)) := by
  have pos : ∀ j (hj : j < rs.length), p ≤ j → row ∉ rs → rord row rs[j] < 0 := fun j hj h nm => by
    have a := h2 j hj h
    have n := rord_neg (ds := rs[j]) (es := row) (ha _ (List.getElem_mem hj)) hr
    have z := rord_zero (ds := rs[j]) (es := row) (ha _ (List.getElem_mem hj)) hr
    rcases rord_vals rs[j] row with c | c | c
    · omega
    · exact absurd (z.mp c ▸ List.getElem_mem hj) nm
    · omega
  refine ⟨⟨fun hm => ?_, fun ⟨h, e⟩ => e ▸ List.getElem_mem h⟩, fun nm => ?_⟩
  · obtain ⟨j, hj, e⟩ := List.getElem_of_mem hm
    have zj : rord rs[j] row = 0 := (rord_zero (ha _ (List.getElem_mem hj)) hr).mpr e
    have hpj : p ≤ j := by
      rcases Nat.lt_or_ge j p with c | c
      · have t := h1 j hj c
        omega
      · exact c
    have hpl : p < rs.length := Nat.lt_of_le_of_lt hpj hj
    refine ⟨hpl, ?_⟩
    rcases Nat.lt_or_ge p j with c | c
    · have t := List.pairwise_iff_getElem.mp s p j hpl hj c
      rw [e] at t
      exact absurd t (h2 p hpl (Nat.le_refl p))
    · have ej : p = j := by omega
      subst ej
      exact e
  · unfold SortedR
    rw [List.pairwise_append]
    refine ⟨List.Pairwise.sublist (List.take_sublist _ _) s, ?_, fun a ha' b hb' => ?_⟩
    · rw [List.pairwise_cons]
      refine ⟨fun b hb => ?_, List.Pairwise.sublist (List.drop_sublist _ _) s⟩
      obtain ⟨j, hj, e⟩ := List.getElem_of_mem hb
      rw [List.getElem_drop] at e
      rw [← e]
      exact pos _ _ (Nat.le_add_right _ _) nm
    · obtain ⟨i, hi, e⟩ := List.getElem_of_mem ha'
      rw [List.length_take] at hi
      rw [List.getElem_take] at e
      have a1 : rord a row < 0 := by
        rw [← e]
        exact h1 i (by omega) (by omega)
      rcases List.mem_cons.mp hb' with hb | hb
      · rw [hb]
        exact a1
      · obtain ⟨j, hj, e2⟩ := List.getElem_of_mem hb
        rw [List.getElem_drop] at e2
        have b1 : rord row b < 0 := by
          rw [← e2]
          exact pos _ _ (Nat.le_add_right _ _) nm
        have aa : Atoms a := by
          rw [← e]
          exact ha _ (List.getElem_mem _)
        have ab : Atoms b := by
          rw [← e2]
          exact ha _ (List.getElem_mem _)
        exact rord_trans aa hr ab a1 b1
end KU

namespace KU
open PySem PySem.Spec PyProof.Rows L2 KA
/-- a list of sorted rows -/
structure RowsAt (H : Hp) (l : Addr) (rs : List (List PyData)) (N : Nat) : Prop where
  ex : ∃ ys, H l = some (.lst ys) ∧ Tps H ys (rs.map PyData.tuple)
  srt : SortedR rs
  ok : ∀ r ∈ rs, Atoms r ∧ r.length ≤ 1000
  len : rs.length ≤ N
section
variable {P : Program} {w : World} {K : PySem.W.Frag} {mg : Str → Option Value} {base : Heap}
abbrev sPO : Stmt := topS 28
theorem scPO : FnScope ["rows", "row", "wanted", "low", "high", "middle"] ["rows", "row"] (defScope sPO) := ⟨rfl, rfl, rfl, by decide +kernel, rfl, by decide +kernel, by decide +kernel⟩
def spPO : Sp := fun vs H Q _ => ∃ (l : Addr) (v : V) (rs : List (List PyData)) (row : List PyData) (N : Nat), vs = [.ref l, v] ∧ RowsAt H l rs N ∧ N ≤ 100000 ∧ Tp H v (.tuple row) ∧ Atoms row ∧ row.length ≤ 1000 ∧
  ∀ (p : Nat) H', Same H H' → p ≤ rs.length → (∀ j (hj : j < rs.length), j < p → rord rs[j] row < 0) → (∀ j (hj : j < rs.length), p ≤ j → ¬ rord rs[j] row < 0) → Q (.int (p : Nat)) H'
theorem ok_po {f : Addr} {fd : FuncData} (F : Fun K "place_of" "place_of" sPO f fd) (B : Bt mg) (DR : dRK P w K mg base) : FnOk P w K mg base CX0 3 f fd ["rows", "row"] spPO := by
  refine F.ok scPO (fun vs H Q E h => ?_) (fun cdv A outer s H vs Q E hr h => ?_)
  · obtain ⟨l, v, _, _, _, rfl, _⟩ := h
    rfl
  · obtain ⟨l, v, rs, row, N, rfl, ⟨⟨ys, el, tr⟩, srt, okr, hN⟩, hN2, tv, ar, lr, q⟩ := h
    refine ⟨_, pss_cons (ps_set (i := 2) scPO.nd rfl (.inl rfl) (pe_def DR hr (by rfl) (pa_cons (pv 1) pa_nil)))
      (pss_cons (ps_set (i := 3) scPO.nd rfl (.inl rfl) pe_int)
      (pss_cons (ps_set (i := 4) scPO.nd rfl (.inl rfl) (pe_callB call_len_seq (by rfl) B.len PySem.boot_len (pa_cons (pv 0) pa_nil)))
      (pss_cons (ps_while PassesOwn.never (pt_cmpR op_lt (pv 3) (pv 4) (nomark _))
        (pss_cons (ps_set (i := 5) scPO.nd rfl (.inl rfl) (pe_op op_fdiv (pe_op op_add (pv 3) (pv 4)) pe_int))
        (pss_one (ps_if (pt_cmpR (op_ltP hr.units) (pe_def DR hr (by rfl) (pa_cons (pe_ix ix_list (pv 0) (pv 5) (fun _ _ => rfl)) pa_nil)) (pv 2) (nomark _))
          (pss_one (ps_set (i := 3) scPO.nd rfl (.inl rfl) (pe_op op_add (pv 5) pe_int)))
          (pss_one (ps_set (i := 4) scPO.nd rfl (.inl rfl) (pv 5)))))))
      (pss_one (ps_ret (pv 3)))))), ?_⟩
    have ly : ys.length = rs.length := by rw [tr.length, List.length_map]
    refine ⟨v, rfl, v, row, rfl, tv, ar, lr, fun wa H1 s1 tw => ?_⟩
    refine ⟨.ref l, rfl, l, ys, rfl, .inl (SqL.of (s1 _ _ el)), ?_⟩
    refine ⟨fun m σ H' => ∃ lo hi : Nat, ∃ x5, σ = [some (.ref l), some v, some (.ref wa), some (.int (lo : Int)), some (.int (hi : Int)), x5] ∧ Same H1 H' ∧ lo ≤ hi ∧ hi ≤ rs.length ∧ m = hi - lo ∧
      (∀ j (hj : j < rs.length), j < lo → rord rs[j] row < 0) ∧ (∀ j (hj : j < rs.length), hi ≤ j → ¬ rord rs[j] row < 0), ⟨rs.length, 0, rs.length, none, by rw [← ly]; rfl, Same.refl _, Nat.zero_le _, Nat.le_refl _, rfl, fun j hj h => absurd h (Nat.not_lt_zero j), fun j hj h => absurd hj (Nat.not_lt.mpr h)⟩, fun m σ H' hW => ?_⟩
    obtain ⟨lo, hi, x5, rfl, s2, h1, h2, em, h3, h4⟩ := hW
    refine ⟨_, rfl, _, rfl, _, _, rfl, rfl, _, rfl, ite2 (fun c => ?_) (fun c => ?_)⟩
    · have c1 : (lo : Int) < hi := of_decide_eq_true c
      refine ⟨fun σ' H' => ∃ m', m' < m ∧ ∃ lo hi : Nat, ∃ x5, σ' = [some (.ref l), some v, some (.ref wa), some (.int (lo : Int)), some (.int (hi : Int)), x5] ∧ Same H1 H' ∧ lo ≤ hi ∧ hi ≤ rs.length ∧ m' = hi - lo ∧
        (∀ j (hj : j < rs.length), j < lo → rord rs[j] row < 0) ∧ (∀ j (hj : j < rs.length), hi ≤ j → ¬ rord rs[j] row < 0), fun σ' H' h => h, ?_⟩
      refine ⟨_, rfl, _, rfl, _, _, rfl, rfl, _, 2, rfl, rfl, ⟨by decide, by decide⟩, ?_⟩
      obtain ⟨mid, hmid⟩ : ∃ mid : Nat, ((lo : Int) + hi) / 2 = mid := nat_of (by omega)
      rw [show ((fun (i j : Int) => V.int (i / j)) ((lo : Int) + hi) 2 : V) = V.int (mid : Int) from congrArg V.int hmid]
      have m1 : lo ≤ mid := by omega
      have m2 : mid < hi := by omega
      have m3 : mid < rs.length := by omega
      have gm : (rs.map PyData.tuple)[mid]? = some (.tuple rs[mid]) := by
        rw [List.getElem?_map, List.getElem?_eq_getElem m3]
        rfl
      obtain ⟨x, ex, tx⟩ := tr.at_ gm
      obtain ⟨am, lm⟩ := okr _ (List.getElem_mem m3)
      have s12 : Same H H' := s1.trans s2
      refine ⟨.ref l, rfl, .int (mid : Int), rfl, l, ys, mid, x, rfl, rfl, SqL.of (s12 _ _ el), atI_nat ex, x, rs[mid], rfl, tx.mono (Tk.of s12), am, lm, fun k H2 s3 tk => ?_⟩
      refine ⟨.ref wa, rfl, _, _, _, tk, (tw.mono (Tk.of s2)).mono (Tk.of s3), small_row am, (row_agree am ar).1, _, rfl, ite2 (fun c2 => ?_) (fun c2 => ?_)⟩
      · have c3 : rord rs[mid] row < 0 := of_decide_eq_true c2
        refine ⟨.int (mid : Int), rfl, _, _, rfl, rfl, hi - (mid + 1), by omega, mid + 1, hi, some (.int (mid : Int)), rfl, s2.trans s3, by omega, h2, rfl, fun j hj hlt => ?_, h4⟩
        rcases Nat.lt_or_ge j mid with z | z
        · exact rord_trans (okr _ (List.getElem_mem hj)).1 am ar (List.pairwise_iff_getElem.mp srt j mid hj m3 z) c3
        · have ej : j = mid := by omega
          subst ej
          exact c3
      · have c3 : ¬ rord rs[mid] row < 0 := fun z => c2 (decide_eq_true z)
        refine ⟨.int (mid : Int), rfl, mid - lo, by omega, lo, mid, some (.int (mid : Int)), rfl, s2.trans s3, m1, by omega, rfl, h3, fun j hj hge => ?_⟩
        rcases Nat.lt_or_ge mid j with z | z
        · exact fun y => c3 (rord_trans am (okr _ (List.getElem_mem hj)).1 ar (List.pairwise_iff_getElem.mp srt mid j m3 hj z) y)
        · have ej : j = mid := by omega
          subst ej
          exact c3
    · have c1 : ¬ (lo : Int) < hi := fun z => c (decide_eq_true z)
      have elh : lo = hi := by omega
      subst elh
      exact ⟨.int (lo : Int), rfl, q lo H' (s1.trans s2) h2 h3 h4⟩
abbrev dPO (P : Program) (w : World) (K : PySem.W.Frag) (mg : Str → Option Value) (base : Heap) : Prop := Def P w K mg base "place_of" 3 ["rows", "row"] spPO
abbrev dSR (P : Program) (w : World) (K : PySem.W.Frag) (mg : Str → Option Value) (base : Heap) : Prop := Def P w K mg base "same_row" 3 ["first", "second"] spSR
abbrev sSA : Stmt := topS 29
theorem scSA : FnScope ["rows", "at", "row"] ["rows", "at", "row"] (defScope sSA) := ⟨rfl, rfl, rfl, by decide +kernel, rfl, by decide +kernel, by decide +kernel⟩
def spSA : Sp := fun vs H Q _ => ∃ (l : Addr) (v : V) (rs : List (List PyData)) (row : List PyData) (N p : Nat), vs = [.ref l, .int (p : Nat), v] ∧ RowsAt H l rs N ∧ N ≤ 100000 ∧ Tp H v (.tuple row) ∧ Atoms row ∧ row.length ≤ 1000 ∧
  ∀ (b : Bool) H', Same H H' → (b = true ↔ ∃ h : p < rs.length, rs[p] = row) → Q (.bl b) H'
theorem ok_sa {f : Addr} {fd : FuncData} (F : Fun K "stands_at" "stands_at" sSA f fd) (B : Bt mg) (DS : dSR P w K mg base) : FnOk P w K mg base CX0 4 f fd ["rows", "at", "row"] spSA := by
  refine F.ok scSA (fun vs H Q E h => ?_) (fun cdv A outer s H vs Q E hr h => ?_)
  · obtain ⟨_, _, _, _, _, _, rfl, _⟩ := h
    rfl
  · obtain ⟨l, v, rs, row, N, p, rfl, ⟨⟨ys, el, tr⟩, srt, okr, hN⟩, hN2, tv, ar, lr, q⟩ := h
    refine ⟨_, pss_one (ps_ret (pe_and (pe_cmpR op_lt (pv 1) (pe_callB call_len_seq (by rfl) B.len PySem.boot_len (pa_cons (pv 0) pa_nil)) (nomark _)) (pe_one (pe_def DS hr (by rfl) (pa_cons (pe_ix ix_list (pv 0) (pv 1) (fun _ _ => rfl)) (pa_cons (pv 2) pa_nil)))))), ?_⟩
    have ly : ys.length = rs.length := by rw [tr.length, List.length_map]
    refine ⟨_, rfl, .ref l, rfl, l, ys, rfl, .inl (SqL.of el), _, _, rfl, rfl, _, rfl, ite2 (fun c => ?_) (fun c => ?_)⟩
    · have c1 : (p : Int) < ys.length := of_decide_eq_true c
      have hp : p < rs.length := by omega
      have gm : (rs.map PyData.tuple)[p]? = some (.tuple rs[p]) := by
        rw [List.getElem?_map, List.getElem?_eq_getElem hp]
        rfl
      obtain ⟨x, ex, tx⟩ := tr.at_ gm
      obtain ⟨am, lm⟩ := okr _ (List.getElem_mem hp)
      refine ⟨.ref l, rfl, _, rfl, l, ys, p, x, rfl, rfl, SqL.of el, atI_nat ex, v, rfl, x, v, rs[p], row, rfl, tx, tv, am, ar, lm, lr, fun H' s' => q _ H' s' ?_⟩
      rw [(row_agree am ar).2.1]
      constructor
      · intro h
        exact ⟨hp, (rord_zero am ar).mp (of_decide_eq_true h)⟩
      · intro ⟨_, h⟩
        exact decide_eq_true ((rord_zero am ar).mpr h)
    · have c1 : ¬ (p : Int) < ys.length := fun z => c (decide_eq_true z)
      exact q false H (Same.refl _) ⟨(fun h => by cases h), fun ⟨h, _⟩ => absurd h (by omega)⟩
end
end KU

namespace KU
open PySem PySem.Spec PyProof.Rows L2 KA
section
variable {κ : Type} [DecidableEq κ]
abbrev nd (kvs : List (κ × V)) : Prop := (kvs.map (·.1)).Nodup
theorem mem_val {kvs : List (κ × V)} (h : nd kvs) {k : κ} {v : V} : valV kvs k = some v ↔ (k, v) ∈ kvs := by
  induction kvs with
  | nil => exact ⟨fun z => by simp [valV] at z, fun z => by cases z⟩
  | cons p r ih =>
    have h1 : p.1 ∉ r.map (·.1) ∧ nd r := List.nodup_cons.mp h
    by_cases e : p.1 = k
    · rw [valV_pos e]
      constructor
      · intro z
        have z := Option.some.inj z
        rw [← z, ← e]
        exact List.mem_cons_self
      · intro z
        rcases List.mem_cons.mp z with z | z
        · rw [← z]
        · exact absurd (List.mem_map.mpr ⟨_, z, rfl⟩) (by rw [← e]; exact h1.1)
    · rw [valV_neg e, ih h1.2]
      constructor
      · exact fun z => List.mem_cons_of_mem _ z
      · intro z
        rcases List.mem_cons.mp z with z | z
        · exact absurd (by rw [← z]) e
        · exact z
theorem val_none {kvs : List (κ × V)} (h : nd kvs) {k : κ} : valV kvs k = none ↔ ∀ v, (k, v) ∉ kvs := by
  constructor
  · intro z v m
    rw [(mem_val h).mpr m] at z
    cases z
  · intro z
    cases c : valV kvs k with
    | none => rfl
    | some v => exact absurd ((mem_val h).mp c) (z v)
theorem mem_put {kvs : List (κ × V)} (h : nd kvs) {k k' : κ} {v v' : V} : (k', v') ∈ putK kvs k v ↔ (k' = k ∧ v' = v) ∨ (k' ≠ k ∧ (k', v') ∈ kvs) := by
  unfold putK
  by_cases c : (kvs.any fun kv => decide (kv.1 = k)) = true
  · rw [if_pos c, List.mem_map]
    constructor
    · rintro ⟨⟨a, b⟩, m, e⟩
      by_cases z : a = k
      · rw [if_pos z] at e
        cases e
        exact .inl ⟨z, rfl⟩
      · rw [if_neg z] at e
        cases e
        exact .inr ⟨z, m⟩
    · rintro (⟨e1, e2⟩ | ⟨n, m⟩)
      · obtain ⟨⟨a, b⟩, m, z⟩ := List.any_eq_true.mp c
        have z := of_decide_eq_true z
        refine ⟨(a, b), m, ?_⟩
        rw [if_pos z, e1, e2, ← z]
      · exact ⟨(k', v'), m, if_neg n⟩
  · rw [if_neg c, List.mem_append, List.mem_singleton]
    constructor
    · rintro (m | e)
      · refine .inr ⟨fun z => c (List.any_eq_true.mpr ⟨_, m, decide_eq_true z⟩), m⟩
      · cases e
        exact .inl ⟨rfl, rfl⟩
    · rintro (⟨e1, e2⟩ | ⟨_, m⟩)
      · rw [e1, e2]
        exact .inr rfl
      · exact .inl m
theorem nd_put {kvs : List (κ × V)} (h : nd kvs) (k : κ) (v : V) : nd (putK kvs k v) := by
  cases c : valV kvs k with
  | none => exact nd_putK v h c
  | some x =>
    have t : (kvs.any fun kv => decide (kv.1 = k)) = true := by
      rw [valV_any, c]
      rfl
    show ((putK kvs k v).map (·.1)).Nodup
    unfold putK
    rw [if_pos t, List.map_map]
    have e : (kvs.map ((·.1) ∘ fun kv => if kv.1 = k then (kv.1, v) else kv)) = kvs.map (·.1) := by
      apply List.map_congr_left
      intro p _
      show (if p.1 = k then (p.1, v) else p).1 = p.1
      by_cases z : p.1 = k
      · rw [if_pos z]
      · rw [if_neg z]
    rw [e]
    exact h
theorem mem_dropK {kvs : List (κ × V)} {k k' : κ} {v' : V} : (k', v') ∈ dropK kvs k ↔ k' ≠ k ∧ (k', v') ∈ kvs := by
  unfold dropK
  rw [List.mem_filter]
  exact ⟨fun h => ⟨of_decide_eq_true h.2, h.1⟩, fun h => ⟨h.2, decide_eq_true h.1⟩⟩
end
theorem put_rel {l : List It1} {nm : Str} {n : Int} (o : OkL l) (a : Str) (m : Int) : It1.rel a m ∈ putI l (.rel nm n) ↔ (a = nm ∧ m = n) ∨ (a ≠ nm ∧ It1.rel a m ∈ l) := by
  rw [mem_putI o (show okI (.rel nm n) from trivial)]
  constructor
  · rintro (e | ⟨h, k⟩)
    · cases e
      exact .inl ⟨rfl, rfl⟩
    · exact .inr ⟨fun z => k (by rw [z]; rfl), h⟩
  · rintro (⟨rfl, rfl⟩ | ⟨k, h⟩)
    · exact .inl rfl
    · exact .inr ⟨h, fun z => k (by injection z with _ z; injection z)⟩
theorem put_fact {l : List It1} {nm : Str} {row : List PyData} (o : OkL l) (oi : okI (.fact nm row)) (a : Str) (ds : List PyData) : It1.fact a ds ∈ putI l (.fact nm row) ↔ (a = nm ∧ ds = row) ∨ It1.fact a ds ∈ l := by
  rw [mem_putI o oi]
  constructor
  · rintro (e | ⟨h, k⟩)
    · cases e
      exact .inl ⟨rfl, rfl⟩
    · exact .inr h
  · rintro (⟨rfl, rfl⟩ | h)
    · exact .inl rfl
    · by_cases c : a = nm ∧ ds = row
      · obtain ⟨rfl, rfl⟩ := c
        exact .inl rfl
      · exact .inr ⟨h, fun z => c (by injection z with _ z; injection z with z1 z2; exact ⟨z1, z2⟩)⟩
theorem put_rule {l : List It1} {nm rl : Str} {ts bd : PyData} (o : OkL l) (oi : okI (.rule nm rl ts bd)) (a rl' : Str) (ts' bd' : PyData) : It1.rule a rl' ts' bd' ∈ putI l (.rule nm rl ts bd) ↔ (a = nm ∧ rl' = rl ∧ ts' = ts ∧ bd' = bd) ∨ (a ≠ nm ∧ It1.rule a rl' ts' bd' ∈ l) := by
  rw [mem_putI o oi]
  constructor
  · rintro (e | ⟨h, k⟩)
    · cases e
      exact .inl ⟨rfl, rfl, rfl, rfl⟩
    · exact .inr ⟨fun z => k (by rw [z]; rfl), h⟩
  · rintro (⟨rfl, rfl, rfl, rfl⟩ | ⟨k, h⟩)
    · exact .inl rfl
    · exact .inr ⟨h, fun z => k (by injection z with _ z; injection z)⟩
theorem put_den {l : List It1} {nm : Str} {bd : PyData} (o : OkL l) (oi : okI (.den nm bd)) (a : Str) (bd' : PyData) : It1.den a bd' ∈ putI l (.den nm bd) ↔ (a = nm ∧ bd' = bd) ∨ (a ≠ nm ∧ It1.den a bd' ∈ l) := by
  rw [mem_putI o oi]
  constructor
  · rintro (e | ⟨h, k⟩)
    · cases e
      exact .inl ⟨rfl, rfl⟩
    · exact .inr ⟨fun z => k (by rw [z]; rfl), h⟩
  · rintro (⟨rfl, rfl⟩ | ⟨k, h⟩)
    · exact .inl rfl
    · exact .inr ⟨h, fun z => k (by injection z with _ z; injection z)⟩
/-- an item of another sort -/
theorem put_other {l : List It1} {i j : It1} (o : OkL l) (oi : okI i) (n : (keyI j).1 ≠ (keyI i).1) : j ∈ putI l i ↔ j ∈ l := by
  rw [mem_putI o oi]
  constructor
  · rintro (e | h)
    · exact absurd (by rw [e]) n
    · exact h.1
  · exact fun h => .inr ⟨h, fun z => n (by rw [z])⟩
def flds (r f u d : Addr) : List (Str × V) := [("relations", .ref r), ("facts", .ref f), ("rules", .ref u), ("denials", .ref d)]
def RelOk (kr : List (Key × V)) (its : List It1) (N : Nat) : Prop := nd kr ∧ kr.length ≤ N ∧ ∀ k v, (k, v) ∈ kr ↔ ∃ nm n, k = Sum.inr nm ∧ v = .int n ∧ It1.rel nm n ∈ its
def hasNm (its : List It1) (nm : Str) : Prop := (∃ n, It1.rel nm n ∈ its) ∨ ∃ ds, It1.fact nm ds ∈ its
def FacOk (H : Hp) (kf : List (Key × V)) (its : List It1) (F : Addr → Prop) (N : Nat) (B : Str → Prop) : Prop := nd kf ∧ kf.length ≤ N ∧
  (∀ k v, (k, v) ∈ kf → ∃ nm l rs, k = Sum.inr nm ∧ v = .ref l ∧ F l ∧ RowsAt H l rs N ∧ ∀ ds, ds ∈ rs ↔ It1.fact nm ds ∈ its) ∧
  (∀ nm, (∃ v, ((Sum.inr nm : Key), v) ∈ kf) ↔ B nm) ∧
  (∀ k k' v, (k, v) ∈ kf → (k', v) ∈ kf → k = k')
def RulOk (H : Hp) (ku : List (Key × V)) (its : List It1) (N : Nat) : Prop := nd ku ∧ ku.length ≤ N ∧
  (∀ k v, (k, v) ∈ ku → ∃ nm rl ts bd, k = Sum.inr nm ∧ Tp H v (.tuple [.str rl, ts, bd]) ∧ It1.rule nm rl ts bd ∈ its) ∧
  ∀ nm rl ts bd, It1.rule nm rl ts bd ∈ its → ∃ v, ((Sum.inr nm : Key), v) ∈ ku
def DenOk (H : Hp) (kd : List (Key × V)) (its : List It1) (N : Nat) : Prop := nd kd ∧ kd.length ≤ N ∧
  (∀ k v, (k, v) ∈ kd → ∃ nm bd, k = Sum.inr nm ∧ Tp H v bd ∧ It1.den nm bd ∈ its) ∧
  ∀ nm bd, It1.den nm bd ∈ its → ∃ v, ((Sum.inr nm : Key), v) ∈ kd
structure StB (C : Addr) (H : Hp) (s dx r f u d : Addr) (kr kf ku kd : List (Key × V)) (its : List It1) (F : Addr → Prop) (N : Nat) (B : Str → Prop) : Prop where
  hs : H s = some (.ins C dx (flds r f u d))
  hr : H r = some (.dK kr)
  hf : H f = some (.dK kf)
  hu : H u = some (.dK ku)
  hd : H d = some (.dK kd)
  fr : F r
  ff : F f
  fu : F u
  fd : F d
  rf : r ≠ f
  ru : r ≠ u
  rd : r ≠ d
  fu' : f ≠ u
  fd' : f ≠ d
  ud : u ≠ d
  rel : RelOk kr its N
  fac : FacOk H kf its F N B
  rul : RulOk H ku its N
  den : DenOk H kd its N
  srt : SortedI its
  ok : OkL its
  fs : ¬ F s
  fp : ∀ a, F a → (∃ kvs, H a = some (.dK kvs)) ∨ ∃ xs, H a = some (.lst xs)
/-- a State stands at s with these items; F: its own dicts and lists; N: a bound of their sizes -/
def StX (C : Addr) (H : Hp) (s : Addr) (its : List It1) (F : Addr → Prop) (N : Nat) (B : Str → Prop) : Prop := ∃ dx r f u d kr kf ku kd, StB C H s dx r f u d kr kf ku kd its F N B
abbrev StAt (C : Addr) (H : Hp) (s : Addr) (its : List It1) (F : Addr → Prop) (N : Nat) : Prop := StX C H s its F N (hasNm its)
theorem RowsAt.mono {H H' : Hp} {l : Addr} {rs : List (List PyData)} {N N' : Nat} (h : RowsAt H l rs N) (hn : N ≤ N') (k : Tk H H') (hl : ∀ o, H l = some o → H' l = some o) : RowsAt H' l rs N' := by
  obtain ⟨⟨ys, e, t⟩, s, o, n⟩ := h
  exact ⟨⟨ys, hl _ e, t.mono k⟩, s, o, Nat.le_trans n hn⟩
theorem FacOk.to {H H' : Hp} {kf : List (Key × V)} {its its' : List It1} {F F' : Addr → Prop} {N N' : Nat} {B B' : Str → Prop} (h : FacOk H kf its F N B) (k : Tk H H') (hl : ∀ l xs, F l → H l = some (.lst xs) → H' l = some (.lst xs)) (hF : ∀ a, F a → F' a) (hN : N ≤ N')
    (hf : ∀ nm ds, It1.fact nm ds ∈ its' ↔ It1.fact nm ds ∈ its) (hB : ∀ nm, B' nm ↔ B nm) : FacOk H' kf its' F' N' B' := by
  obtain ⟨f1, f2, f3, f4, f5⟩ := h
  refine ⟨f1, Nat.le_trans f2 hN, fun k1 v1 m => ?_, fun nm => (f4 nm).trans (hB nm).symm, f5⟩
  obtain ⟨nm, l, rs, e1, e2, e3, e4, e5⟩ := f3 k1 v1 m
  refine ⟨nm, l, rs, e1, e2, hF _ e3, ?_, fun ds => (e5 ds).trans (hf nm ds).symm⟩
  obtain ⟨⟨ys, e, t⟩, s, o, n⟩ := e4
  exact ⟨⟨ys, hl _ _ e3 e, t.mono k⟩, s, o, Nat.le_trans n hN⟩
theorem RulOk.to {H H' : Hp} {ku : List (Key × V)} {its its' : List It1} {N N' : Nat} (h : RulOk H ku its N) (k : Tk H H') (hN : N ≤ N') (hf : ∀ nm rl ts bd, It1.rule nm rl ts bd ∈ its' ↔ It1.rule nm rl ts bd ∈ its) : RulOk H' ku its' N' := by
  obtain ⟨f1, f2, f3, f4⟩ := h
  refine ⟨f1, Nat.le_trans f2 hN, fun k1 v1 m => ?_, fun nm rl ts bd m => f4 nm rl ts bd ((hf _ _ _ _).mp m)⟩
  obtain ⟨nm, rl, ts, bd, e1, e2, e3⟩ := f3 k1 v1 m
  exact ⟨nm, rl, ts, bd, e1, e2.mono k, (hf _ _ _ _).mpr e3⟩
theorem DenOk.to {H H' : Hp} {kd : List (Key × V)} {its its' : List It1} {N N' : Nat} (h : DenOk H kd its N) (k : Tk H H') (hN : N ≤ N') (hf : ∀ nm bd, It1.den nm bd ∈ its' ↔ It1.den nm bd ∈ its) : DenOk H' kd its' N' := by
  obtain ⟨f1, f2, f3, f4⟩ := h
  refine ⟨f1, Nat.le_trans f2 hN, fun k1 v1 m => ?_, fun nm bd m => f4 nm bd ((hf _ _).mp m)⟩
  obtain ⟨nm, bd, e1, e2, e3⟩ := f3 k1 v1 m
  exact ⟨nm, bd, e1, e2.mono k, (hf _ _).mpr e3⟩
theorem RelOk.to {kr : List (Key × V)} {its its' : List It1} {N N' : Nat} (h : RelOk kr its N) (hN : N ≤ N') (hf : ∀ nm n, It1.rel nm n ∈ its' ↔ It1.rel nm n ∈ its) : RelOk kr its' N' := by
  obtain ⟨f1, f2, f3⟩ := h
  refine ⟨f1, Nat.le_trans f2 hN, fun k v => (f3 k v).trans ?_⟩
  exact ⟨fun ⟨nm, n, e1, e2, e3⟩ => ⟨nm, n, e1, e2, (hf _ _).mpr e3⟩, fun ⟨nm, n, e1, e2, e3⟩ => ⟨nm, n, e1, e2, (hf _ _).mp e3⟩⟩
/-- what stands stays: the state stays -/
theorem StX.mono {C : Addr} {H H' : Hp} {s : Addr} {its : List It1} {F : Addr → Prop} {N N' : Nat} {B : Str → Prop} (h : StX C H s its F N B) (k : Tk H H') (ks : ∀ o, H s = some o → H' s = some o) (kF : ∀ a o, F a → H a = some o → H' a = some o) (hN : N ≤ N') : StX C H' s its F N' B := by
  obtain ⟨dx, r, f, u, d, kr, kf, ku, kd, b⟩ := h
  refine ⟨dx, r, f, u, d, kr, kf, ku, kd, ks _ b.hs, kF _ _ b.fr b.hr, kF _ _ b.ff b.hf, kF _ _ b.fu b.hu, kF _ _ b.fd b.hd, b.fr, b.ff, b.fu, b.fd, b.rf, b.ru, b.rd, b.fu', b.fd', b.ud, b.rel.to hN (fun _ _ => Iff.rfl), b.fac.to k (fun l xs hl e => kF _ _ hl e) (fun _ h => h) hN (fun _ _ => Iff.rfl) (fun _ => Iff.rfl), b.rul.to k hN (fun _ _ _ _ => Iff.rfl), b.den.to k hN (fun _ _ => Iff.rfl), b.srt, b.ok, b.fs, fun a ha => ?_⟩
  rcases b.fp a ha with ⟨x, e⟩ | ⟨x, e⟩
  · exact .inl ⟨x, kF _ _ ha e⟩
  · exact .inr ⟨x, kF _ _ ha e⟩
theorem StX.same {C : Addr} {H H' : Hp} {s : Addr} {its : List It1} {F : Addr → Prop} {N : Nat} {B : Str → Prop} (h : StX C H s its F N B) (k : Same H H') : StX C H' s its F N B := h.mono (Tk.of k) (fun o e => k _ o e) (fun a o _ e => k a o e) (Nat.le_refl _)
/-- all but the things of F stays -/
def Out (F : Addr → Prop) (H H' : Hp) : Prop := ∀ a o, ¬ F a → H a = some o → H' a = some o
theorem Out.refl (F : Addr → Prop) (H : Hp) : Out F H H := fun _ _ _ h => h
theorem Out.trans {F : Addr → Prop} {H H1 H2 : Hp} (a : Out F H H1) (b : Out F H1 H2) : Out F H H2 := fun x o n h => b x o n (a x o n h)
theorem Out.of {F : Addr → Prop} {H H' : Hp} (s : Same H H') : Out F H H' := fun a o _ h => s a o h
theorem Out.put {F : Addr → Prop} {H : Hp} {p : Addr} {o : HO} (h : F p) : Out F H (upd H p o) := fun a u n e => by
  rw [upd_ne (fun z => n (by rw [z]; exact h))]
  exact e
/-- the state's own things are no tuples -/
theorem Out.tk {F : Addr → Prop} {H H' : Hp} (o : Out F H H') (fp : ∀ a, F a → (∃ kvs, H a = some (.dK kvs)) ∨ ∃ xs, H a = some (.lst xs)) : Tk H H' := fun a xs h => o a _ (fun z => by
  rcases fp a z with ⟨x, e⟩ | ⟨x, e⟩ <;> rw [h] at e <;> cases e) h
theorem fl_rel (r f u d : Addr) : (flds r f u d).lookup ("relations" : Str) = some (.ref r) := by rfl
theorem fl_fac (r f u d : Addr) : (flds r f u d).lookup ("facts" : Str) = some (.ref f) := by rfl
theorem fl_rul (r f u d : Addr) : (flds r f u d).lookup ("rules" : Str) = some (.ref u) := by rfl
theorem fl_den (r f u d : Addr) : (flds r f u d).lookup ("denials" : Str) = some (.ref d) := by rfl
/-- the class State as the top has made it -/
structure Cs (K : PySem.W.Frag) (mg : Str → Option Value) (C : Addr) : Prop where
  cl : Cls K C
  nR : NoAttr K C "relations"
  nF : NoAttr K C "facts"
  nU : NoAttr K C "rules"
  nD : NoAttr K C "denials"
  mgC : mg "State" = some (.ref C)
/-- a method as its callers know it -/
structure MDef (P : Program) (w : World) (K : PySem.W.Frag) (mg : Str → Option Value) (base : Heap) (C : Addr) (m : Str) (k : Nat) (ps : List Str) (sp : Sp) : Prop where
  ex : ∃ (f : Addr) (fd : FuncData), FnOk P w K mg base CX0 k f fd ps sp ∧ Meth K C m f ∧ Binds K fd ps []
section
variable {X : Cx} {k : Nat} {m : Str} {C : Addr} {ps : List Str} {sp : Sp} {o e : Expr} {es : List Expr} {ta : TE} {t : TA} {pos apos : Pos}
theorem pe_mdef (D : MDef X.prog X.w X.K X.mg X.base C m k ps sp) (he : PE X o ta) (c : Cls X.K C) (hr : Room k X.A) (ha : PA X (e :: es) t) {pl : Sem Bool}
    (hst : starEach (e :: es) X.env = (false, eval e X.env) :: starEach es X.env := by rfl) (hpl : (backTo pos (starEach es X.env)).any (·.1) = false := by rfl)
    (ht : eval (.Call (.Attribute o m apos) (e :: es) [] pos) X.env = (do
      let ov ← eval o X.env
      standAt apos.atName
      let (f, first) ← holding [ov] (getMethod ov m pl)
      callWith pos f first (backTo pos (starEach (e :: es) X.env)) (backToKw pos (keywordEach [] X.env))) := by rfl) : PE X (.Call (.Attribute o m apos) (e :: es) [] pos) (tMeth C m sp [] E0 ta t) := by
  obtain ⟨f, fd, F, M, hb⟩ := D.ex
  exact pe_meth he c M F hr hb .nil pass0 ha hst hpl ht
end
end KU

namespace KU
open PySem PySem.Spec PyProof.Rows L2 KA
section
variable {C : Addr} {H : Hp} {s dx r f u d : Addr} {kr kf ku kd : List (Key × V)} {its : List It1} {F : Addr → Prop} {N : Nat} {B : Str → Prop}
theorem StB.ns (b : StB C H s dx r f u d kr kf ku kd its F N B) {a : Addr} (h : F a) : s ≠ a := fun z => b.fs (by rw [z]; exact h)
/-- no list of the state's facts is one of its four dicts -/
theorem lst_ne {H : Hp} {l a : Addr} {xs : List V} {kvs : List (Key × V)} (e : H l = some (.lst xs)) (e2 : H a = some (.dK kvs)) : l ≠ a := fun z => by
  rw [z, e2] at e
  cases e
/-- a new list for a name's facts -/
theorem setd_none (b : StB C H s dx r f u d kr kf ku kd its F N B) {p : Addr} {nm : Str} (hp : H p = none) (hn : valV kf (Sum.inr nm : Key) = none) (hB : ∀ ds, It1.fact nm ds ∈ its → B nm) :
    StB C (upd (upd H p (.lst [])) f (.dK (putK kf (Sum.inr nm : Key) (.ref p)))) s dx r f u d kr (putK kf (Sum.inr nm : Key) (.ref p)) ku kd its (fun a => F a ∨ a = p) (N + 1) (fun x => x = nm ∨ B x) := by
  have h0 : ∀ a o, H a = some o → a ≠ p := fun a o e z => by rw [z, hp] at e; cases e
  have hs' := b.hs
  have e1 : ∀ a o, a ≠ f → H a = some o → (upd (upd H p (.lst [])) f (.dK (putK kf (Sum.inr nm : Key) (.ref p)))) a = some o := fun a o n e => by
    rw [upd_ne n, upd_ne (h0 _ _ e)]
    exact e
  have tk : Tk H (upd (upd H p (.lst [])) f (.dK (putK kf (Sum.inr nm : Key) (.ref p)))) := fun a xs e => e1 a _ (fun z => by rw [z, b.hf] at e; cases e) e
  have pf : p ≠ f := fun z => h0 f _ b.hf z.symm
  have hps : s ≠ p := h0 s _ hs'
  obtain ⟨f1, f2, f3, f4, f5⟩ := b.fac
  refine ⟨e1 _ _ (b.ns b.ff) b.hs, e1 _ _ b.rf b.hr, upd_same, e1 _ _ b.fu'.symm b.hu, e1 _ _ b.fd'.symm b.hd, .inl b.fr, .inl b.ff, .inl b.fu, .inl b.fd, b.rf, b.ru, b.rd, b.fu', b.fd', b.ud, b.rel.to (Nat.le_succ _) (fun _ _ => Iff.rfl), ⟨nd_put f1 _ _, ?_, fun k v m => ?_, fun x => ?_, fun k k' v m m' => ?_⟩,
    b.rul.to tk (Nat.le_succ _) (fun _ _ _ _ => Iff.rfl), b.den.to tk (Nat.le_succ _) (fun _ _ => Iff.rfl), b.srt, b.ok, fun z => z.elim b.fs hps, fun a ha => ?_⟩
  · rw [putK_new _ hn, List.length_append]
    exact Nat.succ_le_succ f2
  · rcases (mem_put f1).mp m with ⟨e, e'⟩ | ⟨n, m⟩
    · refine ⟨nm, p, [], e, e', .inr rfl, ⟨⟨[], (by rw [upd_ne pf, upd_same]), .nil⟩, List.Pairwise.nil, (fun r h => by cases h), Nat.zero_le _⟩, fun ds => ⟨fun h => (by cases h), fun h => ?_⟩⟩
      obtain ⟨v0, m0⟩ := (f4 nm).mpr (hB ds h)
      exact absurd m0 ((val_none f1).mp hn v0)
    · obtain ⟨x, l, rs, a1, a2, a3, ⟨⟨ys, e, t⟩, a4, a5, a6⟩, a7⟩ := f3 k v m
      exact ⟨x, l, rs, a1, a2, .inl a3, ⟨⟨ys, e1 _ _ (lst_ne e b.hf) e, t.mono tk⟩, a4, a5, Nat.le_succ_of_le a6⟩, a7⟩
  · constructor
    · rintro ⟨v, m⟩
      rcases (mem_put f1).mp m with ⟨e, _⟩ | ⟨_, m⟩
      · exact .inl (by injection e)
      · exact .inr ((f4 x).mp ⟨v, m⟩)
    · rintro (rfl | h)
      · exact ⟨_, (mem_put f1).mpr (.inl ⟨rfl, rfl⟩)⟩
      · obtain ⟨v, m⟩ := (f4 x).mpr h
        by_cases c : (Sum.inr x : Key) = Sum.inr nm
        · rw [c] at m
          exact absurd m ((val_none f1).mp hn v)
        · exact ⟨v, (mem_put f1).mpr (.inr ⟨c, m⟩)⟩
  · have no : ∀ k, (k, V.ref p) ∉ kf := fun k m0 => by
      obtain ⟨x, l, rs, a1, a2, a3, ⟨⟨ys, e, t⟩, _⟩, _⟩ := f3 k _ m0
      injection a2 with a2
      rw [← a2, hp] at e
      cases e
    rcases (mem_put f1).mp m with ⟨a, a'⟩ | ⟨_, m⟩
    · rcases (mem_put f1).mp m' with ⟨c, _⟩ | ⟨_, m'⟩
      · rw [a, c]
      · rw [a'] at m'
        exact absurd m' (no _)
    · rcases (mem_put f1).mp m' with ⟨c, c'⟩ | ⟨_, m'⟩
      · rw [c'] at m
        exact absurd m (no _)
      · exact f5 _ _ _ m m'
  · rcases ha with ha | rfl
    · by_cases c : a = f
      · rw [c, upd_same]
        exact .inl ⟨_, rfl⟩
      · rcases b.fp a ha with ⟨x, e⟩ | ⟨x, e⟩
        · exact .inl ⟨x, e1 _ _ c e⟩
        · exact .inr ⟨x, e1 _ _ c e⟩
    · refine .inr ⟨[], ?_⟩
      rw [upd_ne pf, upd_same]
/-- the rows of one name change -/
theorem set_rows (b : StB C H s dx r f u d kr kf ku kd its F N B) {its' : List It1} {nm : Str} {l : Addr} {ys : List V} {rs : List (List PyData)} (m : ((Sum.inr nm : Key), V.ref l) ∈ kf) (hF : F l) (eo : ∃ ys0, H l = some (.lst ys0)) (t : Tps H ys (rs.map PyData.tuple)) (sr : SortedR rs) (okr : ∀ r ∈ rs, Atoms r ∧ r.length ≤ 1000) (ln : rs.length ≤ N + 1)
    (m1 : ∀ ds, It1.fact nm ds ∈ its' ↔ ds ∈ rs) (m2 : ∀ x ds, x ≠ nm → (It1.fact x ds ∈ its' ↔ It1.fact x ds ∈ its)) (m3 : ∀ x n, It1.rel x n ∈ its' ↔ It1.rel x n ∈ its) (m4 : ∀ x a c e, It1.rule x a c e ∈ its' ↔ It1.rule x a c e ∈ its) (m5 : ∀ x e, It1.den x e ∈ its' ↔ It1.den x e ∈ its)
    (so : SortedI its') (ok : OkL its') : StB C (upd H l (.lst ys)) s dx r f u d kr kf ku kd its' F (N + 1) B := by
  obtain ⟨ys0, eo⟩ := eo
  have e1 : ∀ a o, a ≠ l → H a = some o → (upd H l (.lst ys)) a = some o := fun a o n e => by
    rw [upd_ne n]
    exact e
  have tk : Tk H (upd H l (.lst ys)) := Tk.lst eo
  obtain ⟨f1, f2, f3, f4, f5⟩ := b.fac
  refine ⟨e1 _ _ (b.ns hF) b.hs, e1 _ _ (lst_ne eo b.hr).symm b.hr, e1 _ _ (lst_ne eo b.hf).symm b.hf, e1 _ _ (lst_ne eo b.hu).symm b.hu, e1 _ _ (lst_ne eo b.hd).symm b.hd, b.fr, b.ff, b.fu, b.fd, b.rf, b.ru, b.rd, b.fu', b.fd', b.ud, b.rel.to (Nat.le_succ _) m3, ⟨f1, Nat.le_succ_of_le f2, fun k v mk => ?_, f4, f5⟩,
    b.rul.to tk (Nat.le_succ _) m4, b.den.to tk (Nat.le_succ _) m5, so, ok, b.fs, fun a ha => ?_⟩
  · obtain ⟨x, l2, rs2, a1, a2, a3, ⟨⟨ys2, e, t2⟩, a4, a5, a6⟩, a7⟩ := f3 k v mk
    by_cases c : l2 = l
    · subst c
      rw [a2] at mk
      have ek := f5 _ _ _ mk m
      rw [ek] at a1
      injection a1 with a1
      subst a1
      exact ⟨nm, l2, rs, ek, a2, a3, ⟨⟨ys, upd_same, t.mono tk⟩, sr, okr, ln⟩, fun ds => (m1 ds).symm⟩
    · have cx : x ≠ nm := fun z => by
        rw [a1, z, a2] at mk
        have q1 := (mem_val f1).mpr mk
        rw [(mem_val f1).mpr m] at q1
        injection q1 with q1
        injection q1 with q1
        exact c q1.symm
      exact ⟨x, l2, rs2, a1, a2, a3, ⟨⟨ys2, e1 _ _ c e, t2.mono tk⟩, a4, a5, Nat.le_succ_of_le a6⟩, fun ds => (a7 ds).trans (m2 x ds cx).symm⟩
  · by_cases c : a = l
    · rw [c, upd_same]
      exact .inr ⟨_, rfl⟩
    · rcases b.fp a ha with ⟨x, e⟩ | ⟨x, e⟩
      · exact .inl ⟨x, e1 _ _ c e⟩
      · exact .inr ⟨x, e1 _ _ c e⟩
/-- one of the four dicts changes -/
theorem StB.keepF (b : StB C H s dx r f u d kr kf ku kd its F N B) {a0 : Addr} {kvs kvs' : List (Key × V)} (h0 : F a0) (e0 : H a0 = some (.dK kvs)) : (upd H a0 (.dK kvs')) s = some (.ins C dx (flds r f u d)) ∧ Tk H (upd H a0 (.dK kvs')) ∧ (∀ l xs, F l → H l = some (.lst xs) → (upd H a0 (.dK kvs')) l = some (.lst xs)) ∧
    ∀ a, F a → (∃ kvs2, (upd H a0 (.dK kvs')) a = some (.dK kvs2)) ∨ ∃ xs, (upd H a0 (.dK kvs')) a = some (.lst xs) := by
  refine ⟨by rw [upd_ne (b.ns h0)]; exact b.hs, fun a xs e => ?_, fun l xs _ e => ?_, fun a ha => ?_⟩
  · rw [upd_ne (fun z => by rw [z, e0] at e; cases e)]
    exact e
  · rw [upd_ne (lst_ne e e0)]
    exact e
  · by_cases c : a = a0
    · rw [c, upd_same]
      exact .inl ⟨_, rfl⟩
    · rw [upd_ne c]
      exact b.fp a ha
theorem set_rel (b : StB C H s dx r f u d kr kf ku kd its F N B) {its' : List It1} {kr' : List (Key × V)} (hr : RelOk kr' its' (N + 1)) (m1 : ∀ x ds, It1.fact x ds ∈ its' ↔ It1.fact x ds ∈ its) (m4 : ∀ x a c e, It1.rule x a c e ∈ its' ↔ It1.rule x a c e ∈ its) (m5 : ∀ x e, It1.den x e ∈ its' ↔ It1.den x e ∈ its)
    (so : SortedI its') (ok : OkL its') : StB C (upd H r (.dK kr')) s dx r f u d kr' kf ku kd its' F (N + 1) B := by
  obtain ⟨k1, k2, k3, k4⟩ := b.keepF (kvs' := kr') b.fr b.hr
  exact ⟨k1, upd_same, by rw [upd_ne b.rf.symm]; exact b.hf, by rw [upd_ne b.ru.symm]; exact b.hu, by rw [upd_ne b.rd.symm]; exact b.hd, b.fr, b.ff, b.fu, b.fd, b.rf, b.ru, b.rd, b.fu', b.fd', b.ud, hr, b.fac.to k2 k3 (fun _ h => h) (Nat.le_succ _) m1 (fun _ => Iff.rfl), b.rul.to k2 (Nat.le_succ _) m4, b.den.to k2 (Nat.le_succ _) m5, so, ok, b.fs, k4⟩
theorem set_rul (b : StB C H s dx r f u d kr kf ku kd its F N B) {its' : List It1} {ku' : List (Key × V)} (hr : RulOk H ku' its' (N + 1)) (m1 : ∀ x ds, It1.fact x ds ∈ its' ↔ It1.fact x ds ∈ its) (m3 : ∀ x n, It1.rel x n ∈ its' ↔ It1.rel x n ∈ its) (m5 : ∀ x e, It1.den x e ∈ its' ↔ It1.den x e ∈ its)
    (so : SortedI its') (ok : OkL its') : StB C (upd H u (.dK ku')) s dx r f u d kr kf ku' kd its' F (N + 1) B := by
  obtain ⟨k1, k2, k3, k4⟩ := b.keepF (kvs' := ku') b.fu b.hu
  exact ⟨k1, by rw [upd_ne b.ru]; exact b.hr, by rw [upd_ne b.fu']; exact b.hf, upd_same, by rw [upd_ne b.ud.symm]; exact b.hd, b.fr, b.ff, b.fu, b.fd, b.rf, b.ru, b.rd, b.fu', b.fd', b.ud, b.rel.to (Nat.le_succ _) m3, b.fac.to k2 k3 (fun _ h => h) (Nat.le_succ _) m1 (fun _ => Iff.rfl), hr.to k2 (Nat.le_refl _) (fun _ _ _ _ => Iff.rfl), b.den.to k2 (Nat.le_succ _) m5, so, ok, b.fs, k4⟩
theorem set_den (b : StB C H s dx r f u d kr kf ku kd its F N B) {its' : List It1} {kd' : List (Key × V)} (hr : DenOk H kd' its' (N + 1)) (m1 : ∀ x ds, It1.fact x ds ∈ its' ↔ It1.fact x ds ∈ its) (m3 : ∀ x n, It1.rel x n ∈ its' ↔ It1.rel x n ∈ its) (m4 : ∀ x a c e, It1.rule x a c e ∈ its' ↔ It1.rule x a c e ∈ its)
    (so : SortedI its') (ok : OkL its') : StB C (upd H d (.dK kd')) s dx r f u d kr kf ku kd' its' F (N + 1) B := by
  obtain ⟨k1, k2, k3, k4⟩ := b.keepF (kvs' := kd') b.fd b.hd
  exact ⟨k1, by rw [upd_ne b.rd]; exact b.hr, by rw [upd_ne b.fd']; exact b.hf, by rw [upd_ne b.ud]; exact b.hu, upd_same, b.fr, b.ff, b.fu, b.fd, b.rf, b.ru, b.rd, b.fu', b.fd', b.ud, b.rel.to (Nat.le_succ _) m3, b.fac.to k2 k3 (fun _ h => h) (Nat.le_succ _) m1 (fun _ => Iff.rfl), b.rul.to k2 (Nat.le_succ _) m4, hr.to k2 (Nat.le_refl _) (fun _ _ => Iff.rfl), so, ok, b.fs, k4⟩
/-- a name's list is forgotten -/
theorem drop_fac (b : StB C H s dx r f u d kr kf ku kd its F N B) {nm : Str} (hn : ¬ hasNm its nm) : StB C (upd H f (.dK (dropK kf (Sum.inr nm : Key)))) s dx r f u d kr (dropK kf (Sum.inr nm : Key)) ku kd its F N (fun x => x ≠ nm ∧ B x) := by
  obtain ⟨k1, k2, k3, k4⟩ := b.keepF (kvs' := dropK kf (Sum.inr nm : Key)) b.ff b.hf
  obtain ⟨f1, f2, f3, f4, f5⟩ := b.fac
  refine ⟨k1, by rw [upd_ne b.rf]; exact b.hr, upd_same, by rw [upd_ne b.fu'.symm]; exact b.hu, by rw [upd_ne b.fd'.symm]; exact b.hd, b.fr, b.ff, b.fu, b.fd, b.rf, b.ru, b.rd, b.fu', b.fd', b.ud, b.rel, ⟨nd_dropK f1, Nat.le_trans (List.length_filter_le _ _) f2, fun k v m => ?_, fun x => ?_, fun k k' v m m' => f5 _ _ _ (mem_dropK.mp m).2 (mem_dropK.mp m').2⟩,
    b.rul.to k2 (Nat.le_refl _) (fun _ _ _ _ => Iff.rfl), b.den.to k2 (Nat.le_refl _) (fun _ _ => Iff.rfl), b.srt, b.ok, b.fs, k4⟩
  · obtain ⟨x, l, rs, a1, a2, a3, ⟨⟨ys, e, t⟩, a4, a5, a6⟩, a7⟩ := f3 k v (mem_dropK.mp m).2
    exact ⟨x, l, rs, a1, a2, a3, ⟨⟨ys, k3 _ _ a3 e, t.mono k2⟩, a4, a5, a6⟩, a7⟩
  · constructor
    · rintro ⟨v, m⟩
      obtain ⟨n, m⟩ := mem_dropK.mp m
      exact ⟨fun z => n (by rw [z]), (f4 x).mp ⟨v, m⟩⟩
    · rintro ⟨n, h⟩
      obtain ⟨v, m⟩ := (f4 x).mpr h
      exact ⟨v, mem_dropK.mpr ⟨fun z => n (by injection z), m⟩⟩
theorem StB.nameB (b : StB C H s dx r f u d kr kf ku kd its F N B) {B' : Str → Prop} (h : ∀ x, B' x ↔ B x) : StB C H s dx r f u d kr kf ku kd its F N B' := by
  obtain ⟨f1, f2, f3, f4, f5⟩ := b.fac
  exact ⟨b.hs, b.hr, b.hf, b.hu, b.hd, b.fr, b.ff, b.fu, b.fd, b.rf, b.ru, b.rd, b.fu', b.fd', b.ud, b.rel, ⟨f1, f2, f3, fun x => (f4 x).trans (h x).symm, f5⟩, b.rul, b.den, b.srt, b.ok, b.fs, b.fp⟩
end
theorem RelOk.put {kr : List (Key × V)} {its : List It1} {N : Nat} (h : RelOk kr its N) (o : OkL its) (nm : Str) (n : Int) : RelOk (putK kr (Sum.inr nm : Key) (.int n)) (putI its (.rel nm n)) (N + 1) := by
  obtain ⟨f1, f2, f3⟩ := h
  refine ⟨nd_put f1 _ _, Nat.le_trans (length_putK _ _ _) (Nat.succ_le_succ f2), fun k v => ?_⟩
  rw [mem_put f1]
  constructor
  · rintro (⟨rfl, rfl⟩ | ⟨c, m⟩)
    · exact ⟨nm, n, rfl, rfl, (put_rel o _ _).mpr (.inl ⟨rfl, rfl⟩)⟩
    · obtain ⟨x, i, rfl, rfl, e⟩ := (f3 k v).mp m
      exact ⟨x, i, rfl, rfl, (put_rel o _ _).mpr (.inr ⟨fun z => c (by rw [z]), e⟩)⟩
  · rintro ⟨x, i, rfl, rfl, e⟩
    rcases (put_rel o _ _).mp e with ⟨rfl, rfl⟩ | ⟨c, e⟩
    · exact .inl ⟨rfl, rfl⟩
    · exact .inr ⟨fun z => c (by injection z), (f3 _ _).mpr ⟨x, i, rfl, rfl, e⟩⟩
theorem RulOk.put {H : Hp} {ku : List (Key × V)} {its : List It1} {N : Nat} (h : RulOk H ku its N) (o : OkL its) {nm rl : Str} {ts bd : PyData} (oi : okI (.rule nm rl ts bd)) {v : V} (tv : Tp H v (.tuple [.str rl, ts, bd])) : RulOk H (putK ku (Sum.inr nm : Key) v) (putI its (.rule nm rl ts bd)) (N + 1) := by
  obtain ⟨f1, f2, f3, f4⟩ := h
  refine ⟨nd_put f1 _ _, Nat.le_trans (length_putK _ _ _) (Nat.succ_le_succ f2), fun k v' m => ?_, fun a b c e m => ?_⟩
  · rcases (mem_put f1).mp m with ⟨rfl, rfl⟩ | ⟨c, m⟩
    · exact ⟨nm, rl, ts, bd, rfl, tv, (put_rule o oi _ _ _ _).mpr (.inl ⟨rfl, rfl, rfl, rfl⟩)⟩
    · obtain ⟨x, a, b, e, rfl, t, z⟩ := f3 k v' m
      exact ⟨x, a, b, e, rfl, t, (put_rule o oi _ _ _ _).mpr (.inr ⟨fun z => c (by rw [z]), z⟩)⟩
  · rcases (put_rule o oi _ _ _ _).mp m with ⟨rfl, _⟩ | ⟨n, m⟩
    · exact ⟨_, (mem_put f1).mpr (.inl ⟨rfl, rfl⟩)⟩
    · obtain ⟨x, z⟩ := f4 _ _ _ _ m
      exact ⟨x, (mem_put f1).mpr (.inr ⟨fun z => n (by injection z), z⟩)⟩
theorem DenOk.put {H : Hp} {kd : List (Key × V)} {its : List It1} {N : Nat} (h : DenOk H kd its N) (o : OkL its) {nm : Str} {bd : PyData} (oi : okI (.den nm bd)) {v : V} (tv : Tp H v bd) : DenOk H (putK kd (Sum.inr nm : Key) v) (putI its (.den nm bd)) (N + 1) := by
  obtain ⟨f1, f2, f3, f4⟩ := h
  refine ⟨nd_put f1 _ _, Nat.le_trans (length_putK _ _ _) (Nat.succ_le_succ f2), fun k v' m => ?_, fun a b m => ?_⟩
  · rcases (mem_put f1).mp m with ⟨rfl, rfl⟩ | ⟨c, m⟩
    · exact ⟨nm, bd, rfl, tv, (put_den o oi _ _).mpr (.inl ⟨rfl, rfl⟩)⟩
    · obtain ⟨x, a, rfl, t, z⟩ := f3 k v' m
      exact ⟨x, a, rfl, t, (put_den o oi _ _).mpr (.inr ⟨fun z => c (by rw [z]), z⟩)⟩
  · rcases (put_den o oi _ _).mp m with ⟨rfl, _⟩ | ⟨n, m⟩
    · exact ⟨_, (mem_put f1).mpr (.inl ⟨rfl, rfl⟩)⟩
    · obtain ⟨x, z⟩ := f4 _ _ m
      exact ⟨x, (mem_put f1).mpr (.inr ⟨fun z => n (by injection z), z⟩)⟩
/-- which items are there behind a take -/
theorem take_mem {l : List It1} {i : It1} (o : OkL l) (oi : okI i) (x : It1) : x ∈ takeI l (keyI i) ↔ x ∈ l ∧ keyI x ≠ keyI i := mem_takeI o (okK_of oi) x
theorem take_other {l : List It1} {i j : It1} (o : OkL l) (oi : okI i) (n : (keyI j).1 ≠ (keyI i).1) : j ∈ takeI l (keyI i) ↔ j ∈ l := by
  rw [take_mem o oi]
  exact ⟨fun h => h.1, fun h => ⟨h, fun z => n (by rw [z])⟩⟩
theorem RelOk.take {kr : List (Key × V)} {its : List It1} {N : Nat} (h : RelOk kr its N) (o : OkL its) (nm : Str) (n0 : Int) : RelOk (dropK kr (Sum.inr nm : Key)) (takeI its (keyI (.rel nm n0))) (N + 1) := by
  obtain ⟨f1, f2, f3⟩ := h
  refine ⟨nd_dropK f1, Nat.le_succ_of_le (Nat.le_trans (List.length_filter_le _ _) f2), fun k v => ?_⟩
  rw [mem_dropK]
  constructor
  · rintro ⟨c, m⟩
    obtain ⟨x, i, rfl, rfl, e⟩ := (f3 k v).mp m
    exact ⟨x, i, rfl, rfl, (take_mem (i := .rel nm n0) o trivial _).mpr ⟨e, fun z => c (by injection z with _ z; injection z with z; rw [z])⟩⟩
  · rintro ⟨x, i, rfl, rfl, e⟩
    obtain ⟨e, z⟩ := (take_mem (i := .rel nm n0) o trivial _).mp e
    exact ⟨fun y => z (by injection y with y; rw [y]; rfl), (f3 _ _).mpr ⟨x, i, rfl, rfl, e⟩⟩
theorem RulOk.take {H : Hp} {ku : List (Key × V)} {its : List It1} {N : Nat} (h : RulOk H ku its N) (o : OkL its) {nm rl : Str} {ts bd : PyData} (oi : okI (.rule nm rl ts bd)) : RulOk H (dropK ku (Sum.inr nm : Key)) (takeI its (keyI (.rule nm rl ts bd))) (N + 1) := by
  obtain ⟨f1, f2, f3, f4⟩ := h
  refine ⟨nd_dropK f1, Nat.le_succ_of_le (Nat.le_trans (List.length_filter_le _ _) f2), fun k v m => ?_, fun a b c e m => ?_⟩
  · obtain ⟨c, m⟩ := mem_dropK.mp m
    obtain ⟨x, a, b, e, rfl, t, z⟩ := f3 k v m
    exact ⟨x, a, b, e, rfl, t, (take_mem o oi _).mpr ⟨z, fun z => c (by injection z with _ z; injection z with z; rw [z])⟩⟩
  · obtain ⟨m, z⟩ := (take_mem o oi _).mp m
    obtain ⟨x, q⟩ := f4 _ _ _ _ m
    exact ⟨x, mem_dropK.mpr ⟨fun y => z (by injection y with y; rw [y]; rfl), q⟩⟩
theorem DenOk.take {H : Hp} {kd : List (Key × V)} {its : List It1} {N : Nat} (h : DenOk H kd its N) (o : OkL its) {nm : Str} {bd : PyData} (oi : okI (.den nm bd)) : DenOk H (dropK kd (Sum.inr nm : Key)) (takeI its (keyI (.den nm bd))) (N + 1) := by
  obtain ⟨f1, f2, f3, f4⟩ := h
  refine ⟨nd_dropK f1, Nat.le_succ_of_le (Nat.le_trans (List.length_filter_le _ _) f2), fun k v m => ?_, fun a b m => ?_⟩
  · obtain ⟨c, m⟩ := mem_dropK.mp m
    obtain ⟨x, a, rfl, t, z⟩ := f3 k v m
    exact ⟨x, a, rfl, t, (take_mem o oi _).mpr ⟨z, fun z => c (by injection z with _ z; injection z with z; rw [z])⟩⟩
  · obtain ⟨m, z⟩ := (take_mem o oi _).mp m
    obtain ⟨x, q⟩ := f4 _ _ m
    exact ⟨x, mem_dropK.mpr ⟨fun y => z (by injection y with y; rw [y]; rfl), q⟩⟩
end KU

namespace KU
open PySem PySem.Spec PyProof.Rows L2 KA
theorem fl_no (r f u d : Addr) {m : Str} (h1 : ¬ m = "relations") (h2 : ¬ m = "facts") (h3 : ¬ m = "rules") (h4 : ¬ m = "denials") : (flds r f u d).lookup m = none := by
  unfold flds
  have e : ∀ (x : Str) (v : V) (l : List (Str × V)), ¬ m = x → ((x, v) :: l).lookup m = l.lookup m := fun x v l n => by
    rw [List.lookup_cons, beq_false_of_ne n]
  rw [e _ _ _ h1, e _ _ _ h2, e _ _ _ h3, e _ _ _ h4]
  rfl
theorem insert_at {α : Type} (ys : List α) (p : Nat) (y : α) : ys.take ((p : Int).toNat) ++ [y] ++ ys.drop ((p : Int).toNat) = ys.take p ++ y :: ys.drop p := by
  rw [Int.toNat_natCast, List.append_assoc]
  rfl
theorem Tps.takeN {H : Hp} : ∀ {ds : List PyData} {vs : List V} (n : Nat), Tps H vs ds → Tps H (vs.take n) (ds.take n)
  | _, _, 0, _ => .nil
  | _, _, n + 1, .nil => .nil
  | _, _, n + 1, .cons a b => .cons a (Tps.takeN n b)
theorem Tps.dropN {H : Hp} : ∀ {ds : List PyData} {vs : List V} (n : Nat), Tps H vs ds → Tps H (vs.drop n) (ds.drop n)
  | _, _, 0, h => h
  | _, _, n + 1, .nil => .nil
  | _, _, n + 1, .cons a b => Tps.dropN n b
theorem Out.put2 {F : Addr → Prop} {H H4 : Hp} {l : Addr} {o : HO} (h : Out F H H4) (c : F l ∨ H l = none) : Out F H (upd H4 l o) := fun a u n e => by
  rw [upd_ne (fun z => ?_)]
  · exact h a u n e
  · rcases c with c | c
    · exact n (by rw [z]; exact c)
    · rw [z, c] at e
      cases e
section
variable {P : Program} {w : World} {K : PySem.W.Frag} {mg : Str → Option Value} {base : Heap} {C : Addr}
abbrev dSA (P : Program) (w : World) (K : PySem.W.Frag) (mg : Str → Option Value) (base : Heap) : Prop := Def P w K mg base "stands_at" 4 ["rows", "at", "row"] spSA
/-- what a method that changes the state promises -/
def After (C : Addr) (s : Addr) (H : Hp) (its' : List It1) (F : Addr → Prop) (N : Nat) (Q : VK) : Prop := ∀ H' F', Out F H H' → (∀ a, F' a → F a ∨ H a = none) → StAt C H' s its' F' (N + 2) → Q .non H'
abbrev sPR : Stmt := inClass (topS 30) 6
theorem scPR : FnScope ["self", "name", "row", "rows", "at"] ["self", "name", "row"] (defScope sPR) := ⟨rfl, rfl, rfl, by decide +kernel, rfl, by decide +kernel, by decide +kernel⟩
def spPR (C : Addr) : Sp := fun vs H Q _ => ∃ (s : Addr) (nm : Str) (v : V) (row : List PyData) (its : List It1) (F : Addr → Prop) (N : Nat), vs = [.ref s, .str nm, v] ∧ StAt C H s its F N ∧ N + 2 ≤ 1000 ∧ Tp H v (.tuple row) ∧ Atoms row ∧ row.length ≤ 1000 ∧ After C s H (putI its (.fact nm row)) F N Q
theorem hu1 {A : Around} {k : Nat} (hr : Room (k + 1) A) : A.units + 1 < cLine := hu_of hr
theorem rows_put {its : List It1} {nm : Str} {row : List PyData} {rs : List (List PyData)} (o : OkL its) (oi : okI (.fact nm row)) (m : ∀ ds, ds ∈ rs ↔ It1.fact nm ds ∈ its) (n : row ∉ rs) (p : Nat) (ds : List PyData) : It1.fact nm ds ∈ putI its (.fact nm row) ↔ ds ∈ rs.take p ++ row :: rs.drop p := by
  rw [put_fact o oi, ← m ds]
  have e : ds ∈ rs ↔ ds ∈ rs.take p ∨ ds ∈ rs.drop p := by
    rw [← List.mem_append, List.take_append_drop]
  rw [e, List.mem_append, List.mem_cons]
  constructor
  · rintro (⟨_, h⟩ | h | h)
    · exact .inr (.inl h)
    · exact .inl h
    · exact .inr (.inr h)
  · rintro (h | h | h)
    · exact .inr (.inl h)
    · exact .inl ⟨rfl, h⟩
    · exact .inr (.inr h)
theorem putI_there {its : List It1} {i : It1} (s : SortedI its) (o : OkL its) (oi : okI i) (h : i ∈ its) : putI its i = its := by
  refine sorted_ext (sorted_putI s o oi) s (ok_putI o oi) o fun x => ?_
  rw [mem_putI o oi]
  constructor
  · rintro (rfl | h)
    · exact h
    · exact h.1
  · intro hx
    by_cases c : keyI x = keyI i
    · exact .inl (sorted_key s o hx h c)
    · exact .inr ⟨hx, c⟩
theorem ok_pr {f : Addr} {fd : FuncData} (F : Fun K "_put_row" "State._put_row" sPR f fd) (T : Cs K mg C) (DP : dPO P w K mg base) (DS : dSA P w K mg base) : FnOk P w K mg base CX0 5 f fd ["self", "name", "row"] (spPR C) := by
  refine F.ok scPR (fun vs H Q E h => ?_) (fun cdv A outer s H vs Q E hr h => ?_)
  · obtain ⟨_, _, _, _, _, _, _, rfl, _⟩ := h
    rfl
  · obtain ⟨s, nm, v, row, its, F, N, rfl, S, hN, tv, ar, lr, q⟩ := h
    have r3 : Room 3 _ := hr.mono (by decide)
    refine ⟨_, pss_cons (ps_set (i := 3) scPR.nd rfl (.inl rfl) (pe_dsetd (pe_fld (pv 0) rfl) (pv 1) (pe_lst pa_nil) ⟨rfl, rfl, rfl, rfl⟩))
      (pss_cons (ps_set (i := 4) scPR.nd rfl (.inl rfl) (pe_def DP r3 (by rfl) (pa_cons (pv 3) (pa_cons (pv 2) pa_nil))))
      (pss_one (ps_if (pt_not (pt_val (pe_def DS hr (by rfl) (pa_cons (pv 3) (pa_cons (pv 4) (pa_cons (pv 2) pa_nil))))))
        (pss_one (ps_expr (pe_bm PySem.F.plainAttrs_list PySem.F.slot_list_insert PySem.F.type_list_insert mt_insert (pv 3) (pa_cons (pv 4) (pa_cons (pv 2) pa_nil))))) pss_nil))), ?_⟩
    obtain ⟨dx, r, f, u, d, kr, kf, ku, kd, b⟩ := id S
    obtain ⟨f1, f2, f3, f4, f5⟩ := id b.fac
    have oi : okI (.fact nm row) := ⟨ar, lr⟩
    refine ⟨.ref s, rfl, s, C, dx, _, _, rfl, b.hs, T.cl, T.nF, fl_fac _ _ _ _, f, rfl, .inl ⟨kf, .of b.hf⟩, .str nm, rfl, (by show 0 ≤ sizeLine; decide), fun p np => ?_⟩
    have nf : f ≠ p := fun z => by
      have e := b.hf
      rw [z, np] at e
      cases e
    have s1 : Same H (upd H p (.lst [])) := same_new np
    refine ⟨kf, Sum.inr nm, (by rw [upd_ne nf]; exact b.hf), rfl, small1000 (by omega), fun v0 hv0 => ?_, fun hn => ?_⟩
    · have m0 := (mem_val f1).mp hv0
      obtain ⟨x, l, rs0, e1, rfl, _, _, _⟩ := f3 _ _ m0
      injection e1 with e1
      subst e1
      have b2 : StB C (upd H p (.lst [])) s dx r f u d kr kf ku kd its F (N + 1) (hasNm its) := ⟨s1 _ _ b.hs, s1 _ _ b.hr, s1 _ _ b.hf, s1 _ _ b.hu, s1 _ _ b.hd, b.fr, b.ff, b.fu, b.fd, b.rf, b.ru, b.rd, b.fu', b.fd', b.ud, b.rel.to (Nat.le_succ _) (fun _ _ => Iff.rfl), b.fac.to (Tk.of s1) (fun _ _ _ e => s1 _ _ e) (fun _ h => h) (Nat.le_succ _) (fun _ _ => Iff.rfl) (fun _ => Iff.rfl), b.rul.to (Tk.of s1) (Nat.le_succ _) (fun _ _ _ _ => Iff.rfl), b.den.to (Tk.of s1) (Nat.le_succ _) (fun _ _ => Iff.rfl), b.srt, b.ok, b.fs, fun a ha => by
        rcases b.fp a ha with ⟨x, e⟩ | ⟨x, e⟩
        · exact .inl ⟨x, s1 _ _ e⟩
        · exact .inr ⟨x, s1 _ _ e⟩⟩
      have m2 := m0
      have hB2 : ∀ y, hasNm its y ↔ y = nm ∨ hasNm its y := fun y => ⟨.inr, fun h => h.elim (fun z => by rw [z]; exact (f4 nm).mp ⟨_, m0⟩) id⟩
      have o2 : Out F H (upd H p (.lst [])) := Out.of s1
      have c2 : ∀ a, F a → F a ∨ H a = none := fun a h => .inl h
      have tk2 : Tk H (upd H p (.lst [])) := Tk.of s1
      revert b2 m2 hB2 o2 c2 tk2
      generalize upd H p (.lst []) = H2
      intro b2 m2 hB2 o2 c2 tk2
      obtain ⟨g1, g2, g3, g4, g5⟩ := id b2.fac
      obtain ⟨x, l, rs, e1, e2, e3, e4, e5⟩ := g3 _ _ m2
      injection e1 with e1
      subst e1
      injection e2 with e2
      subst e2
      refine ⟨.ref _, rfl, v, rfl, _, v, rs, row, N + 1, rfl, e4, by omega, tv.mono tk2, ar, lr, fun at_ H3 s3 h1 h2 h3 => ?_⟩
      obtain ⟨sp1, sp2⟩ := rows_split e4.srt (fun r hr => (e4.ok r hr).1) ar h1 h2 h3
      obtain ⟨⟨ys, el, tr⟩, srt, okr, hN2⟩ := id e4
      refine ⟨.ref _, rfl, .int (at_ : Nat), rfl, v, rfl, _, v, rs, row, N + 1, at_, rfl, ⟨⟨ys, s3 _ _ el, tr.mono (Tk.of s3)⟩, srt, okr, hN2⟩, by omega, (tv.mono tk2).mono (Tk.of s3), ar, lr, fun t H4 s4 ht => ?_⟩
      have s34 : Same _ H4 := s3.trans s4
      have bS : ∀ N3, N + 1 ≤ N3 → _ := fun N3 hN3 => StX.mono ⟨dx, r, f, u, d, kr, _, ku, kd, b2⟩ (Tk.of s34) (fun o e => s34 _ _ e) (fun a o _ e => s34 a o e) hN3
      have hput : ∀ y, hasNm (putI its (.fact nm row)) y ↔ y = nm ∨ hasNm its y := fun y => by
        unfold hasNm
        constructor
        · rintro (⟨n, h⟩ | ⟨ds, h⟩)
          · exact .inr (.inl ⟨n, (put_other b.ok oi (by show (0 : Int) ≠ 1; decide)).mp h⟩)
          · rcases (put_fact b.ok oi _ _).mp h with ⟨z, _⟩ | h
            · exact .inl z
            · exact .inr (.inr ⟨ds, h⟩)
        · rintro (rfl | ⟨n, h⟩ | ⟨ds, h⟩)
          · exact .inr ⟨row, (put_fact b.ok oi _ _).mpr (.inl ⟨rfl, rfl⟩)⟩
          · exact .inl ⟨n, (put_other b.ok oi (by show (0 : Int) ≠ 1; decide)).mpr h⟩
          · exact .inr ⟨ds, (put_fact b.ok oi _ _).mpr (.inr h)⟩
      cases t with
      | true =>
        have hm : row ∈ rs := sp1.mpr (ht.mp rfl)
        refine ⟨_, rfl, iteF ?_⟩
        obtain ⟨dx', r', f', u', d', kr', kf', ku', kd', b4⟩ := bS (N + 2) (Nat.le_succ _)
        have ei : putI its (.fact nm row) = its := putI_there b.srt b.ok oi ((e5 row).mp hm)
        refine q _ _ (o2.trans (Out.of s34)) c2 ?_
        rw [ei] at hput ⊢
        exact ⟨dx', r', f', u', d', kr', kf', ku', kd', b4.nameB (fun y => (hput y).trans (hB2 y).symm)⟩
      | false =>
        have hm : row ∉ rs := fun z => by
          have y := ht.mpr (sp1.mp z)
          cases y
        refine ⟨_, rfl, iteT ?_⟩
        have b4 : StB C H4 s dx r f u d kr _ ku kd its _ (N + 1) _ := ⟨s34 _ _ b2.hs, s34 _ _ b2.hr, s34 _ _ b2.hf, s34 _ _ b2.hu, s34 _ _ b2.hd, b2.fr, b2.ff, b2.fu, b2.fd, b2.rf, b2.ru, b2.rd, b2.fu', b2.fd', b2.ud, b2.rel, b2.fac.to (Tk.of s34) (fun _ _ _ e => s34 _ _ e) (fun _ h => h) (Nat.le_refl _) (fun _ _ => Iff.rfl) (fun _ => Iff.rfl), b2.rul.to (Tk.of s34) (Nat.le_refl _) (fun _ _ _ _ => Iff.rfl), b2.den.to (Tk.of s34) (Nat.le_refl _) (fun _ _ => Iff.rfl), b2.srt, b2.ok, b2.fs, fun a ha => by
          rcases b2.fp a ha with ⟨x, e⟩ | ⟨x, e⟩
          · exact .inl ⟨x, s34 _ _ e⟩
          · exact .inr ⟨x, s34 _ _ e⟩⟩
        refine ⟨.ref _, rfl, .inl ⟨rfl, _, SqL.of (s34 _ _ el)⟩, .int (at_ : Nat), rfl, v, rfl, _, ys, at_, v, rfl, rfl, s34 _ _ el, ?_, Int.natCast_nonneg _, ?_, ?_⟩
        · have := tr.length
          rw [List.length_map] at this
          exact small1000 (by omega)
        · omega
        · have b5 := set_rows (its' := putI its (.fact nm row)) (rs := rs.take at_ ++ row :: rs.drop at_) (ys := ys.take at_ ++ v :: ys.drop at_) b4 m2 e3 ⟨ys, s34 _ _ el⟩ ?_ (sp2 hm) ?_ ?_ (fun ds => rows_put b.ok oi e5 hm at_ ds) ?_ (fun x n => put_other b.ok oi (by show (0 : Int) ≠ 1; decide)) (fun x a c e => put_other b.ok oi (by show (2 : Int) ≠ 1; decide)) (fun x e => put_other b.ok oi (by show (3 : Int) ≠ 1; decide)) (sorted_putI b.srt b.ok oi) (ok_putI b.ok oi)
          · refine q _ _ ((o2.trans (Out.of s34)).put2 (c2 _ e3)) c2 ?_
            · rw [insert_at]
              exact ⟨dx, r, f, u, d, kr, _, ku, kd, b5.nameB (fun y => (hput y).trans (hB2 y).symm)⟩
          · have t4 := tr.mono (Tk.of s34)
            rw [List.map_append, List.map_cons, List.map_take, List.map_drop]
            exact (Tps.takeN at_ t4).append (.cons ((tv.mono tk2).mono (Tk.of s34)) (Tps.dropN at_ t4))
          · intro r0 h0
            rcases List.mem_append.mp h0 with h0 | h0
            · exact okr _ (List.mem_of_mem_take h0)
            · rcases List.mem_cons.mp h0 with h0 | h0
              · rw [h0]
                exact ⟨ar, lr⟩
              · exact okr _ (List.mem_of_mem_drop h0)
          · rw [List.length_append, List.length_cons, List.length_take, List.length_drop]
            omega
          · intro x ds n
            rw [put_fact b.ok oi]
            exact ⟨fun h => h.elim (fun z => absurd z.1 n) id, .inr⟩
    · have b2 := setd_none b np hn (fun ds h => .inr ⟨ds, h⟩)
      have m2 := (mem_put f1 (k := (Sum.inr nm : Key)) (v := V.ref p)).mpr (.inl ⟨rfl, rfl⟩)
      have hB2 : ∀ y, (y = nm ∨ hasNm its y) ↔ y = nm ∨ hasNm its y := fun y => Iff.rfl
      have o2 : Out F H (upd (upd H p (.lst [])) f (.dK (putK kf (Sum.inr nm : Key) (.ref p)))) := (Out.of s1).trans (Out.put b.ff)
      have c2 : ∀ a, (F a ∨ a = p) → F a ∨ H a = none := fun a h => h.elim .inl (fun z => .inr (by rw [z]; exact np))
      have tk2 := o2.tk b.fp
      revert b2 m2 hB2 o2 c2 tk2
      generalize upd (upd H p (.lst [])) f (.dK (putK kf (Sum.inr nm : Key) (.ref p))) = H2
      generalize putK kf (Sum.inr nm : Key) (.ref p) = kf2
      intro b2 m2 hB2 o2 c2 tk2
      obtain ⟨g1, g2, g3, g4, g5⟩ := id b2.fac
      obtain ⟨x, l, rs, e1, e2, e3, e4, e5⟩ := g3 _ _ m2
      injection e1 with e1
      subst e1
      injection e2 with e2
      subst e2
      refine ⟨.ref _, rfl, v, rfl, _, v, rs, row, N + 1, rfl, e4, by omega, tv.mono tk2, ar, lr, fun at_ H3 s3 h1 h2 h3 => ?_⟩
      obtain ⟨sp1, sp2⟩ := rows_split e4.srt (fun r hr => (e4.ok r hr).1) ar h1 h2 h3
      obtain ⟨⟨ys, el, tr⟩, srt, okr, hN2⟩ := id e4
      refine ⟨.ref _, rfl, .int (at_ : Nat), rfl, v, rfl, _, v, rs, row, N + 1, at_, rfl, ⟨⟨ys, s3 _ _ el, tr.mono (Tk.of s3)⟩, srt, okr, hN2⟩, by omega, (tv.mono tk2).mono (Tk.of s3), ar, lr, fun t H4 s4 ht => ?_⟩
      have s34 : Same _ H4 := s3.trans s4
      have bS : ∀ N3, N + 1 ≤ N3 → _ := fun N3 hN3 => StX.mono ⟨dx, r, f, u, d, kr, _, ku, kd, b2⟩ (Tk.of s34) (fun o e => s34 _ _ e) (fun a o _ e => s34 a o e) hN3
      have hput : ∀ y, hasNm (putI its (.fact nm row)) y ↔ y = nm ∨ hasNm its y := fun y => by
        unfold hasNm
        constructor
        · rintro (⟨n, h⟩ | ⟨ds, h⟩)
          · exact .inr (.inl ⟨n, (put_other b.ok oi (by show (0 : Int) ≠ 1; decide)).mp h⟩)
          · rcases (put_fact b.ok oi _ _).mp h with ⟨z, _⟩ | h
            · exact .inl z
            · exact .inr (.inr ⟨ds, h⟩)
        · rintro (rfl | ⟨n, h⟩ | ⟨ds, h⟩)
          · exact .inr ⟨row, (put_fact b.ok oi _ _).mpr (.inl ⟨rfl, rfl⟩)⟩
          · exact .inl ⟨n, (put_other b.ok oi (by show (0 : Int) ≠ 1; decide)).mpr h⟩
          · exact .inr ⟨ds, (put_fact b.ok oi _ _).mpr (.inr h)⟩
      cases t with
      | true =>
        have hm : row ∈ rs := sp1.mpr (ht.mp rfl)
        refine ⟨_, rfl, iteF ?_⟩
        obtain ⟨dx', r', f', u', d', kr', kf', ku', kd', b4⟩ := bS (N + 2) (Nat.le_succ _)
        have ei : putI its (.fact nm row) = its := putI_there b.srt b.ok oi ((e5 row).mp hm)
        refine q _ _ (o2.trans (Out.of s34)) c2 ?_
        rw [ei] at hput ⊢
        exact ⟨dx', r', f', u', d', kr', kf', ku', kd', b4.nameB (fun y => (hput y).trans (hB2 y).symm)⟩
      | false =>
        have hm : row ∉ rs := fun z => by
          have y := ht.mpr (sp1.mp z)
          cases y
        refine ⟨_, rfl, iteT ?_⟩
        have b4 : StB C H4 s dx r f u d kr _ ku kd its _ (N + 1) _ := ⟨s34 _ _ b2.hs, s34 _ _ b2.hr, s34 _ _ b2.hf, s34 _ _ b2.hu, s34 _ _ b2.hd, b2.fr, b2.ff, b2.fu, b2.fd, b2.rf, b2.ru, b2.rd, b2.fu', b2.fd', b2.ud, b2.rel, b2.fac.to (Tk.of s34) (fun _ _ _ e => s34 _ _ e) (fun _ h => h) (Nat.le_refl _) (fun _ _ => Iff.rfl) (fun _ => Iff.rfl), b2.rul.to (Tk.of s34) (Nat.le_refl _) (fun _ _ _ _ => Iff.rfl), b2.den.to (Tk.of s34) (Nat.le_refl _) (fun _ _ => Iff.rfl), b2.srt, b2.ok, b2.fs, fun a ha => by
          rcases b2.fp a ha with ⟨x, e⟩ | ⟨x, e⟩
          · exact .inl ⟨x, s34 _ _ e⟩
          · exact .inr ⟨x, s34 _ _ e⟩⟩
        refine ⟨.ref _, rfl, .inl ⟨rfl, _, SqL.of (s34 _ _ el)⟩, .int (at_ : Nat), rfl, v, rfl, _, ys, at_, v, rfl, rfl, s34 _ _ el, ?_, Int.natCast_nonneg _, ?_, ?_⟩
        · have := tr.length
          rw [List.length_map] at this
          exact small1000 (by omega)
        · omega
        · have b5 := set_rows (its' := putI its (.fact nm row)) (rs := rs.take at_ ++ row :: rs.drop at_) (ys := ys.take at_ ++ v :: ys.drop at_) b4 m2 e3 ⟨ys, s34 _ _ el⟩ ?_ (sp2 hm) ?_ ?_ (fun ds => rows_put b.ok oi e5 hm at_ ds) ?_ (fun x n => put_other b.ok oi (by show (0 : Int) ≠ 1; decide)) (fun x a c e => put_other b.ok oi (by show (2 : Int) ≠ 1; decide)) (fun x e => put_other b.ok oi (by show (3 : Int) ≠ 1; decide)) (sorted_putI b.srt b.ok oi) (ok_putI b.ok oi)
          · refine q _ _ ((o2.trans (Out.of s34)).put2 (c2 _ e3)) c2 ?_
            · rw [insert_at]
              exact ⟨dx, r, f, u, d, kr, _, ku, kd, b5.nameB (fun y => (hput y).trans (hB2 y).symm)⟩
          · have t4 := tr.mono (Tk.of s34)
            rw [List.map_append, List.map_cons, List.map_take, List.map_drop]
            exact (Tps.takeN at_ t4).append (.cons ((tv.mono tk2).mono (Tk.of s34)) (Tps.dropN at_ t4))
          · intro r0 h0
            rcases List.mem_append.mp h0 with h0 | h0
            · exact okr _ (List.mem_of_mem_take h0)
            · rcases List.mem_cons.mp h0 with h0 | h0
              · rw [h0]
                exact ⟨ar, lr⟩
              · exact okr _ (List.mem_of_mem_drop h0)
          · rw [List.length_append, List.length_cons, List.length_take, List.length_drop]
            omega
          · intro x ds n
            rw [put_fact b.ok oi]
            exact ⟨fun h => h.elim (fun z => absurd z.1 n) id, .inr⟩
end
end KU

namespace KU
open PySem PySem.Spec PyProof.Rows L2 KA
theorem inv5t {H : Hp} {v : V} {a b c : Str} {d f : PyData} (t : Tp H v (.tuple [.str a, .str b, .str c, d, f])) : ∃ p, v = .ref p ∧ ∃ y z, H p = some (.tup [.str a, .str b, .str c, y, z]) ∧ Tp H y d ∧ Tp H z f := by
  cases t with
  | tup e r =>
    cases r with
    | cons h1 r => cases r with
      | cons h2 r => cases r with
        | cons h3 r => cases r with
          | cons h4 r => cases r with
            | cons h5 r =>
              cases r
              cases h1
              cases h2
              cases h3
              exact ⟨_, rfl, _, _, e, h4, h5⟩
theorem inv3i {H : Hp} {v : V} {a b : Str} {n : Int} (t : Tp H v (.tuple [.str a, .str b, .int n])) : ∃ p, v = .ref p ∧ H p = some (.tup [.str a, .str b, .int n]) := by
  obtain ⟨p, rfl, x, e, t⟩ := inv3 t
  cases t
  exact ⟨p, rfl, e⟩
section
variable {P : Program} {w : World} {K : PySem.W.Frag} {mg : Str → Option Value} {base : Heap} {C : Addr}
abbrev mPR (P : Program) (w : World) (K : PySem.W.Frag) (mg : Str → Option Value) (base : Heap) (C : Addr) : Prop := MDef P w K mg base C "_put_row" 5 ["self", "name", "row"] (spPR C)
abbrev sPut : Stmt := inClass (topS 30) 5
theorem scPut : FnScope ["self", "item", "name"] ["self", "item"] (defScope sPut) := ⟨rfl, rfl, rfl, by decide +kernel, rfl, by decide +kernel, by decide +kernel⟩
def spPut (C : Addr) : Sp := fun vs H Q _ => ∃ (s : Addr) (v : V) (i : It1) (its : List It1) (F : Addr → Prop) (N : Nat), vs = [.ref s, v] ∧ StAt C H s its F N ∧ N + 2 ≤ 1000 ∧ Tp H v (itD i) ∧ okI i ∧ After C s H (putI its i) F N Q
theorem nm_same {its its' : List It1} (m3 : ∀ x n, It1.rel x n ∈ its' ↔ It1.rel x n ∈ its) (m1 : ∀ x ds, It1.fact x ds ∈ its' ↔ It1.fact x ds ∈ its) (y : Str) : hasNm its' y ↔ hasNm its y := by
  unfold hasNm
  constructor
  · rintro (⟨n, h⟩ | ⟨ds, h⟩)
    · exact .inl ⟨n, (m3 _ _).mp h⟩
    · exact .inr ⟨ds, (m1 _ _).mp h⟩
  · rintro (⟨n, h⟩ | ⟨ds, h⟩)
    · exact .inl ⟨n, (m3 _ _).mpr h⟩
    · exact .inr ⟨ds, (m1 _ _).mpr h⟩
theorem StB.up {H : Hp} {s dx r f u d : Addr} {kr kf ku kd : List (Key × V)} {its : List It1} {F : Addr → Prop} {N N' : Nat} {B : Str → Prop} {H' : Hp} (b : StB C H s dx r f u d kr kf ku kd its F N B) (k : Same H H') (hN : N ≤ N') : StB C H' s dx r f u d kr kf ku kd its F N' B :=
  ⟨k _ _ b.hs, k _ _ b.hr, k _ _ b.hf, k _ _ b.hu, k _ _ b.hd, b.fr, b.ff, b.fu, b.fd, b.rf, b.ru, b.rd, b.fu', b.fd', b.ud, b.rel.to hN (fun _ _ => Iff.rfl), b.fac.to (Tk.of k) (fun _ _ _ e => k _ _ e) (fun _ h => h) hN (fun _ _ => Iff.rfl) (fun _ => Iff.rfl), b.rul.to (Tk.of k) hN (fun _ _ _ _ => Iff.rfl), b.den.to (Tk.of k) hN (fun _ _ => Iff.rfl), b.srt, b.ok, b.fs, fun a ha => by
    rcases b.fp a ha with ⟨x, e⟩ | ⟨x, e⟩
    · exact .inl ⟨x, k _ _ e⟩
    · exact .inr ⟨x, k _ _ e⟩⟩
theorem ok_put {f0 : Addr} {fd : FuncData} (F0 : Fun K "_put" "State._put" sPut f0 fd) (T : Cs K mg C) (MP : mPR P w K mg base C) : FnOk P w K mg base CX0 6 f0 fd ["self", "item"] (spPut C) := by
  refine F0.ok scPut (fun vs H Q E h => ?_) (fun cdv A outer s H vs Q E hr h => ?_)
  · obtain ⟨_, _, _, _, _, _, rfl, _⟩ := h
    rfl
  · obtain ⟨s, v, i, its, F, N, rfl, S, hN, tv, oi, q⟩ := h
    have hu := hu1 hr
    refine ⟨_, pss_cons (ps_set (i := 2) scPut.nd rfl (.inl rfl) (pe_ix ix_tup (pv 1) pe_int (fun _ _ => rfl)))
      (pss_one (ps_if (pt_cmpR op_eq (pe_ix ix_tup (pv 1) pe_int (fun _ _ => rfl)) pe_str (nomark _))
        (pss_cons (ps_dput hu (pe_fld (pv 0) rfl) (pv 2) (pe_ix ix_tup (pv 1) pe_int (fun _ _ => rfl)) rfl)
          (pss_one (ps_expr (pe_dsetd (pe_fld (pv 0) rfl) (pv 2) (pe_lst pa_nil) ⟨rfl, rfl, rfl, rfl⟩))))
        (pss_one (ps_if (pt_cmpR op_eq (pe_ix ix_tup (pv 1) pe_int (fun _ _ => rfl)) pe_str (nomark _))
          (pss_one (ps_expr (pe_mdef MP (pv 0) T.cl hr (pa_cons (pv 2) (pa_cons (pe_ix ix_tup (pv 1) pe_int (fun _ _ => rfl)) pa_nil)))))
          (pss_one (ps_if (pt_cmpR op_eq (pe_ix ix_tup (pv 1) pe_int (fun _ _ => rfl)) pe_str (nomark _))
            (pss_one (ps_dput hu (pe_fld (pv 0) rfl) (pv 2) (pe_tup (pa_cons (pe_ix ix_tup (pv 1) pe_int (fun _ _ => rfl)) (pa_cons (pe_ix ix_tup (pv 1) pe_int (fun _ _ => rfl)) (pa_cons (pe_ix ix_tup (pv 1) pe_int (fun _ _ => rfl)) pa_nil)))) rfl))
            (pss_one (ps_dput hu (pe_fld (pv 0) rfl) (pv 2) (pe_ix ix_tup (pv 1) pe_int (fun _ _ => rfl)) rfl)))))))), ?_⟩
    obtain ⟨dx, r, f, u, d, kr, kf, ku, kd, b⟩ := id S
    have s3 : 3 ≤ sizeLine := by decide
    cases i with
    | rel nm n =>
      obtain ⟨p, rfl, e⟩ := inv3i tv
      refine ⟨.ref p, rfl, p, _, 1, .str nm, rfl, rfl, SqT.of e, rfl, ?_⟩
      refine ⟨.ref p, rfl, p, _, 0, .str "relation", rfl, rfl, SqT.of e, rfl, rfl, _, rfl, yes_if ?_⟩
      refine ⟨.ref p, rfl, p, _, 2, .int n, rfl, rfl, SqT.of e, rfl, .ref s, rfl, s, C, dx, _, _, rfl, b.hs, T.cl, T.nR, fl_rel _ _ _ _, .str nm, rfl, r, _, rfl, DPut.k (k := Sum.inr nm) b.hr (small1000 (by have := b.rel.2.1; omega)), ?_⟩
      have b1 := set_rel (its' := putI its (.rel nm n)) b (b.rel.put b.ok nm n) (fun x ds => put_other b.ok oi (by show (1 : Int) ≠ 0; decide)) (fun x a c e => put_other b.ok oi (by show (2 : Int) ≠ 0; decide)) (fun x e => put_other b.ok oi (by show (3 : Int) ≠ 0; decide)) (sorted_putI b.srt b.ok oi) (ok_putI b.ok oi)
      have o1 : Out F H (upd H r (.dK (putK kr (Sum.inr nm : Key) (.int n)))) := Out.put b.fr
      have n1 : ∀ a, (upd H r (.dK (putK kr (Sum.inr nm : Key) (.int n)))) a = none → H a = none := fun a h => by
        by_cases c : a = r
        · rw [c, upd_same] at h
          cases h
        · rw [upd_ne c] at h
          exact h
      revert b1 o1 n1
      generalize upd H r (.dK (putK kr (Sum.inr nm : Key) (.int n))) = H1
      intro b1 o1 n1
      obtain ⟨f1, f2, f3, f4, f5⟩ := id b1.fac
      refine ⟨.ref s, rfl, s, C, dx, _, _, rfl, b1.hs, T.cl, T.nF, fl_fac _ _ _ _, f, rfl, .inl ⟨kf, .of b1.hf⟩, .str nm, rfl, Nat.zero_le _, fun t nt => ?_⟩
      have nf : f ≠ t := fun z => by
        have e := b1.hf
        rw [z, nt] at e
        cases e
      have st1 : Same H1 (upd H1 t (.lst [])) := same_new nt
      have hput : ∀ y, hasNm (putI its (.rel nm n)) y ↔ y = nm ∨ hasNm its y := fun y => by
        unfold hasNm
        constructor
        · rintro (⟨m, h⟩ | ⟨ds, h⟩)
          · rcases (put_rel b.ok _ _).mp h with ⟨z, _⟩ | ⟨_, h⟩
            · exact .inl z
            · exact .inr (.inl ⟨m, h⟩)
          · exact .inr (.inr ⟨ds, (put_other b.ok oi (by show (1 : Int) ≠ 0; decide)).mp h⟩)
        · rintro (rfl | ⟨m, h⟩ | ⟨ds, h⟩)
          · exact .inl ⟨n, (put_rel b.ok _ _).mpr (.inl ⟨rfl, rfl⟩)⟩
          · by_cases c : y = nm
            · rw [c]
              exact .inl ⟨n, (put_rel b.ok _ _).mpr (.inl ⟨rfl, rfl⟩)⟩
            · exact .inl ⟨m, (put_rel b.ok _ _).mpr (.inr ⟨c, h⟩)⟩
          · exact .inr ⟨ds, (put_other b.ok oi (by show (1 : Int) ≠ 0; decide)).mpr h⟩
      refine ⟨kf, Sum.inr nm, (by rw [upd_ne nf]; exact b1.hf), rfl, small1000 (by omega), fun v0 hv0 => ?_, fun hn => ?_⟩
      · have hm : hasNm its nm := (f4 nm).mp ⟨_, (mem_val f1).mp hv0⟩
        refine q _ F (o1.trans (Out.of st1)) (fun a h => .inl h) ⟨dx, r, f, u, d, _, kf, ku, kd, (b1.up st1 (Nat.le_succ _)).nameB (fun y => (hput y).trans ⟨fun h => h.elim (fun z => by rw [z]; exact hm) id, .inr⟩)⟩
      · have b2 := setd_none b1 nt hn (fun ds h => .inr ⟨ds, (put_other b.ok oi (by show (1 : Int) ≠ 0; decide)).mp h⟩)
        exact q _ _ ((o1.trans (Out.of st1)).put2 (.inl b.ff)) (fun a h => h.elim .inl (fun z => .inr (n1 a (by rw [z]; exact nt)))) ⟨dx, r, f, u, d, _, _, ku, kd, b2.nameB hput⟩
    | fact nm ds =>
      obtain ⟨p, rfl, x3, e, tq⟩ := inv3 tv
      refine ⟨.ref p, rfl, p, _, 1, .str nm, rfl, rfl, SqT.of e, rfl, ?_⟩
      refine ⟨.ref p, rfl, p, _, 0, .str "fact", rfl, rfl, SqT.of e, rfl, rfl, _, rfl, no_if (by decide +kernel) ?_⟩
      refine ⟨.ref p, rfl, p, _, 0, .str "fact", rfl, rfl, SqT.of e, rfl, rfl, _, rfl, yes_if ?_⟩
      refine ⟨.ref s, rfl, s, dx, _, rfl, b.hs, fl_no _ _ _ _ (by decide +kernel) (by decide +kernel) (by decide +kernel) (by decide +kernel), .str nm, rfl, .ref p, rfl, p, _, 2, x3, rfl, rfl, SqT.of e, rfl, ?_⟩
      exact ⟨s, nm, x3, ds, its, F, N, rfl, S, hN, tq, oi.1, oi.2, q⟩
    | rule nm rl ts bd =>
      obtain ⟨p, rfl, y, z, e, ty, tz⟩ := inv5t tv
      refine ⟨.ref p, rfl, p, _, 1, .str nm, rfl, rfl, SqT.of e, rfl, ?_⟩
      refine ⟨.ref p, rfl, p, _, 0, .str "rule", rfl, rfl, SqT.of e, rfl, rfl, _, rfl, no_if (by decide +kernel) ?_⟩
      refine ⟨.ref p, rfl, p, _, 0, .str "rule", rfl, rfl, SqT.of e, rfl, rfl, _, rfl, no_if (by decide +kernel) ?_⟩
      refine ⟨.ref p, rfl, p, _, 0, .str "rule", rfl, rfl, SqT.of e, rfl, rfl, _, rfl, yes_if ?_⟩
      refine ⟨.ref p, rfl, p, _, 2, .str rl, rfl, rfl, SqT.of e, rfl, .ref p, rfl, p, _, 3, y, rfl, rfl, SqT.of e, rfl, .ref p, rfl, p, _, 4, z, rfl, rfl, SqT.of e, rfl, s3, fun t nt => ?_⟩
      have st1 : Same H (upd H t (.tup [.str rl, y, z])) := same_new nt
      have b1 := b.up st1 (Nat.le_refl _)
      have tt : Tp (upd H t (.tup [.str rl, y, z])) (.ref t) (.tuple [.str rl, ts, bd]) := .tup upd_same (.cons (.str rl) (.cons (ty.mono (Tk.of st1)) (.cons (tz.mono (Tk.of st1)) .nil)))
      refine ⟨.ref s, rfl, s, C, dx, _, _, rfl, b1.hs, T.cl, T.nU, fl_rul _ _ _ _, .str nm, rfl, u, _, rfl, DPut.k (k := Sum.inr nm) b1.hu (small1000 (by have := b.rul.2.1; omega)), ?_⟩
      have m1 : ∀ x ds, It1.fact x ds ∈ putI its (.rule nm rl ts bd) ↔ It1.fact x ds ∈ its := fun x ds => put_other b.ok oi (by show (1 : Int) ≠ 2; decide)
      have m3 : ∀ x n, It1.rel x n ∈ putI its (.rule nm rl ts bd) ↔ It1.rel x n ∈ its := fun x n => put_other b.ok oi (by show (0 : Int) ≠ 2; decide)
      have b2 := set_rul (its' := putI its (.rule nm rl ts bd)) b1 (b1.rul.put b.ok oi tt) m1 m3 (fun x e => put_other b.ok oi (by show (3 : Int) ≠ 2; decide)) (sorted_putI b.srt b.ok oi) (ok_putI b.ok oi)
      exact q _ F ((Out.of st1).trans (Out.put b.fu)) (fun a h => .inl h) ⟨dx, r, f, u, d, _, _, _, _, (b2.up (Same.refl _) (Nat.le_succ _)).nameB (nm_same m3 m1)⟩
    | den nm bd =>
      obtain ⟨p, rfl, y, e, ty⟩ := inv3 tv
      refine ⟨.ref p, rfl, p, _, 1, .str nm, rfl, rfl, SqT.of e, rfl, ?_⟩
      refine ⟨.ref p, rfl, p, _, 0, .str "denial", rfl, rfl, SqT.of e, rfl, rfl, _, rfl, no_if (by decide +kernel) ?_⟩
      refine ⟨.ref p, rfl, p, _, 0, .str "denial", rfl, rfl, SqT.of e, rfl, rfl, _, rfl, no_if (by decide +kernel) ?_⟩
      refine ⟨.ref p, rfl, p, _, 0, .str "denial", rfl, rfl, SqT.of e, rfl, rfl, _, rfl, no_if (by decide +kernel) ?_⟩
      refine ⟨.ref p, rfl, p, _, 2, y, rfl, rfl, SqT.of e, rfl, .ref s, rfl, s, C, dx, _, _, rfl, b.hs, T.cl, T.nD, fl_den _ _ _ _, .str nm, rfl, d, _, rfl, DPut.k (k := Sum.inr nm) b.hd (small1000 (by have := b.den.2.1; omega)), ?_⟩
      have m1 : ∀ x ds, It1.fact x ds ∈ putI its (.den nm bd) ↔ It1.fact x ds ∈ its := fun x ds => put_other b.ok oi (by show (1 : Int) ≠ 3; decide)
      have m3 : ∀ x n, It1.rel x n ∈ putI its (.den nm bd) ↔ It1.rel x n ∈ its := fun x n => put_other b.ok oi (by show (0 : Int) ≠ 3; decide)
      have b2 := set_den (its' := putI its (.den nm bd)) b (b.den.put b.ok oi ty) m1 m3 (fun x a c e => put_other b.ok oi (by show (2 : Int) ≠ 3; decide)) (sorted_putI b.srt b.ok oi) (ok_putI b.ok oi)
      exact q _ F (Out.put b.fd) (fun a h => .inl h) ⟨dx, r, f, u, d, _, _, _, _, (b2.up (Same.refl _) (Nat.le_succ _)).nameB (nm_same m3 m1)⟩
end
end KU

namespace KU
open PySem PySem.Spec PyProof.Rows L2 KA
theorem nox_ex {X : Cx} {body : List Stmt} {R : TS → Prop} (h : ∃ t, PSs X.nox body t ∧ R t) : ∃ t, PSs X body t ∧ R t := let ⟨t, a, b⟩ := h; ⟨t, a.nox, b⟩
theorem KT0.sq {K : PySem.W.Frag} {T : Addr} (h : ∃ (o : Obj) (its : Array Value) (n : Nat), K.lookup T = some o ∧ o.cls = .type "tuple" ∧ o.data = .seq its n ∧ its.size ≤ sizeLine ∧ Vals [] its.toList) (H : Hp) : SqT K H T [] := .inr h
/-- a thing of K alone: a tuple that the module holds -/
def KT0 (K : PySem.W.Frag) (T : Addr) : Prop := ∃ (o : Obj) (its : Array Value) (n : Nat), K.lookup T = some o ∧ o.cls = .type "tuple" ∧ o.data = .seq its n ∧ its.size ≤ sizeLine ∧ Vals [] its.toList
def puts (its : List It1) (js : List It1) : List It1 := js.foldl putI its
/-- all that was there, but the thing at s, stays; F is new -/
def Kept (s : Addr) (H H' : Hp) : Prop := ∀ a o, H a = some o → a ≠ s → H' a = some o
theorem putF4 (r f u d : Addr) : putF "denials" (.ref d) (putF "rules" (.ref u) (putF "facts" (.ref f) (putF "relations" (.ref r) []))) = flds r f u d := by
  have e1 : ¬ (("relations" : Str) = "facts") := by decide +kernel
  have e2 : ¬ (("relations" : Str) = "rules") := by decide +kernel
  have e3 : ¬ (("relations" : Str) = "denials") := by decide +kernel
  have e4 : ¬ (("facts" : Str) = "rules") := by decide +kernel
  have e5 : ¬ (("facts" : Str) = "denials") := by decide +kernel
  have e6 : ¬ (("rules" : Str) = "denials") := by decide +kernel
  have p0 : ∀ (f : Str) (v : V), putF f v [] = [(f, v)] := fun _ _ => rfl
  have p1 : ∀ (f g : Str) (v x : V) (l : List (Str × V)), ¬ g = f → putF f v ((g, x) :: l) = (g, x) :: putF f v l := fun f g v x l n => if_neg n
  rw [p0, p1 _ _ _ _ _ e1, p0, p1 _ _ _ _ _ e2, p1 _ _ _ _ _ e4, p0, p1 _ _ _ _ _ e3, p1 _ _ _ _ _ e5, p1 _ _ _ _ _ e6, p0]
  rfl
theorem st_empty {C : Addr} {H : Hp} {s dx r f u d : Addr} (hs : H s = some (.ins C dx (flds r f u d))) (hr : H r = some (.dK [])) (hf : H f = some (.dK [])) (hu : H u = some (.dK [])) (hd : H d = some (.dK [])) (rf : r ≠ f) (ru : r ≠ u) (rd : r ≠ d) (fu : f ≠ u) (fd : f ≠ d) (ud : u ≠ d) :
    StAt C H s [] (fun a => a = r ∨ a = f ∨ a = u ∨ a = d) 0 := by
  have nil0 : nd ([] : List (Key × V)) := List.nodup_nil
  refine ⟨dx, r, f, u, d, [], [], [], [], hs, hr, hf, hu, hd, .inl rfl, .inr (.inl rfl), .inr (.inr (.inl rfl)), .inr (.inr (.inr rfl)), rf, ru, rd, fu, fd, ud, ⟨nil0, Nat.le_refl _, fun k v => ⟨fun h => (by cases h), fun ⟨_, _, _, _, h⟩ => (by cases h)⟩⟩, ⟨nil0, Nat.le_refl _, fun k v h => (by cases h), fun nm => ⟨fun ⟨_, h⟩ => (by cases h), fun h => ?_⟩, fun k k' v h => (by cases h)⟩,
    ⟨nil0, Nat.le_refl _, fun k v h => (by cases h), fun _ _ _ _ h => (by cases h)⟩, ⟨nil0, Nat.le_refl _, fun k v h => (by cases h), fun _ _ h => (by cases h)⟩, List.Pairwise.nil, fun i h => (by cases h), ?_, ?_⟩
  · rcases h with ⟨_, h⟩ | ⟨_, h⟩ <;> cases h
  · rintro (z | z | z | z)
    · rw [z, hr] at hs
      cases hs
    · rw [z, hf] at hs
      cases hs
    · rw [z, hu] at hs
      cases hs
    · rw [z, hd] at hs
      cases hs
  · rintro a (rfl | rfl | rfl | rfl)
    · exact .inl ⟨_, hr⟩
    · exact .inl ⟨_, hf⟩
    · exact .inl ⟨_, hu⟩
    · exact .inl ⟨_, hd⟩
section
variable {P : Program} {w : World} {K : PySem.W.Frag} {mg : Str → Option Value} {base : Heap} {C : Addr}
abbrev mPut (P : Program) (w : World) (K : PySem.W.Frag) (mg : Str → Option Value) (base : Heap) (C : Addr) : Prop := MDef P w K mg base C "_put" 6 ["self", "item"] (spPut C)
abbrev sInit : Stmt := inClass (topS 30) 0
theorem scInit : FnScope ["self", "items", "item"] ["self", "items"] (defScope sInit) := ⟨rfl, rfl, rfl, by decide +kernel, rfl, by decide +kernel, by decide +kernel⟩
def spInit (K : PySem.W.Frag) (C : Addr) : Sp := fun vs H Q _ => ∃ (s dx a : Addr) (js : List It1), vs = [.ref s, .ref a] ∧ H s = some (.ins C dx []) ∧ ((KT0 K a ∧ js = []) ∨ ∃ xs, H a = some (.lst xs) ∧ Tps H xs (js.map itD)) ∧ OkL js ∧ js.length ≤ 400 ∧
  ∀ H' F, Kept s H H' → (∀ a, F a → H a = none) → StAt C H' s (puts [] js) F (2 * js.length) → Q .non H'
theorem ok_init {f0 : Addr} {fd : FuncData} {dvs : List V} (F0 : FunD K "__init__" "State.__init__" (defArgs sInit) (defBody sInit) (defScope sInit) dvs [] f0 fd) (T : Cs K mg C) (MP : mPut P w K mg base C) : FnOk P w K mg base CX0 7 f0 fd ["self", "items"] (spInit K C) := by
  refine F0.ok scInit (fun vs H Q E h => ?_) (fun cdv A outer s H vs Q E hr h => ?_)
  · obtain ⟨_, _, _, _, rfl, _⟩ := h
    rfl
  · obtain ⟨s, dx, a, js, rfl, hs, hv, oj, lj, q⟩ := h
    have step : ∀ {H0 H1 : Hp} {fs : List (Str × V)} {x : Str} {p : Addr}, Kept s H H0 → H0 s = some (.ins C dx fs) → H0 p = none → H1 = upd (upd H0 p (.dK [])) s (.ins C dx (putF x (.ref p) fs)) → Kept s H H1 ∧ H1 s = some (.ins C dx (putF x (.ref p) fs)) ∧ H1 p = some (.dK []) ∧ (∀ b o, H0 b = some o → b ≠ s → H1 b = some o) ∧ H p = none ∧ (upd H0 p (.dK [])) s = some (.ins C dx fs) := fun {H0 H1 fs x p} k e n z => by
      have nsp : s ≠ p := fun y => by
        rw [y, n] at e
        cases e
      have k1 : ∀ b o, H0 b = some o → b ≠ s → H1 b = some o := fun b o hb nb => by
        rw [z, upd_ne nb, upd_ne (fun y => by rw [y, n] at hb; cases hb)]
        exact hb
      refine ⟨fun b o hb nb => k1 b o (k b o hb nb) nb, by rw [z]; exact upd_same, by rw [z, upd_ne nsp.symm]; exact upd_same, k1, ?_, by rw [upd_ne nsp]; exact e⟩
      cases c : H p with
      | none => rfl
      | some o =>
        have := k p o c nsp.symm
        rw [n] at this
        cases this
    -- the end of the four, then the loop
    have fin : ∀ (H4 : Hp) (r f u d : Addr), Kept s H H4 → H4 s = some (.ins C dx (flds r f u d)) → H4 r = some (.dK []) → H4 f = some (.dK []) → H4 u = some (.dK []) → H4 d = some (.dK []) → r ≠ f → r ≠ u → r ≠ d → f ≠ u → f ≠ d → u ≠ d → H r = none → H f = none → H u = none → H d = none →
        ∃ F0 : Addr → Prop, (∀ a, F0 a → H a = none) ∧ StAt C H4 s [] F0 0 := fun H4 r f u d k h1 h2 h3 h4 h5 a1 a2 a3 a4 a5 a6 b1 b2 b3 b4 =>
      ⟨fun a => a = r ∨ a = f ∨ a = u ∨ a = d, (by rintro a (rfl | rfl | rfl | rfl) <;> assumption), st_empty h1 h2 h3 h4 h5 a1 a2 a3 a4 a5 a6⟩
    have nT : ∀ {H' : Hp}, Kept s H H' → Tk H H' := fun k a xs e => k a _ e (fun z => by rw [z, hs] at e; cases e)
    refine nox_ex ?_
    rcases hv with ⟨kt, rfl⟩ | ⟨xs, ea, tx⟩
    · refine ⟨_, pss_cons (ps_fld (pv 0) pe_dnewK rfl) (pss_cons (ps_fld (pv 0) pe_dnewK rfl) (pss_cons (ps_fld (pv 0) pe_dnewK rfl) (pss_cons (ps_fld (pv 0) pe_dnewK rfl)
        (pss_one (ps_for PassesOwn.never rfl (pi_tup (pv 1)) (pg_name (i := 2) scInit.nd rfl (.inl rfl)) (pss_one (ps_expr (pe_mdef MP (pv 0) T.cl hr (pa_cons (pv 2) pa_nil))))))))), ?_⟩
      intro r nr
      obtain ⟨k1, e1, r1, c1, n1, y1⟩ := step (x := "relations") (fun _ _ h _ => h) hs nr rfl
      refine ⟨.ref s, rfl, s, C, dx, _, rfl, y1, T.cl, T.nR, (by show 0 < 1000; decide), ?_⟩
      intro f nf
      obtain ⟨k2, e2, f2, c2, n2, y2⟩ := step (x := "facts") k1 e1 nf rfl
      refine ⟨.ref s, rfl, s, C, dx, _, rfl, y2, T.cl, T.nF, (by show 1 < 1000; decide), ?_⟩
      intro u nu
      obtain ⟨k3, e3, u3, c3, n3, y3⟩ := step (x := "rules") k2 e2 nu rfl
      refine ⟨.ref s, rfl, s, C, dx, _, rfl, y3, T.cl, T.nU, (by show 2 < 1000; decide), ?_⟩
      intro d nd'
      obtain ⟨k4, e4, d4, c4, n4, y4⟩ := step (x := "denials") k3 e3 nd' rfl
      refine ⟨.ref s, rfl, s, C, dx, _, rfl, y4, T.cl, T.nD, (by show 3 < 1000; decide), ?_⟩
      rw [putF4] at e4
      have ns : ∀ {p : Addr} {H0 : Hp} {fs : List (Str × V)}, H0 s = some (.ins C dx fs) → H0 p = none → p ≠ s := fun e n z => by
        rw [z, e] at n
        cases n
      have r2 := c2 _ _ r1 (ns hs nr)
      have r3 := c3 _ _ r2 (ns hs nr)
      have r4 := c4 _ _ r3 (ns hs nr)
      have f3 := c3 _ _ f2 (ns e1 nf)
      have f4 := c4 _ _ f3 (ns e1 nf)
      have u4 := c4 _ _ u3 (ns e2 nu)
      obtain ⟨F0, hF0, S0⟩ := fin _ r f u d k4 e4 r4 f4 u4 d4 (ne_of_none r1 nf) (ne_of_none r2 nu) (ne_of_none r3 nd') (ne_of_none f2 nu) (ne_of_none f3 nd') (ne_of_none u3 nd') n1 n2 n3 n4
      refine ⟨.ref a, rfl, a, rfl, ⟨[], KT0.sq kt _⟩, ?_⟩
      refine for_tup (K := K) (a := a) (xs := []) (fun _ σ H' => H' = _) rfl (fun i σ H' _ _ => KT0.sq kt _) (fun i x σ H' hx _ => by cases hx) (fun σ H' hP => ?_)
      rw [hP]
      exact q _ F0 k4 hF0 S0
    · refine ⟨_, pss_cons (ps_fld (pv 0) pe_dnewK rfl) (pss_cons (ps_fld (pv 0) pe_dnewK rfl) (pss_cons (ps_fld (pv 0) pe_dnewK rfl) (pss_cons (ps_fld (pv 0) pe_dnewK rfl)
        (pss_one (ps_for PassesOwn.never rfl (pi_list (pv 1)) (pg_name (i := 2) scInit.nd rfl (.inl rfl)) (pss_one (ps_expr (pe_mdef MP (pv 0) T.cl hr (pa_cons (pv 2) pa_nil))))))))), ?_⟩
      intro r nr
      obtain ⟨k1, e1, r1, c1, n1, y1⟩ := step (x := "relations") (fun _ _ h _ => h) hs nr rfl
      refine ⟨.ref s, rfl, s, C, dx, _, rfl, y1, T.cl, T.nR, (by show 0 < 1000; decide), ?_⟩
      intro f nf
      obtain ⟨k2, e2, f2, c2, n2, y2⟩ := step (x := "facts") k1 e1 nf rfl
      refine ⟨.ref s, rfl, s, C, dx, _, rfl, y2, T.cl, T.nF, (by show 1 < 1000; decide), ?_⟩
      intro u nu
      obtain ⟨k3, e3, u3, c3, n3, y3⟩ := step (x := "rules") k2 e2 nu rfl
      refine ⟨.ref s, rfl, s, C, dx, _, rfl, y3, T.cl, T.nU, (by show 2 < 1000; decide), ?_⟩
      intro d nd'
      obtain ⟨k4, e4, d4, c4, n4, y4⟩ := step (x := "denials") k3 e3 nd' rfl
      refine ⟨.ref s, rfl, s, C, dx, _, rfl, y4, T.cl, T.nD, (by show 3 < 1000; decide), ?_⟩
      rw [putF4] at e4
      have ns : ∀ {p : Addr} {H0 : Hp} {fs : List (Str × V)}, H0 s = some (.ins C dx fs) → H0 p = none → p ≠ s := fun e n z => by
        rw [z, e] at n
        cases n
      have r2 := c2 _ _ r1 (ns hs nr)
      have r3 := c3 _ _ r2 (ns hs nr)
      have r4 := c4 _ _ r3 (ns hs nr)
      have f3 := c3 _ _ f2 (ns e1 nf)
      have f4 := c4 _ _ f3 (ns e1 nf)
      have u4 := c4 _ _ u3 (ns e2 nu)
      obtain ⟨F0, hF0, S0⟩ := fin _ r f u d k4 e4 r4 f4 u4 d4 (ne_of_none r1 nf) (ne_of_none r2 nu) (ne_of_none r3 nd') (ne_of_none f2 nu) (ne_of_none f3 nd') (ne_of_none u3 nd') n1 n2 n3 n4
      have ae : a ≠ s := fun z => by
        rw [z, hs] at ea
        cases ea
      have lx : xs.length = js.length := by rw [tx.length, List.length_map]
      refine ⟨.ref a, rfl, a, rfl, ⟨xs, SqL.of (k4 _ _ ea ae)⟩, ?_⟩
      refine for_list (K := K) (a := a) (xs := xs) (fun i σ H' => (∃ x2, σ = [some (.ref s), some (.ref a), x2]) ∧ Kept s H H' ∧ ∃ F : Addr → Prop, (∀ a, F a → H a = none) ∧ StAt C H' s (puts [] (js.take i)) F (2 * i)) ⟨⟨none, rfl⟩, k4, F0, hF0, S0⟩ (fun i σ H' _ hP => SqL.of (hP.2.1 _ _ ea ae)) (fun i x σ H' hx hP => ?_) (fun σ H' hP => ?_)
      · obtain ⟨⟨x2, rfl⟩, kk, F, hF, S⟩ := hP
        obtain ⟨dd, ed, td⟩ := tx.get hx
        rw [List.getElem?_map] at ed
        cases ej : js[i]? with
        | none =>
          rw [ej] at ed
          cases ed
        | some j =>
          rw [ej] at ed
          have ed : itD j = dd := Option.some.inj ed
          subst ed
          have hi : i < js.length := (List.getElem?_eq_some_iff.mp ej).1
          have oj1 : okI j := oj j (List.mem_of_getElem? ej)
          obtain ⟨dx', r', f', u', d', kr', kf', ku', kd', bb⟩ := id S
          refine ⟨.ref s, rfl, s, dx', _, rfl, bb.hs, fl_no _ _ _ _ (by decide +kernel) (by decide +kernel) (by decide +kernel) (by decide +kernel), x, rfl, ?_⟩
          refine ⟨s, x, j, _, F, 2 * i, rfl, S, by omega, td.mono (nT kk), oj1, fun H5 F5 o5 c5 S5 => ?_⟩
          have e5 : puts [] (js.take (i + 1)) = putI (puts [] (js.take i)) j := by
            unfold puts
            rw [List.take_add_one, ej, List.foldl_append]
            rfl
          have hF' : ∀ a, F5 a → H a = none := fun b hb => by
            rcases c5 b hb with h | h
            · exact hF b h
            · cases c : H b with
              | none => rfl
              | some o =>
                by_cases z : b = s
                · rw [z, bb.hs] at h
                  cases h
                · rw [kk b o c z] at h
                  cases h
          refine ⟨⟨some x, rfl⟩, fun b o hb nb => o5 b o (fun hF2 => ?_) (kk b o hb nb), F5, hF', ?_⟩
          · rw [hF b hF2] at hb
            cases hb
          · rw [e5]
            exact S5
      · obtain ⟨_, kk, F, hF, S⟩ := hP
        refine q _ F kk hF ?_
        rw [lx] at S
        rw [List.take_length] at S
        exact S
end
end KU

namespace KU
open PySem PySem.Spec PyProof.Rows L2 KA
/-- a dict made by a comprehension over a walk -/
theorem dc_it {J : It} {n : Nat} {G : Hp → Prop} {Y : Nat → Hp → V → Hp → Prop} (w : Walk J n G Y) {g : TG} {tt : TT} {tk tv : TE} {vs : List Nat} {σ : L2.St} {H1 : Hp} {D : Addr} {Qd : Hp → Prop} (Pv : Nat → Hp → Prop) (h0 : Pv 0 (upd H1 D (.dK []))) (hG : ∀ i H, i ≤ n → Pv i H → G H)
    (hs : ∀ i x H H', i < n → Pv i H → Y i H x H' → g x (wipe σ vs) H' fun σ2 H2 => wipe σ2 vs = wipe σ vs ∧ tt σ2 H2 fun b H3 =>
      if b = true then tk σ2 H3 fun y H4 => tv σ2 H4 fun z H5 => ∃ kvs k, y = kV k ∧ H5 D = some (.dK kvs) ∧ kvs.length < sizeLine ∧ Pv (i + 1) (upd H5 D (.dK (putK kvs k z))) else Pv (i + 1) H3) (hd : ∀ H, Pv n H → Qd H) :
    ∃ W : Nat → Nat → Hp → Prop, (∃ m, W 0 m (upd H1 D (.dK []))) ∧ ∀ i m H, W i m H →
      (J.stop i H ∧ Qd H) ∨ (J.go i H ∧ ∃ Nx : Hp → Prop, (∀ H', Nx H' → ∃ m', m' < m ∧ W (i + 1) m' H') ∧ ∀ x H', J.yld i H x H' → g x (wipe σ vs) H' fun σ2 H2 => wipe σ2 vs = wipe σ vs ∧ tt σ2 H2 fun b H3 =>
        if b = true then tk σ2 H3 fun y H4 => tv σ2 H4 fun z H5 => ∃ kvs k, y = kV k ∧ H5 D = some (.dK kvs) ∧ kvs.length < sizeLine ∧ Nx (upd H5 D (.dK (putK kvs k z))) else Nx H3) := by
  refine ⟨fun i m H => m = n - i ∧ i ≤ n ∧ Pv i H, ⟨n, by simp, Nat.zero_le _, h0⟩, ?_⟩
  rintro i m H ⟨rfl, hi, p⟩
  have q := hG i H hi p
  by_cases hlt : i < n
  · refine .inr ⟨w.goes i H hlt q, Pv (i + 1), fun H' p' => ⟨n - (i + 1), by omega, rfl, hlt, p'⟩, fun x H' y => hs i x H H' hlt p (w.yields i H x H' hlt q y)⟩
  · have e : i = n := by omega
    subst e
    exact .inl ⟨w.stops H q, hd H p⟩
def rLstOf (K : PySem.W.Frag) : List V → Hp → VK → Prop := fun xs H Q => ∃ p ys, xs = [.ref p] ∧ (SqL K H p ys ∨ SqT K H p ys) ∧ ∀ l, H l = none → Q (.ref l) (upd H l (.lst ys))
theorem call_lstK {X : Cx} : CallR X (.type "list") (rLstOf X.K) := call_list_of
theorem putFr (r r2 f u d : Addr) : putF "relations" (.ref r2) (flds r f u d) = flds r2 f u d := if_pos rfl
theorem putF_ne {x g : Str} {v y : V} {l : List (Str × V)} (n : ¬ g = x) : putF x v ((g, y) :: l) = (g, y) :: putF x v l := if_neg n
theorem putF_eq {x : Str} {v y : V} {l : List (Str × V)} : putF x v ((x, y) :: l) = (x, v) :: l := if_pos rfl
theorem putFf (r f f2 u d : Addr) : putF "facts" (.ref f2) (flds r f u d) = flds r f2 u d := by
  unfold flds
  rw [putF_ne (by decide +kernel), putF_eq]
theorem putFu (r f u u2 d : Addr) : putF "rules" (.ref u2) (flds r f u d) = flds r f u2 d := by
  unfold flds
  rw [putF_ne (by decide +kernel), putF_ne (by decide +kernel), putF_eq]
theorem putFd (r f u d d2 : Addr) : putF "denials" (.ref d2) (flds r f u d) = flds r f u d2 := by
  unfold flds
  rw [putF_ne (by decide +kernel), putF_ne (by decide +kernel), putF_ne (by decide +kernel), putF_eq]
/-- State() as its callers know it -/
structure MkSt (P : Program) (w : World) (K : PySem.W.Frag) (mg : Str → Option Value) (base : Heap) (C : Addr) : Prop where
  ex : ∃ (f : Addr) (fd : FuncData) (T : Addr) (ds : List Value), Mk K C f ∧ FnOk P w K mg base CX0 7 f fd ["self", "items"] (spInit K C) ∧ Binds K fd ["self", "items"] [] ∧ Binds K fd ["self", "items"] ds ∧ Vals [V.ref T] ds ∧ KT0 K T
section
variable {X : Cx} {C : Addr} {p pos : Pos} {e : Expr} {es : List Expr} {t : TA}
def spMk (K : PySem.W.Frag) (C : Addr) : TE := fun _ H Q => ∀ x dx, H x = none → H dx = none → dx ≠ x → ∀ H' F, Kept x (upd (upd H dx (.own x)) x (.ins C dx [])) H' → (∀ a, F a → (upd (upd H dx (.own x)) x (.ins C dx [])) a = none) → StAt C H' x [] F 0 → Q (.ref x) H'
theorem pe_mk0 (M : MkSt X.prog X.w X.K X.mg X.base C) (hr : Room 8 X.A) (hg : Gl X "State") (hm : X.mg "State" = some (.ref C)) : PE X (.Call (.Name "State" p) [] [] pos) (spMk X.K C) := by
  obtain ⟨f, fd, T, ds, m, F, b0, b1, hv, kt⟩ := M.ex
  refine ⟨fun pins s σ H Q I h => ?_⟩
  refine (pe_make0 (E := E0) m F hr hg hm b1 hv pass0).run pins s σ H Q I fun x dx nx ndx nex => ?_
  refine ⟨x, dx, T, [], rfl, upd_same, .inl ⟨kt, rfl⟩, (fun i hi => by cases hi), Nat.zero_le _, fun H' F' k c S => ⟨rfl, h x dx nx ndx nex H' F' k c S⟩⟩
theorem pe_mk1 (M : MkSt X.prog X.w X.K X.mg X.base C) (hr : Room 8 X.A) (hg : Gl X "State") (hm : X.mg "State" = some (.ref C)) (ha : PA X (e :: es) t)
    (he : starEach (e :: es) X.env = (false, eval e X.env) :: starEach es X.env := by rfl) (hpl : (backTo pos (starEach es X.env)).any (·.1) = false := by rfl) :
    PE X (.Call (.Name "State" p) (e :: es) [] pos) (tMake C (spInit X.K C) [] E0 t) := by
  obtain ⟨f, fd, T, ds, m, F, b0, b1, hv, kt⟩ := M.ex
  exact pe_make m F hr hg hm b0 .nil pass0 ha (by decide) he hpl
end
end KU

namespace KU
open PySem PySem.Spec PyProof.Rows L2 KA
theorem nodup_le {α : Type} [DecidableEq α] : ∀ {l m : List α}, l.Nodup → (∀ x ∈ l, x ∈ m) → l.length ≤ m.length
  | [], _, _, _ => Nat.zero_le _
  | a :: l, m, h, s => by
    have h1 := List.nodup_cons.mp h
    have ha : a ∈ m := s a List.mem_cons_self
    have h2 : ∀ x ∈ l, x ∈ m.erase a := fun x hx => (List.mem_erase_of_ne (fun z => h1.1 (by rw [← z]; exact hx))).mpr (s x (List.mem_cons_of_mem _ hx))
    have h3 := nodup_le h1.2 h2
    rw [List.length_erase_of_mem ha] at h3
    have h4 : 0 < m.length := List.length_pos_of_mem ha
    rw [List.length_cons]
    omega
theorem key_ne {a b : Ky} (h : kc a b < 0) (hb : okK b) (e : a = b) : False := by
  rw [e] at h
  rcases kc_cases hb hb with ⟨_, _, n⟩ | ⟨_, _, n⟩ | ⟨z, _, _⟩
  · exact n rfl
  · exact n rfl
  · omega
theorem sorted_keys {l : List It1} (s : SortedI l) (o : OkL l) : (l.map keyI).Nodup := by
  rw [List.Nodup, List.pairwise_map]
  exact List.Pairwise.imp_of_mem (fun {a b} ha hb h z => key_ne h (okK_of (o b hb)) z) s
noncomputable instance : DecidableEq It1 := fun a b => Classical.propDecidable _
theorem sort_in : ∀ x : It1, 0 ≤ (keyI x).1 ∧ (keyI x).1 < 4
  | .rel _ _ => ⟨(by decide : (0 : Int) ≤ 0), (by decide : (0 : Int) < 4)⟩
  | .fact _ _ => ⟨(by decide : (0 : Int) ≤ 1), (by decide : (1 : Int) < 4)⟩
  | .rule _ _ _ _ => ⟨(by decide : (0 : Int) ≤ 2), (by decide : (2 : Int) < 4)⟩
  | .den _ _ => ⟨(by decide : (0 : Int) ≤ 3), (by decide : (3 : Int) < 4)⟩
/-- so far: the items whose sort is below k, or is k with a name among ns -/
structure Cov (its : List It1) (k : Int) (ns : List Str) (out : List It1) : Prop where
  srt : SortedI out
  ok : OkL out
  mem : ∀ x, x ∈ out ↔ x ∈ its ∧ ((keyI x).1 < k ∨ ((keyI x).1 = k ∧ (keyI x).2.1 ∈ ns))
theorem Cov.len {its out : List It1} {k : Int} {ns : List Str} (c : Cov its k ns out) : out.length ≤ its.length := by
  refine nodup_le ?_ (fun x hx => ((c.mem x).mp hx).1)
  exact List.Pairwise.imp_of_mem (fun {a b} ha hb h z => key_ne h (okK_of (c.ok b hb)) (by rw [z])) c.srt
theorem Cov.start {its : List It1} : Cov its 0 [] [] := ⟨List.Pairwise.nil, (fun i h => by cases h), fun x => ⟨fun h => (by cases h), fun ⟨_, h⟩ => by
  rcases h with h | ⟨_, h⟩
  · have := (sort_in x).1
    omega
  · cases h⟩⟩
theorem Cov.next {its out : List It1} {k : Int} {ns : List Str} (c : Cov its k ns out) (h : ∀ x ∈ its, (keyI x).1 = k → (keyI x).2.1 ∈ ns) : Cov its (k + 1) [] out := ⟨c.srt, c.ok, fun x => by
  rw [c.mem x]
  constructor
  · rintro ⟨a, b | ⟨b, _⟩⟩
    · exact ⟨a, .inl (by omega)⟩
    · exact ⟨a, .inl (by omega)⟩
  · rintro ⟨a, b | ⟨_, b⟩⟩
    · refine ⟨a, ?_⟩
      by_cases z : (keyI x).1 = k
      · exact .inr ⟨z, h x a z⟩
      · exact .inl (by omega)
    · cases b⟩
theorem Cov.step {its out blk : List It1} {k : Int} {ns : List Str} {nm : Str} (c : Cov its k ns out) (h : ∀ n ∈ ns, n.cps.toList < nm.cps.toList) (sb : SortedI blk) (ob : OkL blk) (mb : ∀ x, x ∈ blk ↔ x ∈ its ∧ (keyI x).1 = k ∧ (keyI x).2.1 = nm) : Cov its k (ns ++ [nm]) (out ++ blk) := by
  refine ⟨?_, fun x hx => (List.mem_append.mp hx).elim (c.ok x) (ob x), fun x => ?_⟩
  · unfold SortedI
    rw [List.pairwise_append]
    refine ⟨c.srt, sb, fun a ha b hb => ?_⟩
    obtain ⟨_, w⟩ := (c.mem a).mp ha
    obtain ⟨_, v1, v2⟩ := (mb b).mp hb
    show kc (keyI a) (keyI b) < 0
    rw [kc_lt_iff]
    rcases w with w | ⟨w1, w2⟩
    · exact .inl (by omega)
    · refine .inr ⟨by omega, .inl ?_⟩
      rw [v2]
      exact h _ w2
  · rw [List.mem_append, c.mem x, mb x, List.mem_append, List.mem_singleton]
    constructor
    · rintro (⟨a, b | ⟨b, e⟩⟩ | ⟨a, b, e⟩)
      · exact ⟨a, .inl b⟩
      · exact ⟨a, .inr ⟨b, .inl e⟩⟩
      · exact ⟨a, .inr ⟨b, .inr e⟩⟩
    · rintro ⟨a, b | ⟨b, e | e⟩⟩
      · exact .inl ⟨a, .inl b⟩
      · exact .inl ⟨a, .inr ⟨b, e⟩⟩
      · exact .inr ⟨a, b, e⟩
theorem Cov.one {its out : List It1} {k : Int} {ns : List Str} {nm : Str} {i : It1} (c : Cov its k ns out) (h : ∀ n ∈ ns, n.cps.toList < nm.cps.toList) (si : SortedI its) (oi : OkL its) (hi : i ∈ its) (k1 : (keyI i).1 = k) (k2 : (keyI i).2.1 = nm) (k3 : k ≠ 1) : Cov its k (ns ++ [nm]) (out ++ [i]) := by
  refine c.step h (List.pairwise_singleton _ _) (fun x hx => by rw [List.mem_singleton.mp hx]; exact oi i hi) fun x => ?_
  rw [List.mem_singleton]
  constructor
  · rintro rfl
    exact ⟨hi, k1, k2⟩
  · rintro ⟨hx, e1, e2⟩
    refine sorted_key si oi hx hi ?_
    have e3 : ∀ y : It1, (keyI y).1 ≠ 1 → (keyI y).2.2 = [] := fun y hy => by
      cases y with
      | rel a b => rfl
      | fact a b => exact absurd rfl hy
      | rule a b c d => rfl
      | den a b => rfl
    refine Prod.ext (e1.trans k1.symm) (Prod.ext (e2.trans k2.symm) ?_)
    rw [e3 x (by rw [e1]; exact k3), e3 i (by rw [k1]; exact k3)]
theorem Cov.all {its out : List It1} (c : Cov its 4 [] out) (si : SortedI its) (oi : OkL its) : out = its := by
  refine sorted_ext c.srt si c.ok oi fun x => ?_
  rw [c.mem x]
  exact ⟨fun h => h.1, fun h => ⟨h, .inl (sort_in x).2⟩⟩
theorem str_lt {x y : Str} (h : ltCps x.cps.toList y.cps.toList = false) (n : x ≠ y) : y.cps.toList < x.cps.toList := by
  rw [ltCps_eq] at h
  have h1 := of_decide_eq_false h
  rcases Classical.em (y.cps.toList < x.cps.toList) with z | z
  · exact z
  · refine absurd ?_ n
    have e : y.cps.toList = x.cps.toList := List.le_antisymm h1 z
    obtain ⟨⟨a⟩⟩ := x
    obtain ⟨⟨b⟩⟩ := y
    have e : b = a := e
    rw [e]
theorem rising_pw : ∀ {r : List Str} {x : Str}, risingS x r = true → (x :: r).Nodup → (x :: r).Pairwise fun a b => a.cps.toList < b.cps.toList
  | [], x, _, _ => List.pairwise_singleton _ _
  | y :: r, x, h, n => by
    have h1 : (!ltCps y.cps.toList x.cps.toList && risingS y r) = true := h
    rw [Bool.and_eq_true] at h1
    obtain ⟨n1, n2⟩ := List.nodup_cons.mp n
    have ih := rising_pw h1.2 n2
    have xy : x.cps.toList < y.cps.toList := str_lt (by simpa using h1.1) (fun z => n1 (by rw [z]; exact List.mem_cons_self))
    rw [List.pairwise_cons]
    refine ⟨fun z hz => ?_, ih⟩
    rcases List.mem_cons.mp hz with e | hz
    · rw [e]
      exact xy
    · exact List.lt_trans xy ((List.pairwise_cons.mp ih).1 z hz)
theorem sorted_pw {ys : List Str} (h : sortedS ys = true) (n : ys.Nodup) : ys.Pairwise fun a b => a.cps.toList < b.cps.toList := by
  cases ys with
  | nil => exact List.Pairwise.nil
  | cons x r => exact rising_pw h n
/-- the names of a dict, sorted: what call_sortedD asks, and what it gives -/
theorem names_of {kvs : List (Key × V)} (h : ∀ k v, (k, v) ∈ kvs → ∃ nm : Str, k = Sum.inr nm) : ∃ ks : List Str, kvs.map (·.1) = ks.map Sum.inr := by
  induction kvs with
  | nil => exact ⟨[], rfl⟩
  | cons p r ih =>
    obtain ⟨ks, e⟩ := ih fun k v m => h k v (List.mem_cons_of_mem _ m)
    obtain ⟨nm, e1⟩ := h p.1 p.2 List.mem_cons_self
    exact ⟨nm :: ks, by rw [List.map_cons, List.map_cons, e, e1]⟩
theorem names_len {kvs : List (Key × V)} {ks : List Str} {its : List It1} (h : kvs.map (·.1) = ks.map Sum.inr) (n : nd kvs) (c : ∀ nm ∈ ks, ∃ x ∈ its, (keyI x).2.1 = nm) : ks.length ≤ its.length ∧ ks.Nodup := by
  have n2 : ks.Nodup := by
    have n1 : (ks.map (Sum.inr : Str → Key)).Nodup := by
      rw [← h]
      exact n
    exact (List.pairwise_map.mp n1).imp fun {a b} h z => h (by rw [z])
  refine ⟨?_, n2⟩
  have := nodup_le (m := its.map fun x => (keyI x).2.1) n2 fun x hx => by
    obtain ⟨y, hy, e⟩ := c x hx
    exact List.mem_map.mpr ⟨y, hy, e⟩
  rwa [List.length_map] at this
theorem pw_take {ns : List Str} (h : ns.Pairwise fun a b => a.cps.toList < b.cps.toList) {i : Nat} {nm : Str} (e : ns[i]? = some nm) : ∀ n ∈ ns.take i, n.cps.toList < nm.cps.toList := fun n hn => by
  obtain ⟨j, hj, e2⟩ := List.getElem_of_mem hn
  rw [List.length_take] at hj
  rw [List.getElem_take] at e2
  obtain ⟨hi, e3⟩ := List.getElem?_eq_some_iff.mp e
  rw [← e2, ← e3]
  exact List.pairwise_iff_getElem.mp h j i (by omega) hi (by omega)
theorem inv3r {H : Hp} {v : V} {c : Str} {d f : PyData} (t : Tp H v (.tuple [.str c, d, f])) : ∃ p, v = .ref p ∧ ∃ y z, H p = some (.tup [.str c, y, z]) ∧ Tp H y d ∧ Tp H z f := by
  cases t with
  | tup e r =>
    cases r with
    | cons h1 r => cases r with
      | cons h2 r => cases r with
        | cons h3 r =>
          cases r
          cases h1
          exact ⟨_, rfl, _, _, e, h2, h3⟩
section
variable {P : Program} {w : World} {K : PySem.W.Frag} {mg : Str → Option Value} {base : Heap} {C : Addr}
abbrev sAll : Stmt := inClass (topS 30) 1
theorem scAll : FnScope ["self", "name", "found", "relation", "terms", "body", "row"] ["self"] (defScope sAll) := ⟨rfl, rfl, rfl, by decide +kernel, rfl, by decide +kernel, by decide +kernel⟩
def spAll (C : Addr) : Sp := fun vs H Q _ => ∃ (s : Addr) (its : List It1) (F : Addr → Prop) (N : Nat), vs = [.ref s] ∧ StAt C H s its F N ∧ N ≤ 1000 ∧ its.length < 64 ∧ ∀ L ys H', Same H H' → H L = none → H' L = some (.lst ys) → Tps H' ys (its.map itD) → Q (.ref L) H'
theorem ok_all {f0 : Addr} {fd : FuncData} (F0 : Fun K "all_items" "State.all_items" sAll f0 fd) (T : Cs K mg C) (hso : mg "sorted" = none) : FnOk P w K mg base CX0 1 f0 fd ["self"] (spAll C) := by
  refine F0.ok scAll (fun vs H Q E h => ?_) (fun cdv A outer s H vs Q E hr h => ?_)
  · obtain ⟨_, _, _, _, rfl, _⟩ := h
    rfl
  · obtain ⟨s, its, F, N, rfl, S, hN, h64, q⟩ := h
    have hu := hu_of hr
    refine ⟨_, pss_cons (ps_setLc (i := 2) (own := [("name", 1)]) (g := gName 1) (tt := tYes) (te := tTup (tCons (tC (.str "relation")) (tCons (tVar 1) (tCons (tDGet (tFld K (tVar 0) "relations") (tVar 1)) tNil)))) (by rfl) scAll.nd rfl rfl (sw_true rfl rfl rfl (by decide +kernel))
        (pi_list (pe_callB (call_sortedD rfl) (by rfl) hso boot_sorted (pa_cons (pe_fld (pv 0) rfl) pa_nil))) (blkOk_by (own := [("name", 1)]) (N := ["self", "name", "found", "relation", "terms", "body", "row"]) (sc := defScope sAll) (by decide +kernel))
        (fun _ _ _ _ _ => pg_name (i := 1) scAll.nd rfl (Or.inl rfl)) (fun _ _ _ _ _ => pts_nil) (fun _ _ _ _ _ => pe_tup (pa_cons pe_str (pa_cons (pv 1) (pa_cons (pe_dget hu (pe_fld (pv 0) rfl) (pv 1) (fun _ _ => rfl)) pa_nil)))))
      (C8.pss_cut (ps_for PassesOwn.never rfl (pi_list (pe_callB (call_sortedD rfl) (by rfl) hso boot_sorted (pa_cons (pe_fld (pv 0) rfl) pa_nil))) (pg_name (i := 1) scAll.nd rfl (.inr rfl))
        (pss_one (ps_expr (pe_bm PySem.F.plainAttrs_list PySem.F.slot_list_extend PySem.F.type_list_extend mt_extend (pv 2) (pa_cons (pe_lc (own := [("row", 6)]) (g := gName 6) (tt := tYes) (te := tTup (tCons (tC (.str "fact")) (tCons (tVar 1) (tCons (tVar 6) tNil)))) rfl scAll.nd
          (pi_list (pe_dget hu (pe_fld (pv 0) rfl) (pv 1) (fun _ _ => rfl))) (blkOk_by (own := [("row", 6)]) (N := ["self", "name", "found", "relation", "terms", "body", "row"]) (sc := defScope sAll) (by decide +kernel))
          (fun _ _ _ _ _ => pg_name (i := 6) scAll.nd rfl (Or.inl rfl)) (fun _ _ _ _ _ => pts_nil) (fun _ _ _ _ _ => pe_tup (pa_cons pe_str (pa_cons (pv 1) (pa_cons (pv 6) pa_nil))))) pa_nil)))))
      (C8.pss_cut (ps_for PassesOwn.never rfl (pi_list (pe_callB (call_sortedD rfl) (by rfl) hso boot_sorted (pa_cons (pe_fld (pv 0) rfl) pa_nil))) (pg_name (i := 1) scAll.nd rfl (.inr rfl))
        (pss_cons (ps_asg (pe_dget hu (pe_fld (pv 0) rfl) (pv 1) (fun _ _ => rfl)) (pg_tup rfl (pgs_cons (pg_name (i := 3) scAll.nd rfl (.inl rfl)) (pgs_cons (pg_name (i := 4) scAll.nd rfl (.inl rfl)) (pgs_cons (pg_name (i := 5) scAll.nd rfl (.inl rfl)) pgs_nil)))))
        (pss_one (ps_expr (pe_bm PySem.F.plainAttrs_list PySem.F.slot_list_append PySem.F.type_list_append mt_append (pv 2) (pa_cons (pe_tup (pa_cons pe_str (pa_cons (pv 1) (pa_cons (pv 3) (pa_cons (pv 4) (pa_cons (pv 5) pa_nil)))))) pa_nil))))))
      (C8.pss_cut (ps_for PassesOwn.never rfl (pi_list (pe_callB (call_sortedD rfl) (by rfl) hso boot_sorted (pa_cons (pe_fld (pv 0) rfl) pa_nil))) (pg_name (i := 1) scAll.nd rfl (.inr rfl))
        (pss_one (ps_expr (pe_bm PySem.F.plainAttrs_list PySem.F.slot_list_append PySem.F.type_list_append mt_append (pv 2) (pa_cons (pe_tup (pa_cons pe_str (pa_cons (pv 1) (pa_cons (pe_dget hu (pe_fld (pv 0) rfl) (pv 1) (fun _ _ => rfl)) pa_nil)))) pa_nil)))))
      (pss_one (ps_ret (pv 2)))))), ?_⟩
    obtain ⟨dx, r, f, u, d, kr, kf, ku, kd, b⟩ := id S
    obtain ⟨r1, r2, r3⟩ := id b.rel
    obtain ⟨f1, f2, f3, f4, f5⟩ := id b.fac
    obtain ⟨u1, u2, u3, u4⟩ := id b.rul
    obtain ⟨d1, d2, d3, d4⟩ := id b.den
    -- the keys
    obtain ⟨kn, ekn⟩ := names_of (kvs := kr) fun k v m => let ⟨nm, _, e, _⟩ := (r3 k v).mp m; ⟨nm, e⟩
    obtain ⟨fn, efn⟩ := names_of (kvs := kf) fun k v m => let ⟨nm, _, _, e, _⟩ := f3 k v m; ⟨nm, e⟩
    obtain ⟨un, eun⟩ := names_of (kvs := ku) fun k v m => let ⟨nm, _, _, _, e, _⟩ := u3 k v m; ⟨nm, e⟩
    obtain ⟨dn, edn⟩ := names_of (kvs := kd) fun k v m => let ⟨nm, _, e, _⟩ := d3 k v m; ⟨nm, e⟩
    have inK : ∀ {kvs : List (Key × V)} {ks : List Str} {nm : Str}, kvs.map (·.1) = ks.map Sum.inr → (nm ∈ ks ↔ ∃ v, ((Sum.inr nm : Key), v) ∈ kvs) := fun {kvs ks nm} e => by
      constructor
      · intro h
        have h1 : (Sum.inr nm : Key) ∈ kvs.map (·.1) := by
          rw [e]
          exact List.mem_map.mpr ⟨nm, h, rfl⟩
        obtain ⟨⟨k, v⟩, h2, h3⟩ := List.mem_map.mp h1
        exact ⟨v, by rw [← h3]; exact h2⟩
      · rintro ⟨v, h⟩
        have h1 : (Sum.inr nm : Key) ∈ kvs.map (·.1) := List.mem_map.mpr ⟨_, h, rfl⟩
        rw [e] at h1
        obtain ⟨x, h2, h3⟩ := List.mem_map.mp h1
        injection h3 with h3
        rw [← h3]
        exact h2
    obtain ⟨lk, nk⟩ := names_len (its := its) ekn r1 fun nm h => by
      obtain ⟨v, m⟩ := (inK ekn).mp h
      obtain ⟨x, n, e, _, hi⟩ := (r3 _ _).mp m
      injection e with e
      exact ⟨_, hi, e.symm⟩
    obtain ⟨lf, nf⟩ := names_len (its := its) efn f1 fun nm h => by
      rcases (f4 nm).mp ((inK efn).mp h) with ⟨n, hi⟩ | ⟨ds, hi⟩
      · exact ⟨_, hi, rfl⟩
      · exact ⟨_, hi, rfl⟩
    obtain ⟨lu, nu⟩ := names_len (its := its) eun u1 fun nm h => by
      obtain ⟨v, m⟩ := (inK eun).mp h
      obtain ⟨x, rl, ts, bd, e, _, hi⟩ := u3 _ _ m
      injection e with e
      exact ⟨_, hi, e.symm⟩
    obtain ⟨ld, nd'⟩ := names_len (its := its) edn d1 fun nm h => by
      obtain ⟨v, m⟩ := (inK edn).mp h
      obtain ⟨x, bd, e, _, hi⟩ := d3 _ _ m
      injection e with e
      exact ⟨_, hi, e.symm⟩
    have s3 : 3 ≤ sizeLine := by decide
    have s5 : 5 ≤ sizeLine := by decide
    have szs : its.length + its.length ≤ 1000 := by omega
    -- relations
    refine ⟨.ref s, rfl, s, C, dx, _, _, rfl, b.hs, T.cl, T.nR, fl_rel _ _ _ _, r, kr, kn, rfl, .of b.hr, ekn, by omega, fun zs zp per srt nzp => ?_⟩
    have pz := sorted_pw srt (per.nodup_iff.mpr nk)
    have sm1 : Same H (upd H zp (.lst (zs.map V.str))) := same_new nzp
    refine ⟨zp, rfl, ⟨_, SqL.of upd_same⟩, fun L nL => ?_⟩
    have nLH : H L = none := sm1.free nL
    refine lc_it walk_list (fun i H' => (∀ a o, (upd H zp (.lst (zs.map V.str))) a = some o → H' a = some o) ∧ ∃ ys out, H' L = some (.lst ys) ∧ Tps H' ys (out.map itD) ∧ Cov its 0 (zs.take i) out) ⟨same_new nL, [], [], upd_same, .nil, by exact Cov.start⟩ (fun i H' _ hP => SqL.of (hP.1 _ _ upd_same)) (fun i x H' H2 hi hP hY => ?_) (fun H' hP => ?_)
    · obtain ⟨rfl, hx⟩ := hY
      obtain ⟨sm, ys, out, eL, tp, cv⟩ := hP
      have smH : Same H H2 := sm1.trans sm
      rw [List.getElem?_map] at hx
      cases ez : zs[i]? with
      | none =>
        rw [ez] at hx
        cases hx
      | some nm =>
        rw [ez] at hx
        have hx : V.str nm = x := Option.some.inj hx
        subst hx
        obtain ⟨v, hm⟩ := (inK ekn).mp (per.mem_iff.mp (List.mem_of_getElem? ez))
        obtain ⟨x', n, e1, e2, hit⟩ := (r3 _ _).mp hm
        injection e1 with e1
        subst e1
        subst e2
        refine ⟨rfl, ?_⟩
        refine iteT (B := True) ?_
        refine ⟨.str nm, rfl, .ref s, rfl, s, C, dx, _, _, rfl, smH _ _ b.hs, T.cl, T.nR, fl_rel _ _ _ _, .str nm, rfl, r, .int n, rfl, (by rw [← (mem_val r1).mpr hm]; exact DGet.k (k := Sum.inr nm) (smH _ _ b.hr)), s3, fun p np => ?_⟩
        have npL : L ≠ p := fun z => by rw [← z, eL] at np; cases np
        have eL' : (upd H2 p (.tup [.str "relation", .str nm, .int n])) L = some (.lst ys) := by
          rw [upd_ne npL]
          exact eL
        have ly : ys.length = out.length := by rw [tp.length, List.length_map]
        have lo := cv.len
        refine ⟨ys, eL', small1000 (by omega), fun a o h => ?_, ys ++ [.ref p], out ++ [.rel nm n], upd_same, ?_, ?_⟩
        · rw [upd_ne (ne_of_none h nL), upd_ne (ne_of_none (sm a o h) np)]
          exact sm a o h
        · rw [List.map_append]
          have tk1 : Tk H2 (upd (upd H2 p (.tup [.str "relation", .str nm, .int n])) L (.lst (ys ++ [.ref p]))) := (Tk.new np).trans (Tk.lst eL')
          refine (tp.mono tk1).append (.cons (.tup (by rw [upd_ne npL.symm]; exact upd_same) (.cons (.str _) (.cons (.str _) (.cons (.int _) .nil)))) .nil)
        · rw [take_next ez]
          exact cv.one (pw_take pz ez) b.srt b.ok hit rfl rfl (by decide)
    obtain ⟨sm, ys, out, eL, tp, cv⟩ := hP
    rw [List.length_map, List.take_length] at cv
    have cv1 := cv.next fun x hx k => by
      cases x with
      | rel nm n => exact per.mem_iff.mpr ((inK ekn).mpr ⟨_, (r3 _ _).mpr ⟨nm, n, rfl, rfl, hx⟩⟩)
      | fact nm ds => exact absurd (show (1 : Int) = 0 from k) (by decide)
      | rule nm a c e => exact absurd (show (2 : Int) = 0 from k) (by decide)
      | den nm a => exact absurd (show (3 : Int) = 0 from k) (by decide)
    have smH : Same H H' := sm1.trans sm
    clear cv sm sm1 pz
    -- the loops: what stands behind each
    refine ⟨fun σ H' => (∃ x1 x3 x4 x5, σ = [some (.ref s), x1, some (.ref L), x3, x4, x5, none]) ∧ Same H H' ∧ ∃ ys out, H' L = some (.lst ys) ∧ Tps H' ys (out.map itD) ∧ Cov its 2 [] out, ?_, ?_⟩
    · -- facts
      refine ⟨.ref s, rfl, s, C, dx, _, _, rfl, smH _ _ b.hs, T.cl, T.nF, fl_fac _ _ _ _, f, kf, fn, rfl, .of (smH _ _ b.hf), efn, by omega, fun zs zp per srt nzp => ?_⟩
      have pz := sorted_pw srt (per.nodup_iff.mpr nf)
      have sm1 : Same H' (upd H' zp (.lst (zs.map V.str))) := same_new nzp
      have nzL : zp ≠ L := fun z => by rw [z, eL] at nzp; cases nzp
      have eL1 := sm1 _ _ eL
      have tp1 := tp.mono (Tk.of sm1)
      have smH1 := smH.trans sm1
      have ezp : (upd H' zp (.lst (zs.map V.str))) zp = some (.lst (zs.map V.str)) := upd_same
      revert eL1 tp1 smH1 ezp
      generalize upd H' zp (.lst (zs.map V.str)) = H1
      intro eL1 tp1 smH1 ezp
      refine ⟨zp, rfl, ⟨_, SqL.of ezp⟩, ?_⟩
      refine for_list (K := K) (a := zp) (xs := zs.map V.str) (fun i σ H2 => (∃ x1 x3 x4 x5, σ = [some (.ref s), x1, some (.ref L), x3, x4, x5, none]) ∧ Same H H2 ∧ H2 zp = some (.lst (zs.map V.str)) ∧ ∃ ys out, H2 L = some (.lst ys) ∧ Tps H2 ys (out.map itD) ∧ Cov its 1 (zs.take i) out) ⟨⟨_, _, _, _, rfl⟩, smH1, ezp, ys, out, eL1, tp1, cv1⟩ (fun i σ H2 _ hP => SqL.of hP.2.2.1) (fun i x σ H2 hx hP => ?_) (fun σ H2 hP => ?_)
      · obtain ⟨⟨x1, x3, x4, x5, rfl⟩, smq, eq, ys, out, eL, tp, cv⟩ := hP
        rw [List.getElem?_map] at hx
        cases ez : zs[i]? with
        | none =>
          rw [ez] at hx
          cases hx
        | some nm =>
          rw [ez] at hx
          have hx : V.str nm = x := Option.some.inj hx
          subst hx
          obtain ⟨v, hm⟩ := (inK efn).mp (per.mem_iff.mp (List.mem_of_getElem? ez))
          obtain ⟨x', l, rs, e1, rfl, hF, ⟨⟨xs, el, tr⟩, rsr, rok, rln⟩, rmm⟩ := f3 _ _ hm
          injection e1 with e1
          subst e1
          have nlL : l ≠ L := fun z => by rw [z, nLH] at el; cases el
          have el2 := smq _ _ el
          refine ⟨.ref L, rfl, .inl ⟨rfl, _, SqL.of eL⟩, .ref s, rfl, s, C, dx, _, _, rfl, smq _ _ b.hs, T.cl, T.nF, fl_fac _ _ _ _, .str nm, rfl, f, .ref l, rfl, (by rw [← (mem_val f1).mpr hm]; exact DGet.k (k := Sum.inr nm) (smq _ _ b.hf)), l, rfl, ⟨xs, SqL.of el2⟩, fun D nD => ?_⟩
          have lxs : xs.length = rs.length := by rw [tr.length, List.length_map]
          refine lc_it walk_list (fun j H3 => (∀ a o, H2 a = some o → H3 a = some o) ∧ ∃ zs2, H3 D = some (.lst zs2) ∧ Tps H3 zs2 (((rs.take j).map (It1.fact nm)).map itD)) ⟨same_new nD, [], upd_same, .nil⟩ (fun j H3 _ hQ => SqL.of (hQ.1 _ _ el2)) (fun j y H3 H4 hj hQ hY => ?_) (fun H3 hQ => ?_)
          · obtain ⟨rfl, hy⟩ := hY
            obtain ⟨sm3, zs2, eD, tz⟩ := hQ
            obtain ⟨dd, ed, ty⟩ := tr.get hy
            rw [List.getElem?_map] at ed
            cases er : rs[j]? with
            | none =>
              rw [er] at ed
              cases ed
            | some row =>
              rw [er] at ed
              have ed : PyData.tuple row = dd := Option.some.inj ed
              subst ed
              refine ⟨rfl, ?_⟩
              refine iteT (B := True) ?_
              refine ⟨.str nm, rfl, y, rfl, s3, fun p np => ?_⟩
              have npD : D ≠ p := fun z => by rw [← z, eD] at np; cases np
              have eD' : (upd H4 p (.tup [.str "fact", .str nm, y])) D = some (.lst zs2) := by
                rw [upd_ne npD]
                exact eD
              have lz : zs2.length = (rs.take j).length := by rw [tz.length, List.length_map, List.length_map]
              rw [List.length_take] at lz
              refine ⟨zs2, eD', small1000 (by omega), fun a o h => ?_, zs2 ++ [.ref p], upd_same, ?_⟩
              · rw [upd_ne (ne_of_none h nD), upd_ne (ne_of_none (sm3 a o h) np)]
                exact sm3 a o h
              · rw [take_next er, List.map_append, List.map_append]
                have tk1 : Tk H4 (upd (upd H4 p (.tup [.str "fact", .str nm, y])) D (.lst (zs2 ++ [.ref p]))) := (Tk.new np).trans (Tk.lst eD')
                exact (tz.mono tk1).append (.cons (.tup (by rw [upd_ne npD.symm]; exact upd_same) (.cons (.str _) (.cons (.str _) (.cons ((ty.mono (Tk.of (smq.trans sm3))).mono tk1) .nil)))) .nil)
          · obtain ⟨sm3, zs2, eD, tz⟩ := hQ
            rw [lxs, List.take_length] at tz
            have eL3 := sm3 _ _ eL
            have tp3 := tp.mono (Tk.of sm3)
            have ly : ys.length = out.length := by rw [tp.length, List.length_map]
            have lz : zs2.length = rs.length := by rw [tz.length, List.length_map, List.length_map]
            have lo := cv.len
            have cvn := cv.step (nm := nm) (blk := rs.map (It1.fact nm)) (pw_take pz ez) (by
              unfold SortedI
              rw [List.pairwise_map]
              exact List.Pairwise.imp (R := fun a c => rord a c < 0) (fun {a c} (h : rord a c < 0) => (kc_lt_iff (a := (1, nm, a)) (b := (1, nm, c))).mpr (.inr ⟨rfl, .inr ⟨rfl, h⟩⟩)) rsr) (fun x hx => by
              obtain ⟨ds, h1, h2⟩ := List.mem_map.mp hx
              rw [← h2]
              exact rok ds h1) (fun x => by
              rw [List.mem_map]
              constructor
              · rintro ⟨ds, h1, rfl⟩
                exact ⟨(rmm ds).mp h1, rfl, rfl⟩
              · rintro ⟨h1, h2, h3⟩
                cases x with
                | rel a c => exact absurd (show (0 : Int) = 1 from h2) (by decide)
                | fact a ds =>
                  have h3 : a = nm := h3
                  subst h3
                  exact ⟨ds, (rmm ds).mpr h1, rfl⟩
                | rule a c e g => exact absurd (show (2 : Int) = 1 from h2) (by decide)
                | den a c => exact absurd (show (3 : Int) = 1 from h2) (by decide))
            have hb := cvn.len
            rw [List.length_append, List.length_map] at hb
            refine ⟨L, D, ys, zs2, rfl, rfl, eL3, eD, Nat.le_of_lt (small1000 (by omega)), ?_⟩
            have smf : Same H (upd H3 L (.lst (ys ++ zs2))) := fun a o h => by
              rw [upd_ne (ne_of_none h nLH)]
              exact sm3 a o (smq a o h)
            refine ⟨⟨_, _, _, _, rfl⟩, smf, ?_, ys ++ zs2, out ++ rs.map (It1.fact nm), upd_same, ?_, ?_⟩
            · have hz : zp ≠ L := fun z => by
                rw [z, eL] at eq
                injection eq with eq
                injection eq with eq
                exact nzL z
              rw [upd_ne hz]
              exact sm3 _ _ eq
            · rw [List.map_append]
              exact (tp3.append tz).mono (Tk.lst eL3)
            · rw [take_next ez]
              exact cvn
      · obtain ⟨w1, w2, w3, ys, out, eL, tp, cv⟩ := hP
        rw [List.length_map, List.take_length] at cv
        refine ⟨w1, w2, ys, out, eL, tp, cv.next fun x hx k => ?_⟩
        cases x with
        | rel nm n => exact absurd (show (0 : Int) = 1 from k) (by decide)
        | fact nm ds => exact per.mem_iff.mpr ((inK efn).mpr ((f4 nm).mpr (.inr ⟨ds, hx⟩)))
        | rule nm a c e => exact absurd (show (2 : Int) = 1 from k) (by decide)
        | den nm a => exact absurd (show (3 : Int) = 1 from k) (by decide)
    · -- rules
      rintro σ H2 ⟨⟨x1, x3, x4, x5, rfl⟩, smH, ys, out, eL, tp, cv1⟩
      refine ⟨fun σ H' => (∃ x1 x3 x4 x5, σ = [some (.ref s), x1, some (.ref L), x3, x4, x5, none]) ∧ Same H H' ∧ ∃ ys out, H' L = some (.lst ys) ∧ Tps H' ys (out.map itD) ∧ Cov its 3 [] out, ?_, ?_⟩
      · refine ⟨.ref s, rfl, s, C, dx, _, _, rfl, smH _ _ b.hs, T.cl, T.nU, fl_rul _ _ _ _, u, ku, un, rfl, .of (smH _ _ b.hu), eun, by omega, fun zs zp per srt nzp => ?_⟩
        have pz := sorted_pw srt (per.nodup_iff.mpr nu)
        have sm1 : Same H2 (upd H2 zp (.lst (zs.map V.str))) := same_new nzp
        have nzL : zp ≠ L := fun z => by rw [z, eL] at nzp; cases nzp
        have eL1 := sm1 _ _ eL
        have tp1 := tp.mono (Tk.of sm1)
        have smH1 := smH.trans sm1
        have ezp : (upd H2 zp (.lst (zs.map V.str))) zp = some (.lst (zs.map V.str)) := upd_same
        revert eL1 tp1 smH1 ezp
        generalize upd H2 zp (.lst (zs.map V.str)) = H1
        intro eL1 tp1 smH1 ezp
        refine ⟨zp, rfl, ⟨_, SqL.of ezp⟩, ?_⟩
        refine for_list (K := K) (a := zp) (xs := zs.map V.str) (fun i σ H2 => (∃ x1 x3 x4 x5, σ = [some (.ref s), x1, some (.ref L), x3, x4, x5, none]) ∧ Same H H2 ∧ H2 zp = some (.lst (zs.map V.str)) ∧ ∃ ys out, H2 L = some (.lst ys) ∧ Tps H2 ys (out.map itD) ∧ Cov its 2 (zs.take i) out) ⟨⟨_, _, _, _, rfl⟩, smH1, ezp, ys, out, eL1, tp1, cv1⟩ (fun i σ H2 _ hP => SqL.of hP.2.2.1) (fun i x σ H2 hx hP => ?_) (fun σ H2 hP => ?_)
        · obtain ⟨⟨x1, x3, x4, x5, rfl⟩, smq, eq, ys, out, eL, tp, cv⟩ := hP
          rw [List.getElem?_map] at hx
          cases ez : zs[i]? with
          | none =>
            rw [ez] at hx
            cases hx
          | some nm =>
            rw [ez] at hx
            have hx : V.str nm = x := Option.some.inj hx
            subst hx
            obtain ⟨v, hm⟩ := (inK eun).mp (per.mem_iff.mp (List.mem_of_getElem? ez))
            obtain ⟨x', rl, ts, bd, e1, tv, hit⟩ := u3 _ _ hm
            injection e1 with e1
            subst e1
            obtain ⟨pv0, rfl, y, z, ev, ty, tz⟩ := inv3r (tv.mono (Tk.of smq))
            refine ⟨.ref s, rfl, s, C, dx, _, _, rfl, smq _ _ b.hs, T.cl, T.nU, fl_rul _ _ _ _, .str nm, rfl, u, .ref pv0, rfl, (by rw [← (mem_val u1).mpr hm]; exact DGet.k (k := Sum.inr nm) (smq _ _ b.hu)), pv0, _, rfl, SqT.of ev, rfl, _, _, rfl, _, _, rfl, _, _, rfl, rfl, ?_⟩
            have ly : ys.length = out.length := by rw [tp.length, List.length_map]
            have lo := cv.len
            refine ⟨.ref L, rfl, .inl ⟨rfl, _, SqL.of eL⟩, .str nm, rfl, .str rl, rfl, y, rfl, z, rfl, s5, fun p np => ?_⟩
            have npL : L ≠ p := fun z => by rw [← z, eL] at np; cases np
            have eL' : (upd H2 p (.tup [.str "rule", .str nm, .str rl, y, z])) L = some (.lst ys) := by
              rw [upd_ne npL]
              exact eL
            have tk1 : Tk H2 (upd (upd H2 p (.tup [.str "rule", .str nm, .str rl, y, z])) L (.lst (ys ++ [.ref p]))) := (Tk.new np).trans (Tk.lst eL')
            refine ⟨L, ys, .ref p, rfl, rfl, eL', small1000 (by omega), ⟨_, _, _, _, rfl⟩, fun a o h => ?_, ?_, ys ++ [.ref p], out ++ [.rule nm rl ts bd], upd_same, ?_, ?_⟩
            · rw [upd_ne (ne_of_none h nLH), upd_ne (ne_of_none (smq a o h) np)]
              exact smq a o h
            · rw [upd_ne nzL, upd_ne (ne_of_none eq np)]
              exact eq
            · rw [List.map_append]
              exact (tp.mono tk1).append (.cons (.tup (by rw [upd_ne npL.symm]; exact upd_same) (.cons (.str _) (.cons (.str _) (.cons (.str _) (.cons (ty.mono tk1) (.cons (tz.mono tk1) .nil)))))) .nil)
            · rw [take_next ez]
              exact cv.one (pw_take pz ez) b.srt b.ok hit rfl rfl (by decide)
        · obtain ⟨w1, w2, w3, ys, out, eL, tp, cv⟩ := hP
          rw [List.length_map, List.take_length] at cv
          refine ⟨w1, w2, ys, out, eL, tp, cv.next fun x hx k => ?_⟩
          cases x with
          | rel nm n => exact absurd (show (0 : Int) = 2 from k) (by decide)
          | fact nm ds => exact absurd (show (1 : Int) = 2 from k) (by decide)
          | rule nm a c e => exact per.mem_iff.mpr ((inK eun).mpr (u4 _ _ _ _ hx))
          | den nm a => exact absurd (show (3 : Int) = 2 from k) (by decide)
      · -- denials
        rintro σ H2 ⟨⟨x1, x3, x4, x5, rfl⟩, smH, ys, out, eL, tp, cv1⟩
        refine ⟨fun σ H' => (∃ x1 x3 x4 x5, σ = [some (.ref s), x1, some (.ref L), x3, x4, x5, none]) ∧ Same H H' ∧ ∃ ys out, H' L = some (.lst ys) ∧ Tps H' ys (out.map itD) ∧ Cov its 4 [] out, ?_, ?_⟩
        · refine ⟨.ref s, rfl, s, C, dx, _, _, rfl, smH _ _ b.hs, T.cl, T.nD, fl_den _ _ _ _, d, kd, dn, rfl, .of (smH _ _ b.hd), edn, by omega, fun zs zp per srt nzp => ?_⟩
          have pz := sorted_pw srt (per.nodup_iff.mpr nd')
          have sm1 : Same H2 (upd H2 zp (.lst (zs.map V.str))) := same_new nzp
          have nzL : zp ≠ L := fun z => by rw [z, eL] at nzp; cases nzp
          have eL1 := sm1 _ _ eL
          have tp1 := tp.mono (Tk.of sm1)
          have smH1 := smH.trans sm1
          have ezp : (upd H2 zp (.lst (zs.map V.str))) zp = some (.lst (zs.map V.str)) := upd_same
          revert eL1 tp1 smH1 ezp
          generalize upd H2 zp (.lst (zs.map V.str)) = H1
          intro eL1 tp1 smH1 ezp
          refine ⟨zp, rfl, ⟨_, SqL.of ezp⟩, ?_⟩
          refine for_list (K := K) (a := zp) (xs := zs.map V.str) (fun i σ H2 => (∃ x1 x3 x4 x5, σ = [some (.ref s), x1, some (.ref L), x3, x4, x5, none]) ∧ Same H H2 ∧ H2 zp = some (.lst (zs.map V.str)) ∧ ∃ ys out, H2 L = some (.lst ys) ∧ Tps H2 ys (out.map itD) ∧ Cov its 3 (zs.take i) out) ⟨⟨_, _, _, _, rfl⟩, smH1, ezp, ys, out, eL1, tp1, cv1⟩ (fun i σ H2 _ hP => SqL.of hP.2.2.1) (fun i x σ H2 hx hP => ?_) (fun σ H2 hP => ?_)
          · obtain ⟨⟨x1, x3, x4, x5, rfl⟩, smq, eq, ys, out, eL, tp, cv⟩ := hP
            rw [List.getElem?_map] at hx
            cases ez : zs[i]? with
            | none =>
              rw [ez] at hx
              cases hx
            | some nm =>
              rw [ez] at hx
              have hx : V.str nm = x := Option.some.inj hx
              subst hx
              obtain ⟨v, hm⟩ := (inK edn).mp (per.mem_iff.mp (List.mem_of_getElem? ez))
              obtain ⟨x', bd, e1, tv, hit⟩ := d3 _ _ hm
              injection e1 with e1
              subst e1
              have ly : ys.length = out.length := by rw [tp.length, List.length_map]
              have lo := cv.len
              refine ⟨.ref L, rfl, .inl ⟨rfl, _, SqL.of eL⟩, .str nm, rfl, .ref s, rfl, s, C, dx, _, _, rfl, smq _ _ b.hs, T.cl, T.nD, fl_den _ _ _ _, .str nm, rfl, d, v, rfl, (by rw [← (mem_val d1).mpr hm]; exact DGet.k (k := Sum.inr nm) (smq _ _ b.hd)), s3, fun p np => ?_⟩
              have npL : L ≠ p := fun z => by rw [← z, eL] at np; cases np
              have eL' : (upd H2 p (.tup [.str "denial", .str nm, v])) L = some (.lst ys) := by
                rw [upd_ne npL]
                exact eL
              have tk1 : Tk H2 (upd (upd H2 p (.tup [.str "denial", .str nm, v])) L (.lst (ys ++ [.ref p]))) := (Tk.new np).trans (Tk.lst eL')
              refine ⟨L, ys, .ref p, rfl, rfl, eL', small1000 (by omega), ⟨_, _, _, _, rfl⟩, fun a o h => ?_, ?_, ys ++ [.ref p], out ++ [.den nm bd], upd_same, ?_, ?_⟩
              · rw [upd_ne (ne_of_none h nLH), upd_ne (ne_of_none (smq a o h) np)]
                exact smq a o h
              · rw [upd_ne nzL, upd_ne (ne_of_none eq np)]
                exact eq
              · rw [List.map_append]
                exact (tp.mono tk1).append (.cons (.tup (by rw [upd_ne npL.symm]; exact upd_same) (.cons (.str _) (.cons (.str _) (.cons ((tv.mono (Tk.of smq)).mono tk1) .nil)))) .nil)
              · rw [take_next ez]
                exact cv.one (pw_take pz ez) b.srt b.ok hit rfl rfl (by decide)
          · obtain ⟨w1, w2, w3, ys, out, eL, tp, cv⟩ := hP
            rw [List.length_map, List.take_length] at cv
            refine ⟨w1, w2, ys, out, eL, tp, cv.next fun x hx k => ?_⟩
            cases x with
            | rel nm n => exact absurd (show (0 : Int) = 3 from k) (by decide)
            | fact nm ds => exact absurd (show (1 : Int) = 3 from k) (by decide)
            | rule nm a c e => exact absurd (show (2 : Int) = 3 from k) (by decide)
            | den nm a => exact per.mem_iff.mpr ((inK edn).mpr (d4 _ _ hx))
        · rintro σ H2 ⟨⟨x1, x3, x4, x5, rfl⟩, smH, ys, out, eL, tp, cv1⟩
          have eo := cv1.all b.srt b.ok
          rw [eo] at tp
          exact ⟨.ref L, rfl, q L ys H2 smH nLH eL tp⟩
end
end KU

namespace L2
open PySem PySem.Spec PyProof.Rows
section
variable {X : Cx}
/-- name = {.. for ..} on one line, the name a local -/
theorem ps_setDc {i : Nat} {y : Str} {py : Pos} {kx vx tg iter : Expr} {ifs : List Expr} {scope : Scope} {own : List (Str × Nat)} {pos spos : Pos} {wi : TI} {g : TG} {tt : TT} {tk tv : TE} (hc : X.calm = true) (hN : X.N.Nodup) (hy : X.N[i]? = some y) (hyl : X.env.scope.names.lookup y = some .local)
    (hsw : swapsWith (.DictComp kx vx [⟨tg, iter, ifs, 0⟩] scope pos) (some (.Name y py)) spos.line X.env = pure true) (hi : PI X tg iter wi) (ok : BlkOk X.N X.env.scope scope own)
    (hg : ∀ (s : Shared) (H : Hp) (C : Addr) (cl : List (Str × Addr)) (fp : List Addr), PG (X.blk s H scope (compEnvC scope cl C X.env) fp) tg g) (ht : ∀ (s : Shared) (H : Hp) (C : Addr) (cl : List (Str × Addr)) (fp : List Addr), PTs (X.blk s H scope (compEnvC scope cl C X.env) fp) ifs tt)
    (hk : ∀ (s : Shared) (H : Hp) (C : Addr) (cl : List (Str × Addr)) (fp : List Addr), PE (X.blk s H scope (compEnvC scope cl C X.env) fp) kx tk)
    (he : ∀ (s : Shared) (H : Hp) (C : Addr) (cl : List (Str × Addr)) (fp : List Addr), PE (X.blk s H scope (compEnvC scope cl C X.env) fp) vx tv) (hs : ∀ x, foldedSetIterable iter X.env x = pure x := by intro _; rfl) :
    PS X (.Assign [.Name y py] (.DictComp kx vx [⟨tg, iter, ifs, 0⟩] scope pos) spos) (tAsg (tDc wi g tt tk tv (own.map (·.2))) (gName i)) := by
  refine ⟨fun pins s σ H D I h => ?_⟩
  rw [exec_Assign_Name_used _ _ _ _ hsw]
  refine wpAny_bind (wpAny_standAt (wpAny_bind ?_))
  show wpAny _ X.A (do let _ ← comprehension (.DictComp kx vx [⟨tg, iter, ifs, 0⟩] scope pos) scope X.env (firstIterPos [⟨tg, iter, ifs, 0⟩] pos) newDict false (eval iter X.env) (some (assign (.Name y py) X.env))) _ _ s
  have h : tDc wi g tt tk tv (own.map (·.2)) σ H (fun x H1 => gName i x σ H1 D.nx) := h
  refine wpAny_bind (thn (dc_core (Qf := fun _ s' => SP X pins D .next s') hc hN I hi ok hg ht hk he hs h fun L C s' m H' I' q hn f => ?_) fun _ s' hq => wpAny_pure (wpAny_pure hq))
  show wpAny _ _ (assign (.Name y py) X.env (.ref L)) _ _ _
  refine wpAny_assign_Name (store_ok2 (v := V.ref L) I' hN hy (.inl hyl) rfl (fun s2 I2 ⟨a, sb, ha⟩ => ?_) (.inr hyl))
  obtain ⟨f0, f1, f2, f3, f4, f5⟩ := f
  have haC : C ≠ a := by
    rcases ha with z | z
    · rw [z]; exact f1
    · exact fun e => f4 y a z e.symm
  refine ⟨m, hn.sameBut sb haC, fun h3 sb3 => ?_⟩
  exact ⟨_, H', I2.turned (t' := s2.toks) (fun b o hb e => (sb3.2 b hb).trans e) f0 f1 f3 f4 f5, q⟩
theorem swd_true {kx vx : Expr} {gs : List Comprehension} {scope : Scope} {pos py : Pos} {y : Str} {l : Nat} {env : Env} (hk : env.scope.kind = .function) (hy : env.scope.names.lookup y = some .local) (hl : (py.line == pos.line) = true)
    (ha : (scope.names.any fun (n, k) => n == y && (k == .local || k == .cell)) = false) : swapsWith (.DictComp kx vx gs scope pos) (some (.Name y py)) l env = pure true := by
  have ky : env.kindOf y = some .local := hy
  have hb : env.blockKind = .function := by unfold Env.blockKind; rw [hk]; rfl
  unfold swapsWith
  simp only [hb, ky, ha, Expr.pos, hl]
  rfl
end
end L2
namespace KU
open PySem PySem.Spec PyProof.Rows PySem.HandSPX L2 KA
/-- d.update(e): a dict with another one -/
def tDUpd (td te : TE) : TE := fun σ H Q => td σ H fun x H1 => ∃ a, x = .ref a ∧ IsD H1 a ∧ te σ H1 fun y H2 => ∃ b kvs more, y = .ref b ∧ H2 a = some (.dK kvs) ∧ Rd H2 b (.dK more) ∧ a ≠ b ∧ kvs.length + more.length ≤ sizeLine ∧ Q .non (upd H2 a (.dK (mergeK kvs more)))
section
variable {X : Cx} {o e : Expr} {td te : TE} {apos cpos : Pos}
theorem pe_dupdate (ho : PE X o td) (he : PE X e te) (m : M1 X o "update" apos e cpos) : PE X (.Call (.Attribute o "update" apos) [e] [] cpos) (tDUpd td te) := by
  refine ⟨fun pins s σ H Q I h => ?_⟩
  refine wpAny_Call_method m.base m.few m.line PySem.F.plainAttrs_dict PySem.F.slot_dict_update PySem.F.type_dict_update (thn (ho.run pins s σ H _ I h) fun u s1 ⟨x, H1, I1, rx, a, ex, d, q1⟩ => ?_)
  subst ex
  obtain rfl : u = Value.ref a := rx
  obtain ⟨t1, t2, _⟩ := isD_at I1 d
  refine ⟨t1, t2, ?_⟩
  rw [m.trees]
  refine Calls.callWith_builtin rfl (Calls.evalArgs_plain (Calls.spliced_cons (thn (he.run pins s1 σ H1 _ I1 q1) fun iv s2 ⟨y, H2, I2, ry, b, kvs, more, ey, ea, rb, nab, hl, q⟩ => Calls.spliced_nil ?_)))
  subst ey
  obtain rfl : iv = Value.ref b := ry
  obtain ⟨z1, hd1, vs, rel1, dd1⟩ := dk_of I2.hok ea
  obtain ⟨z2, hd2, rs, rel2, dd2⟩ := dk_rd I2.hok rb
  refine call_meetsIn PySem.F.slot_dict_update dd1.typeIs PySem.F.entry_dict_update (PySem.F.args_dict_update_2 _ _) (meets_dict_update (mixKind X.prog X.w) a b nab hd2)
    ⟨vs, rs, dd1, dd2, (by rw [← rel1.length, ← rel2.length]; exact hl), fun h' dd' _ hs => ?_⟩
  have hex : ∃ q, h'.get? a = some q := let ⟨q, _, _, hq, _⟩ := dd'; ⟨q, hq⟩
  have hlen := length_mergeK more kvs
  exact ⟨.non, _, d_write I2 (by rw [ea]; exact True.intro) hs hex (dk_new (by omega) hd1 (rel2.merge rel1) dd'), rfl, q⟩
end
end KU

namespace KU
open PySem PySem.Spec PyProof.Rows PySem.HandSPX L2 KA
theorem val_merge : ∀ (more kvs : List (Key × V)), nd more → ∀ k, valV (mergeK kvs more) k = match valV more k with | some v => some v | none => valV kvs k
  | [], kvs, _, k => rfl
  | (k0, v0) :: r, kvs, h, k => by
    have h2 : ((k0 :: r.map (·.1)) : List Key).Nodup := h
    have hr : nd r := (List.nodup_cons.mp h2).2
    have e : mergeK kvs ((k0, v0) :: r) = mergeK (putK kvs k0 v0) r := rfl
    rw [e, val_merge r _ hr k, valV_put]
    by_cases c : k = k0
    · subst c
      have n : valV r k = none := (val_none hr).mpr fun v hm => (List.nodup_cons.mp h2).1 (List.mem_map.mpr ⟨_, hm, rfl⟩)
      rw [n, valV_pos rfl, if_pos rfl]
    · rw [valV_neg (fun z => c z.symm), if_neg c]
/-- what is read of a state: its relations and its rules -/
structure StR (C : Addr) (H : Hp) (s dx r f u d : Addr) (kr ku : List (Key × V)) (its : List It1) (N : Nat) : Prop where
  hs : H s = some (.ins C dx (flds r f u d))
  hr : H r = some (.dK kr)
  ns : s ≠ u
  nr : r ≠ u
  rel : RelOk kr its N
  rul : RulOk H ku its N
  srt : SortedI its
  ok : OkL its
/-- columns are no negative numbers, terms are tuples -/
def TupR (its : List It1) : Prop := (∀ nm n, It1.rel nm n ∈ its → 0 ≤ n) ∧ ∀ nm rl ts bd, It1.rule nm rl ts bd ∈ its → ∃ ds, ts = .tuple ds
/-- the columns of the relations of any items, where rules of one relation may differ -/
def WidAny (its : List It1) (wd : Str → Option Nat) : Prop :=
  (∀ nm n, It1.rel nm n ∈ its → wd nm = some n.toNat) ∧
  (∀ nm rl ts bd, It1.rule nm rl ts bd ∈ its → (∀ n, It1.rel rl n ∉ its) → ∃ nm' ds bd', It1.rule nm' rl (.tuple ds) bd' ∈ its ∧ wd rl = some ds.length) ∧
  ∀ x k, wd x = some k → (∃ n, It1.rel x n ∈ its) ∨ ∃ nm ts bd, It1.rule nm x ts bd ∈ its
def natV : Option V → Option Nat
  | some (.int n) => some n.toNat
  | _ => none
def wdOf (kr kvs : List (Key × V)) (x : Str) : Option Nat := match valV kr (Sum.inr x : Key) with | some v => natV (some v) | none => natV (valV kvs (Sum.inr x : Key))
theorem fn_or0 {P : Program} {w : World} {K : PySem.W.Frag} {mg : Str → Option Value} {base : Heap} {f : Addr} {fd : FuncData} {k : Nat} {ps : List Str} {s1 s2 : Sp} (a : FnOk P w K mg base CX0 k f fd ps s1) (b : FnOk P w K mg base CX0 k f fd ps s2) : FnOk P w K mg base CX0 k f fd ps (fun vs H Q E => s1 vs H Q E ∨ s2 vs H Q E) :=
  ⟨fun vs H Q E h => h.elim (a.len vs H Q E) (b.len vs H Q E), fun A outer s H args us vs Q E hr e0 bt r h => h.elim (a.run A outer s H args us vs Q E hr e0 bt r) (b.run A outer s H args us vs Q E hr e0 bt r)⟩
section
variable {P : Program} {w : World} {K : PySem.W.Frag} {mg : Str → Option Value} {base : Heap} {C : Addr}
abbrev sWd : Stmt := topS 15
abbrev nWd : List Str := ["state", "found", "relation", "terms", "_"]
theorem scWd : FnScope nWd ["state"] (defScope sWd) := ⟨rfl, rfl, rfl, by decide +kernel, rfl, by decide +kernel, by decide +kernel⟩
def spWdU (C : Addr) : Sp := fun vs H Q _ => ∃ (s dx r f u d : Addr) (kr ku : List (Key × V)) (its : List It1) (N : Nat), vs = [.ref s] ∧ StR C H s dx r f u d kr ku its N ∧ H u = some (.dK ku) ∧ N ≤ 400 ∧ TupR its ∧ ∀ p kvs wd H', Same H H' → H' p = some (.dK kvs) → WidK kvs wd → WidAny its wd → H p = none → kvs.length ≤ 1000 → Q (.ref p) H'
def spWdF (C : Addr) : Sp := fun vs H Q _ => ∃ (s dx r f u d : Addr) (kr ku : List (Key × V)) (its : List It1) (N : Nat) (od : Obj), vs = [.ref s] ∧ StR C H s dx r f u d kr ku its N ∧ H u = some (.frz od (.dK ku)) ∧ N ≤ 400 ∧ TupR its ∧ ∀ p kvs wd H', Same H H' → H' p = some (.dK kvs) → WidK kvs wd → WidAny its wd → H p = none → kvs.length ≤ 1000 → Q (.ref p) H'
def spWd (C : Addr) : Sp := fun vs H Q E => spWdU C vs H Q E ∨ spWdF C vs H Q E
theorem ok_wd {f0 : Addr} {fd : FuncData} (F0 : Fun K "widths" "widths" sWd f0 fd) (T : Cs K mg C) (B : Bt mg) : FnOk P w K mg base CX0 1 f0 fd ["state"] (spWdU C) := by
  refine F0.ok scWd (fun vs H Q E h => ?_) (fun cdv A outer s0 H vs Q E hr h => ?_)
  · obtain ⟨_, _, _, _, _, _, _, _, _, _, rfl, _⟩ := h
    rfl
  · obtain ⟨s, dx, r, f, u, d, kr, ku, its, N, rfl, b, hu0, hN, tu, q⟩ := h
    refine ⟨_, pss_cons (ps_lock (ps_setDc (i := 1) (own := [("relation", 2), ("terms", 3), ("_", 4)]) (g := gTup K 3 (gCons (gName 2) (gCons (gName 3) (gCons (gName 4) gNil)))) (tt := tYes) (tk := tVar 2) (tv := tCB (rLenK K) (tCons (tVar 3) tNil)) (by rfl) scWd.nd rfl rfl (swd_true rfl rfl rfl (by decide +kernel)) (pi_values (pe_fld (pv 0) rfl)) (blkOk_by (own := [("relation", 2), ("terms", 3), ("_", 4)]) (N := nWd) (sc := defScope sWd) (by decide +kernel))
        (fun _ _ _ _ _ => pg_tup rfl (pgs_cons (pg_name (i := 2) scWd.nd rfl (Or.inl rfl)) (pgs_cons (pg_name (i := 3) scWd.nd rfl (Or.inl rfl)) (pgs_cons (pg_name (i := 4) scWd.nd rfl (Or.inl rfl)) pgs_nil)))) (fun _ _ _ _ _ => pts_nil)
        (fun _ _ _ _ _ => pv 2) (fun _ _ _ _ _ => pe_callB (r := rLenK K) call_lenK (by rfl) B.len PySem.boot_len (pa_cons (pv 3) pa_nil))))
      (pss_cons (ps_expr (pe_dupdate (pv 1) (pe_fld (pv 0) rfl) ⟨rfl, rfl, rfl, rfl⟩))
      (pss_one (ps_ret (pv 1)))), ?_⟩
    obtain ⟨u1, u2, u3, u4⟩ := id b.rul
    refine ⟨u, .dK ku, hu0, trivial, fun od => ?_⟩
    have hsu : s ≠ u := b.ns
    have L : ∀ a o, a ≠ u → H a = some o → (upd H u (.frz od (.dK ku))) a = some o := fun a o n h => by rw [upd_ne n]; exact h
    refine ⟨.ref s, rfl, s, C, dx, _, _, rfl, L _ _ hsu b.hs, T.cl, T.nU, fl_rul _ _ _ _, u, od, ku, rfl, upd_same, fun D nD => ?_⟩
    have nDu : D ≠ u := fun z => by rw [z, upd_same] at nD; cases nD
    have nD2 : H D = none := by rw [upd_ne nDu] at nD; exact nD
    have lku : ku.length ≤ 400 := Nat.le_trans u2 hN
    refine dc_it walk_values (fun i H' => H' u = some (.frz od (.dK ku)) ∧ (∀ a o, a ≠ u → H a = some o → H' a = some o) ∧ ∃ kvs, H' D = some (.dK kvs) ∧ kvs.length ≤ i ∧
      (∀ x v, valV kvs (Sum.inr x : Key) = some v → ∃ nm ts bd ds, It1.rule nm x ts bd ∈ its ∧ ts = .tuple ds ∧ v = .int (ds.length : Nat)) ∧
      ∀ e ∈ ku.take i, ∀ nm rl ts bd, e.1 = (Sum.inr nm : Key) → It1.rule nm rl ts bd ∈ its → (valV kvs (Sum.inr rl : Key)).isSome = true) ⟨?_, ?_, [], upd_same, Nat.le_refl _, (fun x v z => by cases z), fun e he => by cases he⟩ (fun i H' _ hP => hP.1) (fun i y H' H3 hi hP hY => ?_) (fun H' hP => ?_)
    · rw [upd_ne nDu.symm]
      exact upd_same
    · intro a o n h
      rw [upd_ne (ne_of_none h nD2)]
      exact L a o n h
    · obtain ⟨h1, h2, kvs, hD, lk, c1, c2⟩ := hP
      obtain ⟨rfl, k, ek⟩ := hY
      obtain ⟨nm, rl, ts, bd, e1, e2, e3⟩ := u3 k y (List.mem_of_getElem? ek)
      obtain ⟨ds, e4⟩ := tu.2 _ _ _ _ e3
      have tk : Tk H H3 := fun a xs h => h2 a _ (fun z => by rw [z, hu0] at h; cases h) h
      have e2 := e2.mono tk
      rw [e4] at e2
      obtain ⟨t, vt, vb, rfl, et, g1, g2⟩ : ∃ t vt vb, y = .ref t ∧ H3 t = some (.tup [.str rl, vt, vb]) ∧ Tp H3 vt (.tuple ds) ∧ Tp H3 vb bd := by
        cases e2 with
        | tup a1 a2 => cases a2 with
          | cons b1 a2 => cases a2 with
            | cons b2 a2 => cases a2 with
              | cons b3 a2 =>
                cases a2
                cases b1
                exact ⟨_, _, _, rfl, a1, b2, b3⟩
      obtain ⟨tt, xs, rfl, ett, txs⟩ : ∃ tt xs, vt = .ref tt ∧ H3 tt = some (.tup xs) ∧ Tps H3 xs ds := by
        cases g1 with
        | tup a1 a2 => exact ⟨_, _, rfl, a1, a2⟩
      refine ⟨t, _, rfl, SqT.of et, rfl, _, _, rfl, _, _, rfl, _, _, rfl, rfl, rfl, ?_⟩
      refine iteT (B := True) ?_
      refine ⟨.str rl, rfl, .ref tt, rfl, tt, xs, rfl, .inr (SqT.of ett), kvs, Sum.inr rl, rfl, hD, small1000 (by omega), ?_, ?_, _, upd_same, ?_, ?_, ?_⟩
      · rw [upd_ne nDu.symm]
        exact h1
      · intro a o n h
        rw [upd_ne (ne_of_none h nD2)]
        exact h2 a o n h
      · have z := length_mergeK [((Sum.inr rl : Key), V.int (xs.length : Nat))] kvs
        have z : (putK kvs (Sum.inr rl : Key) (V.int (xs.length : Nat))).length ≤ kvs.length + 1 := z
        omega
      · intro x v z
        rw [valV_put] at z
        by_cases c : (Sum.inr x : Key) = Sum.inr rl
        · rw [if_pos c] at z
          have c := inr_iff.mp c
          subst c
          exact ⟨nm, ts, bd, ds, e3, e4, by rw [← txs.length]; exact (Option.some.inj z).symm⟩
        · rw [if_neg c] at z
          exact c1 x v z
      · intro e he nm' rl' ts' bd' e1' e3'
        rw [valV_put]
        by_cases c : (Sum.inr rl' : Key) = Sum.inr rl
        · rw [if_pos c]
          rfl
        · rw [if_neg c]
          rw [take_next ek] at he
          rcases List.mem_append.mp he with he | he
          · exact c2 e he nm' rl' ts' bd' e1' e3'
          · have he := List.mem_singleton.mp he
            rw [he] at e1'
            have e1' : k = Sum.inr nm' := e1'
            rw [e1] at e1'
            have en := inr_iff.mp e1'
            subst en
            have := sorted_key b.srt b.ok e3 e3' rfl
            injection this with _ z
            rw [z] at c
            exact absurd rfl c
    · obtain ⟨h1, h2, kvs, hD, lk, c1, c2⟩ := hP
      refine ⟨h1, ?_⟩
      have smc : Same H (upd H' u (.dK ku)) := fun a o h => by
        by_cases z : a = u
        · rw [z, hu0] at h
          rw [z, upd_same, ← h]
        · rw [upd_ne z]
          exact h2 a o z h
      have cpD : (upd H' u (.dK ku)) D = some (.dK kvs) := by
        rw [upd_ne nDu]
        exact hD
      revert smc cpD
      generalize upd H' u (.dK ku) = Hc
      intro smc cpD
      obtain ⟨r1, r2, r3⟩ := id b.rel
      refine ⟨.ref D, rfl, D, rfl, ?_, .ref s, rfl, s, C, dx, _, _, rfl, smc _ _ b.hs, T.cl, T.nR, fl_rel _ _ _ _, r, kvs, kr, rfl, cpD, .of (smc _ _ b.hr), ?_, ?_, ?_⟩
      · exact .inl ⟨kvs, .of cpD⟩
      · exact fun z => by have e := b.hr; rw [← z, nD2] at e; cases e
      · rw [sizeLine_eq]
        omega
      · refine ⟨.ref D, rfl, q D _ (wdOf kr kvs) _ (same_put smc nD2) upd_same (fun x => ?_) ⟨fun nm n hm => ?_, fun nm rl ts bd hm no => ?_, fun x k hk => ?_⟩ nD2 (by have := length_mergeK kr kvs; omega)⟩
        · rw [val_merge kr kvs r1]
          unfold wdOf
          cases c : valV kr (Sum.inr x : Key) with
          | some v =>
            obtain ⟨nm, n, a1, a2, a3⟩ := (r3 _ _).mp ((mem_val r1).mp c)
            have n0 := tu.1 _ _ a3
            rw [a2]
            show some (V.int n) = some (V.int ((n.toNat : Nat) : Int))
            rw [Int.toNat_of_nonneg n0]
          | none =>
            show valV kvs _ = _
            cases c3 : valV kvs (Sum.inr x : Key) with
            | some v =>
              obtain ⟨nm, ts, bd, ds, d1, d2, d3⟩ := c1 x v c3
              rw [d3]
              rfl
            | none => rfl
        · have e := (mem_val r1).mpr ((r3 (Sum.inr nm) (.int n)).mpr ⟨nm, n, rfl, rfl, hm⟩)
          unfold wdOf
          rw [e]
          rfl
        · have e0 : valV kr (Sum.inr rl : Key) = none := by
            cases c : valV kr (Sum.inr rl : Key) with
            | none => rfl
            | some v =>
              obtain ⟨nm', n, a1, a2, a3⟩ := (r3 _ _).mp ((mem_val r1).mp c)
              have en := inr_iff.mp a1
              subst en
              exact absurd a3 (no n)
          obtain ⟨v, hv⟩ := u4 _ _ _ _ hm
          have t := c2 (Sum.inr nm, v) (by rw [List.take_length]; exact hv) nm rl ts bd rfl hm
          cases c3 : valV kvs (Sum.inr rl : Key) with
          | none => rw [c3] at t; cases t
          | some v' =>
            obtain ⟨nm', ts', bd', ds, d1, d2, d3⟩ := c1 rl v' c3
            subst d2
            refine ⟨nm', ds, bd', d1, ?_⟩
            unfold wdOf
            rw [e0, c3, d3]
            rfl
        · unfold wdOf at hk
          cases c : valV kr (Sum.inr x : Key) with
          | some v =>
            obtain ⟨nm, n, a1, a2, a3⟩ := (r3 _ _).mp ((mem_val r1).mp c)
            have en := inr_iff.mp a1
            subst en
            exact .inl ⟨n, a3⟩
          | none =>
            rw [c] at hk
            cases c3 : valV kvs (Sum.inr x : Key) with
            | none => rw [c3] at hk; cases hk
            | some v =>
              obtain ⟨nm, ts, bd, ds, d1, d2, d3⟩ := c1 x v c3
              exact .inr ⟨nm, ts, bd, d1⟩
theorem ok_wdF {f0 : Addr} {fd : FuncData} (F0 : Fun K "widths" "widths" sWd f0 fd) (T : Cs K mg C) (B : Bt mg) : FnOk P w K mg base CX0 1 f0 fd ["state"] (spWdF C) := by
  refine F0.ok scWd (fun vs H Q E h => ?_) (fun cdv A outer s0 H vs Q E hr h => ?_)
  · obtain ⟨_, _, _, _, _, _, _, _, _, _, _, rfl, _⟩ := h
    rfl
  · obtain ⟨s, dx, r, f, u, d, kr, ku, its, N, od, rfl, b, hu0, hN, tu, q⟩ := h
    refine ⟨_, pss_cons (ps_setDc (i := 1) (own := [("relation", 2), ("terms", 3), ("_", 4)]) (g := gTup K 3 (gCons (gName 2) (gCons (gName 3) (gCons (gName 4) gNil)))) (tt := tYes) (tk := tVar 2) (tv := tCB (rLenK K) (tCons (tVar 3) tNil)) (by rfl) scWd.nd rfl rfl (swd_true rfl rfl rfl (by decide +kernel)) (pi_values (pe_fld (pv 0) rfl)) (blkOk_by (own := [("relation", 2), ("terms", 3), ("_", 4)]) (N := nWd) (sc := defScope sWd) (by decide +kernel))
        (fun _ _ _ _ _ => pg_tup rfl (pgs_cons (pg_name (i := 2) scWd.nd rfl (Or.inl rfl)) (pgs_cons (pg_name (i := 3) scWd.nd rfl (Or.inl rfl)) (pgs_cons (pg_name (i := 4) scWd.nd rfl (Or.inl rfl)) pgs_nil)))) (fun _ _ _ _ _ => pts_nil)
        (fun _ _ _ _ _ => pv 2) (fun _ _ _ _ _ => pe_callB (r := rLenK K) call_lenK (by rfl) B.len PySem.boot_len (pa_cons (pv 3) pa_nil)))
      (pss_cons (ps_expr (pe_dupdate (pv 1) (pe_fld (pv 0) rfl) ⟨rfl, rfl, rfl, rfl⟩))
      (pss_one (ps_ret (pv 1)))), ?_⟩
    obtain ⟨u1, u2, u3, u4⟩ := id b.rul
    have hsu : s ≠ u := b.ns
    refine ⟨.ref s, rfl, s, C, dx, _, _, rfl, b.hs, T.cl, T.nU, fl_rul _ _ _ _, u, od, ku, rfl, hu0, fun D nD => ?_⟩
    have nDu : D ≠ u := fun z => by rw [z, hu0] at nD; cases nD
    have nD2 : H D = none := nD
    have lku : ku.length ≤ 400 := Nat.le_trans u2 hN
    refine dc_it walk_values (fun i H' => H' u = some (.frz od (.dK ku)) ∧ (∀ a o, a ≠ u → H a = some o → H' a = some o) ∧ ∃ kvs, H' D = some (.dK kvs) ∧ kvs.length ≤ i ∧
      (∀ x v, valV kvs (Sum.inr x : Key) = some v → ∃ nm ts bd ds, It1.rule nm x ts bd ∈ its ∧ ts = .tuple ds ∧ v = .int (ds.length : Nat)) ∧
      ∀ e ∈ ku.take i, ∀ nm rl ts bd, e.1 = (Sum.inr nm : Key) → It1.rule nm rl ts bd ∈ its → (valV kvs (Sum.inr rl : Key)).isSome = true) ⟨?_, ?_, [], upd_same, Nat.le_refl _, (fun x v z => by cases z), fun e he => by cases he⟩ (fun i H' _ hP => hP.1) (fun i y H' H3 hi hP hY => ?_) (fun H' hP => ?_)
    · rw [upd_ne nDu.symm]
      exact hu0
    · intro a o n h
      rw [upd_ne (ne_of_none h nD2)]
      exact h
    · obtain ⟨h1, h2, kvs, hD, lk, c1, c2⟩ := hP
      obtain ⟨rfl, k, ek⟩ := hY
      obtain ⟨nm, rl, ts, bd, e1, e2, e3⟩ := u3 k y (List.mem_of_getElem? ek)
      obtain ⟨ds, e4⟩ := tu.2 _ _ _ _ e3
      have tk : Tk H H3 := fun a xs h => h2 a _ (fun z => by rw [z, hu0] at h; cases h) h
      have e2 := e2.mono tk
      rw [e4] at e2
      obtain ⟨t, vt, vb, rfl, et, g1, g2⟩ : ∃ t vt vb, y = .ref t ∧ H3 t = some (.tup [.str rl, vt, vb]) ∧ Tp H3 vt (.tuple ds) ∧ Tp H3 vb bd := by
        cases e2 with
        | tup a1 a2 => cases a2 with
          | cons b1 a2 => cases a2 with
            | cons b2 a2 => cases a2 with
              | cons b3 a2 =>
                cases a2
                cases b1
                exact ⟨_, _, _, rfl, a1, b2, b3⟩
      obtain ⟨tt, xs, rfl, ett, txs⟩ : ∃ tt xs, vt = .ref tt ∧ H3 tt = some (.tup xs) ∧ Tps H3 xs ds := by
        cases g1 with
        | tup a1 a2 => exact ⟨_, _, rfl, a1, a2⟩
      refine ⟨t, _, rfl, SqT.of et, rfl, _, _, rfl, _, _, rfl, _, _, rfl, rfl, rfl, ?_⟩
      refine iteT (B := True) ?_
      refine ⟨.str rl, rfl, .ref tt, rfl, tt, xs, rfl, .inr (SqT.of ett), kvs, Sum.inr rl, rfl, hD, small1000 (by omega), ?_, ?_, _, upd_same, ?_, ?_, ?_⟩
      · rw [upd_ne nDu.symm]
        exact h1
      · intro a o n h
        rw [upd_ne (ne_of_none h nD2)]
        exact h2 a o n h
      · have z := length_mergeK [((Sum.inr rl : Key), V.int (xs.length : Nat))] kvs
        have z : (putK kvs (Sum.inr rl : Key) (V.int (xs.length : Nat))).length ≤ kvs.length + 1 := z
        omega
      · intro x v z
        rw [valV_put] at z
        by_cases c : (Sum.inr x : Key) = Sum.inr rl
        · rw [if_pos c] at z
          have c := inr_iff.mp c
          subst c
          exact ⟨nm, ts, bd, ds, e3, e4, by rw [← txs.length]; exact (Option.some.inj z).symm⟩
        · rw [if_neg c] at z
          exact c1 x v z
      · intro e he nm' rl' ts' bd' e1' e3'
        rw [valV_put]
        by_cases c : (Sum.inr rl' : Key) = Sum.inr rl
        · rw [if_pos c]
          rfl
        · rw [if_neg c]
          rw [take_next ek] at he
          rcases List.mem_append.mp he with he | he
          · exact c2 e he nm' rl' ts' bd' e1' e3'
          · have he := List.mem_singleton.mp he
            rw [he] at e1'
            have e1' : k = Sum.inr nm' := e1'
            rw [e1] at e1'
            have en := inr_iff.mp e1'
            subst en
            have := sorted_key b.srt b.ok e3 e3' rfl
            injection this with _ z
            rw [z] at c
            exact absurd rfl c
    · obtain ⟨h1, h2, kvs, hD, lk, c1, c2⟩ := hP
      have smc : Same H H' := fun a o h => by
        by_cases z : a = u
        · rw [z, hu0] at h
          rw [z, ← h]
          exact h1
        · exact h2 a o z h
      have cpD := hD
      revert smc cpD
      generalize H' = Hc
      intro smc cpD
      obtain ⟨r1, r2, r3⟩ := id b.rel
      refine ⟨.ref D, rfl, D, rfl, ?_, .ref s, rfl, s, C, dx, _, _, rfl, smc _ _ b.hs, T.cl, T.nR, fl_rel _ _ _ _, r, kvs, kr, rfl, cpD, .of (smc _ _ b.hr), ?_, ?_, ?_⟩
      · exact .inl ⟨kvs, .of cpD⟩
      · exact fun z => by have e := b.hr; rw [← z, nD2] at e; cases e
      · rw [sizeLine_eq]
        omega
      · refine ⟨.ref D, rfl, q D _ (wdOf kr kvs) _ (same_put smc nD2) upd_same (fun x => ?_) ⟨fun nm n hm => ?_, fun nm rl ts bd hm no => ?_, fun x k hk => ?_⟩ nD2 (by have := length_mergeK kr kvs; omega)⟩
        · rw [val_merge kr kvs r1]
          unfold wdOf
          cases c : valV kr (Sum.inr x : Key) with
          | some v =>
            obtain ⟨nm, n, a1, a2, a3⟩ := (r3 _ _).mp ((mem_val r1).mp c)
            have n0 := tu.1 _ _ a3
            rw [a2]
            show some (V.int n) = some (V.int ((n.toNat : Nat) : Int))
            rw [Int.toNat_of_nonneg n0]
          | none =>
            show valV kvs _ = _
            cases c3 : valV kvs (Sum.inr x : Key) with
            | some v =>
              obtain ⟨nm, ts, bd, ds, d1, d2, d3⟩ := c1 x v c3
              rw [d3]
              rfl
            | none => rfl
        · have e := (mem_val r1).mpr ((r3 (Sum.inr nm) (.int n)).mpr ⟨nm, n, rfl, rfl, hm⟩)
          unfold wdOf
          rw [e]
          rfl
        · have e0 : valV kr (Sum.inr rl : Key) = none := by
            cases c : valV kr (Sum.inr rl : Key) with
            | none => rfl
            | some v =>
              obtain ⟨nm', n, a1, a2, a3⟩ := (r3 _ _).mp ((mem_val r1).mp c)
              have en := inr_iff.mp a1
              subst en
              exact absurd a3 (no n)
          obtain ⟨v, hv⟩ := u4 _ _ _ _ hm
          have t := c2 (Sum.inr nm, v) (by rw [List.take_length]; exact hv) nm rl ts bd rfl hm
          cases c3 : valV kvs (Sum.inr rl : Key) with
          | none => rw [c3] at t; cases t
          | some v' =>
            obtain ⟨nm', ts', bd', ds, d1, d2, d3⟩ := c1 rl v' c3
            subst d2
            refine ⟨nm', ds, bd', d1, ?_⟩
            unfold wdOf
            rw [e0, c3, d3]
            rfl
        · unfold wdOf at hk
          cases c : valV kr (Sum.inr x : Key) with
          | some v =>
            obtain ⟨nm, n, a1, a2, a3⟩ := (r3 _ _).mp ((mem_val r1).mp c)
            have en := inr_iff.mp a1
            subst en
            exact .inl ⟨n, a3⟩
          | none =>
            rw [c] at hk
            cases c3 : valV kvs (Sum.inr x : Key) with
            | none => rw [c3] at hk; cases hk
            | some v =>
              obtain ⟨nm, ts, bd, ds, d1, d2, d3⟩ := c1 x v c3
              exact .inr ⟨nm, ts, bd, d1⟩
abbrev dWd (P : Program) (w : World) (K : PySem.W.Frag) (mg : Str → Option Value) (base : Heap) (C : Addr) : Prop := Def P w K mg base "widths" 1 ["state"] (spWd C)
end
end KU

namespace KU
open PySem PySem.Spec PyProof.Rows PySem.HandSPX L2 KA
/-- the dict of widths, as the drawing reads it -/
def WdK (wk : List (Key × V)) (ks : List Str) : Prop := wk.map (·.1) = ks.map Sum.inr ∧ 0 < ks.length ∧ ks.length < 64 ∧ ∀ r ∈ ks, ∃ n : Nat, 1 ≤ n ∧ n ≤ 4 ∧ valV wk (.inr r) = some (.int (n : Nat))
/-- a drawn literal -/
def LitN : L → Prop
  | .fact r ts => ts.length ≤ 5 ∧ ∀ t ∈ ts, TermB t
  | .notl r ts => ts.length ≤ 5 ∧ ∀ t ∈ ts, TermB t
  | .cmp op a b => TermB a ∧ TermB b
  | .isl x op a b => x ∈ vars4 ∧ TermB a ∧ TermB b
  | .cnt x r ts => x ∈ vars4 ∧ ts.length ≤ 5 ∧ ∀ t ∈ ts, TermB t
theorem settled_n {t : T} {bs : List Str} (h : TermB t) : TermB (settled t bs) := by
  have one : TermB (.val (.inl 1)) := ⟨fun i e => by cases e; decide, fun z e => by cases e⟩
  cases t with
  | any => exact one
  | val k => exact h
  | var x =>
    show TermB (if x ∈ bs then .var x else .val (.inl 1))
    by_cases c : x ∈ bs
    · rw [if_pos c]
      exact h
    · rw [if_neg c]
      exact one
theorem keepN_n {bs : List Str} {t : T} (h : TermB t) : TermB (keepN bs t) := by
  cases t with
  | any => exact trivial
  | val k => exact h
  | var y =>
    show TermB (if y ∈ bs then .var y else .any)
    by_cases c : y ∈ bs
    · rw [if_pos c]
      exact h
    · rw [if_neg c]
      exact trivial
section
variable {P : Program} {w : World} {K : PySem.W.Frag} {mg : Str → Option Value} {base : Heap}
abbrev sLl : Stmt := topS 41
abbrev nLl : List Str := ["state", "widths_v", "bound", "careful", "names", "relation", "width", "terms", "form", "pair", "variable", "k", "term"]
theorem scLl : FnScope nLl ["state", "widths_v", "bound", "careful"] (defScope sLl) := ⟨rfl, rfl, rfl, by decide +kernel, rfl, by decide +kernel, by decide +kernel⟩
def spLl : Sp := fun vs H Q _ => ∃ (st L wd b : Addr) (wk : List (Key × V)) (ks bs : List Str), vs = [.ref st, .ref wd, .ref b, .bl false] ∧ Good st L H ∧ H wd = some (.dK wk) ∧ WdK wk ks ∧ H b = some (.lst (bs.map V.str)) ∧ b ≠ st ∧ bs.length ≤ 40 ∧ (∀ x ∈ bs, x ∈ vars4) ∧
  ∀ (v : V) (l : KU.L) H', Dr st L H H' → Tp H' v (litD l) → LitN l → Q v H'
theorem ok_ll {f : Addr} {fd : FuncData} (F : Fun K "_law_literal" "_law_literal" sLl f fd) (B : Bt mg) (hso : mg "sorted" = none) (DN : dNext P w K mg base) (DV : dLv P w K mg base) (DT : dLt P w K mg base) (DS : dLs P w K mg base) : FnOk P w K mg base CX0 4 f fd ["state", "widths_v", "bound", "careful"] spLl := by
  refine F.ok scLl (fun vs H Q E h => ?_) (fun cdv A outer s H vs Q E hr h => ?_)
  · obtain ⟨_, _, _, _, _, _, _, rfl, _⟩ := h
    rfl
  · obtain ⟨st, L, wd, b, wk, ks, bs, rfl, g, ew, ⟨w1, w2, w3, w4⟩, eb, nb, lb, hb, q⟩ := h
    have hu := hu_of hr
    have r1 : Room 1 _ := hr.mono (by decide)
    have r2 : Room 2 _ := hr.mono (by decide)
    refine ⟨_, pss_cons (ps_set (i := 4) scLl.nd rfl (.inl rfl) (pe_callB cr_sortedS (by rfl) hso boot_sorted (pa_cons (pe_callTy (call_listD rfl) (by rfl) B.lst (by decide +kernel) (pa_cons (pv 1) pa_nil)) pa_nil)))
      (pss_cons (ps_set (i := 5) scLl.nd rfl (.inl rfl) (pe_ix ix_list (pv 4) (pe_def DN r1 (by rfl) (pa_cons (pv 0) (pa_cons (pe_callB call_len_seq (by rfl) B.len PySem.boot_len (pa_cons (pv 4) pa_nil)) pa_nil))) (fun _ _ => rfl)))
      (pss_cons (ps_set (i := 6) scLl.nd rfl (.inl rfl) (pe_dget hu (pv 1) (pv 5) (fun _ _ => rfl)))
      (C8.pss_cut (ps_if (PW.pt (pw_and (pt_not (pt_val (pv 3))) (pw_and1 (pt_cmpR op_eq (pe_def DN r1 (by rfl) (pa_cons (pv 0) (pa_cons pe_int pa_nil))) pe_int (nomark _))))) (pss_one (ps_set (i := 6) scLl.nd rfl (.inl rfl) (pe_op op_sub (pe_op op_add (pv 6) pe_int) (pe_op op_mul pe_int (pe_def DN r1 (by rfl) (pa_cons (pv 0) (pa_cons pe_int pa_nil))))))) pss_nil)
      (C8.pss_cut (ps_if (PW.pt (pw_and (pt_not (pt_val (pv 3))) (pw_and1 (pt_cmpR op_eq (pe_def DN r1 (by rfl) (pa_cons (pv 0) (pa_cons pe_int pa_nil))) pe_int (nomark _))))) (pss_one (ps_set (i := 5) scLl.nd rfl (.inl rfl) pe_str)) pss_nil)
      (pss_cons (ps_setLc (i := 7) (own := [("k", 11)]) (g := gName 11) (tt := tYes) (te := tCall spLt [] E0 (tCons (tVar 0) (tCons (tVar 2) tNil))) (by rfl) scLl.nd rfl rfl (sw_true rfl rfl rfl (by decide +kernel)) (pi_range1 (by rfl) B.rng (pa_cons (pv 6) pa_nil)) (blkOk_by (own := [("k", 11)]) (N := nLl) (sc := defScope sLl) (by decide +kernel))
        (fun _ _ _ _ _ => pg_name (i := 11) scLl.nd rfl (Or.inl rfl)) (fun _ _ _ _ _ => pts_nil) (fun _ _ _ _ _ => pe_def DT hr (by rfl) (pa_cons (pv 0) (pa_cons (pv 2) pa_nil))))
      (pss_cons (ps_set (i := 8) scLl.nd rfl (.inl rfl) (pe_ix ix_list (pe_lst (pa_cons pe_str (pa_cons pe_str (pa_cons pe_str (pa_cons pe_str (pa_cons pe_str (pa_cons pe_str (pa_cons pe_str pa_nil)))))))) (pe_def DN r1 (by rfl) (pa_cons (pv 0) (pa_cons pe_int pa_nil))) (fun _ _ => rfl)))
      (C8.pss_cut (ps_if (PW.pt (pw_and (pt_cmpR op_eq (pv 8) pe_str (nomark _)) (pw_and1 (PW.pt (pw_or (pt_val (pv 3)) (pw_or1 (pt_cmpR op_gt (pe_def DN r1 (by rfl) (pa_cons (pv 0) (pa_cons pe_int pa_nil))) pe_int (nomark _))))))))
        (pss_one (ps_setLc (i := 7) (own := [("term", 12)]) (g := gName 12) (tt := tYes) (te := tOp (rIxL K) (tLst (tCons (tVar 12) (tCons (tTup (tCons (tC (.str "any")) tNil)) tNil))) (tCB rInt1 (tCons (tAndV (tOp rEq (tOp (rIxT K) (tVar 12) (tC (.int 0))) (tC (.str "variable"))) (tOp (rIn K true) (tOp (rIxT K) (tVar 12) (tC (.int 1))) (tVar 2))) tNil))) (by rfl) scLl.nd rfl rfl (sw_true rfl rfl rfl (by decide +kernel)) (pi_list (pv 7)) (blkOk_by (own := [("term", 12)]) (N := nLl) (sc := defScope sLl) (by decide +kernel))
          (fun _ _ _ _ _ => pg_name (i := 12) scLl.nd rfl (Or.inl rfl)) (fun _ _ _ _ _ => pts_nil) (fun _ _ _ _ _ => pe_ix ix_list (pe_lst (pa_cons (pv 12) (pa_cons (pe_tup (pa_cons pe_str pa_nil)) pa_nil))) (pe_callTy (r := rInt1) call_intB (by rfl) B.int (by decide +kernel) (pa_cons (pe_and (pe_cmpR op_eq (pe_ix ix_tup (pv 12) pe_int (fun _ _ => rfl)) pe_str (nomark _)) (pe_one (pe_cmpR op_notIn_seq (pe_ix ix_tup (pv 12) pe_int (fun _ _ => rfl)) (pv 2) rfl))) pa_nil)) (fun _ _ => rfl)))) pss_nil)
      (pss_cons (ps_if (pt_cmpR op_in_seq (pv 8) (pe_lst (pa_cons pe_str (pa_cons pe_str pa_nil))) rfl) (pss_one (ps_ret (pe_tup (pa_cons (pv 8) (pa_cons (pv 5) (pa_cons (pe_callTy call_tuple_of (by rfl) B.tup (by decide +kernel) (pa_cons (pv 7) pa_nil)) pa_nil)))))) pss_nil)
      (pss_cons (ps_set (i := 9) scLl.nd rfl (.inl rfl) (pe_lst (pa_cons (pe_def DT hr (by rfl) (pa_cons (pv 0) (pa_cons (pv 2) pa_nil))) (pa_cons (pe_def DT hr (by rfl) (pa_cons (pv 0) (pa_cons (pv 2) pa_nil))) pa_nil))))
      (C8.pss_cut (ps_if (PW.pt (pw_or (pt_val (pv 3)) (pw_or1 (pt_cmpR op_gt (pe_def DN r1 (by rfl) (pa_cons (pv 0) (pa_cons pe_int pa_nil))) pe_int (nomark _)))))
        (pss_one (ps_setLc (i := 9) (own := [("term", 12)]) (g := gName 12) (tt := tYes) (te := tCall spLs [] E0 (tCons (tVar 12) (tCons (tVar 2) tNil))) (by rfl) scLl.nd rfl rfl (sw_true rfl rfl rfl (by decide +kernel)) (pi_list (pv 9)) (blkOk_by (own := [("term", 12)]) (N := nLl) (sc := defScope sLl) (by decide +kernel))
          (fun _ _ _ _ _ => pg_name (i := 12) scLl.nd rfl (Or.inl rfl)) (fun _ _ _ _ _ => pts_nil) (fun _ _ _ _ _ => pe_def DS r1 (by rfl) (pa_cons (pv 12) (pa_cons (pv 2) pa_nil))))) pss_nil)
      (pss_cons (ps_set (i := 10) scLl.nd rfl (.inr rfl) (pe_def DV r2 (by rfl) (pa_cons (pv 0) pa_nil)))
      (pss_cons (ps_if (pt_cmpR op_eq (pv 8) pe_str (nomark _)) (pss_one (ps_ret (pe_tup (pa_cons (pv 8) (pa_cons (pe_ix ix_list (pe_lst (pa_cons pe_str (pa_cons pe_str (pa_cons pe_str (pa_cons pe_str (pa_cons pe_str (pa_cons pe_str pa_nil))))))) (pe_def DN r1 (by rfl) (pa_cons (pv 0) (pa_cons pe_int pa_nil))) (fun _ _ => rfl)) (pa_cons (pe_ix ix_list (pv 9) pe_int (fun _ _ => rfl)) (pa_cons (pe_ix ix_list (pv 9) pe_int (fun _ _ => rfl)) pa_nil))))))) pss_nil)
      (pss_cons (ps_if (pt_cmpR op_eq (pv 8) pe_str (nomark _)) (pss_one (ps_ret (pe_tup (pa_cons (pv 8) (pa_cons (pv 10) (pa_cons (pe_ix ix_list (pe_lst (pa_cons pe_str (pa_cons pe_str (pa_cons pe_str pa_nil)))) (pe_def DN r1 (by rfl) (pa_cons (pv 0) (pa_cons pe_int pa_nil))) (fun _ _ => rfl)) (pa_cons (pe_ix ix_list (pv 9) pe_int (fun _ _ => rfl)) (pa_cons (pe_ix ix_list (pv 9) pe_int (fun _ _ => rfl)) pa_nil)))))))) pss_nil)
      (pss_cons (ps_if (pt_val (pv 3)) pss_never pss_nil)
      (pss_one (ps_ret (pe_tup (pa_cons (pv 8) (pa_cons (pv 10) (pa_cons (pv 5) (pa_cons (pe_callTy call_tuple_of (by rfl) B.tup (by decide +kernel) (pa_cons (pv 7) pa_nil)) pa_nil))))))))))))))))))))), ?_⟩
    have nwst : wd ≠ st := fun z => by
      obtain ⟨_, _, _, _, e, _⟩ := g
      rw [z, e] at ew
      cases ew
    -- names
    refine ⟨.ref wd, rfl, wd, wk, rfl, .inl ew, fun n0 nn0 => ?_⟩
    have dA := Dr.new (o := .lst (wk.map fun kv => kV kv.1)) g nn0
    have ekk : (wk.map fun kv => kV kv.1) = ks.map V.str := by
      have e := congrArg (List.map kV) w1
      rw [List.map_map, List.map_map] at e
      exact e
    rw [ekk] at dA ⊢
    refine ⟨n0, ks, rfl, SqL.of upd_same, w3, fun ys pn per srt npn => ?_⟩
    have dB := dA.add (o := .lst (ys.map V.str)) npn
    have epn : (upd (upd H n0 (.lst (ks.map V.str))) pn (.lst (ys.map V.str))) pn = some (.lst (ys.map V.str)) := upd_same
    have npst : pn ≠ st := fun z => dA.good.not_none (by rw [← z]; exact npn)
    revert dB epn
    clear dA npn nn0
    generalize (upd (upd H n0 (.lst (ks.map V.str))) pn (.lst (ys.map V.str))) = H1
    intro d1 epn
    have ly : ys.length = ks.length := per.length_eq
    -- relation
    refine ⟨.ref pn, rfl, .ref st, rfl, .ref pn, rfl, pn, _, rfl, .inl (SqL.of epn), st, L, _, rfl, d1.good, by rw [List.length_map, ly]; omega, by rw [List.length_map, ly]; omega, fun v2 H2 d2 v0 v1 => ?_⟩
    rw [List.length_map] at v1
    obtain ⟨r, hr0, er⟩ := pick_at (f := V.str) (ks := ys) v0 v1
    refine ⟨pn, _, v2, .str r, rfl, rfl, SqL.of (d2.at_ npst epn), er, ?_⟩
    have dr := d1.trans d2
    obtain ⟨n, hn1, hn3, hval⟩ := w4 r (per.mem_iff.mp hr0)
    refine ⟨.ref wd, rfl, .str r, rfl, wd, .int (n : Nat), rfl, .inl ⟨wk, .inr r, .inl (dr.at_ nwst ew), rfl, hval.symm⟩, ?_⟩
    have neq : ∀ {v : Int}, True := fun {_} => trivial
    refine ⟨fun σ' H' => ∃ n2 : Nat, n2 ≤ 5 ∧ σ' = [some (.ref st), some (.ref wd), some (.ref b), some (.bl false), some (.ref pn), some (.str r), some (.int (n2 : Nat)), none, none, none, none, none, none] ∧ Dr st L H H', ?_, fun σ' H' hm => ?_⟩
    · refine ⟨.bl false, rfl, false, rfl, iteT ⟨.ref st, rfl, st, L, 12, rfl, dr.good, by decide, by decide, fun v3 H3 d3 _ _ => ⟨rfl, _, rfl, ite2 (fun _ => ?_) (fun _ => ?_)⟩⟩⟩
      · refine ⟨.int (n : Nat), rfl, (n : Nat), 1, rfl, rfl, .ref st, rfl, st, L, 2, rfl, (dr.trans d3).good, by decide, by decide, fun v4 H4 d4 y0 y1 => ?_⟩
        have y2 : v4 = 0 ∨ v4 = 1 := by omega
        refine ⟨2, v4, rfl, rfl, .inr ⟨by omega, by omega⟩, (n : Nat) + 1, 2 * v4, rfl, rfl, ?_⟩
        rcases y2 with rfl | rfl
        · exact ⟨n + 1, by omega, rfl, (dr.trans d3).trans d4⟩
        · refine ⟨n - 1, by omega, ?_, (dr.trans d3).trans d4⟩
          have e : ((n : Nat) : Int) + 1 - 2 * 1 = ((n - 1 : Nat) : Int) := by omega
          show _ = _
          rw [← e]
          rfl
      · exact ⟨n, by omega, rfl, dr.trans d3⟩
    obtain ⟨n2, hn2, rfl, dr2⟩ := hm
    refine ⟨fun σ' H' => ∃ r2 : Str, σ' = [some (.ref st), some (.ref wd), some (.ref b), some (.bl false), some (.ref pn), some (.str r2), some (.int (n2 : Nat)), none, none, none, none, none, none] ∧ Dr st L H H', ?_, fun σ' H2 hm => ?_⟩
    · refine ⟨.bl false, rfl, false, rfl, iteT ⟨.ref st, rfl, st, L, 12, rfl, dr2.good, by decide, by decide, fun v3 H3 d3 _ _ => ⟨rfl, _, rfl, ite2 (fun _ => ?_) (fun _ => ?_)⟩⟩⟩
      · exact ⟨"none", rfl, dr2.trans d3⟩
      · exact ⟨r, rfl, dr2.trans d3⟩
    obtain ⟨r2, rfl, dr⟩ := hm
    -- terms
    refine ⟨.int (n2 : Nat), rfl, (n2 : Nat), rfl, by omega, by omega, fun D nD => ?_⟩
    have nDst : D ≠ st := fun z => dr.good.not_none (by rw [← z]; exact nD)
    refine lc_range (lo := 0) (n := ((n2 : Nat) : Int).toNat) (fun i H' => Dr st L H2 H' ∧ ∃ us ts, H' D = some (.lst us) ∧ Tps H' us (ts.map tD) ∧ ts.length = i ∧ ∀ t ∈ ts, TermB t) ⟨Dr.new dr.good nD, [], [], upd_same, .nil, rfl, fun t h => by cases h⟩ (fun i H' hi hP => ?_) (fun H' hP => ?_)
    · obtain ⟨dd, us, ts, eD, tu, lt, ht⟩ := hP
      refine ⟨rfl, iteT (B := True) ?_⟩
      refine ⟨.ref st, rfl, .ref b, rfl, st, L, b, bs, rfl, dd.good, (dr.trans dd).at_ nb eb, nb, lb, hb, fun v t H5 d5 tv tb => ?_⟩
      have lu := tu.length
      rw [List.length_map] at lu
      have eD5 := d5.at_ nDst eD
      refine ⟨us, eD5, small1000 (by omega), (dd.trans d5).put dr.good nD, us ++ [v], ts ++ [t], upd_same, ?_, by rw [List.length_append, lt]; rfl, fun t2 h2 => ?_⟩
      · rw [List.map_append]
        exact ((tu.mono (d5.tk dd.good)).mono (Tk.lst eD5)).append (.cons (tv.mono (Tk.lst eD5)) .nil)
      · rcases List.mem_append.mp h2 with h2 | h2
        · exact ht t2 h2
        · rw [List.mem_singleton.mp h2]
          exact tb
    obtain ⟨dd, us, ts, eD, tu, lt, ht⟩ := hP
    have lt : ts.length = n2 := by rw [lt, Int.toNat_natCast]
    have d3 := dr.trans dd
    -- form
    refine ⟨(by show 7 ≤ sizeLine; decide), fun pf npf => ?_⟩
    have d4 := Dr.new (o := .lst (forms.map V.str)) d3.good npf
    refine ⟨.ref st, rfl, st, L, 7, rfl, d4.good, by decide, by decide, fun v5 H5 d5 w0 w1 => ?_⟩
    obtain ⟨fm, hfm, efm⟩ := pick_at (f := V.str) (ks := forms) w0 w1
    refine ⟨pf, _, v5, .str fm, rfl, rfl, SqL.of (Dr.keep d3.good npf d5), efm, ?_⟩
    have d6 := d3.trans (d4.trans d5)
    have eD6 := (d4.trans d5).at_ nDst eD
    have tu6 := tu.mono ((d4.trans d5).tk d3.good)
    clear d4 d5 npf w0 w1 efm
    have lt3 : ts.length ≤ 5 := by omega
    refine ⟨fun σ' H' => (∃ (tl : Addr) (us : List V) (ts : List T) (x9 x10 x11 x12 : Option V), σ' = [some (.ref st), some (.ref wd), some (.ref b), some (.bl false), some (.ref pn), some (.str r2), some (.int (n2 : Nat)), some (.ref tl), some (.str fm), x9, x10, x11, x12] ∧ H' tl = some (.lst us) ∧ Tps H' us (ts.map tD) ∧ tl ≠ st ∧ ts.length ≤ 5 ∧ (∀ t ∈ ts, TermB t)) ∧ Dr st L H H', ?_, fun σ' H' hm => ?_⟩
    · refine ⟨.str fm, rfl, rfl, _, rfl, ?_⟩
      by_cases c : fm = "not"
      · rw [c, decide_eq_true rfl]
        refine iteT ⟨.bl false, rfl, false, rfl, iteF ⟨.ref st, rfl, st, L, 3, rfl, d6.good, by decide, by decide, fun v6 H6 d66 _ _ => ⟨v6, 0, rfl, rfl, _, rfl, ite2 (fun _ => ?_) (fun _ => ?_)⟩⟩⟩
        · have tu66 := tu6.mono (d66.tk d6.good)
          have eD66 := d66.at_ nDst eD6
          refine ⟨.ref D, rfl, D, rfl, ⟨us, SqL.of eD66⟩, fun D2 nD2 => ?_⟩
          have lus : us.length = ts.length := by rw [tu6.length, List.length_map]
          have nD2st : D2 ≠ st := fun z => d66.good.not_none (by rw [← z]; exact nD2)
          have eb6 := d66.at_ nb (d6.at_ nb eb)
          refine lc_tps walk_list ((ts.map (keepN bs)).map tD) (by rw [List.length_map, List.length_map, lus]) (by omega) nD2 (fun H2 sm => SqL.of (sm _ _ eD66)) (fun i x H2 H3 Q2 R hi sm hY qq => ?_) (fun H2 acc sm eA tA => ?_)
          · obtain ⟨rfl, hx⟩ := hY
            obtain ⟨t, et, tt⟩ := term_get tu66 hx
            have tt := tt.mono (Tk.of sm)
            have ed : ((ts.map (keepN bs)).map tD)[i]? = some (tD (keepN bs t)) := by
              rw [List.getElem?_map, List.getElem?_map, et]
              rfl
            obtain ⟨pt, r0, rfl, ept, e0, e1, e2⟩ := pairs_get tt
            refine ⟨rfl, iteT (B := True) ?_⟩
            refine ⟨.ref pt, rfl, (by show 1 ≤ sizeLine; decide), fun pa npa => ⟨(by show 2 ≤ sizeLine; decide), fun pl npl => ?_⟩⟩
            have s8 : Same H3 (upd (upd H3 pa (.tup [.str "any"])) pl (.lst [.ref pt, .ref pa])) := (same_new npa).trans (same_new npl)
            have epa : (upd (upd H3 pa (.tup [.str "any"])) pl (.lst [.ref pt, .ref pa])) pa = some (.tup [.str "any"]) := same_new npl _ _ upd_same
            have epl : (upd (upd H3 pa (.tup [.str "any"])) pl (.lst [.ref pt, .ref pa])) pl = some (.lst [.ref pt, .ref pa]) := upd_same
            revert s8 epa epl
            generalize (upd (upd H3 pa (.tup [.str "any"])) pl (.lst [.ref pt, .ref pa])) = H8
            intro s8 epa epl
            have st : ∀ {x y : Str}, x ≠ y → V.str x ≠ V.str y := fun n z => n (by injection z)
            refine ⟨.ref pt, rfl, pt, r0, 0, _, rfl, rfl, SqT.of (s8 _ _ ept), e0, rfl, _, rfl, ?_⟩
            cases t with
            | any =>
              rw [show tName .any = ("any" : Str) from rfl, decide_eq_false (st (show ("any" : Str) ≠ "variable" by decide +kernel))]
              exact iteF (.inr ⟨_, rfl, pl, _, 0, .ref pt, rfl, rfl, SqL.of epl, rfl, qq _ _ _ s8 ed (tt.mono (Tk.of s8))⟩)
            | val k =>
              rw [show tName (.val k) = ("value" : Str) from rfl, decide_eq_false (st (show ("value" : Str) ≠ "variable" by decide +kernel))]
              exact iteF (.inr ⟨_, rfl, pl, _, 0, .ref pt, rfl, rfl, SqL.of epl, rfl, qq _ _ _ s8 ed (tt.mono (Tk.of s8))⟩)
            | var y =>
              rw [show tName (.var y) = ("variable" : Str) from rfl, decide_eq_true rfl]
              refine iteT ⟨.ref pt, rfl, pt, r0, 1, _, rfl, rfl, SqT.of (s8 _ _ ept), e1 y rfl, .ref b, rfl, b, _, rfl, .inl (SqL.of (s8 _ _ (sm _ _ eb6))), rfl, flat_strs bs, .inr ⟨_, rfl, ?_⟩⟩
              rw [inV_str]
              have ek : keepN bs (.var y) = if y ∈ bs then .var y else .any := rfl
              by_cases c2 : y ∈ bs
              · rw [decide_eq_true c2]
                rw [ek, if_pos c2] at ed
                exact ⟨pl, _, 0, .ref pt, rfl, rfl, SqL.of epl, rfl, qq _ _ _ s8 ed (tt.mono (Tk.of s8))⟩
              · rw [decide_eq_false c2]
                rw [ek, if_neg c2] at ed
                exact ⟨pl, _, 1, .ref pa, rfl, rfl, SqL.of epl, rfl, qq _ _ _ s8 ed (.tup epa (.cons (.str _) .nil))⟩
          · refine ⟨⟨D2, acc, ts.map (keepN bs), _, _, _, _, rfl, eA, tA, nD2st, by rw [List.length_map]; exact lt3, fun t h => ?_⟩, (d6.trans d66).trans (Dr.same d66.good sm)⟩
            obtain ⟨t0, h0, rfl⟩ := List.mem_map.mp h
            exact keepN_n (ht t0 h0)
        · exact ⟨⟨D, us, ts, _, _, _, _, rfl, d66.at_ nDst eD6, tu6.mono (d66.tk d6.good), nDst, lt3, ht⟩, d6.trans d66⟩
      · rw [decide_eq_false (fun z => c (by injection z))]
        refine iteF (iteF ⟨⟨D, us, ts, _, _, _, _, rfl, eD6, tu6, nDst, lt3, ht⟩, d6⟩)
    · obtain ⟨⟨tl, us, ts, x9, x10, x11, x12, rfl, etl, tus, ntl, lt3, ht⟩, dr⟩ := hm
      have sne : ∀ {x y : Str}, x ≠ y → V.str x ≠ V.str y := fun n z => n (by injection z)
      have eb' := dr.at_ nb eb
      refine ⟨.str fm, rfl, (by show 2 ≤ sizeLine; decide), fun pq npq => ?_⟩
      refine ⟨pq, _, rfl, .inl (SqL.of upd_same), rfl, by rfl, _, rfl, ?_⟩
      rw [show ([V.str "fact", V.str "not"] : List V) = (["fact", "not"] : List Str).map V.str from rfl]
      have d1 := dr.add (o := .lst ((["fact", "not"] : List Str).map V.str)) npq
      have etl1 : (upd H' pq (.lst ((["fact", "not"] : List Str).map V.str))) tl = some (.lst us) := by
        rw [upd_ne (ne_of_none etl npq)]
        exact etl
      have eb1 : (upd H' pq (.lst ((["fact", "not"] : List Str).map V.str))) b = some (.lst (bs.map V.str)) := by
        rw [upd_ne (ne_of_none eb' npq)]
        exact eb'
      have tus1 := tus.mono (Tk.new (o := .lst ((["fact", "not"] : List Str).map V.str)) npq)
      rw [if_neg Bool.false_ne_true, inV_str]
      revert d1 etl1 eb1 tus1
      generalize (upd H' pq (.lst ((["fact", "not"] : List Str).map V.str))) = H1
      intro d1 etl1 eb1 tus1
      have last : ∀ {a : Addr} {o : HO} {tp : Addr} {o2 : HO} {G : Hp}, G a = some o → G tp = none → (upd G tp o2) a = some o := fun {a o tp o2 G} h n => by
        rw [upd_ne (ne_of_none h n)]
        exact h
      by_cases c : fm ∈ (["fact", "not"] : List Str)
      · rw [decide_eq_true c]
        refine iteT ⟨.str fm, rfl, .str r2, rfl, .ref tl, rfl, tl, us, rfl, .inl ⟨SqL.of etl1, fun tp ntp => ⟨(by show 3 ≤ sizeLine; decide), fun rp nrp => ?_⟩⟩⟩
        have d2 := (d1.add (o := .tup us) ntp).add (o := .tup [.str fm, .str r2, .ref tp]) nrp
        have tt : Tp (upd (upd H1 tp (.tup us)) rp (.tup [.str fm, .str r2, .ref tp])) (.ref rp) (.tuple [.str fm, .str r2, .tuple (ts.map tD)]) :=
          .tup upd_same (.cons (.str _) (.cons (.str _) (.cons (.tup (last upd_same nrp) ((tus1.mono (Tk.new ntp)).mono (Tk.new nrp))) .nil)))
        rcases List.mem_cons.mp c with rfl | c
        · exact q _ (.fact r2 ts) _ d2 tt ⟨lt3, ht⟩
        · obtain rfl := List.mem_singleton.mp c
          exact q _ (.notl r2 ts) _ d2 tt ⟨lt3, ht⟩
      · rw [decide_eq_false c]
        refine iteF ?_
        -- the pair
        refine ⟨.ref st, rfl, .ref b, rfl, st, L, b, bs, rfl, d1.good, eb1, nb, lb, hb, fun va ta Ha da tva tba => ?_⟩
        have eba := da.at_ nb eb1
        refine ⟨.ref st, rfl, .ref b, rfl, st, L, b, bs, rfl, da.good, eba, nb, lb, hb, fun vb tb Hb db tvb tbb => ⟨(by show 2 ≤ sizeLine; decide), fun pp npp => ?_⟩⟩
        have dab := da.trans db
        have tva2 := tva.mono (db.tk da.good)
        have d2 := (d1.trans dab).add (o := .lst [va, vb]) npp
        have etl2 : (upd Hb pp (.lst [va, vb])) tl = some (.lst us) := last (dab.at_ ntl etl1) npp
        have eb2 : (upd Hb pp (.lst [va, vb])) b = some (.lst (bs.map V.str)) := last (dab.at_ nb eb1) npp
        have tus2 := (tus1.mono (dab.tk d1.good)).mono (Tk.new (o := .lst [va, vb]) npp)
        have tp2 : Tps (upd Hb pp (.lst [va, vb])) [va, vb] (([ta, tb] : List T).map tD) := .cons (tva2.mono (Tk.new npp)) (.cons (tvb.mono (Tk.new npp)) .nil)
        have epp : (upd Hb pp (.lst [va, vb])) pp = some (.lst [va, vb]) := upd_same
        have npst2 : pp ≠ st := fun z => (d1.trans dab).good.not_none (by rw [← z]; exact npp)
        revert d2 etl2 eb2 tus2 tp2 epp
        generalize (upd Hb pp (.lst [va, vb])) = H2
        intro d2 etl2 eb2 tus2 tp2 epp
        refine ⟨fun σ' H' => (∃ (D : Addr) (a1 a2 : V) (t1 t2 : T) (y10 y11 y12 : Option V), σ' = [some (.ref st), some (.ref wd), some (.ref b), some (.bl false), some (.ref pn), some (.str r2), some (.int (n2 : Nat)), some (.ref tl), some (.str fm), some (.ref D), y10, y11, y12] ∧ D ≠ st ∧ H' D = some (.lst [a1, a2]) ∧ Tp H' a1 (tD t1) ∧ Tp H' a2 (tD t2) ∧ TermB t1 ∧ TermB t2) ∧ H' tl = some (.lst us) ∧ Tps H' us (ts.map tD) ∧ Dr st L H H', ?_, fun σ' H3 hm => ?_⟩
        · refine ⟨.bl false, rfl, false, rfl, iteF ⟨.ref st, rfl, st, L, 3, rfl, d2.good, by decide, by decide, fun v6 H6 d66 _ _ => ⟨v6, 0, rfl, rfl, _, rfl, ite2 (fun _ => ?_) (fun _ => ?_)⟩⟩⟩
          · have epp6 := d66.at_ npst2 epp
            have tp6 := tp2.mono (d66.tk d2.good)
            have eb6 := d66.at_ nb eb2
            have etl6 := d66.at_ ntl etl2
            have tus6 := tus2.mono (d66.tk d2.good)
            have d26 := d2.trans d66
            refine ⟨.ref pp, rfl, pp, rfl, ⟨_, SqL.of epp6⟩, fun D nD => ?_⟩
            refine lc_tps walk_list ((([ta, tb] : List T).map fun t => settled t bs).map tD) rfl (by show 2 ≤ 1000; decide) nD (fun H5 sm => SqL.of (sm _ _ epp6)) (fun i x H5 H6 Q2 R hi sm hY qq => ?_) (fun H3 acc sm eA tA => ?_)
            · obtain ⟨rfl, hx⟩ := hY
              obtain ⟨t, et, tt⟩ := term_get tp6 hx
              refine ⟨rfl, iteT (B := True) ?_⟩
              refine ⟨x, rfl, .ref b, rfl, x, b, t, bs, rfl, tt.mono (Tk.of sm), sm _ _ eb6, fun v' H7 s7 tv' => qq v' H7 _ s7 ?_ tv'⟩
              rw [List.getElem?_map, List.getElem?_map, et]
              rfl
            · have tA : Tps H3 acc [tD (settled ta bs), tD (settled tb bs)] := tA
              obtain ⟨a1, a2, rfl, ta1, ta2⟩ := two_of tA
              have nDst : D ≠ st := fun z => d26.good.not_none (by rw [← z]; exact nD)
              exact ⟨⟨D, a1, a2, _, _, _, _, _, rfl, nDst, eA, ta1, ta2, settled_n tba, settled_n tbb⟩, sm _ _ etl6, tus6.mono (Tk.of sm), d26.trans (Dr.same d26.good sm)⟩
          · have tp6 : Tps H6 [va, vb] [tD ta, tD tb] := tp2.mono (d66.tk d2.good)
            obtain ⟨a1, a2, e12, ta1, ta2⟩ := two_of tp6
            have epp6 := d66.at_ npst2 epp
            rw [e12] at epp6
            exact ⟨⟨pp, a1, a2, _, _, _, _, _, rfl, npst2, epp6, ta1, ta2, tba, tbb⟩, d66.at_ ntl etl2, tus2.mono (d66.tk d2.good), d2.trans d66⟩
        · obtain ⟨⟨D, a1, a2, t1, t2, y10, y11, y12, rfl, nDst, eA, ta1, ta2, sa1, sb1⟩, etl3, tus3, d3⟩ := hm
          refine ⟨.ref st, rfl, st, L, rfl, d3.good, fun x H4 d4 hx => ?_⟩
          have d5 := d3.trans d4
          have eA4 := d4.at_ nDst eA
          have ta14 := ta1.mono (d4.tk d3.good)
          have ta24 := ta2.mono (d4.tk d3.good)
          have etl4 := d4.at_ ntl etl3
          have tus4 := tus3.mono (d4.tk d3.good)
          refine ⟨.str fm, rfl, rfl, _, rfl, ?_⟩
          by_cases c1 : fm = "compare"
          · rw [c1, decide_eq_true rfl]
            refine iteT ⟨.str "compare", rfl, (by show 6 ≤ sizeLine; decide), fun po npo => ?_⟩
            have d6 := Dr.new (o := .lst (ops6.map V.str)) d5.good npo
            refine ⟨.ref st, rfl, st, L, 6, rfl, d6.good, by decide, by decide, fun v7 H7 d7 w0 w1 => ?_⟩
            obtain ⟨op, hop, eop⟩ := pick_at (f := V.str) (ks := ops6) w0 w1
            have d67 := d6.trans d7
            have eA7 := d67.at_ nDst eA4
            refine ⟨po, _, v7, .str op, rfl, rfl, SqL.of (Dr.keep d5.good npo d7), eop, .ref D, rfl, D, _, 0, a1, rfl, rfl, SqL.of eA7, rfl, .ref D, rfl, D, _, 1, a2, rfl, rfl, SqL.of eA7, rfl, (by show 4 ≤ sizeLine; decide), fun rp nrp => ?_⟩
            exact q _ (.cmp op _ _) _ ((d5.trans d67).add nrp) (.tup upd_same (.cons (.str _) (.cons (.str _) (.cons ((ta14.mono (d67.tk d5.good)).mono (Tk.new nrp)) (.cons ((ta24.mono (d67.tk d5.good)).mono (Tk.new nrp)) .nil))))) ⟨sa1, sb1⟩
          · rw [decide_eq_false (sne c1)]
            refine iteF ⟨.str fm, rfl, rfl, _, rfl, ?_⟩
            by_cases c2 : fm = "is"
            · rw [c2, decide_eq_true rfl]
              refine iteT ⟨.str "is", rfl, .str x, rfl, (by show 3 ≤ sizeLine; decide), fun po npo => ?_⟩
              have d6 := Dr.new (o := .lst (ops3.map V.str)) d5.good npo
              refine ⟨.ref st, rfl, st, L, 3, rfl, d6.good, by decide, by decide, fun v7 H7 d7 w0 w1 => ?_⟩
              obtain ⟨op, hop, eop⟩ := pick_at (f := V.str) (ks := ops3) w0 w1
              have d67 := d6.trans d7
              have eA7 := d67.at_ nDst eA4
              refine ⟨po, _, v7, .str op, rfl, rfl, SqL.of (Dr.keep d5.good npo d7), eop, .ref D, rfl, D, _, 0, a1, rfl, rfl, SqL.of eA7, rfl, .ref D, rfl, D, _, 1, a2, rfl, rfl, SqL.of eA7, rfl, (by show 5 ≤ sizeLine; decide), fun rp nrp => ?_⟩
              exact q _ (.isl x op _ _) _ ((d5.trans d67).add nrp) (.tup upd_same (.cons (.str _) (.cons (.str _) (.cons (.str _) (.cons ((ta14.mono (d67.tk d5.good)).mono (Tk.new nrp)) (.cons ((ta24.mono (d67.tk d5.good)).mono (Tk.new nrp)) .nil)))))) ⟨hx, sa1, sb1⟩
            · rw [decide_eq_false (sne c2)]
              have c3 : fm = "count" := by
                simp only [forms, List.mem_cons, List.not_mem_nil, or_false] at hfm c
                rcases hfm with z | z | z | z | z | z | z
                · exact absurd (.inl z) c
                · exact absurd (.inl z) c
                · exact absurd (.inl z) c
                · exact absurd (.inr z) c
                · exact absurd z c1
                · exact absurd z c2
                · exact z
              refine iteF ⟨.bl false, rfl, false, rfl, iteF ?_⟩
              refine ⟨.str fm, rfl, .str x, rfl, .str r2, rfl, .ref tl, rfl, tl, us, rfl, .inl ⟨SqL.of etl4, fun tp ntp => ⟨(by show 4 ≤ sizeLine; decide), fun rp nrp => ?_⟩⟩⟩
              refine q _ (.cnt x r2 ts) _ ((d5.add ntp).add nrp) ?_ ⟨hx, lt3, ht⟩
              rw [c3]
              exact .tup upd_same (.cons (.str _) (.cons (.str _) (.cons (.str _) (.cons (.tup (last upd_same nrp) ((tus4.mono (Tk.new ntp)).mono (Tk.new nrp))) .nil))))
end
end KU

namespace KU
open PySem PySem.Spec PyProof.Rows PySem.HandSPX L2 KA
/-- the relations of the fact literals -/
def factsOf : List L → List Str
  | [] => []
  | .fact r _ :: ls => r :: factsOf ls
  | _ :: ls => factsOf ls
theorem factsOf_append : ∀ (a b : List L), factsOf (a ++ b) = factsOf a ++ factsOf b
  | [], b => rfl
  | .fact r ts :: a, b => by rw [List.cons_append, factsOf, factsOf, factsOf_append a b, List.cons_append]
  | .notl _ _ :: a, b => by rw [List.cons_append, factsOf, factsOf, factsOf_append a b] <;> exact fun _ _ z => by cases z
  | .cmp _ _ _ :: a, b => by rw [List.cons_append, factsOf, factsOf, factsOf_append a b] <;> exact fun _ _ z => by cases z
  | .isl _ _ _ _ :: a, b => by rw [List.cons_append, factsOf, factsOf, factsOf_append a b] <;> exact fun _ _ z => by cases z
  | .cnt _ _ _ :: a, b => by rw [List.cons_append, factsOf, factsOf, factsOf_append a b] <;> exact fun _ _ z => by cases z
theorem facts_one {l : L} (h : ∀ r ts, l ≠ .fact r ts) : factsOf [l] = [] := by
  cases l with
  | fact r ts => exact absurd rfl (h r ts)
  | _ => rfl
def boundOf (ls : List KU.L) : List Str := ls.foldl (fun bs l => addN bs (bindsL l)) []
theorem boundOf_snoc (ls : List KU.L) (l : KU.L) : boundOf (ls ++ [l]) = addN (boundOf ls) (bindsL l) := by
  unfold boundOf
  rw [List.foldl_append]
  rfl
def BodyN (ls : List KU.L) : Prop := ls.length ≤ 6 ∧ ∀ l ∈ ls, LitN l
theorem binds_len {l : KU.L} (h : LitN l) : (bindsL l).length ≤ 5 ∧ (∀ r ts, l = .fact r ts → ts.length ≤ 5) ∧ ∀ x ∈ bindsL l, x ∈ vars4 := by
  cases l with
  | fact r ts => exact ⟨Nat.le_trans (varsOf_len ts) h.1, fun r' ts' e => by cases e; exact h.1, fun x hx => h.2 _ (varsOf_mem.mp hx)⟩
  | notl r ts => exact ⟨(by show 0 ≤ 5; decide), (fun _ _ e => (by cases e)), fun x hx => by cases hx⟩
  | cmp o a b => exact ⟨(by show 0 ≤ 5; decide), (fun _ _ e => (by cases e)), fun x hx => by cases hx⟩
  | isl z o a b => exact ⟨(by show 1 ≤ 5; decide), (fun _ _ e => (by cases e)), fun x hx => by rw [List.mem_singleton.mp hx]; exact h.1⟩
  | cnt z r ts => exact ⟨(by show 1 ≤ 5; decide), (fun _ _ e => (by cases e)), fun x hx => by rw [List.mem_singleton.mp hx]; exact h.1⟩
theorem facts_snoc (ls : List KU.L) (l : KU.L) : (factsOf (ls ++ [l])).length = (factsOf ls).length + (if litName l = "fact" then 1 else 0) := by
  rw [factsOf_append, List.length_append]
  congr 1
  by_cases c : litName l = "fact"
  · obtain ⟨r, ts, rfl⟩ := lit_name_fact.mp c
    rw [if_pos c]
    rfl
  · rw [if_neg c, facts_one fun r ts e => c (lit_name_fact.mpr ⟨r, ts, e⟩)]
    rfl
section
variable {P : Program} {w : World} {K : PySem.W.Frag} {mg : Str → Option Value} {base : Heap}
abbrev dLl (P : Program) (w : World) (K : PySem.W.Frag) (mg : Str → Option Value) (base : Heap) : Prop := Def P w K mg base "_law_literal" 4 ["state", "widths_v", "bound", "careful"] spLl
abbrev dBi (P : Program) (w : World) (K : PySem.W.Frag) (mg : Str → Option Value) (base : Heap) : Prop := Def P w K mg base "_law_binds" 1 ["literal"] spBi
abbrev sLb : Stmt := topS 43
abbrev nLb : List Str := ["state", "widths_v", "careful", "most", "body", "bound", "facts", "k", "literal", "name"]
theorem scLb : FnScope nLb ["state", "widths_v", "careful", "most"] (defScope sLb) := ⟨rfl, rfl, rfl, by decide +kernel, rfl, by decide +kernel, by decide +kernel⟩
def spLb : Sp := fun vs H Q _ => ∃ (st L wd : Addr) (wk : List (Key × V)) (ks : List Str), vs = [.ref st, .ref wd, .bl false, .int 6] ∧ Good st L H ∧ H wd = some (.dK wk) ∧ WdK wk ks ∧
  ∀ (p : Addr) (us : List V) (ls : List KU.L) H', Dr st L H H' → H' p = some (.tup us) → Tps H' us (ls.map litD) → BodyN ls → Q (.ref p) H'
theorem ok_lb {f : Addr} {fd : FuncData} (F : Fun K "_law_body" "_law_body" sLb f fd) (B : Bt mg) (DN : dNext P w K mg base) (DL : dLl P w K mg base) (DB : dBi P w K mg base) : FnOk P w K mg base CX0 5 f fd ["state", "widths_v", "careful", "most"] spLb := by
  refine F.ok scLb (fun vs H Q E h => ?_) (fun cdv A outer s H vs Q E hr h => ?_)
  · obtain ⟨_, _, _, _, _, rfl, _⟩ := h
    rfl
  · obtain ⟨st, L, wd, wk, ks, rfl, g, ew, hwk, q⟩ := h
    have r1 : Room 1 _ := hr.mono (by decide)
    refine ⟨_, pss_cons (ps_set (i := 4) scLb.nd rfl (.inl rfl) (pe_lst pa_nil))
      (pss_cons (ps_set (i := 5) scLb.nd rfl (.inr rfl) (pe_lst pa_nil))
      (pss_cons (ps_set (i := 6) scLb.nd rfl (.inl rfl) pe_int)
      (pss_cons (ps_for PassesOwn.never rfl (pi_range1 (by rfl) B.rng (pa_cons (pe_def DN r1 (by rfl) (pa_cons (pv 0) (pa_cons (pe_op op_add (pv 3) pe_int) pa_nil))) pa_nil)) (pg_name (i := 7) scLb.nd rfl (.inl rfl))
        (pss_cons (ps_set (i := 8) scLb.nd rfl (.inl rfl) (pe_def DL hr (by rfl) (pa_cons (pv 0) (pa_cons (pv 1) (pa_cons (pv 5) (pa_cons (pv 2) pa_nil))))))
        (pss_one (ps_if (PW.pt (pw_or (pt_cmpR op_ne (pe_ix ix_tup (pv 8) pe_int (fun _ _ => rfl)) pe_str (nomark _)) (pw_or1 (pt_cmpR op_lt (pv 6) pe_int (nomark _)))))
          (pss_cons (ps_expr (pe_bm PySem.F.plainAttrs_list PySem.F.slot_list_append PySem.F.type_list_append mt_append (pv 4) (pa_cons (pv 8) pa_nil)))
          (pss_cons (ps_set (i := 6) scLb.nd rfl (.inl rfl) (pe_op op_add (pv 6) (pe_callTy call_int1 (by rfl) B.int (by decide +kernel) (pa_cons (pe_cmpR op_eq (pe_ix ix_tup (pv 8) pe_int (fun _ _ => rfl)) pe_str (nomark _)) pa_nil))))
          (pss_one (ps_set (i := 5) scLb.nd rfl (.inr rfl) (pe_op op_cat (pv 5) (pe_lc (own := [("name", 9)]) (g := gName 9) (tt := tTest (tOp (rIn K true) (tVar 9) (tVar 5))) (te := tVar 9) rfl scLb.nd (pi_list (pe_def DB r1 (by rfl) (pa_cons (pv 8) pa_nil))) (blkOk_by (own := [("name", 9)]) (N := nLb) (sc := defScope sLb) (by decide +kernel))
            (fun _ _ _ _ _ => pg_name (i := 9) scLb.nd rfl (Or.inl rfl)) (fun _ _ _ _ _ => pts_one (pt_cmpR op_notIn_seq (pv 9) (pv 5) rfl)) (fun _ _ _ _ _ => pv 9)))))))
          pss_nil))))
      (pss_one (ps_ret (pe_callTy call_tuple_of (by rfl) B.tup (by decide +kernel) (pa_cons (pv 4) pa_nil))))))), ?_⟩
    have nwst : wd ≠ st := fun z => by
      obtain ⟨_, _, _, _, e, _⟩ := g
      rw [z, e] at ew
      cases ew
    refine ⟨(by show 0 ≤ sizeLine; decide), fun bd nbd => ?_⟩
    refine ⟨(by show 0 ≤ sizeLine; decide), fun bo nbo => ?_⟩
    have d1 := (Dr.new (o := .lst []) g nbd).add (o := .lst []) nbo
    have ebd : (upd (upd H bd (.lst [])) bo (.lst [])) bd = some (.lst []) := by
      rw [upd_ne (ne_of_none upd_same nbo)]
      exact upd_same
    have ebo : (upd (upd H bd (.lst [])) bo (.lst [])) bo = some (.lst []) := upd_same
    have nbst : bd ≠ st := fun z => g.not_none (by rw [← z]; exact nbd)
    have nbo0 : H bo = none := (same_new nbd).free nbo
    have nost : bo ≠ st := fun z => g.not_none (by rw [← z]; exact nbo0)
    have nbb : bd ≠ bo := fun z => by rw [← z, upd_same] at nbo; cases nbo
    revert d1 ebd ebo
    generalize (upd (upd H bd (.lst [])) bo (.lst [])) = H1
    intro d1 ebd ebo
    refine ⟨.ref st, rfl, .int 6, rfl, 6, 1, rfl, rfl, st, L, 7, rfl, d1.good, by decide, by decide, fun n H2 d2 n0 n1 => ?_⟩
    have d12 := d1.trans d2
    refine ⟨n, rfl, by omega, by omega, ?_⟩
    refine for_range (lo := 0) (n := n.toNat) (fun i σ H' => (∃ (b : Addr) (us : List V) (ls : List KU.L) (x7 x8 x9 : Option V), σ = [some (.ref st), some (.ref wd), some (.bl false), some (.int 6), some (.ref bd), some (.ref b), some (.int ((factsOf ls).length : Nat)), x7, x8, x9] ∧ H' bd = some (.lst us) ∧ Tps H' us (ls.map litD) ∧ b ≠ st ∧ b ≠ bd ∧ H' b = some (.lst ((boundOf ls).map V.str)) ∧ (boundOf ls).length ≤ 5 * i ∧ (∀ x ∈ boundOf ls, x ∈ vars4) ∧ ls.length ≤ i ∧ (factsOf ls).length ≤ 3 ∧ ∀ l ∈ ls, LitN l) ∧ Dr st L H H')
      ⟨⟨bo, [], [], none, none, none, rfl, d2.at_ nbst ebd, .nil, nost, nbb.symm, d2.at_ nost ebo, Nat.le_refl _, (fun x h => (by cases h)), Nat.le_refl _, (by show 0 ≤ 3; decide), fun l h => (by cases h)⟩, d12⟩ (fun i σ H' hi hP => ?_) (fun σ H' hP => ?_)
    · obtain ⟨⟨b, us, ls, x7, x8, x9, rfl, eus, tus, nb, nbbd, eb, lbo, hbo, lls, lfa, hlit⟩, dr⟩ := hP
      have hi6 : i < 6 := by omega
      refine ⟨.ref st, rfl, .ref wd, rfl, .ref b, rfl, .bl false, rfl, st, L, wd, b, wk, ks, boundOf ls, rfl, dr.good, dr.at_ nwst ew, hwk, eb, nb, by omega, hbo, fun v l H3 d3 tl hl => ?_⟩
      have eus3 := d3.at_ nbst eus
      have tus3 := tus.mono (d3.tk dr.good)
      have eb3 := d3.at_ nb eb
      have dr3 := dr.trans d3
      obtain ⟨bl1, bl2, bl3⟩ := binds_len hl
      obtain ⟨p, r0, rfl, ep, e0⟩ := lit_name tl
      refine ⟨.ref p, rfl, p, r0, 0, _, rfl, rfl, SqT.of ep, e0, rfl, _, rfl, ?_⟩
      have lus := tus.length
      rw [List.length_map] at lus
      have hne : ∀ z : Str, (!decide (V.str z = V.str "fact")) = !decide (z = "fact") := fun z => by
        by_cases c : z = "fact"
        · rw [c, decide_eq_true rfl, decide_eq_true rfl]
        · rw [decide_eq_false c, decide_eq_false (fun y => c (by injection y))]
      rw [hne]
      -- the literal comes, or it does not
      have keep : LitN l → ∀ l' ∈ ls ++ [l], LitN l' := fun h l' e => by
        rcases List.mem_append.mp e with e | e
        · exact hlit l' e
        · rw [List.mem_singleton.mp e]
          exact h
      refine or_ifs (b := decide ((((factsOf ls).length : Nat) : Int) < 3)) ?_ (fun h => ⟨.int ((factsOf ls).length : Nat), rfl, _, _, rfl, rfl, _, rfl, h⟩)
      by_cases c : (!decide (litName l = "fact") || decide ((((factsOf ls).length : Nat) : Int) < 3)) = true
      · rw [c]
        refine iteT ?_
        have hc : litName l = "fact" → (factsOf ls).length < 3 := fun e => by
          rw [e, decide_eq_true rfl, Bool.not_true, Bool.false_or] at c
          have := of_decide_eq_true c
          omega
        refine ⟨.ref bd, rfl, .inl ⟨rfl, _, SqL.of eus3⟩, .ref p, rfl, bd, us, _, rfl, rfl, eus3, small1000 (by omega), ?_⟩
        have nbst3 : bd ≠ st := nbst
        have dr4 : Dr st L H (upd H3 bd (.lst (us ++ [.ref p]))) := dr3.put g nbd
        have tk4 : Tk H3 (upd H3 bd (.lst (us ++ [.ref p]))) := Tk.lst eus3
        have eb4 : (upd H3 bd (.lst (us ++ [.ref p]))) b = some (.lst ((boundOf ls).map V.str)) := by
          rw [upd_ne nbbd]
          exact eb3
        have eus4 : (upd H3 bd (.lst (us ++ [.ref p]))) bd = some (.lst (us ++ [.ref p])) := upd_same
        revert dr4 tk4 eb4 eus4
        generalize (upd H3 bd (.lst (us ++ [.ref p]))) = H4
        intro dr4 tk4 eb4 eus4
        have ep4 := tk4 _ _ ep
        have tl4 := tl.mono tk4
        -- facts
        refine ⟨.int ((factsOf ls).length : Nat), rfl, .ref p, rfl, p, r0, 0, _, rfl, rfl, SqT.of ep4, e0, rfl, .inr ⟨_, rfl, _, _, rfl, rfl, ?_⟩⟩
        -- bound
        refine ⟨.ref b, rfl, ?_⟩
        refine ⟨.ref p, rfl, .ref p, l, rfl, tl4, by omega, fun r ts e => Nat.le_trans (bl2 r ts e) (by decide), fun pb H5 s5 epb npb => ?_⟩
        refine ⟨pb, rfl, ⟨_, SqL.of epb⟩, fun D nD => ?_⟩
        have eb5 := s5 _ _ eb4
        have dr5 := dr4.trans (Dr.same dr4.good s5)
        refine lc_keep walk_list ((bindsL l).map V.str) ((bindsL l).map fun x => !decide (x ∈ boundOf ls)) rfl (by rw [List.length_map, List.length_map]) (by rw [List.length_map]; omega) nD (fun H2 sm => SqL.of (sm _ _ epb)) (fun j y H6 H7 Q2 R hj sm hY qt qf => ?_) (fun H6 sm eD => ?_)
        · obtain ⟨rfl, hy⟩ := hY
          rw [List.getElem?_map] at hy
          cases ex : (bindsL l)[j]? with
          | none => rw [ex] at hy; cases hy
          | some x =>
            rw [ex] at hy
            have hy : V.str x = y := Option.some.inj hy
            subst hy
            refine ⟨rfl, .str x, rfl, .ref b, rfl, b, _, rfl, .inl (SqL.of (sm _ _ eb5)), rfl, flat_strs _, _, rfl, ?_⟩
            have ek : ∀ b', (!decide (x ∈ boundOf ls)) = b' → ((bindsL l).map fun x => !decide (x ∈ boundOf ls))[j]? = some b' := fun b' e => by
              rw [List.getElem?_map, ex]
              exact congrArg some e
            have ey : ((bindsL l).map V.str)[j]? = some (V.str x) := by
              rw [List.getElem?_map, ex]
              rfl
            rw [inV_str]
            by_cases c5 : x ∈ boundOf ls
            · rw [decide_eq_true c5]
              exact iteF (qf _ (Same.refl _) (ek _ (by rw [decide_eq_true c5]; rfl)))
            · rw [decide_eq_false c5]
              exact iteT ⟨.str x, rfl, qt _ _ (Same.refl _) (ek _ (by rw [decide_eq_false c5]; rfl)) ey⟩
        · have efil : ((((bindsL l).map V.str).zip ((bindsL l).map fun x => !decide (x ∈ boundOf ls))).filter (·.2)).map (·.1) = ((bindsL l).filter fun x => !decide (x ∈ boundOf ls)).map V.str := by
            generalize bindsL l = xs
            induction xs with
            | nil => rfl
            | cons x xs ih =>
              rw [List.map_cons, List.map_cons, List.zip_cons_cons]
              cases cx : !decide (x ∈ boundOf ls) with
              | true => rw [List.filter_cons_of_pos rfl, List.filter_cons_of_pos (p := fun x => !decide (x ∈ boundOf ls)) cx, List.map_cons, List.map_cons, ih]
              | false => rw [List.filter_cons_of_neg Bool.false_ne_true, List.filter_cons_of_neg (p := fun x => !decide (x ∈ boundOf ls)) (by rw [cx]; exact Bool.false_ne_true), ih]
          rw [efil] at eD
          have dr6 := dr5.trans (Dr.same dr5.good sm)
          have eb6 := sm _ _ eb5
          have eadd : boundOf (ls ++ [l]) = addN (boundOf ls) (bindsL l) := boundOf_snoc ls l
          have lfil : ((bindsL l).filter fun x => !decide (x ∈ boundOf ls)).length ≤ 5 := Nat.le_trans (List.length_filter_le _ _) bl1
          refine ⟨b, D, _, _, rfl, rfl, eb6, eD, Nat.le_of_lt (small1000 (by rw [List.length_map, List.length_map]; omega)), fun bn nbn => ?_⟩
          have dr7 := dr6.add (o := .lst ((boundOf ls).map V.str ++ ((bindsL l).filter fun x => !decide (x ∈ boundOf ls)).map V.str)) nbn
          have ebn : (upd H6 bn (.lst ((boundOf ls).map V.str ++ ((bindsL l).filter fun x => !decide (x ∈ boundOf ls)).map V.str))) bn = some (.lst ((boundOf (ls ++ [l])).map V.str)) := by
            rw [upd_same, eadd]
            unfold addN
            rw [List.map_append]
          have eus6 := sm _ _ (s5 _ _ eus4)
          have nbn1 : bn ≠ bd := fun z => by rw [z, eus6] at nbn; cases nbn
          have nbn2 : bn ≠ st := fun z => dr6.good.not_none (by rw [← z]; exact nbn)
          refine ⟨⟨bn, us ++ [.ref p], ls ++ [l], some (.int (0 + (i : Int))), some (.ref p), x9, ?_, by rw [upd_ne nbn1.symm]; exact eus6, ?_, nbn2, nbn1, ebn, ?_, ?_, by rw [List.length_append, List.length_singleton]; omega, ?_, keep hl⟩, dr7⟩
          · have ef : (((factsOf (ls ++ [l])).length : Nat) : Int) = ((factsOf ls).length : Nat) + (if decide (V.str (litName l) = V.str "fact") = true then 1 else 0) := by
              rw [facts_snoc]
              by_cases c6 : litName l = "fact"
              · rw [if_pos c6, c6, decide_eq_true rfl, if_pos rfl]
                rfl
              · rw [if_neg c6, decide_eq_false (fun z => c6 (by injection z)), if_neg Bool.false_ne_true]
                rfl
            rw [ef]
            rfl
          · rw [List.map_append]
            exact (((tus3.mono tk4).mono (Tk.of (s5.trans sm))).mono (Tk.new nbn)).append (.cons ((tl4.mono (Tk.of (s5.trans sm))).mono (Tk.new nbn)) .nil)
          · rw [eadd]
            unfold addN
            rw [List.length_append]
            omega
          · intro x hx
            rw [eadd] at hx
            rcases List.mem_append.mp hx with hx | hx
            · exact hbo x hx
            · exact bl3 x (List.mem_filter.mp hx).1
          · rw [facts_snoc]
            by_cases c6 : litName l = "fact"
            · rw [if_pos c6]
              exact hc c6
            · rw [if_neg c6]
              exact lfa
      · rw [Bool.not_eq_true] at c
        rw [c]
        refine iteF ⟨⟨b, us, ls, _, _, _, rfl, eus3, tus3, nb, nbbd, eb3, by omega, hbo, by omega, lfa, hlit⟩, dr3⟩
    · obtain ⟨⟨b, us, ls, x7, x8, x9, rfl, eus, tus, nb, nbbd, eb, lbo, hbo, lls, lfa, hlit⟩, dr⟩ := hP
      refine ⟨.ref bd, rfl, bd, us, rfl, .inl ⟨SqL.of eus, fun tp ntp => ?_⟩⟩
      exact q tp us ls _ (dr.add ntp) upd_same (tus.mono (Tk.new ntp)) ⟨by omega, hlit⟩
end
end KU

namespace KU
open PySem PySem.Spec PyProof.Rows PySem.HandSPX L2 KA
def optD : Option PyData → PyData
  | none => .none
  | some d => d
theorem two_le {a b : V} : (2 : Nat) ≤ sizeLine := by show 2 ≤ sizeLine; decide
section
variable {P : Program} {w : World} {K : PySem.W.Frag} {mg : Str → Option Value} {base : Heap}
abbrev sLo : Stmt := topS 44
theorem scLo : FnScope ["terms", "bound", "lets_any", "term"] ["terms", "bound", "lets_any"] (defScope sLo) := ⟨rfl, rfl, rfl, by decide +kernel, rfl, by decide +kernel, by decide +kernel⟩
def spLo : Sp := fun vs H Q _ => ∃ (u b : Addr) (xs : List V) (ts : List T) (bs : List Str) (a : Bool), vs = [.ref u, .ref b, .bl a] ∧ H u = some (.tup xs) ∧ Tps H xs (ts.map tD) ∧ H b = some (.lst (bs.map V.str)) ∧ ∀ v H', Same H H' → Tp H' v (optD (loose bs a ts)) → Q v H'
theorem ok_lo {f : Addr} {fd : FuncData} (F : Fun K "_law_loose" "_law_loose" sLo f fd) : FnOk P w K mg base CX0 1 f fd ["terms", "bound", "lets_any"] spLo := by
  refine F.ok scLo (fun vs H Q E h => ?_) (fun cdv A outer s H vs Q E hr h => ?_)
  · obtain ⟨_, _, _, _, _, _, rfl, _⟩ := h
    rfl
  · obtain ⟨u, b, xs, ts, bs, a, rfl, eu, tx, eb, q⟩ := h
    refine ⟨_, pss_cons (ps_for PassesOwn.never rfl (pi_tup (pv 0)) (pg_name (i := 3) scLo.nd rfl (.inl rfl))
        (pss_cons (ps_if (PW.pt (pw_and (pt_cmpR op_eq (pe_ix ix_tup (pv 3) pe_int (fun _ _ => rfl)) pe_str (nomark _)) (pw_and1 (pt_not (pt_val (pv 2)))))) (pss_one (ps_ret (pe_tup (pa_cons pe_str pa_nil)))) pss_nil)
        (pss_one (ps_if (PW.pt (pw_and (pt_cmpR op_eq (pe_ix ix_tup (pv 3) pe_int (fun _ _ => rfl)) pe_str (nomark _)) (pw_and1 (pt_cmpR op_notIn_seq (pe_ix ix_tup (pv 3) pe_int (fun _ _ => rfl)) (pv 1) rfl))))
          (pss_one (ps_ret (pe_tup (pa_cons pe_str (pa_cons (pe_ix ix_tup (pv 3) pe_int (fun _ _ => rfl)) pa_nil))))) pss_nil))))
      (pss_one (ps_ret pe_non)), ?_⟩
    have lx : xs.length = ts.length := by rw [tx.length, List.length_map]
    have sne : ∀ {x y : Str}, x ≠ y → V.str x ≠ V.str y := fun n z => n (by injection z)
    refine ⟨.ref u, rfl, u, rfl, ⟨xs, SqT.of eu⟩, ?_⟩
    refine for_it walk_tup (fun i σ H' => H' = H ∧ (∃ x3, σ = [some (.ref u), some (.ref b), some (.bl a), x3]) ∧ loose bs a (ts.take i) = none) ⟨rfl, ⟨none, rfl⟩, rfl⟩ (fun i σ H' _ hP => by rw [hP.1]; exact SqT.of eu) (fun i x σ H1 H' hi hP hY => ?_) (fun σ H' hP => ?_)
    · obtain ⟨rfl, hx⟩ := hY
      obtain ⟨rfl, ⟨x3, rfl⟩, hn⟩ := hP
      obtain ⟨t, et, tt⟩ := term_get tx hx
      obtain ⟨pt, r0, rfl, ept, e0, e1, e2⟩ := pairs_get tt
      have etk := take_next et
      have hdr : ts.drop i = t :: ts.drop (i + 1) := drop_get et
      have hall : loose bs a ts = loose bs a (t :: ts.drop (i + 1)) := by
        conv => lhs; rw [← List.take_append_drop i ts, loose_app bs a hn, hdr]
      refine ⟨.ref pt, rfl, pt, r0, 0, _, rfl, rfl, SqT.of ept, e0, rfl, _, rfl, ?_⟩
      cases t with
      | any =>
        refine yes_if ⟨.bl a, rfl, a, rfl, ?_⟩
        cases a with
        | true =>
          refine iteF ?_
          refine ⟨.ref pt, rfl, pt, r0, 0, _, rfl, rfl, SqT.of ept, e0, rfl, _, rfl, no_if (sne (show ("any" : Str) ≠ "variable" by decide +kernel)) ?_⟩
          refine iteF ⟨rfl, ⟨_, rfl⟩, ?_⟩
          rw [etk, loose_app bs true hn]
          rfl
        | false =>
          refine iteT ?_
          have hd : loose bs false ts = some (.tuple [.str "any"]) := hall.trans rfl
          refine ⟨len1, fun p np => q _ _ (same_new np) ?_⟩
          rw [hd]
          exact tup1 np (.str _)
      | val k =>
        refine no_if (sne (show ("value" : Str) ≠ "any" by decide +kernel)) (iteF ?_)
        refine ⟨.ref pt, rfl, pt, r0, 0, _, rfl, rfl, SqT.of ept, e0, rfl, _, rfl, no_if (sne (show ("value" : Str) ≠ "variable" by decide +kernel)) ?_⟩
        refine iteF ⟨rfl, ⟨_, rfl⟩, ?_⟩
        rw [etk, loose_app bs a hn]
        rfl
      | var y =>
        refine no_if (sne (show ("variable" : Str) ≠ "any" by decide +kernel)) (iteF ?_)
        refine ⟨.ref pt, rfl, pt, r0, 0, _, rfl, rfl, SqT.of ept, e0, rfl, _, rfl, yes_if ?_⟩
        refine ⟨.ref pt, rfl, pt, r0, 1, _, rfl, rfl, SqT.of ept, e1 y rfl, .ref b, rfl, b, _, rfl, .inl (SqL.of eb), rfl, flat_strs bs, _, rfl, ?_⟩
        rw [inV_str]
        by_cases c : y ∈ bs
        · rw [decide_eq_true c]
          refine iteF ⟨rfl, ⟨_, rfl⟩, ?_⟩
          rw [etk, loose_app bs a hn]
          show (if y ∈ bs then none else _) = _
          rw [if_pos c]
        · rw [decide_eq_false c]
          refine iteT ?_
          have hd : loose bs a ts = some (.tuple [.str "unbound", .str y]) := by
            rw [hall]
            show (if y ∈ bs then _ else _) = _
            rw [if_neg c]
          refine ⟨.ref pt, rfl, pt, r0, 1, _, rfl, rfl, SqT.of ept, e1 y rfl, len2, fun p np => q _ _ (same_new np) ?_⟩
          rw [hd]
          exact tup2 np (.str _) (.str _)
    · obtain ⟨rfl, ⟨x3, rfl⟩, hn⟩ := hP
      rw [lx, List.take_length] at hn
      refine q _ _ (Same.refl _) ?_
      rw [hn]
      exact .non
abbrev dLo (P : Program) (w : World) (K : PySem.W.Frag) (mg : Str → Option Value) (base : Heap) : Prop := Def P w K mg base "_law_loose" 1 ["terms", "bound", "lets_any"] spLo
end
end KU

namespace KU
open PySem PySem.Spec PyProof.Rows PySem.HandSPX L2 KA
section
variable {P : Program} {w : World} {K : PySem.W.Frag} {mg : Str → Option Value} {base : Heap}
abbrev sLp : Stmt := topS 45
abbrev nLp : List Str := ["widths_v", "literal", "bound", "relation", "terms"]
theorem scLp : FnScope nLp ["widths_v", "literal", "bound"] (defScope sLp) := ⟨rfl, rfl, rfl, by decide +kernel, rfl, by decide +kernel, by decide +kernel⟩
def spLp : Sp := fun vs H Q _ => ∃ (k b : Addr) (v : V) (l : L) (kvs : List (Key × V)) (wd : Str → Option Nat) (bs : List Str), vs = [.ref k, v, .ref b] ∧ Tp H v (litD l) ∧ H k = some (.dK kvs) ∧ WidK kvs wd ∧ H b = some (.lst (bs.map V.str)) ∧ ∀ v H', Same H H' → Tp H' v (optD (litP wd bs l)) → Q v H'
theorem relP_eq {wd : Str → Option Nat} {r : Str} {n m : Nat} (c : wd r = some m) : relP wd r n = if n = m then none else some (.tuple [.str "width", .str r]) := by
  unfold relP
  rw [c]
theorem ok_lp {f : Addr} {fd : FuncData} (F : Fun K "_law_literal_problem" "_law_literal_problem" sLp f fd) (B : Bt mg) (DL : dLo P w K mg base) : FnOk P w K mg base CX0 2 f fd ["widths_v", "literal", "bound"] spLp := by
  refine F.ok scLp (fun vs H Q E h => ?_) (fun cdv A outer s H vs Q E hr h => ?_)
  · obtain ⟨_, _, _, _, _, _, _, rfl, _⟩ := h
    rfl
  · obtain ⟨k, b, v, l, kvs, wd, bs, rfl, tv, ek, hw, eb, q⟩ := h
    have hu := hu_of hr
    refine ⟨_, pss_cons (ps_if (pt_cmpR op_eq (pe_ix ix_tup (pv 1) pe_int (fun _ _ => rfl)) pe_str (nomark _)) (pss_one (ps_ret (pe_def DL hr (by rfl) (pa_cons (pe_slice sl_tup (pv 1) (po_some pe_int) po_none) (pa_cons (pv 2) (pa_cons pe_bl pa_nil)))))) pss_nil)
      (pss_cons (ps_if (pt_cmpR op_eq (pe_ix ix_tup (pv 1) pe_int (fun _ _ => rfl)) pe_str (nomark _)) (pss_one (ps_ret (pe_def DL hr (by rfl) (pa_cons (pe_slice sl_tup (pv 1) (po_some pe_int) po_none) (pa_cons (pv 2) (pa_cons pe_bl pa_nil)))))) pss_nil)
      (pss_cons (ps_asg (pe_slice sl_tup (pv 1) (po_some (pe_op op_sub (pe_callB call_len_seq (by rfl) B.len PySem.boot_len (pa_cons (pv 1) pa_nil)) pe_int)) po_none) (pg_tup rfl (pgs_cons (pg_name (i := 3) scLp.nd rfl (.inl rfl)) (pgs_cons (pg_name (i := 4) scLp.nd rfl (.inl rfl)) pgs_nil))))
      (pss_cons (ps_if (pt_cmp (pc_dnotin hu (pv 3) (pv 0))) (pss_one (ps_ret (pe_tup (pa_cons pe_str (pa_cons (pv 3) pa_nil))))) pss_nil)
      (pss_cons (ps_if (pt_cmpR op_ne (pe_dget hu (pv 0) (pv 3) (fun _ _ => rfl)) (pe_callB call_len_seq (by rfl) B.len PySem.boot_len (pa_cons (pv 4) pa_nil)) (nomark _)) (pss_one (ps_ret (pe_tup (pa_cons pe_str (pa_cons (pv 3) pa_nil))))) pss_nil)
      (pss_cons (ps_if (pt_cmpR op_eq (pe_ix ix_tup (pv 1) pe_int (fun _ _ => rfl)) pe_str (nomark _)) (pss_one (ps_ret (pe_def DL hr (by rfl) (pa_cons (pv 4) (pa_cons (pv 2) (pa_cons pe_bl pa_nil)))))) pss_nil)
      (pss_cons (ps_if (PW.pt (pw_and (pt_cmpR op_eq (pe_ix ix_tup (pv 1) pe_int (fun _ _ => rfl)) pe_str (nomark _)) (pw_and1 (pt_cmpR (op_inT hr.units) (pe_tup (pa_cons pe_str (pa_cons (pe_ix ix_tup (pv 1) pe_int (fun _ _ => rfl)) pa_nil))) (pv 4) rfl))))
        (pss_one (ps_ret (pe_tup (pa_cons pe_str (pa_cons (pe_ix ix_tup (pv 1) pe_int (fun _ _ => rfl)) pa_nil))))) pss_nil)
      (pss_one (ps_ret pe_non)))))))), ?_⟩
    have sne : ∀ {x y : Str}, x ≠ y → V.str x ≠ V.str y := fun n z => n (by injection z)
    have c4 : HT.sIx 4 0 (some 2) ≠ 0 := by decide
    have c5 : HT.sIx 5 0 (some 3) ≠ 0 := by decide
    have c3 : HT.sIx 3 0 (some 1) ≠ 0 := by decide
    -- the part that the literals of relations share, from the unpacking on
    have wide : ∀ {n m : Nat}, n ≠ m → V.int (m : Nat) ≠ V.int (n : Nat) := fun c z => c (by injection z with z; omega)
    cases l with
    | cmp op x y =>
      obtain ⟨p, vx, vy, rfl, ep, tx, ty⟩ := litC_inv tv
      refine ⟨.ref p, rfl, p, _, 0, .str "compare", rfl, rfl, SqT.of ep, rfl, rfl, _, rfl, yes_if ?_⟩
      refine ⟨.ref p, rfl, 2, rfl, p, _, rfl, SqT.of ep, (fun h => c4 h.1), fun t nt => ?_⟩
      have s1 : Same H (upd H t (.tup [vx, vy])) := same_new nt
      exact ⟨.ref b, rfl, t, b, [vx, vy], [x, y], bs, false, rfl, upd_same, .cons (tx.mono (Tk.of s1)) (.cons (ty.mono (Tk.of s1)) .nil), s1 _ _ eb, fun v H' s2 tv => q v H' (s1.trans s2) tv⟩
    | isl z op x y =>
      obtain ⟨p, vx, vy, rfl, ep, tx, ty⟩ := litI_inv tv
      refine ⟨.ref p, rfl, p, _, 0, .str "is", rfl, rfl, SqT.of ep, rfl, rfl, _, rfl, no_if (sne (show ("is" : Str) ≠ "compare" by decide +kernel)) ?_⟩
      refine ⟨.ref p, rfl, p, _, 0, .str "is", rfl, rfl, SqT.of ep, rfl, rfl, _, rfl, yes_if ?_⟩
      refine ⟨.ref p, rfl, 3, rfl, p, _, rfl, SqT.of ep, (fun h => c5 h.1), fun t nt => ?_⟩
      have s1 : Same H (upd H t (.tup [vx, vy])) := same_new nt
      exact ⟨.ref b, rfl, t, b, [vx, vy], [x, y], bs, false, rfl, upd_same, .cons (tx.mono (Tk.of s1)) (.cons (ty.mono (Tk.of s1)) .nil), s1 _ _ eb, fun v H' s2 tv => q v H' (s1.trans s2) tv⟩
    | fact r ts =>
      obtain ⟨p, u, xs, rfl, ep, eu, tx⟩ := lit3_inv tv
      have lx : xs.length = ts.length := by rw [tx.length, List.length_map]
      refine ⟨.ref p, rfl, p, _, 0, .str "fact", rfl, rfl, SqT.of ep, rfl, rfl, _, rfl, no_if (sne (show ("fact" : Str) ≠ "compare" by decide +kernel)) ?_⟩
      refine ⟨.ref p, rfl, p, _, 0, .str "fact", rfl, rfl, SqT.of ep, rfl, rfl, _, rfl, no_if (sne (show ("fact" : Str) ≠ "is" by decide +kernel)) ?_⟩
      refine ⟨.ref p, rfl, .ref p, rfl, p, _, rfl, .inr (SqT.of ep), 3, 2, rfl, rfl, 1, rfl, p, _, rfl, SqT.of ep, (fun h => c3 h.1), fun t nt => ?_⟩
      have s1 : Same H (upd H t (.tup [.str r, .ref u])) := same_new nt
      refine ⟨t, [.str r, .ref u], rfl, SqT.of upd_same, rfl, _, _, rfl, _, _, rfl, rfl, ?_⟩
      refine ⟨.str r, rfl, .ref k, rfl, k, valV kvs (.inr r), rfl, .inl ⟨kvs, .inr r, .inl (s1 _ _ ek), rfl, rfl⟩, ?_⟩
      have e := hw r
      rw [e]
      cases c : wd r with
      | none =>
        have hp : litP wd bs (.fact r ts) = some (.tuple [.str "no relation", .str r]) := by
          show relP wd r ts.length = _
          unfold relP
          rw [c]
        refine ⟨true, rfl, iteT ⟨.str r, rfl, len2, fun p2 np2 => q _ _ (s1.trans (same_new np2)) ?_⟩⟩
        rw [hp]
        exact tup2 np2 (.str _) (.str _)
      | some m =>
        rw [c] at e
        have hp : litP wd bs (.fact r ts) = if ts.length = m then none else some (.tuple [.str "width", .str r]) := relP_eq c
        refine ⟨false, rfl, iteF ⟨.ref k, rfl, .str r, rfl, k, .int (m : Nat), rfl, .inl ⟨kvs, .inr r, .inl (s1 _ _ ek), rfl, e.symm⟩, .ref u, rfl, u, xs, rfl, .inr (SqT.of (s1 _ _ eu)), rfl, _, rfl, ?_⟩⟩
        rw [lx]
        by_cases z : ts.length = m
        · rw [if_pos z] at hp
          rw [z, decide_eq_true rfl]
          refine iteF ?_
          refine ⟨.ref p, rfl, p, _, 0, .str "fact", rfl, rfl, SqT.of (s1 _ _ ep), rfl, rfl, _, rfl, no_if (sne (show ("fact" : Str) ≠ "not" by decide +kernel)) ?_⟩
          refine ⟨.ref p, rfl, p, _, 0, .str "fact", rfl, rfl, SqT.of (s1 _ _ ep), rfl, rfl, _, rfl, no_if (sne (show ("fact" : Str) ≠ "count" by decide +kernel)) (iteF ?_)⟩
          refine q _ _ s1 ?_
          rw [hp]
          exact .non
        · rw [if_neg z] at hp
          rw [decide_eq_false (wide z)]
          refine iteT ⟨.str r, rfl, len2, fun p2 np2 => q _ _ (s1.trans (same_new np2)) ?_⟩
          rw [hp]
          exact tup2 np2 (.str _) (.str _)
    | notl r ts =>
      obtain ⟨p, u, xs, rfl, ep, eu, tx⟩ := lit3_inv tv
      have lx : xs.length = ts.length := by rw [tx.length, List.length_map]
      refine ⟨.ref p, rfl, p, _, 0, .str "not", rfl, rfl, SqT.of ep, rfl, rfl, _, rfl, no_if (sne (show ("not" : Str) ≠ "compare" by decide +kernel)) ?_⟩
      refine ⟨.ref p, rfl, p, _, 0, .str "not", rfl, rfl, SqT.of ep, rfl, rfl, _, rfl, no_if (sne (show ("not" : Str) ≠ "is" by decide +kernel)) ?_⟩
      refine ⟨.ref p, rfl, .ref p, rfl, p, _, rfl, .inr (SqT.of ep), 3, 2, rfl, rfl, 1, rfl, p, _, rfl, SqT.of ep, (fun h => c3 h.1), fun t nt => ?_⟩
      have s1 : Same H (upd H t (.tup [.str r, .ref u])) := same_new nt
      refine ⟨t, [.str r, .ref u], rfl, SqT.of upd_same, rfl, _, _, rfl, _, _, rfl, rfl, ?_⟩
      refine ⟨.str r, rfl, .ref k, rfl, k, valV kvs (.inr r), rfl, .inl ⟨kvs, .inr r, .inl (s1 _ _ ek), rfl, rfl⟩, ?_⟩
      have e := hw r
      rw [e]
      cases c : wd r with
      | none =>
        have hp : litP wd bs (.notl r ts) = some (.tuple [.str "no relation", .str r]) := by
          have : relP wd r ts.length = some (.tuple [.str "no relation", .str r]) := by
            unfold relP
            rw [c]
          show (match relP wd r ts.length with | some d => some d | none => loose bs true ts) = _
          rw [this]
        refine ⟨true, rfl, iteT ⟨.str r, rfl, len2, fun p2 np2 => q _ _ (s1.trans (same_new np2)) ?_⟩⟩
        rw [hp]
        exact tup2 np2 (.str _) (.str _)
      | some m =>
        rw [c] at e
        have hp0 := relP_eq (n := ts.length) c
        have hp : litP wd bs (.notl r ts) = match relP wd r ts.length with | some d => some d | none => loose bs true ts := rfl
        refine ⟨false, rfl, iteF ⟨.ref k, rfl, .str r, rfl, k, .int (m : Nat), rfl, .inl ⟨kvs, .inr r, .inl (s1 _ _ ek), rfl, e.symm⟩, .ref u, rfl, u, xs, rfl, .inr (SqT.of (s1 _ _ eu)), rfl, _, rfl, ?_⟩⟩
        rw [lx]
        by_cases z : ts.length = m
        · rw [if_pos z] at hp0
          rw [hp0] at hp
          rw [z, decide_eq_true rfl]
          refine iteF ?_
          refine ⟨.ref p, rfl, p, _, 0, .str "not", rfl, rfl, SqT.of (s1 _ _ ep), rfl, rfl, _, rfl, yes_if ?_⟩
          refine ⟨.ref u, rfl, .ref b, rfl, u, b, xs, ts, bs, true, rfl, s1 _ _ eu, tx.mono (Tk.of s1), s1 _ _ eb, fun v H' s2 tv => q v H' (s1.trans s2) ?_⟩
          rw [hp]
          exact tv
        · rw [if_neg z] at hp0
          rw [hp0] at hp
          rw [decide_eq_false (wide z)]
          refine iteT ⟨.str r, rfl, len2, fun p2 np2 => q _ _ (s1.trans (same_new np2)) ?_⟩
          rw [hp]
          exact tup2 np2 (.str _) (.str _)
    | cnt x r ts =>
      obtain ⟨p, u, xs, rfl, ep, eu, tx⟩ := litN_inv tv
      have lx : xs.length = ts.length := by rw [tx.length, List.length_map]
      refine ⟨.ref p, rfl, p, _, 0, .str "count", rfl, rfl, SqT.of ep, rfl, rfl, _, rfl, no_if (sne (show ("count" : Str) ≠ "compare" by decide +kernel)) ?_⟩
      refine ⟨.ref p, rfl, p, _, 0, .str "count", rfl, rfl, SqT.of ep, rfl, rfl, _, rfl, no_if (sne (show ("count" : Str) ≠ "is" by decide +kernel)) ?_⟩
      refine ⟨.ref p, rfl, .ref p, rfl, p, _, rfl, .inr (SqT.of ep), 4, 2, rfl, rfl, 2, rfl, p, _, rfl, SqT.of ep, (fun h => c4 h.1), fun t nt => ?_⟩
      have s1 : Same H (upd H t (.tup [.str r, .ref u])) := same_new nt
      refine ⟨t, [.str r, .ref u], rfl, SqT.of upd_same, rfl, _, _, rfl, _, _, rfl, rfl, ?_⟩
      refine ⟨.str r, rfl, .ref k, rfl, k, valV kvs (.inr r), rfl, .inl ⟨kvs, .inr r, .inl (s1 _ _ ek), rfl, rfl⟩, ?_⟩
      have e := hw r
      rw [e]
      cases c : wd r with
      | none =>
        have hp : litP wd bs (.cnt x r ts) = some (.tuple [.str "no relation", .str r]) := by
          have : relP wd r ts.length = some (.tuple [.str "no relation", .str r]) := by
            unfold relP
            rw [c]
          show (match relP wd r ts.length with | some d => some d | none => _) = _
          rw [this]
        refine ⟨true, rfl, iteT ⟨.str r, rfl, len2, fun p2 np2 => q _ _ (s1.trans (same_new np2)) ?_⟩⟩
        rw [hp]
        exact tup2 np2 (.str _) (.str _)
      | some m =>
        rw [c] at e
        have hp0 := relP_eq (n := ts.length) c
        have hp : litP wd bs (.cnt x r ts) = match relP wd r ts.length with | some d => some d | none => if T.var x ∈ ts then some (.tuple [.str "own total", .str x]) else none := rfl
        refine ⟨false, rfl, iteF ⟨.ref k, rfl, .str r, rfl, k, .int (m : Nat), rfl, .inl ⟨kvs, .inr r, .inl (s1 _ _ ek), rfl, e.symm⟩, .ref u, rfl, u, xs, rfl, .inr (SqT.of (s1 _ _ eu)), rfl, _, rfl, ?_⟩⟩
        rw [lx]
        by_cases z : ts.length = m
        · rw [if_pos z] at hp0
          rw [hp0] at hp
          have hp : litP wd bs (.cnt x r ts) = if T.var x ∈ ts then some (.tuple [.str "own total", .str x]) else none := hp
          rw [z, decide_eq_true rfl]
          refine iteF ?_
          refine ⟨.ref p, rfl, p, _, 0, .str "count", rfl, rfl, SqT.of (s1 _ _ ep), rfl, rfl, _, rfl, no_if (sne (show ("count" : Str) ≠ "not" by decide +kernel)) ?_⟩
          refine ⟨.ref p, rfl, p, _, 0, .str "count", rfl, rfl, SqT.of (s1 _ _ ep), rfl, rfl, _, rfl, yes_if ?_⟩
          refine ⟨.ref p, rfl, p, _, 1, .str x, rfl, rfl, SqT.of (s1 _ _ ep), rfl, len2, fun y ny => ?_⟩
          have s2 := s1.trans (same_new (o := .tup [.str "variable", .str x]) ny)
          refine ⟨.ref u, rfl, .tuple [.str "variable", .str x], ts.map tD, .tup (SqT.of upd_same) (.cons (.str _) (.cons (.str _) .nil)), (Tp.tup (s2 _ _ eu) (tx.mono (Tk.of s2))).dp, rfl, tx.plain, (show 1 ≤ 60 by decide), ?_⟩
          rw [any_var]
          by_cases c : T.var x ∈ ts
          · rw [decide_eq_true c]
            rw [if_pos c] at hp
            refine ⟨true, rfl, iteT ⟨.ref p, rfl, p, _, 1, .str x, rfl, rfl, SqT.of (s2 _ _ ep), rfl, len2, fun y2 ny2 => q _ _ (s2.trans (same_new ny2)) ?_⟩⟩
            rw [hp]
            exact tup2 ny2 (.str _) (.str _)
          · rw [decide_eq_false c]
            rw [if_neg c] at hp
            refine ⟨false, rfl, iteF (q _ _ s2 ?_)⟩
            rw [hp]
            exact .non
        · rw [if_neg z] at hp0
          rw [hp0] at hp
          rw [decide_eq_false (wide z)]
          refine iteT ⟨.str r, rfl, len2, fun p2 np2 => q _ _ (s1.trans (same_new np2)) ?_⟩
          rw [hp]
          exact tup2 np2 (.str _) (.str _)
abbrev dLp (P : Program) (w : World) (K : PySem.W.Frag) (mg : Str → Option Value) (base : Heap) : Prop := Def P w K mg base "_law_literal_problem" 2 ["widths_v", "literal", "bound"] spLp
end
end KU

namespace KU
open PySem PySem.Spec PyProof.Rows PySem.HandSPX L2 KA
def onceTo (xs : List Str) : Nat → List Str
  | 0 => []
  | n + 1 => onceTo xs n ++ match xs[n]? with
    | some x => if x ∈ xs.take n then [] else [x]
    | none => []
theorem onceTo_len (xs : List Str) : ∀ n, (onceTo xs n).length ≤ n
  | 0 => Nat.le_refl _
  | n + 1 => by
    have h := onceTo_len xs n
    show (onceTo xs n ++ _).length ≤ _
    rw [List.length_append]
    cases xs[n]? with
    | none => exact Nat.le_succ_of_le h
    | some x =>
      show _ + (if x ∈ xs.take n then ([] : List Str) else [x]).length ≤ _
      by_cases c : x ∈ xs.take n
      · rw [if_pos c]
        exact Nat.le_succ_of_le h
      · rw [if_neg c]
        exact Nat.succ_le_succ h
theorem mem_addU : ∀ (xs bs : List Str) (y : Str), y ∈ addU bs xs ↔ y ∈ bs ∨ y ∈ xs
  | [], bs, y => ⟨.inl, fun h => h.elim id (fun z => by cases z)⟩
  | x :: xs, bs, y => by
    show y ∈ addU (add1 bs x) xs ↔ _
    rw [mem_addU xs]
    have e : y ∈ add1 bs x ↔ y ∈ bs ∨ y = x := by
      unfold add1
      by_cases c : x ∈ bs
      · rw [if_pos c]
        exact ⟨.inl, fun h => h.elim id (fun z => by rw [z]; exact c)⟩
      · rw [if_neg c, List.mem_append, List.mem_singleton]
    rw [e, List.mem_cons]
    constructor
    · rintro ((h | h) | h)
      · exact .inl h
      · exact .inr (.inl h)
      · exact .inr (.inr h)
    · rintro (h | h | h)
      · exact .inl (.inl h)
      · exact .inl (.inr h)
      · exact .inr h
theorem addU_once (bs xs : List Str) : ∀ n, n ≤ xs.length → addU bs (xs.take n) = addN bs (onceTo xs n)
  | 0, _ => by
    show bs = bs ++ []
    rw [List.append_nil]
  | n + 1, h => by
    have ex : xs[n]? = some xs[n] := List.getElem?_eq_getElem h
    rw [take_next ex, addU_snoc, addU_once bs xs n (Nat.le_of_lt h)]
    have e1 : onceTo xs (n + 1) = onceTo xs n ++ (if xs[n] ∈ xs.take n then [] else [xs[n]]) := by
      show onceTo xs n ++ _ = _
      rw [ex]
    rw [e1]
    have hm := mem_addU (xs.take n) bs xs[n]
    rw [addU_once bs xs n (Nat.le_of_lt h)] at hm
    unfold add1
    have sn : ∀ l : List Str, addN bs (onceTo xs n ++ l) = addN bs (onceTo xs n) ++ l.filter fun x => !decide (x ∈ bs) := fun l => by
      unfold addN
      rw [List.filter_append, List.append_assoc]
    by_cases c : xs[n] ∈ xs.take n
    · rw [if_pos (hm.mpr (.inr c)), if_pos c, List.append_nil]
    · rw [if_neg c, sn]
      by_cases c2 : xs[n] ∈ bs
      · rw [if_pos (hm.mpr (.inl c2)), List.filter_cons_of_neg (by rw [decide_eq_true c2]; exact Bool.false_ne_true), List.filter_nil, List.append_nil]
      · rw [if_neg (fun z => (hm.mp z).elim c2 c), List.filter_cons_of_pos (by rw [decide_eq_false c2]; rfl), List.filter_nil]
theorem cut_take (xs : List V) {k : Nat} (h : k ≤ xs.length) : cutV xs none (some (k : Nat)) = xs.take k := by
  unfold cutV
  rw [HT.sIx_nat, HT.sIx_none, List.drop_zero, Nat.sub_zero, Nat.min_eq_left h]
section
variable {P : Program} {w : World} {K : PySem.W.Frag} {mg : Str → Option Value} {base : Heap}
abbrev sEo : Stmt := topS 47
theorem scEo : FnScope ["names", "k"] ["names"] (defScope sEo) := ⟨rfl, rfl, rfl, by decide +kernel, rfl, by decide +kernel, by decide +kernel⟩
def spEo : Sp := fun vs H Q _ => ∃ (a : Addr) (xs : List Str), vs = [.ref a] ∧ H a = some (.lst (xs.map V.str)) ∧ xs.length ≤ 40 ∧ ∀ p H', Same H H' → H' p = some (.lst ((onceTo xs xs.length).map V.str)) → H p = none → Q (.ref p) H'
theorem ok_eo {f : Addr} {fd : FuncData} (F : Fun K "_law_each_once" "_law_each_once" sEo f fd) (B : Bt mg) : FnOk P w K mg base CX0 1 f fd ["names"] spEo := by
  refine F.ok scEo (fun vs H Q E h => ?_) (fun cdv A outer s H vs Q E hr h => ?_)
  · obtain ⟨_, _, rfl, _⟩ := h
    rfl
  · obtain ⟨a, xs, rfl, ea, lx, q⟩ := h
    refine ⟨_, pss_one (ps_ret (pe_lc (own := [("k", 1)]) (g := gName 1) (tt := tTest (tOp (rIn K true) (tOp (rIxL K) (tVar 0) (tVar 1)) (tSl (rSlL K) (tVar 0) tNoPart (tPart (tVar 1))))) (te := tOp (rIxL K) (tVar 0) (tVar 1)) rfl scEo.nd (pi_range1 (by rfl) B.rng (pa_cons (pe_callB call_len_seq (by rfl) B.len PySem.boot_len (pa_cons (pv 0) pa_nil)) pa_nil)) (blkOk_by (own := [("k", 1)]) (N := ["names", "k"]) (sc := defScope sEo) (by decide +kernel))
        (fun _ _ _ _ _ => pg_name (i := 1) scEo.nd rfl (Or.inl rfl)) (fun _ _ _ _ _ => pts_one (pt_cmpR op_notIn_seq (pe_ix ix_list (pv 0) (pv 1) (fun _ _ => rfl)) (pe_slice sl_list (pv 0) po_none (po_some (pv 1))) rfl)) (fun _ _ _ _ _ => pe_ix ix_list (pv 0) (pv 1) (fun _ _ => rfl)))), ?_⟩
    refine ⟨.ref a, rfl, a, _, rfl, .inl (SqL.of ea), _, rfl, by omega, by rw [List.length_map]; omega, fun D nD => ?_⟩
    have en : (((xs.map V.str).length : Nat) : Int).toNat = xs.length := by rw [List.length_map, Int.toNat_natCast]
    refine lc_range (lo := 0) (n := (((xs.map V.str).length : Nat) : Int).toNat) (fun i H' => Same H H' ∧ H' D = some (.lst ((onceTo xs i).map V.str))) ⟨same_new nD, upd_same⟩ (fun i H' hi hP => ?_) (fun H' hP => ?_)
    · obtain ⟨sm, eD⟩ := hP
      rw [en] at hi
      have ex : xs[i]? = some xs[i] := List.getElem?_eq_getElem hi
      have ei : (xs.map V.str)[i]? = some (.str xs[i]) := by rw [List.getElem?_map, ex]; rfl
      have e0 : (0 : Int) + (i : Nat) = (i : Nat) := by omega
      rw [e0]
      have e1 : onceTo xs (i + 1) = onceTo xs i ++ (if xs[i] ∈ xs.take i then [] else [xs[i]]) := by
        show onceTo xs i ++ _ = _
        rw [ex]
      rw [e1]
      refine ⟨rfl, .ref a, rfl, .int (i : Nat), rfl, a, _, (i : Nat), .str xs[i], rfl, rfl, SqL.of (sm _ _ ea), atI_nat ei, ?_⟩
      refine ⟨.ref a, rfl, .int (i : Nat), rfl, (i : Nat), rfl, a, _, rfl, SqL.of (sm _ _ ea), fun p np => ?_⟩
      rw [cut_take _ (by rw [List.length_map]; omega), ← List.map_take]
      have s2 := sm.trans (same_new (o := .lst ((xs.take i).map V.str)) np)
      have eD2 : (upd H' p (.lst ((xs.take i).map V.str))) D = some (.lst ((onceTo xs i).map V.str)) := same_new np _ _ eD
      refine ⟨p, _, rfl, .inl (SqL.of upd_same), rfl, flat_strs _, _, rfl, ?_⟩
      rw [inV_str]
      by_cases c : xs[i] ∈ xs.take i
      · rw [decide_eq_true c, if_pos c, List.append_nil]
        exact iteF ⟨s2, eD2⟩
      · rw [decide_eq_false c, if_neg c]
        refine iteT ⟨.ref a, rfl, .int (i : Nat), rfl, a, _, (i : Nat), .str xs[i], rfl, rfl, SqL.of (s2 _ _ ea), atI_nat ei, _, eD2, small1000 (by have := onceTo_len xs i; rw [List.length_map]; omega), same_put s2 nD, ?_⟩
        rw [upd_same, List.map_append]
        rfl
    · obtain ⟨sm, eD⟩ := hP
      rw [en] at eD
      exact q D _ sm eD nD
abbrev dEo (P : Program) (w : World) (K : PySem.W.Frag) (mg : Str → Option Value) (base : Heap) : Prop := Def P w K mg base "_law_each_once" 1 ["names"] spEo
end
end KU

namespace KU
open PySem PySem.Spec PyProof.Rows PySem.HandSPX L2 KA
section
variable {P : Program} {w : World} {K : PySem.W.Frag} {mg : Str → Option Value} {base : Heap}
abbrev sBp : Stmt := topS 46
abbrev nBp : List Str := ["widths_v", "body", "bound", "literal", "problem", "name"]
theorem scBp : FnScope nBp ["widths_v", "body"] (defScope sBp) := ⟨rfl, rfl, rfl, by decide +kernel, rfl, by decide +kernel, by decide +kernel⟩
def spBp : Sp := fun vs H Q _ => ∃ (k u : Addr) (xs : List V) (ls : List L) (kvs : List (Key × V)) (wd : Str → Option Nat), vs = [.ref k, .ref u] ∧ H u = some (.tup xs) ∧ Tps H xs (ls.map litD) ∧ BodyN ls ∧ H k = some (.dK kvs) ∧ WidK kvs wd ∧
  ∀ p b v H', Same H H' → H' p = some (.tup [v, .ref b]) → Tp H' v (optD (bodyP wd [] ls).1) → H' b = some (.lst ((bodyP wd [] ls).2.map V.str)) → (∀ d, (bodyP wd [] ls).1 = some d → d ≠ .none) → Q (.ref p) H'
theorem ok_bp {f : Addr} {fd : FuncData} (F : Fun K "_law_body_problem" "_law_body_problem" sBp f fd) (DL : dLp P w K mg base) (DB : dBi P w K mg base) (DE : dEo P w K mg base) : FnOk P w K mg base CX0 3 f fd ["widths_v", "body"] spBp := by
  refine F.ok scBp (fun vs H Q E h => ?_) (fun cdv A outer s H vs Q E hr h => ?_)
  · obtain ⟨_, _, _, _, _, _, rfl, _⟩ := h
    rfl
  · obtain ⟨k, u, xs, ls, kvs, wd, rfl, eu, tx, hl, ek, hw, q⟩ := h
    have r1 : Room 1 _ := hr.mono (by decide)
    refine ⟨_, pss_cons (ps_set (i := 2) scBp.nd rfl (.inr rfl) (pe_lst pa_nil))
      (pss_cons (ps_for PassesOwn.never rfl (pi_tup (pv 1)) (pg_name (i := 3) scBp.nd rfl (.inl rfl))
        (pss_cons (ps_set (i := 4) scBp.nd rfl (.inl rfl) (pe_def DL hr (by rfl) (pa_cons (pv 0) (pa_cons (pv 3) (pa_cons (pv 2) pa_nil)))))
        (pss_cons (ps_if (pt_cmp (pc_notN (pv 4))) (pss_one (ps_ret (pe_tup (pa_cons (pv 4) (pa_cons (pv 2) pa_nil))))) pss_nil)
        (pss_one (ps_set (i := 2) scBp.nd rfl (.inr rfl) (pe_op op_cat (pv 2) (pe_lc (own := [("name", 5)]) (g := gName 5) (tt := tTest (tOp (rIn K true) (tVar 5) (tVar 2))) (te := tVar 5) rfl scBp.nd (pi_list (pe_def DE r1 (by rfl) (pa_cons (pe_def DB r1 (by rfl) (pa_cons (pv 3) pa_nil)) pa_nil))) (blkOk_by (own := [("name", 5)]) (N := nBp) (sc := defScope sBp) (by decide +kernel))
            (fun _ _ _ _ _ => pg_name (i := 5) scBp.nd rfl (Or.inl rfl)) (fun _ _ _ _ _ => pts_one (pt_cmpR op_notIn_seq (pv 5) (pv 2) rfl)) (fun _ _ _ _ _ => pv 5))))))))
      (pss_one (ps_ret (pe_tup (pa_cons pe_non (pa_cons (pv 2) pa_nil)))))), ?_⟩
    have lx : xs.length = ls.length := by rw [tx.length, List.length_map]
    have h6 := hl.1
    refine ⟨(by show 0 ≤ sizeLine; decide), fun b0 nb0 => ?_⟩
    have s0 : Same H (upd H b0 (.lst [])) := same_new nb0
    refine ⟨.ref u, rfl, u, rfl, ⟨xs, SqT.of (s0 _ _ eu)⟩, ?_⟩
    have npr : ∀ bs l d, litP wd bs l = some d → d ≠ .none := fun bs l d h z => by
      have lo : ∀ a ts, loose bs a ts = some d → d ≠ .none := fun a ts => by
        induction ts with
        | nil => intro h; cases h
        | cons t r ih =>
          intro h
          cases t with
          | any =>
            cases a with
            | true => exact ih h
            | false =>
              have h : some (PyData.tuple [.str "any"]) = some d := h
              injection h with h
              rw [← h]
              exact fun z => by cases z
          | val k => exact ih h
          | var y =>
            have h : (if y ∈ bs then loose bs a r else some (.tuple [.str "unbound", .str y])) = some d := h
            by_cases c : y ∈ bs
            · rw [if_pos c] at h
              exact ih h
            · rw [if_neg c] at h
              injection h with h
              rw [← h]
              exact fun z => by cases z
      have rp : ∀ r n, relP wd r n = some d → d ≠ .none := fun r n h => by
        unfold relP at h
        cases c : wd r with
        | none =>
          rw [c] at h
          injection h with h
          rw [← h]
          exact fun z => by cases z
        | some m =>
          rw [c] at h
          have h : (if n = m then none else some (PyData.tuple [.str "width", .str r])) = some d := h
          by_cases c2 : n = m
          · rw [if_pos c2] at h
            cases h
          · rw [if_neg c2] at h
            injection h with h
            rw [← h]
            exact fun z => by cases z
      cases l with
      | fact r ts => exact rp r _ h z
      | notl r ts =>
        cases c : relP wd r ts.length with
        | some d' =>
          have e : litP wd bs (.notl r ts) = some d' := by
            show (match relP wd r ts.length with | some d => some d | none => loose bs true ts) = _
            rw [c]
          rw [e] at h
          injection h with h
          rw [h] at c
          exact rp r _ c z
        | none =>
          have e : litP wd bs (.notl r ts) = loose bs true ts := by
            show (match relP wd r ts.length with | some d => some d | none => loose bs true ts) = _
            rw [c]
          rw [e] at h
          exact lo _ _ h z
      | cmp o a b => exact lo _ _ h z
      | isl x o a b => exact lo _ _ h z
      | cnt x r ts =>
        cases c : relP wd r ts.length with
        | some d' =>
          have e : litP wd bs (.cnt x r ts) = some d' := by
            show (match relP wd r ts.length with | some d => some d | none => _) = _
            rw [c]
          rw [e] at h
          injection h with h
          rw [h] at c
          exact rp r _ c z
        | none =>
          have e : litP wd bs (.cnt x r ts) = if T.var x ∈ ts then some (.tuple [.str "own total", .str x]) else none := by
            show (match relP wd r ts.length with | some d => some d | none => _) = _
            rw [c]
          rw [e] at h
          by_cases c2 : T.var x ∈ ts
          · rw [if_pos c2] at h
            injection h with h
            rw [z] at h
            cases h
          · rw [if_neg c2] at h
            cases h
    refine for_it walk_tup (fun i σ H' => Same H H' ∧ ∃ (b : Addr) (bs : List Str) (x3 x4 x5 : Option V), σ = [some (.ref k), some (.ref u), some (.ref b), x3, x4, x5] ∧ H' b = some (.lst (bs.map V.str)) ∧ bs.length ≤ 5 * i ∧ bodyP wd [] ls = bodyP wd bs (ls.drop i)) ⟨s0, b0, [], none, none, none, rfl, upd_same, Nat.le_refl _, rfl⟩
      (fun i σ H' _ hP => SqT.of (hP.1 _ _ eu)) (fun i x σ H1 H' hi hP hY => ?_) (fun σ H' hP => ?_)
    · obtain ⟨rfl, hx⟩ := hY
      obtain ⟨sm, b, bs, x3, x4, x5, rfl, eb, lb, hbd⟩ := hP
      obtain ⟨l, el, tl⟩ := lit_get tx hx
      have tl := tl.mono (Tk.of sm)
      have hlm := hl.2 l (List.mem_of_getElem? el)
      obtain ⟨bl1, bl2, bl3⟩ := binds_len hlm
      rw [drop_get el] at hbd
      refine ⟨.ref k, rfl, x, rfl, .ref b, rfl, ?_⟩
      refine ⟨k, b, x, l, kvs, wd, bs, rfl, tl, sm _ _ ek, hw, eb, fun v H2 s2 tv => ?_⟩
      have sm2 := sm.trans s2
      cases c : litP wd bs l with
      | some d =>
        have hb2 : bodyP wd [] ls = (some d, bs) := by
          rw [hbd]
          show (match litP wd bs l with | some d => (some d, bs) | none => _) = _
          rw [c]
        have nd := npr bs l d c
        rw [c] at tv
        have tv : Tp H2 v d := tv
        have vn : v ≠ .non := fun z => by
          rw [z] at tv
          cases tv
          exact nd rfl
        refine ⟨v, rfl, _, rfl, ?_⟩
        rw [decide_eq_false vn]
        refine iteT ⟨v, rfl, .ref b, rfl, len2, fun p np => ?_⟩
        have s3 := same_new (o := .tup [v, .ref b]) np
        rw [hb2] at q
        exact q p b v _ (sm2.trans s3) upd_same (tv.mono (Tk.of s3)) (s3 _ _ (s2 _ _ eb)) (fun d' e => by cases e; exact nd)
      | none =>
        have hb2 : bodyP wd [] ls = bodyP wd (addU bs (bindsL l)) (ls.drop (i + 1)) := by
          rw [hbd]
          show (match litP wd bs l with | some d => (some d, bs) | none => _) = _
          rw [c]
        rw [c] at tv
        have vn : v = .non := by
          have tv : Tp H2 v .none := tv
          cases tv
          rfl
        refine ⟨v, rfl, _, rfl, ?_⟩
        rw [decide_eq_true vn]
        refine iteF ?_
        refine ⟨.ref b, rfl, ?_⟩
        refine ⟨x, rfl, x, l, rfl, tl.mono (Tk.of s2), by omega, fun r ts e => Nat.le_trans (bl2 r ts e) (by decide), fun pb H5 s5 epb npb => ?_⟩
        refine ⟨pb, bindsL l, rfl, epb, by omega, fun po H6 s6 epo npo => ?_⟩
        refine ⟨po, rfl, ⟨_, SqL.of epo⟩, fun D nD => ?_⟩
        have eb6 := s6 _ _ (s5 _ _ (s2 _ _ eb))
        have sm6 := (sm2.trans s5).trans s6
        have lon := onceTo_len (bindsL l) (bindsL l).length
        refine lc_keep walk_list ((onceTo (bindsL l) (bindsL l).length).map V.str) ((onceTo (bindsL l) (bindsL l).length).map fun x => !decide (x ∈ bs)) rfl (by rw [List.length_map, List.length_map]) (by rw [List.length_map]; omega) nD (fun H2 sm => SqL.of (sm _ _ epo)) (fun j y H7 H8 Q2 R hj sm hY qt qf => ?_) (fun H7 sm eD => ?_)
        · obtain ⟨rfl, hy⟩ := hY
          rw [List.getElem?_map] at hy
          cases ex : (onceTo (bindsL l) (bindsL l).length)[j]? with
          | none => rw [ex] at hy; cases hy
          | some z =>
            rw [ex] at hy
            have hy : V.str z = y := Option.some.inj hy
            subst hy
            refine ⟨rfl, .str z, rfl, .ref b, rfl, b, _, rfl, .inl (SqL.of (sm _ _ eb6)), rfl, flat_strs _, _, rfl, ?_⟩
            have ek : ∀ b', (!decide (z ∈ bs)) = b' → ((onceTo (bindsL l) (bindsL l).length).map fun x => !decide (x ∈ bs))[j]? = some b' := fun b' e => by
              rw [List.getElem?_map, ex]
              exact congrArg some e
            have ey : ((onceTo (bindsL l) (bindsL l).length).map V.str)[j]? = some (V.str z) := by
              rw [List.getElem?_map, ex]
              rfl
            rw [inV_str]
            by_cases c5 : z ∈ bs
            · rw [decide_eq_true c5]
              exact iteF (qf _ (Same.refl _) (ek _ (by rw [decide_eq_true c5]; rfl)))
            · rw [decide_eq_false c5]
              exact iteT ⟨.str z, rfl, qt _ _ (Same.refl _) (ek _ (by rw [decide_eq_false c5]; rfl)) ey⟩
        · have efil : ∀ os : List Str, (((os.map V.str).zip (os.map fun x => !decide (x ∈ bs))).filter (·.2)).map (·.1) = (os.filter fun x => !decide (x ∈ bs)).map V.str := fun os => by
            induction os with
            | nil => rfl
            | cons x xs ih =>
              rw [List.map_cons, List.map_cons, List.zip_cons_cons]
              cases cx : !decide (x ∈ bs) with
              | true => rw [List.filter_cons_of_pos rfl, List.filter_cons_of_pos (p := fun x => !decide (x ∈ bs)) cx, List.map_cons, List.map_cons, ih]
              | false => rw [List.filter_cons_of_neg Bool.false_ne_true, List.filter_cons_of_neg (p := fun x => !decide (x ∈ bs)) (by rw [cx]; exact Bool.false_ne_true), ih]
          rw [efil] at eD
          have eb7 := sm _ _ eb6
          have eadd : addU bs (bindsL l) = addN bs (onceTo (bindsL l) (bindsL l).length) := by
            have h := addU_once bs (bindsL l) (bindsL l).length (Nat.le_refl _)
            rw [List.take_length] at h
            exact h
          have lfil : ((onceTo (bindsL l) (bindsL l).length).filter fun x => !decide (x ∈ bs)).length ≤ 5 := Nat.le_trans (List.length_filter_le _ _) (Nat.le_trans lon bl1)
          refine ⟨b, D, _, _, rfl, rfl, eb7, eD, Nat.le_of_lt (small1000 (by rw [List.length_map, List.length_map]; omega)), fun bn nbn => ?_⟩
          refine ⟨(sm6.trans sm).trans (same_new nbn), bn, addU bs (bindsL l), _, _, _, rfl, ?_, ?_, hb2⟩
          · rw [upd_same, eadd]
            unfold addN
            rw [List.map_append]
          · rw [eadd]
            unfold addN
            rw [List.length_append]
            omega
    · obtain ⟨sm, b, bs, x3, x4, x5, rfl, eb, lb, hbd⟩ := hP
      rw [lx, List.drop_length] at hbd
      have hbd : bodyP wd [] ls = (none, bs) := hbd
      rw [hbd] at q
      refine ⟨.ref b, rfl, len2, fun p np => ?_⟩
      exact q p b .non _ (sm.trans (same_new np)) upd_same .non (same_new np _ _ eb) (fun d e => by cases e)
abbrev dBp (P : Program) (w : World) (K : PySem.W.Frag) (mg : Str → Option Value) (base : Heap) : Prop := Def P w K mg base "_law_body_problem" 3 ["widths_v", "body"] spBp
end
end KU

namespace KU
open PySem PySem.Spec PyProof.Rows PySem.HandSPX L2 KA
section
variable {P : Program} {w : World} {K : PySem.W.Frag} {mg : Str → Option Value} {base : Heap}
abbrev sWi : Stmt := topS 48
theorem scWi : FnScope ["world", "widths_v", "name"] ["world"] (defScope sWi) := ⟨rfl, rfl, rfl, by decide +kernel, rfl, by decide +kernel, by decide +kernel⟩
/-- the rules of a world: names and tuples; the relation and the number of terms of each -/
def RulE (H : Hp) (ku : List (Key × V)) (rl : List (Str × Nat)) : Prop := ku.length = rl.length ∧ ∀ (i : Nat) k v r n, ku[i]? = some (k, v) → rl[i]? = some (r, n) → ∃ (t tt : Addr) (bb : V) (xs : List V), v = .ref t ∧ H t = some (.tup [.str r, .ref tt, bb]) ∧ H tt = some (.tup xs) ∧ xs.length = n
def rlK (rl : List (Str × Nat)) : List (Key × V) := rl.foldl (fun acc e => putK acc (Sum.inr e.1 : Key) (.int (e.2 : Nat))) []
def spWi : Sp := fun vs H Q _ => ∃ (W R U : Addr) (kr ku : List (Key × V)) (rl : List (Str × Nat)), vs = [.ref W] ∧ H W = some (.dK [(.inr "relations", .ref R), (.inr "rules", .ref U)]) ∧ H R = some (.dK kr) ∧ H U = some (.dK ku) ∧ W ≠ U ∧ kr.length ≤ 10 ∧ rl.length ≤ 10 ∧ nd ku ∧ RulE H ku rl ∧
  ∀ p H', Same H H' → H' p = some (.dK (mergeK (rlK rl) kr)) → H p = none → Q (.ref p) H'
theorem rlK_len : ∀ rl : List (Str × Nat), (rlK rl).length ≤ rl.length := fun rl => by
  have g : ∀ (rl : List (Str × Nat)) (acc : List (Key × V)), (rl.foldl (fun acc e => putK acc (Sum.inr e.1 : Key) (.int (e.2 : Nat))) acc).length ≤ acc.length + rl.length := fun rl => by
    induction rl with
    | nil => exact fun acc => Nat.le_refl _
    | cons e r ih =>
      intro acc
      have h := ih (putK acc (Sum.inr e.1 : Key) (.int (e.2 : Nat)))
      have h2 := length_putK acc (Sum.inr e.1 : Key) (.int (e.2 : Nat))
      rw [List.foldl_cons, List.length_cons]
      omega
  have h := g rl []
  rw [List.length_nil, Nat.zero_add] at h
  exact h
theorem ok_wi {f : Addr} {fd : FuncData} (F : Fun K "_law_widths" "_law_widths" sWi f fd) (B : Bt mg) : FnOk P w K mg base CX0 1 f fd ["world"] spWi := by
  refine F.ok scWi (fun vs H Q E h => ?_) (fun cdv A outer s H vs Q E hr h => ?_)
  · obtain ⟨_, _, _, _, _, _, rfl, _⟩ := h
    rfl
  · obtain ⟨W, R, U, kr, ku, rl, rfl, eW, eR, eU, nWU, lkr, lrl, ndu, ⟨le, hru⟩, q⟩ := h
    have hu := hu_of hr
    refine ⟨_, pss_cons (ps_set (i := 1) scWi.nd rfl (.inl rfl) pe_dnewK)
      (pss_cons (ps_lock (ps_for PassesOwn.never rfl (pi_keys (pe_dget hu (pv 0) pe_str (fun _ _ => rfl))) (pg_name (i := 2) scWi.nd rfl (.inl rfl))
        (pss_one (ps_dput hu (pv 1) (pe_ix ix_tup (pe_dget hu (pe_dget hu (pv 0) pe_str (fun _ _ => rfl)) (pv 2) (fun _ _ => rfl)) pe_int (fun _ _ => rfl)) (pe_callB call_len_seq (by rfl) B.len PySem.boot_len (pa_cons (pe_ix ix_tup (pe_dget hu (pe_dget hu (pv 0) pe_str (fun _ _ => rfl)) (pv 2) (fun _ _ => rfl)) pe_int (fun _ _ => rfl)) pa_nil)) rfl))))
      (pss_cons (ps_expr (pe_dupdate (pv 1) (pe_dget hu (pv 0) pe_str (fun _ _ => rfl)) ⟨rfl, rfl, rfl, rfl⟩))
      (pss_one (ps_ret (pv 1))))), ?_⟩
    have gR : ∀ {G : Hp}, G W = some (.dK [(.inr "relations", .ref R), (.inr "rules", .ref U)]) → DGet G W (.str "relations") (some (.ref R)) := fun e => DGet.k (k := Sum.inr "relations") e
    have gU : ∀ {G : Hp}, G W = some (.dK [(.inr "relations", .ref R), (.inr "rules", .ref U)]) → DGet G W (.str "rules") (some (.ref U)) := fun e => DGet.k (k := Sum.inr "rules") e
    refine fun D nD => ?_
    have s0 : Same H (upd H D (.dK [])) := same_new nD
    have nDU : D ≠ U := fun z => by rw [z, eU] at nD; cases nD
    refine ⟨U, .dK ku, s0 _ _ eU, trivial, fun od => ?_⟩
    have L : ∀ a o, a ≠ U → H a = some o → (upd (upd H D (.dK [])) U (.frz od (.dK ku))) a = some o := fun a o n h => by rw [upd_ne n]; exact s0 _ _ h
    refine ⟨.ref W, rfl, W, .ref U, rfl, gU (L _ _ nWU eW), U, od, rfl, .inl ⟨ku, upd_same, ?_⟩⟩
    refine for_it walk_keys (fun i σ H' => H' U = some (.frz od (.dK ku)) ∧ (∀ a o, a ≠ U → H a = some o → H' a = some o) ∧ H' D = some (.dK (rlK (rl.take i))) ∧ ∃ x2, σ = [some (.ref W), some (.ref D), x2]) ⟨upd_same, L, by rw [upd_ne nDU]; exact upd_same, none, rfl⟩ (fun i σ H' _ hP => hP.1) (fun i x σ H1 H' hi hP hY => ?_) (fun σ H' hP => ?_)
    · obtain ⟨h1, h2, h3, x2, rfl⟩ := hP
      obtain ⟨rfl, k, v, ek, rfl⟩ := hY
      have hi2 : i < rl.length := by omega
      have er : rl[i]? = some rl[i] := List.getElem?_eq_getElem hi2
      obtain ⟨t, tt, bb, xs, rfl, et, ett, lx⟩ := hru i k v rl[i].1 rl[i].2 ek er
      have nt : t ≠ U := fun z => by rw [z, eU] at et; cases et
      have ntt : tt ≠ U := fun z => by rw [z, eU] at ett; cases ett
      have eW' := h2 _ _ nWU eW
      have gk : DGet H' U (kV k) (some (.ref t)) := .inl ⟨ku, k, .inr ⟨od, h1⟩, rfl, ((mem_val ndu).mpr (List.mem_of_getElem? ek)).symm⟩
      have lr := rlK_len (rl.take i)
      rw [List.length_take] at lr
      refine ⟨.ref W, rfl, W, .ref U, rfl, gU eW', kV k, rfl, U, .ref t, rfl, gk, t, _, 1, .ref tt, rfl, rfl, SqT.of (h2 _ _ nt et), rfl, tt, xs, rfl, .inr (SqT.of (h2 _ _ ntt ett)), ?_⟩
      refine ⟨.ref D, rfl, .ref W, rfl, W, .ref U, rfl, gU eW', kV k, rfl, U, .ref t, rfl, gk, t, _, 0, .str rl[i].1, rfl, rfl, SqT.of (h2 _ _ nt et), rfl, D, _, rfl, DPut.k (k := Sum.inr rl[i].1) h3 (small1000 (by omega)), ?_⟩
      refine ⟨by rw [upd_ne nDU.symm]; exact h1, fun a o n h => by rw [upd_ne (ne_of_none h nD)]; exact h2 a o n h, ?_, _, rfl⟩
      rw [upd_same, take_next er]
      unfold rlK
      rw [List.foldl_append, lx]
      rfl
    · obtain ⟨h1, h2, h3, x2, rfl⟩ := hP
      refine ⟨h1, ?_⟩
      rw [le, List.take_length] at h3
      have smc : Same H (upd H' U (.dK ku)) := fun a o h => by
        by_cases z : a = U
        · rw [z, eU] at h
          rw [z, upd_same, ← h]
        · rw [upd_ne z]
          exact h2 a o z h
      have cpD : (upd H' U (.dK ku)) D = some (.dK (rlK rl)) := by
        rw [upd_ne nDU]
        exact h3
      revert smc cpD
      generalize upd H' U (.dK ku) = Hc
      intro smc cpD
      have lr := rlK_len rl
      refine ⟨.ref D, rfl, D, rfl, .inl ⟨_, .of cpD⟩, .ref W, rfl, W, .ref R, rfl, gR (smc _ _ eW), R, rlK rl, kr, rfl, cpD, .of (smc _ _ eR), ?_, ?_, ?_⟩
      · exact fun z => by rw [← z, nD] at eR; cases eR
      · rw [sizeLine_eq]
        omega
      · exact ⟨.ref D, rfl, q D _ (same_put smc nD) upd_same nD⟩
abbrev dWi (P : Program) (w : World) (K : PySem.W.Frag) (mg : Str → Option Value) (base : Heap) : Prop := Def P w K mg base "_law_widths" 1 ["world"] spWi
end
end KU

namespace KU
open PySem PySem.Spec PyProof.Rows PySem.HandSPX L2 KA
/-- an is that makes a value -/
def isNew (bs : List Str) : L → Bool
  | .isl x _ _ _ => !decide (x ∈ bs)
  | _ => false
def makesL : List Str → List L → Bool
  | _, [] => false
  | bs, l :: r => if isNew bs l = true then true else makesL (addU bs (bindsL l)) r
/-- the edges of a body -/
def edgesL : List L → List (Str × Bool)
  | [] => []
  | .fact r _ :: ls => (r, false) :: edgesL ls
  | .notl r _ :: ls => (r, true) :: edgesL ls
  | .cnt _ r _ :: ls => (r, true) :: edgesL ls
  | _ :: ls => edgesL ls
section
variable {P : Program} {w : World} {K : PySem.W.Frag} {mg : Str → Option Value} {base : Heap}
abbrev dBdR (P : Program) (w : World) (K : PySem.W.Frag) (mg : Str → Option Value) (base : Heap) : Prop := Def P w K mg base "binds" 1 ["literal"] spBd
abbrev sMk : Stmt := topS 3
theorem scMk : FnScope ["body", "bound", "literal", "variable"] ["body"] (defScope sMk) := ⟨rfl, rfl, rfl, by decide +kernel, rfl, by decide +kernel, by decide +kernel⟩
def spMks : Sp := fun vs H Q _ => ∃ (u : Addr) (xs : List V) (ls : List L), vs = [.ref u] ∧ H u = some (.tup xs) ∧ Tps H xs (ls.map litD) ∧ (∀ l ∈ ls, (litTs l).length ≤ 9) ∧ ls.length ≤ 9 ∧ ∀ H', Same H H' → Q (.bl (makesL [] ls)) H'
theorem ok_mk {f : Addr} {fd : FuncData} (F : Fun K "makes" "makes" sMk f fd) (DB : dBdR P w K mg base) : FnOk P w K mg base CX0 2 f fd ["body"] spMks := by
  refine F.ok scMk (fun vs H Q E h => ?_) (fun cdv A outer s H vs Q E hr h => ?_)
  · obtain ⟨_, _, _, rfl, _⟩ := h
    rfl
  · obtain ⟨u, xs, ls, rfl, eu, tx, hl, l9, q⟩ := h
    have hu := hu_of hr
    have lx : xs.length = ls.length := by rw [tx.length, List.length_map]
    have sne : ∀ {x y : Str}, x ≠ y → V.str x ≠ V.str y := fun n z => n (by injection z)
    refine ⟨_, pss_cons (ps_set (i := 1) scMk.nd rfl (.inl rfl) pe_dnewK)
      (pss_cons (ps_for PassesOwn.never rfl (pi_tup (pv 0)) (pg_name (i := 2) scMk.nd rfl (.inl rfl))
        (pss_cons (ps_if (PW.pt (pw_and (pt_cmpR op_eq (pe_ix ix_tup (pv 2) pe_int (fun _ _ => rfl)) pe_str (nomark _)) (pw_and1 (pt_cmp (pc_dnotin hu (pe_ix ix_tup (pv 2) pe_int (fun _ _ => rfl)) (pv 1)))))) (pss_one (ps_ret pe_bl)) pss_nil)
        (pss_one (ps_for PassesOwn.never rfl (pi_list (pe_def DB hr (by rfl) (pa_cons (pv 2) pa_nil))) (pg_name (i := 3) scMk.nd rfl (.inl rfl)) (pss_one (ps_dput hu (pv 1) (pv 3) pe_bl rfl))))))
      (pss_one (ps_ret pe_bl))), ?_⟩
    refine fun a na => ?_
    have s0 : Same H (upd H a (.dK [])) := same_new na
    refine ⟨.ref u, rfl, u, rfl, ⟨xs, SqT.of (s0 _ _ eu)⟩, ?_⟩
    refine for_it walk_tup (fun i σ H' => Same H H' ∧ (∃ x3 x4, σ = [some (.ref u), some (.ref a), x3, x4]) ∧ ∃ bs, H' a = some (.dK (bK bs)) ∧ bs.length ≤ 10 * i ∧ makesL [] ls = makesL bs (ls.drop i)) ⟨s0, ⟨none, none, rfl⟩, [], upd_same, Nat.le_refl _, rfl⟩
      (fun i σ H' _ hP => SqT.of (hP.1 _ _ eu)) (fun i x σ H1 H' hi hP hY => ?_) (fun σ H' hP => ?_)
    · obtain ⟨rfl, hx⟩ := hY
      obtain ⟨sm, ⟨x3, x4, rfl⟩, bs, ea, lb, hbd⟩ := hP
      obtain ⟨l, el, tl⟩ := lit_get tx hx
      have tl := tl.mono (Tk.of sm)
      have hlm := hl l (List.mem_of_getElem? el)
      rw [drop_get el] at hbd
      -- behind the if
      have rest : isNew bs l = false → ∀ {D : Ends}, D.nx = (fun σ H' => Same H H' ∧ (∃ x3 x4, σ = [some (.ref u), some (.ref a), x3, x4]) ∧ ∃ bs, H' a = some (.dK (bK bs)) ∧ bs.length ≤ 10 * (i + 1) ∧ makesL [] ls = makesL bs (ls.drop (i + 1))) →
          (tFor (iList K (tCall spBd [] E0 (tCons (tVar 2) tNil))) (gName 3) (sDPut (tVar 1) (tVar 3) (tC (.bl true)))) D [some (.ref u), some (.ref a), some x, x4] H' := fun hn D hD => by
        have hb2 : makesL [] ls = makesL (addU bs (bindsL l)) (ls.drop (i + 1)) := by
          rw [hbd]
          show (if isNew bs l = true then true else _) = _
          rw [hn, if_neg Bool.false_ne_true]
        refine ⟨x, rfl, x, l, rfl, tl, by omega, fun p H3 s3 ep np => ?_⟩
        refine ⟨p, rfl, ⟨_, SqL.of ep⟩, ?_⟩
        have nap : p ≠ a := fun z => by rw [z, ea] at np; cases np
        have lbl := bindsL_len l
        refine for_it walk_list (fun j σ H' => Same H H' ∧ (∃ x4, σ = [some (.ref u), some (.ref a), some x, x4]) ∧ H' p = some (.lst ((bindsL l).map V.str)) ∧ H' a = some (.dK (bK (addU bs ((bindsL l).take j))))) ⟨sm.trans s3, ⟨x4, rfl⟩, ep, s3 _ _ ea⟩
          (fun j σ H' _ hP => SqL.of hP.2.2.1) (fun j y σ H4 H' hj hP hY => ?_) (fun σ H' hP => ?_)
        · obtain ⟨rfl, hy⟩ := hY
          obtain ⟨sm4, ⟨x4, rfl⟩, ep4, ea4⟩ := hP
          rw [List.getElem?_map] at hy
          cases ey : (bindsL l)[j]? with
          | none => rw [ey] at hy; cases hy
          | some z =>
            rw [ey] at hy
            have hy : y = .str z := (Option.some.inj hy).symm
            subst hy
            have lu := addU_len ((bindsL l).take j) bs
            rw [List.length_take] at lu
            refine ⟨.ref a, rfl, .str z, rfl, a, _, rfl, DPut.k (k := Sum.inr z) ea4 (small1000 (by rw [bK_len]; omega)), ?_⟩
            rw [bK_put]
            refine ⟨same_put sm4 na, ⟨_, rfl⟩, by rw [upd_ne nap]; exact ep4, ?_⟩
            rw [upd_same, take_next ey, addU_snoc]
        · obtain ⟨sm4, ⟨x4, rfl⟩, ep4, ea4⟩ := hP
          rw [List.length_map, List.take_length] at ea4
          rw [hD]
          refine ⟨sm4, ⟨_, _, rfl⟩, _, ea4, ?_, hb2⟩
          have lu := addU_len (bindsL l) bs
          omega
      cases l with
      | isl z o t1 t2 =>
        obtain ⟨p, vx, vy, rfl, ep, _⟩ := litI_inv tl
        refine ⟨.ref p, rfl, p, _, 0, .str "is", rfl, rfl, SqT.of ep, rfl, rfl, _, rfl, yes_if ?_⟩
        refine ⟨.ref p, rfl, p, _, 1, .str z, rfl, rfl, SqT.of ep, rfl, .ref a, rfl, a, valV (bK bs) (.inr z), rfl, .inl ⟨bK bs, .inr z, .inl ea, rfl, rfl⟩, ?_⟩
        rw [bK_bound bs z]
        by_cases c : z ∈ bs
        · rw [decide_eq_true c]
          exact ⟨false, rfl, iteF (rest (by show (!decide (z ∈ bs)) = false; rw [decide_eq_true c]; rfl) rfl)⟩
        · rw [decide_eq_false c]
          refine ⟨true, rfl, iteT ?_⟩
          have e : makesL [] ls = true := by
            rw [hbd]
            show (if isNew bs (.isl z o t1 t2) = true then true else _) = _
            rw [if_pos (by show (!decide (z ∈ bs)) = true; rw [decide_eq_false c]; rfl)]
          rw [e] at q
          exact q _ sm
      | fact r ts =>
        obtain ⟨p, r0, rfl, ep, e0⟩ := lit_name tl
        exact ⟨.ref p, rfl, p, r0, 0, _, rfl, rfl, SqT.of ep, e0, rfl, _, rfl, no_if (sne (show ("fact" : Str) ≠ "is" by decide +kernel)) (iteF (rest rfl rfl))⟩
      | notl r ts =>
        obtain ⟨p, r0, rfl, ep, e0⟩ := lit_name tl
        exact ⟨.ref p, rfl, p, r0, 0, _, rfl, rfl, SqT.of ep, e0, rfl, _, rfl, no_if (sne (show ("not" : Str) ≠ "is" by decide +kernel)) (iteF (rest rfl rfl))⟩
      | cmp o t1 t2 =>
        obtain ⟨p, r0, rfl, ep, e0⟩ := lit_name tl
        exact ⟨.ref p, rfl, p, r0, 0, _, rfl, rfl, SqT.of ep, e0, rfl, _, rfl, no_if (sne (show ("compare" : Str) ≠ "is" by decide +kernel)) (iteF (rest rfl rfl))⟩
      | cnt z r ts =>
        obtain ⟨p, r0, rfl, ep, e0⟩ := lit_name tl
        exact ⟨.ref p, rfl, p, r0, 0, _, rfl, rfl, SqT.of ep, e0, rfl, _, rfl, no_if (sne (show ("count" : Str) ≠ "is" by decide +kernel)) (iteF (rest rfl rfl))⟩
    · obtain ⟨sm, ⟨x3, x4, rfl⟩, bs, ea, lb, hbd⟩ := hP
      rw [lx, List.drop_length] at hbd
      have hbd : makesL [] ls = false := hbd
      rw [hbd] at q
      exact q _ sm
end
end KU

namespace KU
open PySem PySem.Spec PyProof.Rows PySem.HandSPX L2 KA
def edgeD (e : Str × Bool) : PyData := .tuple [.str e.1, .bool e.2]
theorem edges_app : ∀ a b : List L, edgesL (a ++ b) = edgesL a ++ edgesL b
  | [], b => rfl
  | .fact r ts :: a, b => congrArg ((r, false) :: ·) (edges_app a b)
  | .notl r ts :: a, b => congrArg ((r, true) :: ·) (edges_app a b)
  | .cnt x r ts :: a, b => congrArg ((r, true) :: ·) (edges_app a b)
  | .cmp o s t :: a, b => edges_app a b
  | .isl x o s t :: a, b => edges_app a b
theorem edges_len : ∀ a : List L, (edgesL a).length ≤ a.length
  | [] => Nat.le_refl _
  | .fact r ts :: a => Nat.succ_le_succ (edges_len a)
  | .notl r ts :: a => Nat.succ_le_succ (edges_len a)
  | .cnt x r ts :: a => Nat.succ_le_succ (edges_len a)
  | .cmp o s t :: a => Nat.le_succ_of_le (edges_len a)
  | .isl x o s t :: a => Nat.le_succ_of_le (edges_len a)
section
variable {P : Program} {w : World} {K : PySem.W.Frag} {mg : Str → Option Value} {base : Heap}
abbrev sBe : Stmt := topS 4
theorem scBe : FnScope ["body", "found", "literal"] ["body"] (defScope sBe) := ⟨rfl, rfl, rfl, by decide +kernel, rfl, by decide +kernel, by decide +kernel⟩
def spBe : Sp := fun vs H Q _ => ∃ (u : Addr) (xs : List V) (ls : List L), vs = [.ref u] ∧ H u = some (.tup xs) ∧ Tps H xs (ls.map litD) ∧ ls.length ≤ 9 ∧ ∀ p ys H', Same H H' → H' p = some (.lst ys) → Tps H' ys ((edgesL ls).map edgeD) → H p = none → Q (.ref p) H'
theorem ok_be {f : Addr} {fd : FuncData} (F : Fun K "body_edges" "body_edges" sBe f fd) : FnOk P w K mg base CX0 1 f fd ["body"] spBe := by
  refine F.ok scBe (fun vs H Q E h => ?_) (fun cdv A outer s H vs Q E hr h => ?_)
  · obtain ⟨_, _, _, rfl, _⟩ := h
    rfl
  · obtain ⟨u, xs, ls, rfl, eu, tx, l9, q⟩ := h
    have lx : xs.length = ls.length := by rw [tx.length, List.length_map]
    have sne : ∀ {x y : Str}, x ≠ y → V.str x ≠ V.str y := fun n z => n (by injection z)
    refine ⟨_, pss_cons (ps_set (i := 1) scBe.nd rfl (.inl rfl) (pe_lst pa_nil))
      (pss_cons (ps_for PassesOwn.never rfl (pi_tup (pv 0)) (pg_name (i := 2) scBe.nd rfl (.inl rfl))
        (pss_one (ps_if (pt_cmpR op_eq (pe_ix ix_tup (pv 2) pe_int (fun _ _ => rfl)) pe_str (nomark _))
          (pss_one (ps_expr (pe_bm PySem.F.plainAttrs_list PySem.F.slot_list_append PySem.F.type_list_append mt_append (pv 1) (pa_cons (pe_tup (pa_cons (pe_ix ix_tup (pv 2) pe_int (fun _ _ => rfl)) (pa_cons pe_bl pa_nil))) pa_nil))))
        (pss_one (ps_if (pt_cmpR op_eq (pe_ix ix_tup (pv 2) pe_int (fun _ _ => rfl)) pe_str (nomark _))
          (pss_one (ps_expr (pe_bm PySem.F.plainAttrs_list PySem.F.slot_list_append PySem.F.type_list_append mt_append (pv 1) (pa_cons (pe_tup (pa_cons (pe_ix ix_tup (pv 2) pe_int (fun _ _ => rfl)) (pa_cons pe_bl pa_nil))) pa_nil))))
        (pss_one (ps_if (pt_cmpR op_eq (pe_ix ix_tup (pv 2) pe_int (fun _ _ => rfl)) pe_str (nomark _))
          (pss_one (ps_expr (pe_bm PySem.F.plainAttrs_list PySem.F.slot_list_append PySem.F.type_list_append mt_append (pv 1) (pa_cons (pe_tup (pa_cons (pe_ix ix_tup (pv 2) pe_int (fun _ _ => rfl)) (pa_cons pe_bl pa_nil))) pa_nil))))
          pss_nil)))))))
      (pss_one (ps_ret (pv 1)))), ?_⟩
    refine ⟨(by show 0 ≤ sizeLine; exact Nat.zero_le _), fun a na => ?_⟩
    have s0 : Same H (upd H a (.lst [])) := same_new na
    refine ⟨.ref u, rfl, u, rfl, ⟨xs, SqT.of (s0 _ _ eu)⟩, ?_⟩
    refine for_it walk_tup (fun i σ H' => Same H H' ∧ (∃ x2, σ = [some (.ref u), some (.ref a), x2]) ∧ ∃ ys, H' a = some (.lst ys) ∧ Tps H' ys ((edgesL (ls.take i)).map edgeD)) ⟨s0, ⟨none, rfl⟩, [], upd_same, .nil⟩
      (fun i σ H' _ hP => SqT.of (hP.1 _ _ eu)) (fun i x σ H1 H' hi hP hY => ?_) (fun σ H' hP => ?_)
    · obtain ⟨rfl, hx⟩ := hY
      obtain ⟨sm, ⟨x2, rfl⟩, ys, ea, ty⟩ := hP
      obtain ⟨l, el, tl⟩ := lit_get tx hx
      have tl := tl.mono (Tk.of sm)
      have le : ys.length ≤ 9 := by
        have h1 := ty.length
        have h2 := edges_len (ls.take i)
        rw [List.length_map] at h1
        rw [List.length_take] at h2
        omega
      have ee : edgesL (ls.take (i + 1)) = edgesL (ls.take i) ++ edgesL [l] := by rw [take_next el, edges_app]
      rw [ee, List.map_append]
      have add : ∀ (r : Str) (b : Bool) (p : Addr), edgesL [l] = [(r, b)] → H' p = none → (upd H' p (.tup [.str r, .bl b])) a = some (.lst ys) ∧ Same H (upd (upd H' p (.tup [.str r, .bl b])) a (.lst (ys ++ [.ref p]))) ∧ Tps (upd (upd H' p (.tup [.str r, .bl b])) a (.lst (ys ++ [.ref p]))) (ys ++ [.ref p]) ((edgesL (ls.take i)).map edgeD ++ (edgesL [l]).map edgeD) := fun r b p e np => by
        have s1 := same_new (o := .tup [.str r, .bl b]) np
        have ea1 := s1 _ _ ea
        have tk : Tk (upd H' p (.tup [.str r, .bl b])) (upd (upd H' p (.tup [.str r, .bl b])) a (.lst (ys ++ [.ref p]))) := Tk.lst ea1
        refine ⟨ea1, same_put (sm.trans s1) na, ?_⟩
        rw [e]
        exact ((ty.mono (Tk.of s1)).mono tk).append (.cons ((tup2 np (.str r) (.bl b)).mono tk) .nil)
      cases l with
      | fact r ts =>
        obtain ⟨p, t, zs, rfl, ep, _⟩ := lit3_inv tl
        refine ⟨.ref p, rfl, p, _, 0, .str "fact", rfl, rfl, SqT.of ep, rfl, rfl, _, rfl, yes_if ?_⟩
        refine ⟨.ref a, rfl, .inl ⟨rfl, _, SqL.of ea⟩, .ref p, rfl, p, _, 1, .str r, rfl, rfl, SqT.of ep, rfl, len2, fun q1 nq => ?_⟩
        obtain ⟨b1, b2, b3⟩ := add r false q1 rfl nq
        exact ⟨a, ys, _, rfl, rfl, b1, small1000 (by omega), b2, ⟨_, rfl⟩, _, upd_same, b3⟩
      | notl r ts =>
        obtain ⟨p, t, zs, rfl, ep, _⟩ := lit3_inv tl
        refine ⟨.ref p, rfl, p, _, 0, .str "not", rfl, rfl, SqT.of ep, rfl, rfl, _, rfl, no_if (sne (show ("not" : Str) ≠ "fact" by decide +kernel)) ?_⟩
        refine ⟨.ref p, rfl, p, _, 0, .str "not", rfl, rfl, SqT.of ep, rfl, rfl, _, rfl, yes_if ?_⟩
        refine ⟨.ref a, rfl, .inl ⟨rfl, _, SqL.of ea⟩, .ref p, rfl, p, _, 1, .str r, rfl, rfl, SqT.of ep, rfl, len2, fun q1 nq => ?_⟩
        obtain ⟨b1, b2, b3⟩ := add r true q1 rfl nq
        exact ⟨a, ys, _, rfl, rfl, b1, small1000 (by omega), b2, ⟨_, rfl⟩, _, upd_same, b3⟩
      | cnt x r ts =>
        obtain ⟨p, t, zs, rfl, ep, _⟩ := litN_inv tl
        refine ⟨.ref p, rfl, p, _, 0, .str "count", rfl, rfl, SqT.of ep, rfl, rfl, _, rfl, no_if (sne (show ("count" : Str) ≠ "fact" by decide +kernel)) ?_⟩
        refine ⟨.ref p, rfl, p, _, 0, .str "count", rfl, rfl, SqT.of ep, rfl, rfl, _, rfl, no_if (sne (show ("count" : Str) ≠ "not" by decide +kernel)) ?_⟩
        refine ⟨.ref p, rfl, p, _, 0, .str "count", rfl, rfl, SqT.of ep, rfl, rfl, _, rfl, yes_if ?_⟩
        refine ⟨.ref a, rfl, .inl ⟨rfl, _, SqL.of ea⟩, .ref p, rfl, p, _, 2, .str r, rfl, rfl, SqT.of ep, rfl, len2, fun q1 nq => ?_⟩
        obtain ⟨b1, b2, b3⟩ := add r true q1 rfl nq
        exact ⟨a, ys, _, rfl, rfl, b1, small1000 (by omega), b2, ⟨_, rfl⟩, _, upd_same, b3⟩
      | cmp o s1 s2 =>
        obtain ⟨p, r0, rfl, ep, e0⟩ := lit_name tl
        refine ⟨.ref p, rfl, p, r0, 0, _, rfl, rfl, SqT.of ep, e0, rfl, _, rfl, no_if (sne (show ("compare" : Str) ≠ "fact" by decide +kernel)) ?_⟩
        refine ⟨.ref p, rfl, p, r0, 0, _, rfl, rfl, SqT.of ep, e0, rfl, _, rfl, no_if (sne (show ("compare" : Str) ≠ "not" by decide +kernel)) ?_⟩
        refine ⟨.ref p, rfl, p, r0, 0, _, rfl, rfl, SqT.of ep, e0, rfl, _, rfl, no_if (sne (show ("compare" : Str) ≠ "count" by decide +kernel)) ⟨sm, ⟨_, rfl⟩, ys, ea, ?_⟩⟩
        rw [show edgesL [L.cmp o s1 s2] = [] from rfl, List.map_nil, List.append_nil]
        exact ty
      | isl z o s1 s2 =>
        obtain ⟨p, r0, rfl, ep, e0⟩ := lit_name tl
        refine ⟨.ref p, rfl, p, r0, 0, _, rfl, rfl, SqT.of ep, e0, rfl, _, rfl, no_if (sne (show ("is" : Str) ≠ "fact" by decide +kernel)) ?_⟩
        refine ⟨.ref p, rfl, p, r0, 0, _, rfl, rfl, SqT.of ep, e0, rfl, _, rfl, no_if (sne (show ("is" : Str) ≠ "not" by decide +kernel)) ?_⟩
        refine ⟨.ref p, rfl, p, r0, 0, _, rfl, rfl, SqT.of ep, e0, rfl, _, rfl, no_if (sne (show ("is" : Str) ≠ "count" by decide +kernel)) ⟨sm, ⟨_, rfl⟩, ys, ea, ?_⟩⟩
        rw [show edgesL [L.isl z o s1 s2] = [] from rfl, List.map_nil, List.append_nil]
        exact ty
    · obtain ⟨sm, ⟨x2, rfl⟩, ys, ea, ty⟩ := hP
      rw [lx, List.take_length] at ty
      exact ⟨.ref a, rfl, q a ys _ sm ea ty na⟩
end
end KU

/-! {**d, k: v} -/
namespace KA
open PySem PySem.Spec PyProof.Rows L2
section
variable {prog : Program} {w : World} {K : Type} [DecidableEq K] {knd : KeyKind prog w K} {A : Around} {E : Value → Shared → Prop} {s : Shared}
theorem wpAny_dictPut_pairs {d : Addr} {kvs : List (K × Value)} {k : K} {key v : Value} {Q : Unit → Shared → Prop} (hkey : knd.is k key = true) (hm : s.heap.DictOf knd d kvs)
    (hQ : ∀ h', h'.DictOf knd d (stored kvs k v) → Heap.SameBut d s.heap h' → Q () { s with heap := h' })
    (hsz : kvs.length ≤ sizeLine := by size_fits) :
    wpAny (model prog w) A (dictPut d (knd.hash k) key v) Q E s := by
  obtain ⟨o, es, ep, ho, hc, hd, hk, hp, hn⟩ := hm
  have hes : es.size ≤ sizeLine := by have e1 := hp.length; have e2 : es.toList.length = es.size := by simp
                                      omega
  unfold dictPut
  refine wpAny_bind (wpAny_dictFind_of hkey ho hd hk ?_)
  have hidx : (es.findIdx? fun e => knd.is k e.key) = kvs.findIdx? fun kv => decide (kv.1 = k) := by
    rw [← hp.findIdx k]; obtain ⟨l⟩ := es; simp
  cases hi : es.findIdx? fun e => knd.is k e.key with
  | some i =>
    refine wpAny_updateDict ho hd (hQ _ ⟨_, _, ep, Heap.get?_update_self _ ho (Obj.isFreed_of_dict (Obj.data_mapDict hd _)),
      hc.mapDict _, Obj.data_mapDict hd _, hk.modify _ _, ?_, ?_⟩ (Heap.SameBut.update ..))
    · rw [stored, if_pos (any_of_findIdx_some (hidx ▸ hi))]
      have hl : (es.toList.findIdx? fun e => knd.is k e.key) = some i := by rw [← hi]; obtain ⟨l⟩ := es; simp
      have := hp.modify hn hl v
      obtain ⟨l⟩ := es
      simpa using this
    · rw [stored, if_pos (any_of_findIdx_some (hidx ▸ hi)), keys_map_store]; exact hn
  | none =>
    have hnot : k ∉ kvs.map (·.1) := not_mem_of_findIdx_none (hidx ▸ hi)
    have hany : ¬ (kvs.any fun kv => decide (kv.1 = k)) = true := by
      rw [List.any_eq_true]; rintro ⟨kv, hkv, he⟩
      exact hnot (List.mem_map.mpr ⟨kv, hkv, of_decide_eq_true he⟩)
    refine wpAny_updateDictKeys (hz := hes) ho hd (hQ _ ⟨_, _, ep + 1, Heap.get?_update_self _ ho (Obj.isFreed_of_dict (Obj.data_mapDictKeys hd _)),
      hc.mapDictKeys _, Obj.data_mapDictKeys hd _, hk.push hkey _, ?_, ?_⟩ (Heap.SameBut.update ..))
    · rw [stored, if_neg hany]
      have := hp.append hkey (knd.hash k) v
      obtain ⟨l⟩ := es
      simpa using this
    · rw [stored, if_neg hany, List.map_append, List.nodup_append]
      refine ⟨hn, by simp, ?_⟩
      intro a ha b hb
      simp only [List.map_cons, List.map_nil, List.mem_singleton] at hb
      subst hb
      exact fun e => hnot (e ▸ ha)
theorem wpAny_mergeMapping {d o : Addr} {kvs more : List (K × Value)} {Q : Unit → Shared → Prop} (hdo : d ≠ o) (hoS : (o == sysModules) = false)
    (hd : s.heap.DictOf knd d kvs) (ho : s.heap.DictOf knd o more)
    (hQ : ∀ h', h'.DictOf knd d (merged kvs more) → h'.DictOf knd o more → Heap.SameBut d s.heap h' → Q () { s with heap := h' })
    (hsz : kvs.length + more.length ≤ sizeLine := by size_fits) :
    wpAny (model prog w) A (mergeMapping d (.ref o) false) Q E s := by
  obtain ⟨od, esd, epd, hod, hcd, hdd, hkd, hpd, hnd⟩ := id hd
  obtain ⟨oo, eso, epo, hoo, hco, hdo', hko, hpo, hno⟩ := id ho
  have hlen : more.length = eso.size := by rw [← hpo.length]; simp
  unfold mergeMapping
  refine wpAny_bind (wpAny_isInstance ho.typeIs isSubtype_dict_dict ?_)
  dsimp only
  rw [if_pos rfl]
  refine wpAny_bind (wpAny_specialOf ho.typeIs F.slot_dict_iter.lookup ?_)
  refine wpAny_bind (wpAny_pure ?_)
  simp only [beq_self_eq_true]
  rw [if_neg (by rw [hoS]; exact Bool.false_ne_true)]
  simp only [Bool.false_eq_true, if_false]
  -- the loop itself
  have loop : wpAny (model prog w) A (do
      let __do_lift ← dictEntries o
      let epoch ← dictEpoch o
      forIn (List.range __do_lift.size) PUnit.unit fun i (_ : PUnit) => (do
          let l' ← dictEntries o
          match l'[i]? with
            | some e => do
              holding [e.key, e.val] (dictPut d e.hash e.key e.val)
              let ep' ← dictEpoch o
              if (ep' != epoch) = true then do
                  (unsupported "dict.changed-during-merge" : Sem PUnit)
                  pure (ForInStep.yield PUnit.unit)
                else pure (ForInStep.yield PUnit.unit)
            | _ => do
              (unsupported "dict.changed-during-merge" : Sem PUnit)
              pure (ForInStep.yield PUnit.unit) : Sem (ForInStep PUnit))
      pure ()) Q E s := by
    refine wpAny_bind (wpAny_dictEntries hoo hdo' ?_)
    refine wpAny_bind (wpAny_dictEpoch hoo hdo' ?_)
    refine wpAny_bind ?_
    rw [List.range_eq_range']
    refine wpAny_forIn_list _
      (fun rest _ s' => ∃ h' i, s' = { s with heap := h' } ∧ rest = List.range' i (eso.size - i) ∧ i ≤ eso.size ∧ h'.DictOf knd d (merged kvs (more.take i)) ∧ h'.get? o = some oo ∧ Heap.SameBut d s.heap h')
      _ ?_ ?_ _ _ ⟨s.heap, 0, rfl, by simp, Nat.zero_le _, by simpa [merged] using hd, hoo, Heap.SameBut.refl _ _⟩
    · rintro x rest b s' ⟨h', i, rfl, hr, hi, hd', hoo', hs'⟩
      have hlt : i < eso.size := by
        rcases Nat.lt_or_ge i eso.size with h | h
        · exact h
        · rw [Nat.sub_eq_zero_of_le h] at hr; simp at hr
      obtain ⟨rfl, hrest⟩ : x = i ∧ rest = List.range' (i + 1) (eso.size - (i + 1)) := by
        have e : eso.size - i = (eso.size - (i + 1)) + 1 := by omega
        rw [e, List.range'_succ] at hr
        injection hr with h1 h2
        exact ⟨h1, h2⟩
      refine wpAny_bind (wpAny_dictEntries hoo' hdo' ?_)
      rw [Array.getElem?_eq_getElem hlt]
      obtain ⟨kv, hkv⟩ : ∃ kv, more[x]? = some kv := ⟨more[x]'(by rw [hlen]; exact hlt), List.getElem?_eq_getElem _⟩
      obtain ⟨k, v⟩ := kv
      obtain ⟨hkey, hval⟩ := hpo.get? (e := eso[x]) (by simp [hlt]) hkv
      obtain ⟨k', hkey', hhash⟩ := hko eso[x] (Array.getElem_mem hlt)
      obtain rfl : k' = k := knd.inj _ _ _ hkey' hkey
      show wpAny _ _ (holding [eso[x].key, eso[x].val] (dictPut d eso[x].hash eso[x].key eso[x].val) >>= _) _ _ _
      rw [hhash, hval]
      have hmx : (merged kvs (more.take x)).length ≤ sizeLine := by
        have e1 := merged_length_le kvs (more.take x)
        have e2 : (more.take x).length ≤ more.length := by rw [List.length_take]; omega
        omega
      refine wpAny_bind (wpAny_holding (wpAny_dictPut_pairs (hsz := hmx) hkey hd' fun h'' hd'' hs'' => ?_))
      have hoo'' : h''.get? o = some oo := (hs''.2 o (Ne.symm hdo)).trans hoo'
      refine wpAny_bind (wpAny_dictEpoch hoo'' hdo' ?_)
      rw [if_neg (by simp)]
      exact wpAny_pure ⟨h'', x + 1, rfl, hrest, hlt, by rw [merged_take_succ kvs more x (k', v) hkv]; exact hd'', hoo'', hs'.trans hs''⟩
    · rintro b s' ⟨h', i, rfl, hr, hi, hd', hoo', hs'⟩
      have hin : i = eso.size := by
        rcases Nat.lt_or_ge i eso.size with h | h
        · have e : eso.size - i = (eso.size - (i + 1)) + 1 := by omega
          rw [e, List.range'_succ] at hr; exact nomatch hr
        · exact Nat.le_antisymm hi h
      refine wpAny_pure (hQ h' ?_ ⟨oo, eso, epo, hoo', hco, hdo', hko, hpo, hno⟩ hs')
      rw [hin, ← hlen, List.take_length] at hd'; exact hd'
  refine wpAny_bind (wpAny_dictEntries hod hdd ?_)
  split
  · refine wpAny_bind (wpAny_dictEntries hoo hdo' ?_)
    have hloop : ∀ (f : DictEntry → PUnit → Sem (ForInStep PUnit)), (∀ e ∈ eso.toList, f e PUnit.unit = pure (ForInStep.yield PUnit.unit)) → (forIn eso PUnit.unit f) = pure PUnit.unit := fun f hf => by
      rw [← Array.forIn_toList]
      refine forIn_yield_id _ fun e he c => hf e he
    refine wpAny_bind ?_
    rw [hloop _ fun e he => ?_]
    · exact wpAny_pure loop
    · obtain ⟨k, hkey, _⟩ := hko e (Array.mem_toList_iff.mp he)
      have bv := knd.byValue k _ hkey
      cases hk : e.key with
      | ref a => rw [hk] at bv; exact absurd bv Bool.false_ne_true
      | _ => rfl
  · exact loop
end
end KA

namespace KA
open PySem PySem.Spec PyProof.Rows L2
section
variable {X : Cx}
/-- {**d, k: v} -/
def tSprd (td tk tv : TE) : TE := fun σ H Q => ∀ p, H p = none → td σ (upd H p (.dK [])) fun x H1 => ∃ b more, x = .ref b ∧ H1 p = some (.dK []) ∧ Rd H1 b (.dK more) ∧ p ≠ b ∧ more.length ≤ 1000 ∧
  ∀ q, H1 q = none → tk σ (upd (upd H1 p (.dK more)) q (.dK [])) fun y H2 => tv σ H2 fun z H3 => ∃ k : Key, y = kV k ∧ H3 q = some (.dK []) ∧ H3 p = some (.dK more) ∧ Q (.ref p) (upd (upd H3 q (.dK [(k, z)])) p (.dK (putK more k z)))
theorem pe_sprd {d k v : Expr} {td tk tv : TE} {pos : Pos} (hd : PE X d td) (hk : PE X k tk) (hv : PE X v tv) : PE X (.Dict [none, some k] [d, v] pos) (tSprd td tk tv) := by
  refine ⟨fun pins s σ H Q I q => ?_⟩
  rw [arm_eval_Dict]
  refine wpAny_bind (wpAny_standAt ?_)
  show wpAny (model X.prog X.w) X.A (dictDisplay [(none, do let x ← eval d X.env; standAt pos; pure x), (some (eval k X.env), do let x ← eval v X.env; standAt pos; pure x)]) _ _ _
  unfold dictDisplay
  dsimp only
  simp only [List.forIn_cons, List.forIn_nil]
  simp only [List.isEmpty_nil, List.isEmpty_cons, if_true, pure_bind, bind_assoc, List.nil_append, List.length_cons, List.length_nil, Nat.reduceAdd, Nat.reduceBEq, Bool.false_eq_true, if_false]
  have hn := I.hok.fresh (Nat.le_refl s.heap.objs.size)
  have I1 := I.laid (a := s.heap.objs.size) (o := .dK []) (h' := s.heap.push { cls := .type "dict", data := .dict #[] }) (t' := s.toks) (fun _ _ q => Heap.get?_push_of_some _ q) (Nat.le_refl _) (dk_empty s.heap I.big)
  refine wpAny_bind (wpAny_alloc ?_)
  refine wpAny_bind (wpAny_holding (wpAny_bind (thn (hd.run pins _ σ _ _ I1 (q _ hn)) fun u s1 ⟨x, H1, I2, rx, b, more, ex, e1, rb, npb, lm, q2⟩ => wpAny_bind (wpAny_standAt (wpAny_pure ?_)))))
  subst ex
  obtain rfl : u = Value.ref b := rx
  generalize hp : s.heap.objs.size = p at *
  obtain ⟨z1, hd1, vs1, rel1, dd1⟩ := dk_of I2.hok e1
  cases rel1
  obtain ⟨z2, hd2, vs2, rel2, dd2⟩ := dk_rd I2.hok rb
  have hno : (vs2.map (·.1)).Nodup := by
    obtain ⟨_, _, _, _, _, _, _, _, hno⟩ := id dd2
    exact hno
  refine wpAny_bind (wpAny_onRaise (wpAny_tryCatch (wpAny_onRaise (wpAny_holding (wpAny_mergeMapping (knd := mixKind X.prog X.w) npb hd2 dd1 dd2 (fun h' dd' _ hs => ?_) (by rw [← rel2.length, sizeLine_eq]; show 0 + _ ≤ _; omega))))))
  rw [merged_nil_of_nodup vs2 hno] at dd'
  have hex : ∃ q, h'.get? p = some q := let ⟨q, _, _, hq, _⟩ := dd'; ⟨q, hq⟩
  have I3 := d_write (t' := s1.toks) I2 (by rw [e1]; exact True.intro) hs hex (dk_new z2 hd1 rel2 dd')
  have hq0 := I3.hok.fresh (Nat.le_refl h'.objs.size)
  have hq : H1 h'.objs.size = none := by
    by_cases c : h'.objs.size = p
    · rw [c, upd_same] at hq0
      cases hq0
    · rw [upd_ne c] at hq0
      exact hq0
  have I4 := I3.laid (a := h'.objs.size) (o := .dK []) (h' := h'.push { cls := .type "dict", data := .dict #[] }) (t' := s1.toks) (fun _ _ q => Heap.get?_push_of_some _ q) (Nat.le_refl _) (dk_empty h' I3.big)
  refine wpAny_bind (wpAny_holding (wpAny_subDict (knd := mixKind X.prog X.w) (by show 1 ≤ 15; decide) ?_))
  have npq : p ≠ h'.objs.size := fun z => by rw [← z, upd_same] at hq0; cases hq0
  generalize hQ : h'.objs.size = qq at *
  refine thn ((pps_cons (pos := pos) hk hv pps_nil).run pins _ σ _ (fun ps H3 => match ps with | [(y, z)] => ∃ k : Key, y = kV k ∧ H3 qq = some (.dK []) ∧ H3 p = some (.dK more) ∧ Q (.ref p) (upd (upd H3 qq (.dK [(k, z)])) p (.dK (putK more k z))) | _ => False) I4 (q2 _ hq)) fun ws s5 ⟨ps, H5, I5, rel, e5⟩ => ?_
  match ps, rel, e5 with
  | [(y, z)], rel, ⟨k, hy, eq, ep, q3⟩ =>
    subst hy
    obtain ⟨rs, c, relr⟩ := carries_of (P := X.prog) (w := X.w) (kvs := [(k, z)]) rel
    obtain ⟨zq, hdq, vq, rq, ddq⟩ := dk_of I5.hok eq
    cases rq
    refine ⟨rs, c, ddq, fun h2 dd2' hs2 => ?_⟩
    have hex2 : ∃ q, h2.get? qq = some q := let ⟨q, _, _, hq, _⟩ := dd2'; ⟨q, hq⟩
    have I6 := d_write (t' := s5.toks + ws.length) I5 (by rw [eq]; exact True.intro) hs2 hex2 (dk_new (kvs := [(k, z)]) (by rw [sizeLine_eq]; show 1 ≤ _; decide) hdq (relr.merge (kvs := []) .nil) dd2')
    have e6 : (upd H5 qq (.dK [(k, z)])) p = some (.dK more) := by rw [upd_ne npq]; exact ep
    obtain ⟨zp, hdp, vp, rp, ddp⟩ := dk_of I6.hok e6
    obtain ⟨_, _, vq2, rq2, ddq2⟩ := dk_of (kvs := [(k, z)]) I6.hok upd_same
    refine wpAny_bind (wpAny_onRaise (wpAny_holding (wpAny_mergeMapping (knd := mixKind X.prog X.w) npq hdq ddp ddq2 (fun h3 dd3 _ hs3 => wpAny_pure ?_) (by rw [← rp.length, ← rq2.length, sizeLine_eq]; show _ + 1 ≤ _; omega))))
    have hex3 : ∃ q, h3.get? p = some q := let ⟨q, _, _, hq, _⟩ := dd3; ⟨q, hq⟩
    have hl := length_putK more k z
    exact ⟨.ref p, _, d_write I6 (by rw [e6]; exact True.intro) hs3 hex3 (dk_new (kvs := putK more k z) (by rw [sizeLine_eq]; omega) hdp (rq2.merge rp) dd3), rfl, q3⟩
end
end KA

namespace KU
open PySem PySem.Spec PyProof.Rows PySem.HandSPX L2 KA
/-! ### what is reached -/
inductive Rch (adj : Str → List Str) : Str → Str → Prop
  | one {x y} : y ∈ adj x → Rch adj x y
  | step {x y z} : Rch adj x y → z ∈ adj y → Rch adj x z
def AdjK (H : Hp) (kvs : List (Key × V)) (adj : Str → List Str) : Prop := ∀ x, (valV kvs (Sum.inr x : Key) = none ∧ adj x = []) ∨ ∃ p, valV kvs (Sum.inr x : Key) = some (.ref p) ∧ H p = some (.lst ((adj x).map V.str))
theorem AdjK.same {H H' : Hp} {kvs : List (Key × V)} {adj : Str → List Str} (h : AdjK H kvs adj) (s : Same H H') : AdjK H' kvs adj := fun x => by
  rcases h x with a | ⟨p, a, b⟩
  · exact .inl a
  · exact .inr ⟨p, a, s _ _ b⟩
theorem small6 {n : Nat} (h : n ≤ 1000000) : n ≤ sizeLine := by rw [sizeLine_eq]; omega
theorem small7 {n : Nat} (h : n ≤ 1000000) : n < sizeLine := by rw [sizeLine_eq]; omega
theorem iteT' {a : Prop} {b : Prop} {c : Bool} (e : c = true) (h : a) : if c = true then a else b := by rw [if_pos e]; exact h
theorem iteF' {a : Prop} {b : Prop} {c : Bool} (e : c = false) (h : b) : if c = true then a else b := by rw [if_neg (by rw [e]; exact Bool.false_ne_true)]; exact h
theorem gen_up {H H' : Hp} {p : Addr} {o : HO} (h : upd H p o = H') (n : H p = none) : Same H H' ∧ H' p = some o := by
  subst h
  exact ⟨same_new n, upd_same⟩
theorem gen_wr {H H' : Hp} {p : Addr} {o : HO} (h : upd H p o = H') : H' p = some o ∧ ∀ c u, c ≠ p → H c = some u → H' c = some u := by
  subst h
  exact ⟨upd_same, fun c u n e => by rw [upd_ne n]; exact e⟩
theorem add1_nd {bs : List Str} {x : Str} (h : bs.Nodup) : (add1 bs x).Nodup := by
  unfold add1
  by_cases c : x ∈ bs
  · rw [if_pos c]; exact h
  · rw [if_neg c]
    refine List.nodup_append.mpr ⟨h, by simp, fun a ha b hb e => ?_⟩
    rw [List.mem_singleton.mp hb] at e
    exact c (by rw [← e]; exact ha)
theorem mem_add1 {bs : List Str} {x y : Str} : y ∈ add1 bs x ↔ y ∈ bs ∨ y = x := by
  unfold add1
  by_cases c : x ∈ bs
  · rw [if_pos c]
    exact ⟨.inl, fun h => h.elim id fun e => by rw [e]; exact c⟩
  · rw [if_neg c, List.mem_append, List.mem_singleton]
/-- what has been found, what waits -/
structure Sea (adj : Str → List Str) (s : Str) (U fs ws : List Str) (m : Nat) : Prop where
  nd : fs.Nodup
  sub : ∀ y ∈ fs, y ∈ U
  snd : ∀ y ∈ fs, Rch adj s y
  wt : ∀ y ∈ ws, y = s ∨ y ∈ fs
  cl : ∀ x, (x = s ∨ x ∈ fs) → x ∈ ws ∨ ∀ y ∈ adj x, y ∈ fs
  ms : m = (U.length - fs.length) + ws.length
/-- in the midst of r's own -/
structure SeaR (adj : Str → List Str) (s : Str) (U : List Str) (r : Str) (i : Nat) (fs ws : List Str) (m : Nat) : Prop where
  nd : fs.Nodup
  sub : ∀ y ∈ fs, y ∈ U
  snd : ∀ y ∈ fs, Rch adj s y
  wt : ∀ y ∈ ws, y = s ∨ y ∈ fs
  cl : ∀ x, (x = s ∨ x ∈ fs) → x ≠ r → x ∈ ws ∨ ∀ y ∈ adj x, y ∈ fs
  rr : r = s ∨ r ∈ fs
  dn : ∀ y ∈ (adj r).take i, y ∈ fs
  ms : m = (U.length - fs.length) + ws.length + 1
theorem Sea.pop {adj : Str → List Str} {s r : Str} {U fs ws : List Str} {m : Nat} (h : Sea adj s U fs (ws ++ [r]) m) : SeaR adj s U r 0 fs ws m :=
  ⟨h.nd, h.sub, h.snd, fun y hy => h.wt y (List.mem_append_left _ hy), fun x hx n => by
    rcases h.cl x hx with a | a
    · rcases List.mem_append.mp a with a | a
      · exact .inl a
      · exact absurd (List.mem_singleton.mp a) n
    · exact .inr a, h.wt r (List.mem_append_right _ (List.mem_singleton.mpr rfl)), (fun y hy => by cases hy), by
    have := h.ms
    rw [List.length_append] at this
    exact this⟩
theorem SeaR.old {adj : Str → List Str} {s r y : Str} {U fs ws : List Str} {m i : Nat} (h : SeaR adj s U r i fs ws m) (e : (adj r)[i]? = some y) (c : y ∈ fs) : SeaR adj s U r (i + 1) fs ws m :=
  ⟨h.nd, h.sub, h.snd, h.wt, h.cl, h.rr, fun z hz => by
    rw [take_next e] at hz
    rcases List.mem_append.mp hz with hz | hz
    · exact h.dn z hz
    · rw [List.mem_singleton.mp hz]; exact c, h.ms⟩
theorem SeaR.new {adj : Str → List Str} {s r y : Str} {U fs ws : List Str} {m i : Nat} (h : SeaR adj s U r i fs ws m) (hU : ∀ x y, y ∈ adj x → y ∈ U) (e : (adj r)[i]? = some y) (c : y ∉ fs) : SeaR adj s U r (i + 1) (add1 fs y) (ws ++ [y]) m := by
  have my : y ∈ adj r := List.mem_of_getElem? e
  have yU := hU _ _ my
  have nd2 : (add1 fs y).Nodup := add1_nd h.nd
  have sub2 : ∀ z ∈ add1 fs y, z ∈ U := fun z hz => (mem_add1.mp hz).elim (h.sub z) fun q => by rw [q]; exact yU
  have ln : (add1 fs y).length = fs.length + 1 := by
    unfold add1
    rw [if_neg c, List.length_append]
    rfl
  have le := nodup_le nd2 sub2
  refine ⟨nd2, sub2, fun z hz => ?_, fun z hz => ?_, fun x hx n => ?_, h.rr.imp id fun q => mem_add1.mpr (.inl q), fun z hz => ?_, ?_⟩
  · rcases mem_add1.mp hz with hz | rfl
    · exact h.snd z hz
    · rcases h.rr with rfl | q
      · exact .one my
      · exact .step (h.snd _ q) my
  · rcases List.mem_append.mp hz with hz | hz
    · exact (h.wt z hz).imp id fun q => mem_add1.mpr (.inl q)
    · exact .inr (mem_add1.mpr (.inr (List.mem_singleton.mp hz)))
  · by_cases q : x = y
    · exact .inl (List.mem_append_right _ (List.mem_singleton.mpr q))
    · rcases h.cl x (hx.imp id fun z => (mem_add1.mp z).elim id fun z => absurd z q) n with a | a
      · exact .inl (List.mem_append_left _ a)
      · exact .inr fun z hz => mem_add1.mpr (.inl (a z hz))
  · rw [take_next e] at hz
    rcases List.mem_append.mp hz with hz | hz
    · exact mem_add1.mpr (.inl (h.dn z hz))
    · exact mem_add1.mpr (.inr (List.mem_singleton.mp hz))
  · have := h.ms
    rw [ln] at le
    rw [ln, List.length_append]
    show _ = _ + (ws.length + 1) + 1
    omega
theorem SeaR.done {adj : Str → List Str} {s r : Str} {U fs ws : List Str} {m : Nat} (h : SeaR adj s U r (adj r).length fs ws m) : ∃ m', m' < m ∧ Sea adj s U fs ws m' :=
  ⟨(U.length - fs.length) + ws.length, by have := h.ms; omega, h.nd, h.sub, h.snd, h.wt, fun x hx => by
    by_cases q : x = r
    · subst q
      exact .inr fun y hy => h.dn y (by rw [List.take_length]; exact hy)
    · exact h.cl x hx q, rfl⟩
theorem Sea.all {adj : Str → List Str} {s : Str} {U fs : List Str} {m : Nat} (h : Sea adj s U fs [] m) (y : Str) : y ∈ fs ↔ Rch adj s y := by
  refine ⟨h.snd y, fun r => ?_⟩
  have cl : ∀ x, (x = s ∨ x ∈ fs) → ∀ y ∈ adj x, y ∈ fs := fun x hx => (h.cl x hx).elim (fun z => by cases z) id
  induction r with
  | one a => exact cl _ (.inl rfl) _ a
  | step _ a ih => exact cl _ (.inr ih) _ a
section
variable {P : Program} {w : World} {K : PySem.W.Frag} {mg : Str → Option Value} {base : Heap}
abbrev sRc : Stmt := topS 5
abbrev nRc : List Str := ["edges", "start", "found", "waiting", "relation", "other"]
theorem scRc : FnScope nRc ["edges", "start"] (defScope sRc) := ⟨rfl, rfl, rfl, by decide +kernel, rfl, by decide +kernel, by decide +kernel⟩
def spRc : Sp := fun vs H Q _ => ∃ (a : Addr) (x : Str) (kvs : List (Key × V)) (adj : Str → List Str) (U : List Str), vs = [.ref a, .str x] ∧ Rd H a (.dK kvs) ∧ AdjK H kvs adj ∧ (∀ x y, y ∈ adj x → y ∈ U) ∧ U.length ≤ 1000 ∧
  ∀ p fs H', Same H H' → H p = none → H' p = some (.dK (bK fs)) → fs.length ≤ 1000 → (∀ y, y ∈ fs ↔ Rch adj x y) → Q (.ref p) H'
theorem ok_rc {f : Addr} {fd : FuncData} (F : Fun K "reached" "reached" sRc f fd) : FnOk P w K mg base CX0 1 f fd ["edges", "start"] spRc := by
  refine F.ok scRc (fun vs H Q E h => ?_) (fun cdv A outer s H vs Q E hr h => ?_)
  · obtain ⟨_, _, _, _, _, rfl, _⟩ := h
    rfl
  · obtain ⟨a, x, kvs, adj, U, rfl, rd, ad, hU, lU, q⟩ := h
    have hu := hu_of hr
    refine ⟨_, (pss_cons (ps_set (i := 2) scRc.nd rfl (.inl rfl) pe_dnewK)
      (pss_cons (ps_set (i := 3) scRc.nd rfl (.inl rfl) (pe_lst (pa_cons (pv 1) pa_nil)))
      (pss_cons (ps_while PassesOwn.never (pt_truth (pv 3) (by intro _; rfl))
        (pss_cons (ps_set (i := 4) scRc.nd rfl (.inl rfl) (pe_bm0 PySem.F.plainAttrs_list PySem.F.slot_list_pop PySem.F.type_list_pop mt_pop (pv 3)))
        (pss_one (ps_for PassesOwn.never rfl (pi_list (pe_dget2 hu (pv 0) (pv 4) (pe_lst pa_nil) ⟨rfl, rfl, rfl, rfl⟩)) (pg_name (i := 5) scRc.nd rfl (Or.inl rfl))
          (pss_one (ps_if (pt_cmp (pc_dnotin hu (pv 5) (pv 2)))
            (pss_cons (ps_dput hu (pv 2) (pv 5) pe_bl rfl)
            (pss_one (ps_expr (pe_bm PySem.F.plainAttrs_list PySem.F.slot_list_append PySem.F.type_list_append mt_append (pv 3) (pa_cons (pv 5) pa_nil)))))
            pss_nil))))))
      (pss_one (ps_ret (pv 2)))))), ?_⟩
    refine fun p np => ?_
    generalize hG : upd _ p _ = H1
    obtain ⟨s1, e1⟩ := gen_up hG np
    clear hG
    refine ⟨.str x, rfl, len1, fun w nw => ?_⟩
    generalize hG : upd _ w _ = H2
    obtain ⟨s2, e2⟩ := gen_up hG nw
    clear hG
    have npw : p ≠ w := fun z => by rw [← z, e1] at nw; cases nw
    have nw0 : H w = none := by
      cases e : H w with
      | none => rfl
      | some o => rw [s1 _ _ e] at nw; cases nw
    have s02 := s1.trans s2
    have S0 : Sea adj x U [] [x] (U.length + 1) := ⟨List.nodup_nil, (fun y hy => by cases hy), (fun y hy => by cases hy), fun y hy => .inl (List.mem_singleton.mp hy), fun y hy => .inl (by
      rcases hy with rfl | hy
      · exact List.mem_singleton.mpr rfl
      · cases hy), rfl⟩
    refine ⟨fun m σ H' => ∃ fs ws x4 x5, σ = [some (.ref a), some (.str x), some (.ref p), some (.ref w), x4, x5] ∧ Same H H' ∧ H' p = some (.dK (bK fs)) ∧ H' w = some (.lst (ws.map V.str)) ∧ Sea adj x U fs ws m ∧ m ≤ 1001, ⟨U.length + 1, [], [x], none, none, rfl, s02, s2 _ _ e1, e2, S0, by omega⟩, fun m σ H' hW => ?_⟩
    obtain ⟨fs, ws, x4, x5, rfl, sm, ep, ew, S, hm⟩ := hW
    refine ⟨.ref w, rfl, !(ws.map V.str).isEmpty, .inl ⟨_, SqL.of ew, rfl⟩, ?_⟩
    rcases List.eq_nil_or_concat ws with rfl | ⟨ws', r, ew'⟩
    · refine iteF' rfl ?_
      exact ⟨.ref p, rfl, q p fs H' sm np ep (Nat.le_trans (nodup_le S.nd S.sub) lU) S.all⟩
    · rw [List.concat_eq_append] at ew'
      subst ew'
      refine iteT' (by simp) ?_
      refine ⟨fun σ' H' => ∃ m', m' < m ∧ ∃ fs ws x4 x5, σ' = [some (.ref a), some (.str x), some (.ref p), some (.ref w), x4, x5] ∧ Same H H' ∧ H' p = some (.dK (bK fs)) ∧ H' w = some (.lst (ws.map V.str)) ∧ Sea adj x U fs ws m' ∧ m' ≤ 1001, fun σ' H' h => h, ?_⟩
      refine ⟨.ref w, rfl, .inl ⟨rfl, _, SqL.of ew⟩, w, _, .str r, rfl, rfl, ew, by simp, ?_⟩
      have edl : ((ws' ++ [r]).map V.str).dropLast = ws'.map V.str := by simp
      rw [edl]
      generalize hG : upd _ w _ = H3
      obtain ⟨e3, k3⟩ := gen_wr hG
      clear hG
      have s03 : Same H H3 := fun c o h => k3 c o (fun z => by rw [z, nw0] at h; cases h) (sm _ _ h)
      have ep3 := k3 _ _ npw ep
      have rd3 := Rd.same rd s03
      refine ⟨.ref a, rfl, a, rfl, .inl ⟨kvs, rd3⟩, .str r, rfl, Nat.zero_le _, fun z nz => ?_⟩
      generalize hG : upd _ z _ = H4
      obtain ⟨s4, e4⟩ := gen_up hG nz
      clear hG
      have s04 := s03.trans s4
      refine ⟨valV kvs (Sum.inr r : Key), .inl ⟨kvs, Sum.inr r, Rd.same rd3 s4, rfl, rfl⟩, ?_⟩
      obtain ⟨lp, ev, el, lp1, lp2⟩ : ∃ lp, (valV kvs (Sum.inr r : Key)).getD (.ref z) = .ref lp ∧ H4 lp = some (.lst ((adj r).map V.str)) ∧ lp ≠ p ∧ lp ≠ w := by
        rcases ad r with ⟨a1, a2⟩ | ⟨lp, a1, a2⟩
        · refine ⟨z, by rw [a1]; rfl, by rw [a2]; exact e4, fun y => ?_, fun y => ?_⟩
          · rw [y, ep3] at nz; cases nz
          · rw [y, e3] at nz; cases nz
        · refine ⟨lp, by rw [a1]; rfl, s04 _ _ a2, fun y => ?_, fun y => ?_⟩
          · rw [y, np] at a2; cases a2
          · rw [y, nw0] at a2; cases a2
      rw [ev]
      refine ⟨lp, rfl, ⟨_, SqL.of el⟩, ?_⟩
      refine for_list (K := K) (a := lp) (xs := (adj r).map V.str) (fun i σ H' => ∃ fs ws x5, σ = [some (.ref a), some (.str x), some (.ref p), some (.ref w), some (.str r), x5] ∧ Same H H' ∧ H' lp = some (.lst ((adj r).map V.str)) ∧ H' p = some (.dK (bK fs)) ∧ H' w = some (.lst (ws.map V.str)) ∧ SeaR adj x U r i fs ws m) ⟨fs, ws', x5, rfl, s04, el, s4 _ _ ep3, s4 _ _ e3, S.pop⟩ (fun i σ H' _ hP => by obtain ⟨_, _, _, _, _, h, _⟩ := hP; exact SqL.of h) (fun i y σ Hi hi hP => ?_) (fun σ H' hP => ?_)
      · obtain ⟨fs, ws, x5, rfl, sm, el, ep, ew, SR⟩ := hP
        rw [List.getElem?_map] at hi
        obtain ⟨y, ey, rfl⟩ := Option.map_eq_some_iff.mp hi
        have lfs := Nat.le_trans (nodup_le SR.nd SR.sub) lU
        refine ⟨.str y, rfl, .ref p, rfl, p, valV (bK fs) (Sum.inr y : Key), rfl, DGet.k (k := Sum.inr y) ep, ?_⟩
        have eb := bK_bound fs y
        by_cases c : y ∈ fs
        · rw [decide_eq_true c] at eb
          refine ⟨!(valV (bK fs) (Sum.inr y : Key)).isSome, rfl, iteF' (by rw [eb]; rfl) ?_⟩
          exact ⟨fs, ws, _, rfl, sm, el, ep, ew, SR.old ey c⟩
        · rw [decide_eq_false c] at eb
          refine ⟨!(valV (bK fs) (Sum.inr y : Key)).isSome, rfl, iteT' (by rw [eb]; rfl) ?_⟩
          refine ⟨.ref p, rfl, .str y, rfl, p, _, rfl, DPut.k (k := Sum.inr y) ep (small7 (by rw [bK_len]; omega)), ?_⟩
          rw [bK_put]
          generalize hG : upd _ p _ = Hj
          obtain ⟨ej, kj⟩ := gen_wr hG
          clear hG
          have ew' := kj _ _ npw.symm ew
          have lws : ws.length ≤ 1001 := by have := SR.ms; omega
          refine ⟨.ref w, rfl, .inl ⟨rfl, _, SqL.of ew'⟩, .str y, rfl, w, _, _, rfl, rfl, ew', small7 (by rw [List.length_map]; omega), ?_⟩
          refine ⟨add1 fs y, ws ++ [y], _, rfl, fun c o h => ?_, ?_, ?_, ?_, SR.new hU ey c⟩
          · rw [upd_ne (fun z => by rw [z, nw0] at h; cases h)]
            exact kj _ _ (fun z => by rw [z, np] at h; cases h) (sm _ _ h)
          · rw [upd_ne lp2]
            exact kj _ _ lp1 el
          · rw [upd_ne npw]
            exact ej
          · rw [upd_same, List.map_append]
            rfl
      · obtain ⟨fs, ws, x5, rfl, sm, el, ep, ew, SR⟩ := hP
        rw [List.length_map] at SR
        obtain ⟨m', hm', S'⟩ := SR.done
        exact ⟨m', hm', fs, ws, _, _, rfl, sm, ep, ew, S', by omega⟩
abbrev dRc (P : Program) (w : World) (K : PySem.W.Frag) (mg : Str → Option Value) (base : Heap) : Prop := Def P w K mg base "reached" 1 ["edges", "start"] spRc
end
end KU

namespace KU
open PySem PySem.Spec PyProof.Rows PySem.HandSPX L2 KA
/-! ### rules -/
structure Ru where
  nm : Str
  rl : Str
  ts : List T
  ls : List L
def ruD (r : Ru) : PyData := .tuple [.str r.rl, .tuple (r.ts.map tD), .tuple (r.ls.map litD)]
def OkRu (r : Ru) : Prop := (∀ l ∈ r.ls, (litTs l).length ≤ 9) ∧ r.ls.length ≤ 9
def RuK (H : Hp) (ku : List (Key × V)) (R : List Ru) : Prop := ku.map (·.1) = R.map (fun r => (Sum.inr r.nm : Key)) ∧ Tps H (ku.map (·.2)) (R.map ruD)
theorem RuK.mono {H H' : Hp} {ku : List (Key × V)} {R : List Ru} (h : RuK H ku R) (k : Tk H H') : RuK H' ku R := ⟨h.1, h.2.mono k⟩
theorem RuK.length {H : Hp} {ku : List (Key × V)} {R : List Ru} (h : RuK H ku R) : ku.length = R.length := by
  have := h.2.length
  rw [List.length_map, List.length_map] at this
  exact this
/-- a tuple of a rule -/
def RuV (H : Hp) (v : V) (r : Ru) : Prop := ∃ t vt u xs, v = .ref t ∧ H t = some (.tup [.str r.rl, vt, .ref u]) ∧ Tp H vt (.tuple (r.ts.map tD)) ∧ H u = some (.tup xs) ∧ Tps H xs (r.ls.map litD)
theorem ruV_of {H : Hp} {v : V} {r : Ru} (h : Tp H v (ruD r)) : RuV H v r := by
  unfold ruD at h
  cases h with
  | tup a1 a2 => cases a2 with
    | cons b1 a2 => cases a2 with
      | cons b2 a2 => cases a2 with
        | cons b3 a2 =>
          cases a2
          cases b1
          cases b3 with
          | tup c1 c2 => exact ⟨_, _, _, _, rfl, a1, b2, c1, c2⟩
theorem RuK.get {H : Hp} {ku : List (Key × V)} {R : List Ru} (h : RuK H ku R) {i : Nat} {k : Key} {v : V} (e : ku[i]? = some (k, v)) : ∃ r, R[i]? = some r ∧ k = Sum.inr r.nm ∧ Tp H v (ruD r) := by
  have e1 : (ku.map (·.1))[i]? = some k := by rw [List.getElem?_map, e]; rfl
  have e2 : (ku.map (·.2))[i]? = some v := by rw [List.getElem?_map, e]; rfl
  rw [h.1, List.getElem?_map] at e1
  obtain ⟨r, er, ek⟩ := Option.map_eq_some_iff.mp e1
  obtain ⟨d, ed, td⟩ := h.2.get e2
  rw [List.getElem?_map, er] at ed
  cases ed
  exact ⟨r, er, ek.symm, td⟩
def adjOf (R : List Ru) (x : Str) : List Str := R.flatMap fun r => if r.rl = x then (edgesL r.ls).map (·.1) else []
theorem adj_snoc (R : List Ru) (r : Ru) (x : Str) : adjOf (R ++ [r]) x = adjOf R x ++ if r.rl = x then (edgesL r.ls).map (·.1) else [] := by
  unfold adjOf
  rw [List.flatMap_append, List.flatMap_cons, List.flatMap_nil, List.append_nil]
theorem adj_len {R : List Ru} (h : ∀ r ∈ R, OkRu r) (x : Str) : (adjOf R x).length ≤ 9 * R.length := by
  induction R with
  | nil => exact Nat.le_refl _
  | cons r R ih =>
    have h1 := h r List.mem_cons_self
    have h2 := ih fun r hr => h r (List.mem_cons_of_mem _ hr)
    have e : adjOf (r :: R) x = (if r.rl = x then (edgesL r.ls).map (·.1) else []) ++ adjOf R x := rfl
    rw [e, List.length_append, List.length_cons]
    have h3 : (if r.rl = x then (edgesL r.ls).map (·.1) else []).length ≤ 9 := by
      split
      · rw [List.length_map]
        exact Nat.le_trans (edges_len _) h1.2
      · exact Nat.zero_le _
    omega
/-- d.setdefault(x, []), both ways at once -/
theorem dsetd_t {td ty : TE} {σ : L2.St} {H : Hp} {Q : VK} {a : Addr} {x : Str} {kvs : List (Key × V)} (h1 : ∀ R : VK, R (.ref a) H → td σ H R) (h2 : ∀ (H' : Hp) (R : VK), R (.str x) H' → ty σ H' R) (e : H a = some (.dK kvs)) (l : kvs.length ≤ 1000)
    (q : ∀ z, H z = none → ∀ v H5, (valV kvs (Sum.inr x : Key) = some v ∧ H5 = upd H z (.lst [])) ∨ (valV kvs (Sum.inr x : Key) = none ∧ v = .ref z ∧ H5 = upd (upd H z (.lst [])) a (.dK (putK kvs (Sum.inr x : Key) (.ref z)))) → Q v H5) : tDSetd td ty (tLst tNil) σ H Q := by
  refine h1 _ ⟨a, rfl, .inl ⟨kvs, .of e⟩, h2 _ _ ⟨Nat.zero_le _, fun z nz => ?_⟩⟩
  refine ⟨kvs, Sum.inr x, ?_, rfl, small1000 l, fun v hv => q z nz v _ (.inl ⟨hv, rfl⟩), fun hn => q z nz _ _ (.inr ⟨hn, rfl, rfl⟩)⟩
  rw [upd_ne (fun y => by rw [← y, e] at nz; cases nz)]
  exact e
/-- edges: lists by relation, each its own -/
structure EdK (H0 H : Hp) (kvs : List (Key × V)) (R : List Ru) : Prop where
  nd : nd kvs
  len : kvs.length ≤ R.length
  key : ∀ e ∈ kvs, ∃ x, e.1 = (Sum.inr x : Key) ∧ ∃ r ∈ R, r.rl = x
  has : ∀ r ∈ R, (valV kvs (Sum.inr r.rl : Key)).isSome = true
  adj : AdjK H kvs (adjOf R)
  inj : ∀ x y p, valV kvs (Sum.inr x : Key) = some (.ref p) → valV kvs (Sum.inr y : Key) = some (.ref p) → x = y
  new : ∀ x p, valV kvs (Sum.inr x : Key) = some (.ref p) → H0 p = none
section
variable {P : Program} {w : World} {K : PySem.W.Frag} {mg : Str → Option Value} {base : Heap}
abbrev dBe (P : Program) (w : World) (K : PySem.W.Frag) (mg : Str → Option Value) (base : Heap) : Prop := Def P w K mg base "body_edges" 1 ["body"] spBe
theorem edge_get {H : Hp} {xs : List V} {es : List (Str × Bool)} {i : Nat} {x : V} (t : Tps H xs (es.map edgeD)) (hx : xs[i]? = some x) : ∃ e, es[i]? = some e ∧ ∃ q, x = .ref q ∧ H q = some (.tup [.str e.1, .bl e.2]) := by
  obtain ⟨d, ed, td⟩ := t.get hx
  rw [List.getElem?_map] at ed
  obtain ⟨e, ee, rfl⟩ := Option.map_eq_some_iff.mp ed
  refine ⟨e, ee, ?_⟩
  unfold edgeD at td
  cases td with
  | tup a1 a2 => cases a2 with
    | cons b1 a2 => cases a2 with
      | cons b2 a2 =>
        cases a2
        cases b1
        cases b2
        exact ⟨_, rfl, a1⟩
abbrev sAE : Stmt := topS 6
abbrev nAE : List Str := ["rules", "edges", "relation", "_", "body", "edge"]
theorem scAE : FnScope nAE ["rules"] (defScope sAE) := ⟨rfl, rfl, rfl, by decide +kernel, rfl, by decide +kernel, by decide +kernel⟩
def spAE : Sp := fun vs H Q _ => ∃ (a : Addr) (ku : List (Key × V)) (R : List Ru), vs = [.ref a] ∧ H a = some (.dK ku) ∧ RuK H ku R ∧ (∀ r ∈ R, OkRu r) ∧ R.length ≤ 60 ∧
  ∀ p kvs H', Same H H' → H p = none → H' p = some (.dK kvs) → EdK H H' kvs R → Q (.ref p) H'
theorem ok_ae {f : Addr} {fd : FuncData} (F : Fun K "all_edges" "all_edges" sAE f fd) (DBe : dBe P w K mg base) : FnOk P w K mg base CX0 2 f fd ["rules"] spAE := by
  refine F.ok scAE (fun vs H Q E h => ?_) (fun cdv A outer s H vs Q E hr h => ?_)
  · obtain ⟨_, _, _, rfl, _⟩ := h
    rfl
  · obtain ⟨a, ku, R, rfl, ea, rk, ok, lR, q⟩ := h
    have hu := hu_of hr
    refine ⟨_, (pss_cons (ps_set (i := 1) scAE.nd rfl (.inl rfl) pe_dnewK)
      (pss_cons (ps_lock (ps_for PassesOwn.never rfl (pi_values (pv 0)) (pg_tup rfl (pgs_cons (pg_name (i := 2) scAE.nd rfl (Or.inl rfl)) (pgs_cons (pg_name (i := 3) scAE.nd rfl (Or.inl rfl)) (pgs_cons (pg_name (i := 4) scAE.nd rfl (Or.inl rfl)) pgs_nil))))
        (pss_one (ps_expr (pe_bm PySem.F.plainAttrs_list PySem.F.slot_list_extend PySem.F.type_list_extend mt_extend (pe_dsetd (pv 1) (pv 2) (pe_lst pa_nil) ⟨rfl, rfl, rfl, rfl⟩) (pa_cons (pe_lc (own := [("edge", 5)]) (g := (gName 5)) (tt := tYes) (te := (tOp (rIxT K) (tVar 5) (tC (.int 0)))) rfl scAE.nd (pi_list (pe_def DBe (hr.mono (by decide)) (by rfl) (pa_cons (pv 4) pa_nil))) (blkOk_by (own := [("edge", 5)]) (N := nAE) (sc := defScope sAE) (by decide +kernel)) (fun _ _ _ _ _ => (pg_name (i := 5) scAE.nd rfl (Or.inl rfl))) (fun _ _ _ _ _ => pts_nil) (fun _ _ _ _ _ => (pe_ix ix_tup (pv 5) pe_int (fun _ _ => rfl)))) pa_nil))))))
      (pss_one (ps_ret (pv 1))))), ?_⟩
    refine fun p np => ?_
    generalize hG : upd _ p _ = H1
    obtain ⟨s1, e1⟩ := gen_up hG np
    clear hG
    have lku := rk.length
    have nap : a ≠ p := fun z => by rw [← z, ea] at np; cases np
    refine ⟨a, .dK ku, s1 _ _ ea, trivial, fun od => ?_⟩
    refine ⟨.ref a, rfl, a, od, ku, rfl, upd_same, ?_⟩
    refine for_it walk_values (fun i σ H' => (∃ x2 x3 x4, σ = [some (.ref a), some (.ref p), x2, x3, x4, none]) ∧ H' a = some (.frz od (.dK ku)) ∧ (∀ c o, c ≠ a → H c = some o → H' c = some o) ∧ ∃ kvs, H' p = some (.dK kvs) ∧ EdK H H' kvs (R.take i)) ⟨⟨none, none, none, rfl⟩, upd_same, fun c o hc h => by rw [upd_ne hc]; exact s1 _ _ h, [], by rw [upd_ne nap.symm]; exact e1, List.nodup_nil, Nat.le_refl _, (fun e he => by cases he), (fun r hr => by cases hr), fun x => .inl ⟨rfl, rfl⟩, (fun x y p z => by cases z), (fun x p z => by cases z)⟩
      (fun i σ H' _ hP => hP.2.1) (fun i x σ H1 H' hi hP hY => ?_) (fun σ H' hP => ?_)
    · obtain ⟨rfl, k, ek⟩ := hY
      obtain ⟨⟨x2, x3, x4, rfl⟩, ha, kp, kvs, ep, E⟩ := hP
      have tk : Tk H H' := fun c xs h => kp c _ (fun z => by rw [z, ea] at h; cases h) h
      obtain ⟨r, er, _, tr⟩ := (rk.mono tk).get ek
      obtain ⟨t, vt, u, xs, rfl, et, _, eu, tx⟩ := ruV_of tr
      have okr := ok r (List.mem_of_getElem? er)
      have iR := (List.getElem?_eq_some_iff.mp er).1
      have etk := take_next er
      refine ⟨t, _, rfl, SqT.of et, rfl, _, _, rfl, _, _, rfl, _, _, rfl, rfl, ?_⟩
      have lk : kvs.length ≤ 60 := by have := E.len; rw [List.length_take] at this; omega
      show tDSetd (tVar 1) (tVar 2) (tLst tNil) _ _ _
      refine dsetd_t (a := p) (x := r.rl) (kvs := kvs) (fun R h => ⟨.ref p, rfl, h⟩) (fun H' R h => ⟨.str r.rl, rfl, h⟩) ep (by omega) fun z nz v H5 hc => ?_
      have s0z := same_new (o := .lst []) nz
      have nzp : z ≠ p := fun y => by rw [y, ep] at nz; cases nz
      have nza : z ≠ a := fun y => by rw [y, ha] at nz; cases nz
      have nzH : H z = none := by
        cases e : H z with
        | none => rfl
        | some o => rw [kp z o nza e] at nz; cases nz
      obtain ⟨lp, kvs5, ev, e5p, e5l, k5, n5, l5, key5, has5, adj5, inj5, new5, vlp⟩ : ∃ lp kvs5, v = .ref lp ∧ H5 p = some (.dK kvs5) ∧ H5 lp = some (.lst ((adjOf (R.take i) r.rl).map V.str)) ∧ (∀ c o, c ≠ p → H' c = some o → H5 c = some o) ∧ nd kvs5 ∧ kvs5.length ≤ i + 1 ∧
          (∀ e ∈ kvs5, ∃ x, e.1 = (Sum.inr x : Key) ∧ ∃ r' ∈ R.take (i + 1), r'.rl = x) ∧ (∀ r' ∈ R.take (i + 1), (valV kvs5 (Sum.inr r'.rl : Key)).isSome = true) ∧ AdjK H5 kvs5 (adjOf (R.take i)) ∧ (∀ x y p, valV kvs5 (Sum.inr x : Key) = some (.ref p) → valV kvs5 (Sum.inr y : Key) = some (.ref p) → x = y) ∧ (∀ x p, valV kvs5 (Sum.inr x : Key) = some (.ref p) → H p = none) ∧ valV kvs5 (Sum.inr r.rl : Key) = some (.ref lp) := by
        have len0 := E.len
        rw [List.length_take] at len0
        have up : ∀ {r' : Ru}, r' ∈ R.take i → r' ∈ R.take (i + 1) := fun h => by rw [etk]; exact List.mem_append_left _ h
        rcases hc with ⟨hv, rfl⟩ | ⟨hv, rfl, rfl⟩
        · rcases E.adj r.rl with ⟨a1, _⟩ | ⟨lp, a1, a2⟩
          · rw [hv] at a1; cases a1
          · rw [hv] at a1
            cases a1
            refine ⟨lp, kvs, rfl, s0z _ _ ep, s0z _ _ a2, fun c o _ h => s0z _ _ h, E.nd, by omega, fun e he => ?_, fun r' hr' => ?_, E.adj.same s0z, E.inj, E.new, hv⟩
            · obtain ⟨x, h1, r', h2, h3⟩ := E.key e he
              exact ⟨x, h1, r', up h2, h3⟩
            · rw [etk] at hr'
              rcases List.mem_append.mp hr' with h | h
              · exact E.has r' h
              · rw [List.mem_singleton.mp h, hv]
                rfl
        · have hadj : adjOf (R.take i) r.rl = [] := by
            rcases E.adj r.rl with ⟨_, a2⟩ | ⟨lp, a1, _⟩
            · exact a2
            · rw [hv] at a1; cases a1
          have kk : ∀ c o, c ≠ p → H' c = some o → (upd (upd H' z (.lst [])) p (.dK (putK kvs (Sum.inr r.rl : Key) (.ref z)))) c = some o := fun c o hc h => by rw [upd_ne hc]; exact s0z _ _ h
          refine ⟨z, putK kvs (Sum.inr r.rl : Key) (.ref z), rfl, upd_same, by rw [upd_ne nzp, upd_same, hadj]; rfl, kk, nd_put E.nd _ _, by have := length_putK kvs (Sum.inr r.rl : Key) (.ref z); omega, fun e he => ?_, fun r' hr' => ?_, fun x => ?_, fun x y q h1 h2 => ?_, fun x q h1 => ?_, ?_⟩
          · obtain ⟨k1, v1⟩ := e
            rcases (mem_put E.nd).mp he with ⟨h1, _⟩ | ⟨_, h1⟩
            · exact ⟨r.rl, h1, r, by rw [etk]; exact List.mem_append_right _ (List.mem_singleton.mpr rfl), rfl⟩
            · obtain ⟨x, h1, r', h2, h3⟩ := E.key _ h1
              exact ⟨x, h1, r', up h2, h3⟩
          · rw [valV_put]
            by_cases c : (Sum.inr r'.rl : Key) = Sum.inr r.rl
            · rw [if_pos c]; rfl
            · rw [if_neg c]
              rw [etk] at hr'
              rcases List.mem_append.mp hr' with h | h
              · exact E.has r' h
              · rw [List.mem_singleton.mp h] at c
                exact absurd rfl c
          · rw [valV_put]
            by_cases c : (Sum.inr x : Key) = Sum.inr r.rl
            · rw [if_pos c]
              rw [inr_iff.mp c, hadj]
              exact .inr ⟨z, rfl, by rw [upd_ne nzp, upd_same]; rfl⟩
            · rw [if_neg c]
              rcases E.adj x with h | ⟨q, h1, h2⟩
              · exact .inl h
              · exact .inr ⟨q, h1, kk _ _ (fun y => by rw [y, ep] at h2; cases h2) h2⟩
          · rw [valV_put] at h1 h2
            by_cases c1 : (Sum.inr x : Key) = Sum.inr r.rl
            · by_cases c2 : (Sum.inr y : Key) = Sum.inr r.rl
              · rw [inr_iff.mp c1, inr_iff.mp c2]
              · rw [if_pos c1] at h1
                rw [if_neg c2] at h2
                cases h1
                rcases E.adj y with ⟨g, _⟩ | ⟨q, g1, g2⟩
                · rw [h2] at g; cases g
                · rw [h2] at g1
                  cases g1
                  rw [nz] at g2
                  cases g2
            · rw [if_neg c1] at h1
              by_cases c2 : (Sum.inr y : Key) = Sum.inr r.rl
              · rw [if_pos c2] at h2
                cases h2
                rcases E.adj x with ⟨g, _⟩ | ⟨q, g1, g2⟩
                · rw [h1] at g; cases g
                · rw [h1] at g1
                  cases g1
                  rw [nz] at g2
                  cases g2
              · rw [if_neg c2] at h2
                exact E.inj x y q h1 h2
          · rw [valV_put] at h1
            by_cases c1 : (Sum.inr x : Key) = Sum.inr r.rl
            · rw [if_pos c1] at h1
              cases h1
              exact nzH
            · rw [if_neg c1] at h1
              exact E.new x q h1
          · rw [valV_put, if_pos rfl]
      subst ev
      have nlp : lp ≠ p := fun y => by rw [y, e5p] at e5l; cases e5l
      have nla : lp ≠ a := fun y => by have := new5 _ _ vlp; rw [y, ea] at this; cases this
      have tk5 : Tk H' H5 := fun c xs h => k5 c _ (fun y => by rw [y, ep] at h; cases h) h
      refine ⟨.inl ⟨rfl, _, SqL.of e5l⟩, ?_⟩
      refine ⟨.ref u, rfl, u, xs, r.ls, rfl, k5 _ _ (fun y => by rw [y, ep] at eu; cases eu) eu, tx.mono tk5, okr.2, fun b ys H6 s6 eb tb nb => ?_⟩
      refine ⟨b, rfl, ⟨_, SqL.of eb⟩, fun D nD => ?_⟩
      have lys := tb.length
      rw [List.length_map] at lys
      have leg := edges_len r.ls
      have lr9 := okr.2
      refine lc_list (K := K) (a := b) (xs := ys) (fun j H' => Same H6 H' ∧ H' D = some (.lst (((edgesL r.ls).take j).map fun e => V.str e.1))) ⟨same_new nD, upd_same⟩ (fun j H' _ hP => SqL.of (hP.1 _ _ eb)) (fun j y Hj hj hP => ?_) (fun H7 hP => ?_)
      · obtain ⟨sm, eD⟩ := hP
        obtain ⟨e, ee, qq, rfl, eq⟩ := edge_get tb hj
        refine ⟨rfl, ?_⟩
        refine iteT (B := True) ?_
        refine ⟨.ref qq, rfl, qq, _, 0, .str e.1, rfl, rfl, SqT.of (sm _ _ eq), rfl, ?_⟩
        refine ⟨_, eD, small7 (by rw [List.length_map, List.length_take]; omega), same_put sm nD, ?_⟩
        rw [upd_same, take_next ee, List.map_append]
        rfl
      · obtain ⟨sm, eD⟩ := hP
        rw [lys, List.take_length] at eD
        have s57 := s6.trans sm
        have la := adj_len (R := R.take i) (fun r hr => ok r (List.mem_of_mem_take hr)) r.rl
        rw [List.length_take] at la
        have nlD : lp ≠ D := fun y => by
          have e := s6 _ _ e5l
          rw [y, nD] at e
          cases e
        refine ⟨lp, D, _, _, rfl, rfl, s57 _ _ e5l, eD, small6 (by rw [List.length_map, List.length_map]; omega), ?_⟩
        generalize hG : upd H7 lp _ = H8
        obtain ⟨e8, k8⟩ := gen_wr hG
        clear hG
        have k58 : ∀ c o, c ≠ lp → H5 c = some o → H8 c = some o := fun c o hc h => k8 c o hc (s57 _ _ h)
        refine ⟨⟨_, _, _, rfl⟩, k58 _ _ nla.symm (k5 _ _ nap ha), fun c o hc h => ?_, kvs5, k58 _ _ nlp.symm e5p, n5, by rw [List.length_take]; omega, key5, has5, fun x => ?_, inj5, new5⟩
        · refine k58 c o (fun y => ?_) (k5 c o (fun y => ?_) (kp c o hc h))
          · rw [y, new5 _ _ vlp] at h
            cases h
          · rw [y, np] at h
            cases h
        · rw [etk, adj_snoc]
          by_cases c : r.rl = x
          · subst c
            refine .inr ⟨lp, vlp, ?_⟩
            rw [e8, if_pos rfl, List.map_append, List.map_map]
            rfl
          · rw [if_neg c, List.append_nil]
            rcases adj5 x with h | ⟨q, h1, h2⟩
            · exact .inl h
            · exact .inr ⟨q, h1, k58 _ _ (fun y => c (inj5 _ _ lp vlp (by rw [← y]; exact h1))) h2⟩
    · obtain ⟨⟨x2, x3, x4, rfl⟩, ha, kp, kvs, ep, E⟩ := hP
      rw [lku, List.take_length] at E
      refine ⟨ha, .ref p, rfl, ?_⟩
      have cp : (upd H' a (.dK ku)) p = some (.dK kvs) := by rw [upd_ne nap.symm]; exact ep
      refine q p kvs _ (fun c o h => ?_) np cp ⟨E.nd, E.len, E.key, E.has, fun x => ?_, E.inj, E.new⟩
      · by_cases z : c = a
        · subst z
          rw [upd_same, ← ea, h]
        · rw [upd_ne z]
          exact kp c o z h
      · rcases E.adj x with h | ⟨lp, h1, h2⟩
        · exact .inl h
        · exact .inr ⟨lp, h1, by rw [upd_ne (fun y => by rw [y, ha] at h2; cases h2)]; exact h2⟩
abbrev dAE (P : Program) (w : World) (K : PySem.W.Frag) (mg : Str → Option Value) (base : Heap) : Prop := Def P w K mg base "all_edges" 2 ["rules"] spAE
end
end KU

namespace KU
open PySem PySem.Spec PyProof.Rows PySem.HandSPX L2 KA
def allOf (R : List Ru) : List Str := R.flatMap fun r => (edgesL r.ls).map (·.1)
theorem all_len {R : List Ru} (h : ∀ r ∈ R, OkRu r) : (allOf R).length ≤ 9 * R.length := by
  induction R with
  | nil => exact Nat.le_refl _
  | cons r R ih =>
    have h1 := h r List.mem_cons_self
    have h2 := ih fun r hr => h r (List.mem_cons_of_mem _ hr)
    have e : allOf (r :: R) = (edgesL r.ls).map (·.1) ++ allOf R := rfl
    have h3 := Nat.le_trans (edges_len r.ls) h1.2
    rw [e, List.length_append, List.length_cons, List.length_map]
    omega
theorem mem_adj {R : List Ru} {x y : Str} : y ∈ adjOf R x ↔ ∃ r ∈ R, r.rl = x ∧ ∃ e ∈ edgesL r.ls, e.1 = y := by
  unfold adjOf
  rw [List.mem_flatMap]
  constructor
  · rintro ⟨r, hr, h⟩
    by_cases c : r.rl = x
    · rw [if_pos c] at h
      obtain ⟨e, he, ee⟩ := List.mem_map.mp h
      exact ⟨r, hr, c, e, he, ee⟩
    · rw [if_neg c] at h
      cases h
  · rintro ⟨r, hr, c, e, he, ee⟩
    exact ⟨r, hr, by rw [if_pos c]; exact List.mem_map.mpr ⟨e, he, ee⟩⟩
theorem adj_all {R : List Ru} {x y : Str} (h : y ∈ adjOf R x) : y ∈ allOf R := by
  obtain ⟨r, hr, _, e, he, ee⟩ := mem_adj.mp h
  exact List.mem_flatMap.mpr ⟨r, hr, List.mem_map.mpr ⟨e, he, ee⟩⟩
theorem rch_first {adj : Str → List Str} {x y : Str} (h : Rch adj x y) : ∃ z, z ∈ adj x := by
  induction h with
  | one a => exact ⟨_, a⟩
  | step _ _ ih => exact ih
/-- led: what is reached, by relation -/
def LedK (H : Hp) (kvs : List (Key × V)) (R : List Ru) : Prop := ∀ x : Str, (valV kvs (Sum.inr x : Key) = none ∧ ∀ y, ¬ Rch (adjOf R) x y) ∨ ∃ q fs, valV kvs (Sum.inr x : Key) = some (.ref q) ∧ H q = some (.dK (bK fs)) ∧ ∀ y, y ∈ fs ↔ Rch (adjOf R) x y
theorem LedK.same {H H' : Hp} {kvs : List (Key × V)} {R : List Ru} (h : LedK H kvs R) (s : Same H H') : LedK H' kvs R := fun x => by
  rcases h x with a | ⟨q, fs, a, b, c⟩
  · exact .inl a
  · exact .inr ⟨q, fs, a, s _ _ b, c⟩
section
variable {P : Program} {w : World} {K : PySem.W.Frag} {mg : Str → Option Value} {base : Heap}
abbrev sLd : Stmt := topS 7
abbrev nLd : List Str := ["rules", "edges", "relation"]
theorem scLd : FnScope nLd ["rules"] (defScope sLd) := ⟨rfl, rfl, rfl, by decide +kernel, rfl, by decide +kernel, by decide +kernel⟩
def spLd : Sp := fun vs H Q _ => ∃ (a : Addr) (ku : List (Key × V)) (R : List Ru), vs = [.ref a] ∧ H a = some (.dK ku) ∧ RuK H ku R ∧ (∀ r ∈ R, OkRu r) ∧ R.length ≤ 60 ∧
  ∀ p kvs H', Same H H' → H p = none → H' p = some (.dK kvs) → LedK H' kvs R → (∀ x q, valV kvs (Sum.inr x : Key) = some (.ref q) → H q = none) → Q (.ref p) H'
theorem ok_ld {f : Addr} {fd : FuncData} (F : Fun K "leads" "leads" sLd f fd) (DAE : dAE P w K mg base) (DRc : dRc P w K mg base) : FnOk P w K mg base CX0 3 f fd ["rules"] spLd := by
  refine F.ok scLd (fun vs H Q E h => ?_) (fun cdv A outer s H vs Q E hr h => ?_)
  · obtain ⟨_, _, _, rfl, _⟩ := h
    rfl
  · obtain ⟨a, ku, R, rfl, ea, rk, ok, lR, q⟩ := h
    have hu := hu_of hr
    refine ⟨_, (pss_cons (ps_set (i := 1) scLd.nd rfl (.inr rfl) (pe_def DAE (hr.mono (by decide)) (by rfl) (pa_cons (pv 0) pa_nil)))
      (pss_one (ps_ret (pe_lock (pe_dc (own := [("relation", 2)]) (g := (gName 2)) (tt := tYes) rfl scLd.nd (pi_keys (pv 1)) (blkOk_by (own := [("relation", 2)]) (N := nLd) (sc := defScope sLd) (by decide +kernel)) (fun _ _ _ _ _ => (pg_name (i := 2) scLd.nd rfl (Or.inl rfl))) (fun _ _ _ _ _ => pts_nil) (fun _ _ _ _ _ => (pv 2)) (fun _ _ _ _ _ => (pe_def DRc (hr.mono (by decide)) (by rfl) (pa_cons (pv 1) (pa_cons (pv 2) pa_nil))))))))), ?_⟩
    refine ⟨.ref a, rfl, a, ku, R, rfl, ea, rk, ok, lR, fun p ed H1 s1 np e1 E => ?_⟩
    refine ⟨p, .dK ed, e1, trivial, fun od => ?_⟩
    have k0 : ∀ c o, c ≠ p → H1 c = some o → (upd H1 p (.frz od (.dK ed))) c = some o := fun c o hc h => by rw [upd_ne hc]; exact h
    refine ⟨.ref p, rfl, p, od, rfl, .inl ⟨ed, upd_same, fun D nD => ?_⟩⟩
    have nDp : D ≠ p := fun z => by rw [z, upd_same] at nD; cases nD
    have nD1 : H1 D = none := by rw [upd_ne nDp] at nD; exact nD
    have led60 := Nat.le_trans E.len lR
    refine dc_it walk_keys (fun i H' => H' p = some (.frz od (.dK ed)) ∧ (∀ c o, c ≠ p → H1 c = some o → H' c = some o) ∧ ∃ kvs, H' D = some (.dK kvs) ∧ kvs.length ≤ i ∧
      ∀ x : Str, ((Sum.inr x : Key) ∈ (ed.take i).map (·.1) → ∃ q fs, valV kvs (Sum.inr x : Key) = some (.ref q) ∧ H q = none ∧ q ≠ D ∧ H' q = some (.dK (bK fs)) ∧ ∀ y, y ∈ fs ↔ Rch (adjOf R) x y) ∧ ((Sum.inr x : Key) ∉ (ed.take i).map (·.1) → valV kvs (Sum.inr x : Key) = none)) ⟨?_, ?_, [], upd_same, Nat.le_refl _, fun x => ⟨(fun h => by cases h), fun _ => rfl⟩⟩
      (fun i H' _ hP => hP.1) (fun i x Hi H' hi hP hY => ?_) (fun H' hP => ?_)
    · rw [upd_ne nDp.symm]
      exact upd_same
    · intro c o hc h
      rw [upd_ne (ne_of_none h nD1)]
      exact k0 c o hc h
    · obtain ⟨rfl, k, v, ek, rfl⟩ := hY
      obtain ⟨hp, kp, kvs, eD, lk, hx⟩ := hP
      obtain ⟨x, ex, r, hr', er⟩ := E.key _ (List.mem_of_getElem? ek)
      have ex : k = Sum.inr x := ex
      subst ex
      refine ⟨rfl, ?_⟩
      refine iteT (B := True) ?_
      have adi : AdjK H' ed (adjOf R) := fun z => by
        rcases E.adj z with h | ⟨l, h1, h2⟩
        · exact .inl h
        · exact .inr ⟨l, h1, kp _ _ (fun y => by rw [y, e1] at h2; cases h2) h2⟩
      refine ⟨.str x, rfl, .ref p, rfl, .str x, rfl, p, x, ed, adjOf R, allOf R, rfl, .inr ⟨od, hp⟩, adi, fun _ _ h => adj_all h, by have := all_len ok; omega, fun g fs H2 s2 ng eg lf hf => ?_⟩
      have ngD : g ≠ D := fun z => by rw [z, eD] at ng; cases ng
      have ngH : H g = none := by
        cases e : H g with
        | none => rfl
        | some o =>
          rw [kp g o (fun z => by rw [z, hp] at ng; cases ng) (s1 _ _ e)] at ng
          cases ng
      refine ⟨kvs, Sum.inr x, rfl, s2 _ _ eD, small1000 (by omega), ?_, fun c o hc h => ?_, _, upd_same, ?_, fun z => ?_⟩
      · rw [upd_ne nDp.symm]
        exact s2 _ _ hp
      · rw [upd_ne (ne_of_none h nD1)]
        exact s2 _ _ (kp c o hc h)
      · have := length_putK kvs (Sum.inr x : Key) (.ref g)
        omega
      · rw [valV_put]
        have etk : (ed.take (i + 1)).map (·.1) = (ed.take i).map (·.1) ++ [(Sum.inr x : Key)] := by rw [take_next ek, List.map_append]; rfl
        rw [etk]
        constructor
        · intro hm
          by_cases c : (Sum.inr z : Key) = Sum.inr x
          · rw [if_pos c]
            refine ⟨g, fs, rfl, ngH, ngD, by rw [upd_ne ngD]; exact eg, ?_⟩
            rw [inr_iff.mp c]
            exact hf
          · rw [if_neg c]
            rcases List.mem_append.mp hm with hm | hm
            · obtain ⟨q', fs', h1, h0, h2, h3, h4⟩ := (hx z).1 hm
              exact ⟨q', fs', h1, h0, h2, by rw [upd_ne h2]; exact s2 _ _ h3, h4⟩
            · exact absurd (List.mem_singleton.mp hm) c
        · intro hm
          have h1 : (Sum.inr z : Key) ∉ (ed.take i).map (·.1) := fun y => hm (List.mem_append_left _ y)
          have h2 : (Sum.inr z : Key) ≠ Sum.inr x := fun y => hm (List.mem_append_right _ (List.mem_singleton.mpr y))
          rw [if_neg h2]
          exact (hx z).2 h1
    · obtain ⟨hp, kp, kvs, eD, lk, hx⟩ := hP
      refine ⟨hp, ?_⟩
      rw [List.take_length] at hx
      have nDH : H D = none := by
        cases e : H D with
        | none => rfl
        | some o => rw [s1 _ _ e] at nD1; cases nD1
      refine q D kvs _ (fun c o h => ?_) nDH (by rw [upd_ne nDp]; exact eD) (fun x => ?_) (fun x g hg => ?_)
      · have h := s1 _ _ h
        by_cases z : c = p
        · subst z
          rw [upd_same, ← e1, h]
        · rw [upd_ne z]
          exact kp c o z h
      · by_cases c : (Sum.inr x : Key) ∈ ed.map (·.1)
        · obtain ⟨g, fs, h1, _, h2, h3, h4⟩ := (hx x).1 c
          exact .inr ⟨g, fs, h1, by rw [upd_ne (fun z => by rw [z, hp] at h3; cases h3)]; exact h3, h4⟩
        · refine .inl ⟨(hx x).2 c, fun y r => ?_⟩
          obtain ⟨z, hz⟩ := rch_first r
          obtain ⟨r', hr', er, _⟩ := mem_adj.mp hz
          have h := E.has r' hr'
          rw [er] at h
          cases e : valV ed (Sum.inr x : Key) with
          | none => rw [e] at h; cases h
          | some v => exact c (List.mem_map.mpr ⟨_, (mem_val E.nd).mp e, rfl⟩)
      · by_cases c : (Sum.inr x : Key) ∈ ed.map (·.1)
        · obtain ⟨g', fs, h1, h0, _⟩ := (hx x).1 c
          rw [hg] at h1
          cases h1
          exact h0
        · rw [(hx x).2 c] at hg
          cases hg
abbrev dLd (P : Program) (w : World) (K : PySem.W.Frag) (mg : Str → Option Value) (base : Heap) : Prop := Def P w K mg base "leads" 3 ["rules"] spLd
abbrev sCb : Stmt := topS 8
abbrev nCb : List Str := ["other", "relation", "led"]
theorem scCb : FnScope nCb ["other", "relation", "led"] (defScope sCb) := ⟨rfl, rfl, rfl, by decide +kernel, rfl, by decide +kernel, by decide +kernel⟩
def Back (R : List Ru) (o r : Str) : Prop := o = r ∨ Rch (adjOf R) o r
def spCb : Sp := fun vs H Q _ => ∃ (o r : Str) (l : Addr) (kvs : List (Key × V)) (R : List Ru), vs = [.str o, .str r, .ref l] ∧ H l = some (.dK kvs) ∧ LedK H kvs R ∧ ∀ b H', Same H H' → (b = true ↔ Back R o r) → Q (.bl b) H'
theorem ok_cb {f : Addr} {fd : FuncData} (F : Fun K "comes_back" "comes_back" sCb f fd) : FnOk P w K mg base CX0 1 f fd ["other", "relation", "led"] spCb := by
  refine F.ok scCb (fun vs H Q E h => ?_) (fun cdv A outer s H vs Q E hr h => ?_)
  · obtain ⟨_, _, _, _, _, rfl, _⟩ := h
    rfl
  · obtain ⟨o, r, l, kvs, R, rfl, el, led, q⟩ := h
    have hu := hu_of hr
    refine ⟨_, (pss_one (ps_ret (pe_or (pe_cmpR op_eq (pv 0) (pv 1) (nomark _)) (pe_one (pe_cmp (pc_din hu (pv 1) (pe_dget2 hu (pv 2) (pv 0) pe_dnewK ⟨rfl, rfl, rfl, rfl⟩))))))), ?_⟩
    refine ⟨.str o, rfl, .str r, rfl, rfl, _, rfl, ?_⟩
    by_cases c : o = r
    · subst c
      exact iteT' (decide_eq_true rfl) (q true H (fun _ _ h => h) ⟨fun _ => .inl rfl, fun _ => rfl⟩)
    · refine iteF' (decide_eq_false fun z => c (by injection z)) ?_
      refine ⟨.str r, rfl, .ref l, rfl, l, rfl, .inl ⟨kvs, .of el⟩, .str o, rfl, fun z nz => ?_⟩
      generalize hG : upd _ z _ = H1
      obtain ⟨s1, e1⟩ := gen_up hG nz
      clear hG
      refine ⟨valV kvs (Sum.inr o : Key), .inl ⟨kvs, Sum.inr o, .inl (s1 _ _ el), rfl, rfl⟩, ?_⟩
      rcases led o with ⟨a1, a2⟩ | ⟨g, fs, a1, a2, a3⟩
      · rw [a1]
        refine ⟨z, valV [] (Sum.inr r : Key), rfl, DGet.k (k := Sum.inr r) e1, ?_⟩
        exact q _ H1 s1 ⟨(fun h => by cases h), fun h => h.elim (fun z => absurd z c) fun z => absurd z (a2 r)⟩
      · rw [a1]
        refine ⟨g, valV (bK fs) (Sum.inr r : Key), rfl, DGet.k (k := Sum.inr r) (s1 _ _ a2), ?_⟩
        have eb := bK_bound fs r
        rw [eb]
        refine q _ H1 s1 ⟨fun h => .inr ((a3 r).mp (of_decide_eq_true h)), fun h => decide_eq_true (h.elim (fun z => absurd z c) fun z => (a3 r).mpr z)⟩
abbrev dCb (P : Program) (w : World) (K : PySem.W.Frag) (mg : Str → Option Value) (base : Heap) : Prop := Def P w K mg base "comes_back" 1 ["other", "relation", "led"] spCb
end
end KU

namespace KU
open PySem PySem.Spec PyProof.Rows PySem.HandSPX L2 KA
/-- further built-in names that are still the built-in ones -/
structure Bt2 (mg : Str → Option Value) : Prop where
  any : mg "any" = none
  sorted : mg "sorted" = none
  max : mg "max" = none
  dict : mg "dict" = none
def Ring (R : List Ru) : Prop := ∃ r ∈ R, ∃ e ∈ edgesL r.ls, e.2 = true ∧ Back R e.1 r.rl
def Grow (R : List Ru) (r : Ru) : Prop := makesL [] r.ls = true ∧ ∃ e ∈ edgesL r.ls, Back R e.1 r.rl
def Least (R : List Ru) (r : Ru) : Prop := Grow R r ∧ ∀ r' ∈ R, Grow R r' → r'.nm = r.nm ∨ r.nm.cps.toList < r'.nm.cps.toList
def FgV (R : List Ru) (v : V) : Prop := (∃ r ∈ R, Least R r ∧ v = .str r.nm) ∨ ((∀ r ∈ R, ¬ Grow R r) ∧ v = .non)
theorem RuK.look {H : Hp} {ku : List (Key × V)} {R : List Ru} (h : RuK H ku R) (n : (R.map Ru.nm).Nodup) {r : Ru} (hr : r ∈ R) : ∃ v, valV ku (Sum.inr r.nm : Key) = some v ∧ Tp H v (ruD r) := by
  obtain ⟨i, hi, e⟩ := List.mem_iff_getElem.mp hr
  have er : R[i]? = some r := by rw [List.getElem?_eq_getElem hi, e]
  have lk := h.length
  obtain ⟨⟨k, v⟩, ek⟩ : ∃ kv, ku[i]? = some kv := ⟨_, List.getElem?_eq_getElem (by omega)⟩
  obtain ⟨r', er', rfl, tv⟩ := h.get ek
  rw [er] at er'
  cases er'
  have hn : nd ku := by
    show (ku.map (·.1)).Nodup
    rw [h.1, show R.map (fun r => (Sum.inr r.nm : Key)) = (R.map Ru.nm).map Sum.inr by rw [List.map_map]; rfl]
    exact List.Pairwise.map _ (fun a b q z => q (inr_iff.mp z)) n
  exact ⟨v, (mem_val hn).mpr (List.mem_of_getElem? ek), tv⟩
theorem same_nm {R : List Ru} (n : (R.map Ru.nm).Nodup) {r r' : Ru} (h : r ∈ R) (h' : r' ∈ R) (e : r.nm = r'.nm) : r = r' := by
  induction R with
  | nil => cases h
  | cons x R ih =>
    have n2 := List.nodup_cons.mp n
    rcases List.mem_cons.mp h with g | g
    · rcases List.mem_cons.mp h' with g' | g'
      · rw [g, g']
      · exact absurd (List.mem_map.mpr ⟨_, g', e.symm.trans (by rw [g])⟩) n2.1
    · rcases List.mem_cons.mp h' with g' | g'
      · exact absurd (List.mem_map.mpr ⟨_, g, e.trans (by rw [g'])⟩) n2.1
      · exact ih n2.2 g g'
section
variable {P : Program} {w : World} {K : PySem.W.Frag} {mg : Str → Option Value} {base : Heap}
abbrev sHr : Stmt := topS 9
abbrev nHr : List Str := ["rules", "led", "relation", "_", "body", "other", "below"]
theorem scHr : FnScope nHr ["rules", "led"] (defScope sHr) := ⟨rfl, rfl, rfl, by decide +kernel, rfl, by decide +kernel, by decide +kernel⟩
def spHr : Sp := fun vs H Q _ => ∃ (a l : Addr) (ku kvs : List (Key × V)) (R : List Ru), vs = [.ref a, .ref l] ∧ H a = some (.dK ku) ∧ RuK H ku R ∧ (∀ r ∈ R, OkRu r) ∧ R.length ≤ 60 ∧ H l = some (.dK kvs) ∧ LedK H kvs R ∧ a ≠ l ∧ (∀ x q, valV kvs (Sum.inr x : Key) = some (.ref q) → q ≠ a) ∧
  ∀ b H', Same H H' → (b = true ↔ Ring R) → Q (.bl b) H'
theorem ok_hr {f : Addr} {fd : FuncData} (F : Fun K "has_ring" "has_ring" sHr f fd) (Bx : Bt2 mg) (DBe : dBe P w K mg base) (DCb : dCb P w K mg base) : FnOk P w K mg base CX0 2 f fd ["rules", "led"] spHr := by
  refine F.ok scHr (fun vs H Q E h => ?_) (fun cdv A outer s H vs Q E hr h => ?_)
  · obtain ⟨_, _, _, _, _, rfl, _⟩ := h
    rfl
  · obtain ⟨a, l, ku, kvs, R, rfl, ea, rk, ok, lR, el, led, nal, nq, q⟩ := h
    have hu := hu_of hr
    refine ⟨_, (pss_cons (ps_lock (ps_for PassesOwn.never rfl (pi_values (pv 0)) (pg_tup rfl (pgs_cons (pg_name (i := 2) scHr.nd rfl (Or.inr rfl)) (pgs_cons (pg_name (i := 3) scHr.nd rfl (Or.inl rfl)) (pgs_cons (pg_name (i := 4) scHr.nd rfl (Or.inl rfl)) pgs_nil))))
        (pss_one (ps_if (pt_val (pe_callB (cr_any rfl) (by rfl) Bx.any (by decide +kernel) (pa_cons (pe_lc (own := [("other", 5), ("below", 6)]) (g := (gTup K 2 (gCons (gName 5) (gCons (gName 6) gNil)))) (tt := tYes) (te := (tAndV (tVar 6) (tCall spCb [] E0 (tCons (tVar 5) (tCons (tVar 2) (tCons (tVar 1) tNil)))))) rfl scHr.nd (pi_list (pe_def DBe (hr.mono (by decide)) (by rfl) (pa_cons (pv 4) pa_nil))) (blkOk_by (own := [("other", 5), ("below", 6)]) (N := nHr) (sc := defScope sHr) (by decide +kernel)) (fun _ _ _ _ _ => (pg_tup rfl (pgs_cons (pg_name (i := 5) scHr.nd rfl (Or.inl rfl)) (pgs_cons (pg_name (i := 6) scHr.nd rfl (Or.inl rfl)) pgs_nil)))) (fun _ _ _ _ _ => pts_nil) (fun _ _ _ _ _ => (pe_and (pv 6) (pe_one (pe_def DCb (hr.mono (by decide)) (by rfl) (pa_cons (pv 5) (pa_cons (pv 2) (pa_cons (pv 1) pa_nil)))))))) pa_nil)))
          (pss_one (ps_ret pe_bl))
          pss_nil))))
      (pss_one (ps_ret pe_bl))), ?_⟩
    have lku := rk.length
    refine ⟨a, .dK ku, ea, trivial, fun od => ?_⟩
    refine ⟨.ref a, rfl, a, od, ku, rfl, upd_same, ?_⟩
    have un : ∀ {H' : Hp}, H' a = some (.frz od (.dK ku)) → (∀ c o, c ≠ a → H c = some o → H' c = some o) → Same H (upd H' a (.dK ku)) := fun {H'} h1 h2 c o h => by
      by_cases z : c = a
      · subst z
        rw [upd_same, ← ea, h]
      · rw [upd_ne z]
        exact h2 c o z h
    refine for_it walk_values (fun i σ H' => (∃ x2 x3 x4, σ = [some (.ref a), some (.ref l), x2, x3, x4, none, none]) ∧ H' a = some (.frz od (.dK ku)) ∧ (∀ c o, c ≠ a → H c = some o → H' c = some o) ∧ ∀ r ∈ R.take i, ¬ ∃ e ∈ edgesL r.ls, e.2 = true ∧ Back R e.1 r.rl) ⟨⟨none, none, none, rfl⟩, upd_same, (fun c o hc h => by rw [upd_ne hc]; exact h), fun r hr => by cases hr⟩
      (fun i σ H' _ hP => hP.2.1) (fun i x σ H1 H' hi hP hY => ?_) (fun σ H' hP => ?_)
    · obtain ⟨rfl, k, ek⟩ := hY
      obtain ⟨⟨x2, x3, x4, rfl⟩, ha, kp, no⟩ := hP
      have tk : Tk H H' := fun c xs h => kp c _ (fun z => by rw [z, ea] at h; cases h) h
      obtain ⟨r, er, _, tr⟩ := (rk.mono tk).get ek
      obtain ⟨t, vt, u, xs, rfl, et, _, eu, tx⟩ := ruV_of tr
      have okr := ok r (List.mem_of_getElem? er)
      have etk := take_next er
      have ledH : LedK H' kvs R := fun x => by
        rcases led x with h | ⟨g, fs, h1, h2, h3⟩
        · exact .inl h
        · exact .inr ⟨g, fs, h1, kp _ _ (nq x g h1) h2, h3⟩
      have elH := kp _ _ nal.symm el
      refine ⟨t, _, rfl, SqT.of et, rfl, _, _, rfl, _, _, rfl, _, _, rfl, rfl, ?_⟩
      refine ⟨.ref u, rfl, u, xs, r.ls, rfl, eu, tx, okr.2, fun b ys H6 s6 eb tb nb => ?_⟩
      refine ⟨b, rfl, ⟨_, SqL.of eb⟩, fun D nD => ?_⟩
      have lys := tb.length
      rw [List.length_map] at lys
      have leg := edges_len r.ls
      have lr9 := okr.2
      refine lc_list (K := K) (a := b) (xs := ys) (fun j H' => Same H6 H' ∧ ∃ bs : List Bool, H' D = some (.lst (bs.map V.bl)) ∧ bs.length = j ∧ (bs.any id = true ↔ ∃ e ∈ (edgesL r.ls).take j, e.2 = true ∧ Back R e.1 r.rl)) ⟨same_new nD, [], upd_same, rfl, ⟨(fun z => by cases z), fun ⟨_, z, _⟩ => by cases z⟩⟩ (fun j H' _ hP => SqL.of (hP.1 _ _ eb)) (fun j y Hj hj hP => ?_) (fun H7 hP => ?_)
      · obtain ⟨sm, bs, eD, lb, hb⟩ := hP
        obtain ⟨e, ee, qq, rfl, eq⟩ := edge_get tb hj
        have ljj := (List.getElem?_eq_some_iff.mp ee).1
        refine ⟨qq, _, rfl, SqT.of (sm _ _ eq), rfl, _, _, rfl, _, _, rfl, rfl, rfl, ?_⟩
        refine iteT (B := True) ?_
        have s2j := s6.trans sm
        have fin : ∀ (k : Bool) (H8 : Hp), Same Hj H8 → (k = true ↔ e.2 = true ∧ Back R e.1 r.rl) → ∃ acc, H8 D = some (.lst acc) ∧ acc.length < sizeLine ∧ (Same H6 (upd H8 D (.lst (acc ++ [.bl k]))) ∧ ∃ bs : List Bool, (upd H8 D (.lst (acc ++ [.bl k]))) D = some (.lst (bs.map V.bl)) ∧ bs.length = j + 1 ∧ (bs.any id = true ↔ ∃ e ∈ (edgesL r.ls).take (j + 1), e.2 = true ∧ Back R e.1 r.rl)) := fun k H8 s8 hk => by
          refine ⟨_, s8 _ _ eD, small7 (by rw [List.length_map]; omega), same_put (sm.trans s8) nD, bs ++ [k], by rw [upd_same, List.map_append]; rfl, by rw [List.length_append, lb]; rfl, ?_⟩
          rw [List.any_append, Bool.or_eq_true, hb, take_next ee]
          have e1 : ([k].any id = true) ↔ k = true := by cases k <;> decide
          rw [e1, hk]
          constructor
          · rintro (⟨e', h1, h2⟩ | h)
            · exact ⟨e', List.mem_append_left _ h1, h2⟩
            · exact ⟨e, List.mem_append_right _ (List.mem_singleton.mpr rfl), h⟩
          · rintro ⟨e', h1, h2⟩
            rcases List.mem_append.mp h1 with h1 | h1
            · exact .inl ⟨e', h1, h2⟩
            · rw [List.mem_singleton.mp h1] at h2
              exact .inr h2
        refine ⟨.bl e.2, rfl, e.2, rfl, ?_⟩
        cases e2 : e.2 with
        | false =>
          refine iteF' rfl ?_
          exact fin false Hj (fun _ _ h => h) ⟨(fun z => by cases z), fun z => by rw [e2] at z; cases z.1⟩
        | true =>
          refine iteT' rfl ?_
          refine ⟨.str e.1, rfl, .str r.rl, rfl, .ref l, rfl, e.1, r.rl, l, kvs, R, rfl, s2j _ _ elH, ledH.same s2j, fun k H8 s8 hk => ?_⟩
          exact fin k H8 s8 (hk.trans ⟨fun z => ⟨e2, z⟩, fun z => z.2⟩)
      · obtain ⟨sm, bs, eD, lb, hb⟩ := hP
        rw [lys, List.take_length] at hb
        have s67 := s6.trans sm
        refine ⟨D, bs, rfl, SqL.of eD, bs.any id, rfl, ?_⟩
        by_cases c : ∃ e ∈ edgesL r.ls, e.2 = true ∧ Back R e.1 r.rl
        · refine iteT' (hb.mpr c) ?_
          refine ⟨s67 _ _ ha, ?_⟩
          refine q true _ (un (s67 _ _ ha) fun c' o hc h => s67 _ _ (kp c' o hc h)) ⟨fun _ => ⟨r, List.mem_of_getElem? er, c⟩, fun _ => rfl⟩
        · refine iteF' (by cases h : bs.any id with | false => rfl | true => exact absurd (hb.mp h) c) ?_
          refine ⟨⟨_, _, _, rfl⟩, s67 _ _ ha, fun c' o hc h => s67 _ _ (kp c' o hc h), fun r' hr' => ?_⟩
          rw [etk] at hr'
          rcases List.mem_append.mp hr' with hr' | hr'
          · exact no r' hr'
          · rw [List.mem_singleton.mp hr']
            exact c
    · obtain ⟨⟨x2, x3, x4, rfl⟩, ha, kp, no⟩ := hP
      rw [lku, List.take_length] at no
      refine ⟨ha, ?_⟩
      exact q false _ (un ha kp) ⟨(fun z => by cases z), fun ⟨r, hr, h⟩ => absurd h (no r hr)⟩
abbrev dHr (P : Program) (w : World) (K : PySem.W.Frag) (mg : Str → Option Value) (base : Heap) : Prop := Def P w K mg base "has_ring" 2 ["rules", "led"] spHr
abbrev sFg : Stmt := topS 10
abbrev nFg : List Str := ["rules", "led", "name", "relation", "_", "body", "edge"]
theorem scFg : FnScope nFg ["rules", "led"] (defScope sFg) := ⟨rfl, rfl, rfl, by decide +kernel, rfl, by decide +kernel, by decide +kernel⟩
abbrev dMks (P : Program) (w : World) (K : PySem.W.Frag) (mg : Str → Option Value) (base : Heap) : Prop := Def P w K mg base "makes" 2 ["body"] spMks
def spFg : Sp := fun vs H Q _ => ∃ (a l : Addr) (ku kvs : List (Key × V)) (R : List Ru), vs = [.ref a, .ref l] ∧ H a = some (.dK ku) ∧ RuK H ku R ∧ (R.map Ru.nm).Nodup ∧ (∀ r ∈ R, OkRu r) ∧ R.length ≤ 60 ∧ H l = some (.dK kvs) ∧ LedK H kvs R ∧
  ∀ v H', Same H H' → FgV R v → Q v H'
theorem ok_fg {f : Addr} {fd : FuncData} (F : Fun K "first_growing" "first_growing" sFg f fd) (Bx : Bt2 mg) (DMks : dMks P w K mg base) (DBe : dBe P w K mg base) (DCb : dCb P w K mg base) : FnOk P w K mg base CX0 3 f fd ["rules", "led"] spFg := by
  refine F.ok scFg (fun vs H Q E h => ?_) (fun cdv A outer s H vs Q E hr h => ?_)
  · obtain ⟨_, _, _, _, _, rfl, _⟩ := h
    rfl
  · obtain ⟨a, l, ku, kvs, R, rfl, ea, rk, nn, ok, lR, el, led, q⟩ := h
    have hu := hu_of hr
    refine ⟨_, (pss_cons (ps_for PassesOwn.never rfl (pi_list (pe_callB (call_sortedD rfl) (by rfl) Bx.sorted boot_sorted (pa_cons (pv 0) pa_nil))) (pg_name (i := 2) scFg.nd rfl (Or.inl rfl))
        (pss_cons (ps_asg (pe_dget hu (pv 0) (pv 2) (fun _ _ => rfl)) (pg_tup rfl (pgs_cons (pg_name (i := 3) scFg.nd rfl (Or.inr rfl)) (pgs_cons (pg_name (i := 4) scFg.nd rfl (Or.inl rfl)) (pgs_cons (pg_name (i := 5) scFg.nd rfl (Or.inl rfl)) pgs_nil)))))
        (pss_one (ps_if (PW.pt (pw_and (pt_val (pe_def DMks (hr.mono (by decide)) (by rfl) (pa_cons (pv 5) pa_nil))) (pw_and1 (pt_val (pe_callB (cr_any rfl) (by rfl) Bx.any (by decide +kernel) (pa_cons (pe_lc (own := [("edge", 6)]) (g := (gName 6)) (tt := tYes) (te := (tCall spCb [] E0 (tCons (tOp (rIxT K) (tVar 6) (tC (.int 0))) (tCons (tVar 3) (tCons (tVar 1) tNil))))) rfl scFg.nd (pi_list (pe_def DBe (hr.mono (by decide)) (by rfl) (pa_cons (pv 5) pa_nil))) (blkOk_by (own := [("edge", 6)]) (N := nFg) (sc := defScope sFg) (by decide +kernel)) (fun _ _ _ _ _ => (pg_name (i := 6) scFg.nd rfl (Or.inl rfl))) (fun _ _ _ _ _ => pts_nil) (fun _ _ _ _ _ => (pe_def DCb (hr.mono (by decide)) (by rfl) (pa_cons (pe_ix ix_tup (pv 6) pe_int (fun _ _ => rfl)) (pa_cons (pv 3) (pa_cons (pv 1) pa_nil)))))) pa_nil))))))
          (pss_one (ps_ret (pv 2)))
          pss_nil))))
      (pss_one (ps_ret pe_non))), ?_⟩
    have ek : ku.map (·.1) = (R.map Ru.nm).map Sum.inr := by rw [rk.1, List.map_map]; rfl
    refine ⟨.ref a, rfl, a, ku, R.map Ru.nm, rfl, .of ea, ek, by rw [List.length_map]; omega, fun zs zp per srt nzp => ?_⟩
    have pz := sorted_pw srt (per.nodup_iff.mpr nn)
    generalize hG : upd _ zp _ = H1
    obtain ⟨s1, e1⟩ := gen_up hG nzp
    clear hG
    refine ⟨zp, rfl, ⟨_, SqL.of e1⟩, ?_⟩
    refine for_list (K := K) (a := zp) (xs := zs.map V.str) (fun i σ H' => (∃ x2 x3 x4 x5, σ = [some (.ref a), some (.ref l), x2, x3, x4, x5, none]) ∧ Same H1 H' ∧ ∀ r ∈ R, r.nm ∈ zs.take i → ¬ Grow R r) ⟨⟨none, none, none, none, rfl⟩, (fun _ _ h => h), fun r _ h => by cases h⟩ (fun i σ H' _ hP => SqL.of (hP.2.1 _ _ e1)) (fun i x σ Hi hi hP => ?_) (fun σ H' hP => ?_)
    · obtain ⟨⟨x2, x3, x4, x5, rfl⟩, sm, no⟩ := hP
      rw [List.getElem?_map] at hi
      obtain ⟨nm, ez, rfl⟩ := Option.map_eq_some_iff.mp hi
      obtain ⟨r, hr', rfl⟩ := List.mem_map.mp (per.mem_iff.mp (List.mem_of_getElem? ez))
      have s1i := s1.trans sm
      obtain ⟨v, ev, tv⟩ := rk.look nn hr'
      obtain ⟨t, vt, u, xs, rfl, et, _, eu, tx⟩ := ruV_of (tv.mono (Tk.of s1i))
      have okr := ok r hr'
      have lr9 := okr.2
      refine ⟨.ref a, rfl, .str r.nm, rfl, a, .ref t, rfl, .inl ⟨ku, Sum.inr r.nm, .inl (s1i _ _ ea), rfl, ev.symm⟩, ?_⟩
      refine ⟨t, _, rfl, SqT.of et, rfl, _, _, rfl, _, _, rfl, _, _, rfl, rfl, ?_⟩
      have skip : ¬ Grow R r → ∀ H', Same Hi H' → Same H1 H' ∧ ∀ r' ∈ R, r'.nm ∈ zs.take (i + 1) → ¬ Grow R r' := fun hg H' s' => ⟨sm.trans s', fun r' hr2 hz => by
        rw [take_next ez] at hz
        rcases List.mem_append.mp hz with hz | hz
        · exact no r' hr2 hz
        · rw [same_nm nn hr2 hr' (List.mem_singleton.mp hz)]
          exact hg⟩
      refine ⟨.ref u, rfl, u, xs, r.ls, rfl, eu, tx, okr.1, okr.2, fun H5 s5 => ⟨makesL [] r.ls, rfl, ?_⟩⟩
      cases em : makesL [] r.ls with
      | false =>
        refine iteF' rfl (iteF' rfl ?_)
        obtain ⟨h1, h2⟩ := skip (fun g => by rw [g.1] at em; cases em) H5 s5
        exact ⟨⟨_, _, _, _, rfl⟩, h1, h2⟩
      | true =>
        refine iteT' rfl ?_
        refine ⟨.ref u, rfl, u, xs, r.ls, rfl, s5 _ _ eu, tx.mono (Tk.of s5), okr.2, fun b ys H6 s6 eb tb nb => ?_⟩
        refine ⟨b, rfl, ⟨_, SqL.of eb⟩, fun D nD => ?_⟩
        have lys := tb.length
        rw [List.length_map] at lys
        have leg := edges_len r.ls
        have s16 := (s1i.trans s5).trans s6
        refine lc_list (K := K) (a := b) (xs := ys) (fun j H' => Same H6 H' ∧ ∃ bs : List Bool, H' D = some (.lst (bs.map V.bl)) ∧ bs.length = j ∧ (bs.any id = true ↔ ∃ e ∈ (edgesL r.ls).take j, Back R e.1 r.rl)) ⟨same_new nD, [], upd_same, rfl, ⟨(fun z => by cases z), fun ⟨_, z, _⟩ => by cases z⟩⟩ (fun j H' _ hP => SqL.of (hP.1 _ _ eb)) (fun j y Hj hj hP => ?_) (fun H7 hP => ?_)
        · obtain ⟨sm, bs, eD, lb, hb⟩ := hP
          obtain ⟨e, ee, qq, rfl, eq⟩ := edge_get tb hj
          have ljj := (List.getElem?_eq_some_iff.mp ee).1
          refine ⟨rfl, ?_⟩
          refine iteT (B := True) ?_
          have s2j := s16.trans sm
          refine ⟨.ref qq, rfl, qq, _, 0, .str e.1, rfl, rfl, SqT.of (sm _ _ eq), rfl, .str r.rl, rfl, .ref l, rfl, e.1, r.rl, l, kvs, R, rfl, s2j _ _ el, led.same s2j, fun k H8 s8 hk => ?_⟩
          refine ⟨_, s8 _ _ eD, small7 (by rw [List.length_map]; omega), same_put (sm.trans s8) nD, bs ++ [k], by rw [upd_same, List.map_append]; rfl, by rw [List.length_append, lb]; rfl, ?_⟩
          rw [List.any_append, Bool.or_eq_true, hb, take_next ee]
          have e1 : ([k].any id = true) ↔ k = true := by cases k <;> decide
          rw [e1, hk]
          constructor
          · rintro (⟨e', h1, h2⟩ | h)
            · exact ⟨e', List.mem_append_left _ h1, h2⟩
            · exact ⟨e, List.mem_append_right _ (List.mem_singleton.mpr rfl), h⟩
          · rintro ⟨e', h1, h2⟩
            rcases List.mem_append.mp h1 with h1 | h1
            · exact .inl ⟨e', h1, h2⟩
            · rw [List.mem_singleton.mp h1] at h2
              exact .inr h2
        · obtain ⟨sm7, bs, eD, lb, hb⟩ := hP
          rw [lys, List.take_length] at hb
          have s57 := (s5.trans s6).trans sm7
          refine ⟨D, bs, rfl, SqL.of eD, bs.any id, rfl, ?_⟩
          by_cases c : ∃ e ∈ edgesL r.ls, Back R e.1 r.rl
          · refine iteT' (hb.mpr c) ⟨.str r.nm, rfl, q _ H7 (s16.trans sm7) (.inl ⟨r, hr', ⟨⟨em, c⟩, fun r' hr2 g => ?_⟩, rfl⟩)⟩
            have hz := per.mem_iff.mpr (List.mem_map.mpr ⟨r', hr2, rfl⟩)
            rw [← List.take_append_drop i zs, drop_get ez] at hz
            rcases List.mem_append.mp hz with hz | hz
            · exact absurd g (no r' hr2 hz)
            · rcases List.mem_cons.mp hz with hz | hz
              · exact .inl hz
              · refine .inr ?_
                have pd := List.Pairwise.drop (i := i) pz
                rw [drop_get ez] at pd
                exact (List.pairwise_cons.mp pd).1 _ hz
          · refine iteF' (by cases h : bs.any id with | false => rfl | true => exact absurd (hb.mp h) c) ?_
            obtain ⟨h1, h2⟩ := skip (fun g => c g.2) H7 s57
            exact ⟨⟨_, _, _, _, rfl⟩, h1, h2⟩
    · obtain ⟨⟨x2, x3, x4, x5, rfl⟩, sm, no⟩ := hP
      rw [List.length_map, List.take_length] at no
      exact q _ H' (s1.trans sm) (.inr ⟨fun r hr2 => no r hr2 (per.mem_iff.mpr (List.mem_map.mpr ⟨r, hr2, rfl⟩)), rfl⟩)
abbrev dFg (P : Program) (w : World) (K : PySem.W.Frag) (mg : Str → Option Value) (base : Heap) : Prop := Def P w K mg base "first_growing" 3 ["rules", "led"] spFg
end
end KU

namespace KU
open PySem PySem.Spec PyProof.Rows PySem.HandSPX L2 KA
def EdgeP (R : List Ru) (o : Option PyData) : Prop := (Ring R ∧ o = some (.tuple [.str "ring"])) ∨ (¬ Ring R ∧ ((∃ r ∈ R, Least R r ∧ o = some (.tuple [.str "grows", .str r.nm])) ∨ ((∀ r ∈ R, ¬ Grow R r) ∧ o = none)))
theorem rch_mono {a b : Str → List Str} (h : ∀ x y, y ∈ a x → y ∈ b x) {x y : Str} (r : Rch a x y) : Rch b x y := by
  induction r with
  | one q => exact .one (h _ _ q)
  | step _ q ih => exact .step ih (h _ _ q)
theorem back_cg {R R' : List Ru} (h : ∀ r, r ∈ R → r ∈ R') {o r : Str} (b : Back R o r) : Back R' o r :=
  b.imp id (rch_mono fun x y q => by
    obtain ⟨r, hr, g⟩ := mem_adj.mp q
    exact mem_adj.mpr ⟨r, h r hr, g⟩)
theorem ring_cg {R R' : List Ru} (h : ∀ r, r ∈ R → r ∈ R') (g : Ring R) : Ring R' := by
  obtain ⟨r, hr, e, he, h1, h2⟩ := g
  exact ⟨r, h r hr, e, he, h1, back_cg h h2⟩
theorem grow_cg {R R' : List Ru} (h : ∀ r, r ∈ R → r ∈ R') {r : Ru} (g : Grow R r) : Grow R' r :=
  ⟨g.1, let ⟨e, he, b⟩ := g.2; ⟨e, he, back_cg h b⟩⟩
theorem least_cg {R R' : List Ru} (h : ∀ r, r ∈ R ↔ r ∈ R') {r : Ru} (g : Least R r) : Least R' r :=
  ⟨grow_cg (fun r => (h r).mp) g.1, fun r' hr' g' => g.2 r' ((h r').mpr hr') (grow_cg (fun r => (h r).mpr) g')⟩
theorem edge_cg {R R' : List Ru} (h : ∀ r, r ∈ R ↔ r ∈ R') {o : Option PyData} (g : EdgeP R o) : EdgeP R' o := by
  rcases g with ⟨a, b⟩ | ⟨a, ⟨r, hr, l, e⟩ | ⟨n, e⟩⟩
  · exact .inl ⟨ring_cg (fun r => (h r).mp) a, b⟩
  · exact .inr ⟨fun z => a (ring_cg (fun r => (h r).mpr) z), .inl ⟨r, (h r).mp hr, least_cg h l, e⟩⟩
  · exact .inr ⟨fun z => a (ring_cg (fun r => (h r).mpr) z), .inr ⟨fun r hr g => n r ((h r).mpr hr) (grow_cg (fun r => (h r).mpr) g), e⟩⟩
theorem least_nm {R : List Ru} {r r' : Ru} (hr : r ∈ R) (hr' : r' ∈ R) (l : Least R r) (l' : Least R r') : r.nm = r'.nm := by
  rcases l.2 r' hr' l'.1 with h | h
  · exact h.symm
  · rcases l'.2 r hr l.1 with g | g
    · exact g
    · exact absurd (List.lt_trans h g) (List.lt_irrefl _)
theorem edge_one {R : List Ru} {o o' : Option PyData} (g : EdgeP R o) (g' : EdgeP R o') : o = o' := by
  rcases g with ⟨a, b⟩ | ⟨a, ⟨r, hr, l, e⟩ | ⟨n, e⟩⟩
  · rcases g' with ⟨_, b'⟩ | ⟨a', _⟩
    · rw [b, b']
    · exact absurd a a'
  · rcases g' with ⟨a', _⟩ | ⟨_, ⟨r', hr', l', e'⟩ | ⟨n', _⟩⟩
    · exact absurd a' a
    · rw [e, e', least_nm hr hr' l l']
    · exact absurd l.1 (n' r hr)
  · rcases g' with ⟨a', _⟩ | ⟨_, ⟨r', hr', l', _⟩ | ⟨_, e'⟩⟩
    · exact absurd a' a
    · exact absurd l'.1 (n r' hr')
    · rw [e, e']
section
variable {P : Program} {w : World} {K : PySem.W.Frag} {mg : Str → Option Value} {base : Heap} {C fI : Addr}
abbrev sCE : Stmt := topS 22
abbrev nCE : List Str := ["rules", "led", "name"]
theorem scCE : FnScope nCE ["rules"] (defScope sCE) := ⟨rfl, rfl, rfl, by decide +kernel, rfl, by decide +kernel, by decide +kernel⟩
def spCE (C : Addr) : Sp := fun vs H Q E => ∃ (a : Addr) (ku : List (Key × V)) (R : List Ru) (o : Option PyData), vs = [.ref a] ∧ H a = some (.dK ku) ∧ RuK H ku R ∧ (R.map Ru.nm).Nodup ∧ (∀ r ∈ R, OkRu r) ∧ R.length ≤ 60 ∧ EdgeP R o ∧
  (o = none → ∀ H', Same H H' → Q .non H') ∧ ∀ d, o = some d → Fails C H E d
theorem ok_ce {f : Addr} {fd : FuncData} (F : Fun K "check_edges" "check_edges" sCE f fd) (T0 : PySem.RefX.RefTxt K mg C fI) (DLd : dLd P w K mg base) (DHr : dHr P w K mg base) (DFg : dFg P w K mg base) : FnOk P w K mg base (L2.CX P w) 4 f fd ["rules"] (spCE C) := by
  refine F.okX scCE (fun vs H Q E h => ?_) (fun cdv A outer s H vs Q E hr h => ?_)
  · obtain ⟨_, _, _, _, rfl, _⟩ := h
    rfl
  · obtain ⟨a, ku, R, o, rfl, ea, rk, nn, ok, lR, eo, q0, q1⟩ := h
    have hu := hu_of hr
    refine ⟨_, (pss_cons (ps_set (i := 1) scCE.nd rfl (.inl rfl) (pe_def DLd (hr.mono (by decide)) (by rfl) (pa_cons (pv 0) pa_nil)))
      (pss_cons (ps_if (pt_val (pe_def DHr (hr.mono (by decide)) (by rfl) (pa_cons (pv 0) (pa_cons (pv 1) pa_nil))))
        (pss_one (ps_raiseRef rfl T0 hr (takes_of rfl rfl rfl rfl) (pa_cons (pe_tup (pa_cons pe_str pa_nil)) pa_nil)))
        pss_nil)
      (pss_cons (ps_set (i := 2) scCE.nd rfl (.inl rfl) (pe_def DFg (hr.mono (by decide)) (by rfl) (pa_cons (pv 0) (pa_cons (pv 1) pa_nil))))
      (pss_one (ps_if (pt_cmpR op_notN (pv 2) pe_non (nomark _))
        (pss_one (ps_raiseRef rfl T0 hr (takes_of rfl rfl rfl rfl) (pa_cons (pe_tup (pa_cons pe_str (pa_cons (pv 2) pa_nil))) pa_nil)))
        pss_nil))))), ?_⟩
    refine ⟨.ref a, rfl, a, ku, R, rfl, ea, rk, ok, lR, fun l kvs H1 s1 nl el led nq => ?_⟩
    have nal : a ≠ l := fun z => by rw [← z, ea] at nl; cases nl
    refine ⟨.ref a, rfl, .ref l, rfl, a, l, ku, kvs, R, rfl, s1 _ _ ea, rk.mono (Tk.of s1), ok, lR, el, led, nal, (fun x q h z => by have := nq x q h; rw [z, ea] at this; cases this), fun b H2 s2 hb => ⟨b, rfl, ?_⟩⟩
    have s12 := s1.trans s2
    cases b with
    | true =>
      refine iteT' rfl ?_
      have e := edge_one eo (.inl ⟨hb.mp rfl, rfl⟩)
      exact ⟨len1, fun p np => ⟨.ref p, rfl, fails_at (q1 _ e) (s12.trans (same_new np)) (tup1 np (.str _))⟩⟩
    | false =>
      refine iteF' rfl ?_
      have nr : ¬ Ring R := fun z => by have := hb.mpr z; cases this
      refine ⟨.ref a, rfl, .ref l, rfl, a, l, ku, kvs, R, rfl, s12 _ _ ea, rk.mono (Tk.of s12), nn, ok, lR, s2 _ _ el, led.same s2, fun v H3 s3 fv => ?_⟩
      have s13 := s12.trans s3
      rcases fv with ⟨r, hr', l', rfl⟩ | ⟨no, rfl⟩
      · have e := edge_one eo (.inr ⟨nr, .inl ⟨r, hr', l', rfl⟩⟩)
        refine ⟨.str r.nm, rfl, rfl, _, rfl, iteT' (by rfl) ?_⟩
        exact ⟨.str r.nm, rfl, len2, fun p np => ⟨.ref p, rfl, fails_at (q1 _ e) (s13.trans (same_new np)) (tup2 np (.str _) (.str _))⟩⟩
      · have e := edge_one eo (.inr ⟨nr, .inr ⟨no, rfl⟩⟩)
        exact ⟨.non, rfl, rfl, _, rfl, iteF' (by rfl) (q0 e H3 s13)⟩
abbrev dCE (P : Program) (w : World) (K : PySem.W.Frag) (mg : Str → Option Value) (base : Heap) (C : Addr) : Prop := DefX P w K mg base "check_edges" 4 ["rules"] (spCE C)
/-! ### check_terms, what is bound as a tuple -/
abbrev nCTt : List Str := ["terms", "bound", "term"]
def spCTt (C : Addr) : Sp := fun vs H Q E => ∃ (u a : Addr) (xs : List V) (ts : List T) (bs : List Str), vs = [.ref u, .ref a] ∧ H u = some (.tup xs) ∧ Tps H xs (ts.map tD) ∧ H a = some (.tup (bs.map V.str)) ∧
  (loose bs false ts = none → Q .non H) ∧ ∀ d, loose bs false ts = some d → Fails C H E d
theorem ok_ctt {f : Addr} {fd : FuncData} (F : Fun K "check_terms" "check_terms" sCT f fd) (T0 : PySem.RefX.RefTxt K mg C fI) : FnOk P w K mg base (L2.CX P w) 3 f fd ["terms", "bound"] (spCTt C) := by
  refine F.okX scCT (fun vs H Q E h => ?_) (fun cdv A outer s H vs Q E hr h => ?_)
  · obtain ⟨_, _, _, _, _, rfl, _⟩ := h
    rfl
  · obtain ⟨u, a, xs, ts, bs, rfl, eu, tx, ea, q0, q1⟩ := h
    have hu := hu_of hr
    have lx : xs.length = ts.length := by rw [tx.length, List.length_map]
    have sne : ∀ {x y : Str}, x ≠ y → V.str x ≠ V.str y := fun n z => n (by injection z)
    refine ⟨_, (pss_one (ps_for (passes_of rfl) rfl (pi_tup (pv 0)) (pg_name (i := 2) scCT.nd rfl (Or.inl rfl))
        (pss_cons (ps_if (pt_cmpR op_eq (pe_ix ix_tup (pv 2) pe_int (fun _ _ => rfl)) pe_str (nomark _))
          (pss_one (ps_raiseRef rfl T0 hr (takes_of rfl rfl rfl rfl) (pa_cons (pe_tup (pa_cons pe_str pa_nil)) pa_nil)))
          pss_nil)
        (pss_one (ps_if (PW.pt (pw_and (pt_cmpR op_eq (pe_ix ix_tup (pv 2) pe_int (fun _ _ => rfl)) pe_str (nomark _)) (pw_and1 (pt_cmpR op_notIn_seq (pe_ix ix_tup (pv 2) pe_int (fun _ _ => rfl)) (pv 1) rfl))))
          (pss_one (ps_raiseRef rfl T0 hr (takes_of rfl rfl rfl rfl) (pa_cons (pe_tup (pa_cons pe_str (pa_cons (pe_ix ix_tup (pv 2) pe_int (fun _ _ => rfl)) pa_nil))) pa_nil)))
          pss_nil))))), ?_⟩
    refine ⟨.ref u, rfl, u, rfl, ⟨xs, SqT.of eu⟩, ?_⟩
    refine for_it walk_tup (fun i σ H' => H' = H ∧ (∃ x2, σ = [some (.ref u), some (.ref a), x2]) ∧ loose bs false (ts.take i) = none) ⟨rfl, ⟨none, rfl⟩, rfl⟩ (fun i σ H' _ hP => by rw [hP.1]; exact SqT.of eu) (fun i x σ H1 H' hi hP hY => ?_) (fun σ H' hP => ?_)
    · obtain ⟨rfl, hx⟩ := hY
      obtain ⟨rfl, ⟨x2, rfl⟩, hn⟩ := hP
      obtain ⟨t, et, tt⟩ := term_get tx hx
      obtain ⟨pt, r0, rfl, ept, e0, e1, e2⟩ := pairs_get tt
      have etk := take_next et
      have hdr : ts.drop i = t :: ts.drop (i + 1) := drop_get et
      have hall : loose bs false ts = loose bs false (t :: ts.drop (i + 1)) := by
        conv => lhs; rw [← List.take_append_drop i ts, loose_app bs false hn, hdr]
      refine ⟨.ref pt, rfl, pt, r0, 0, _, rfl, rfl, SqT.of ept, e0, rfl, _, rfl, ?_⟩
      cases t with
      | any =>
        refine yes_if ?_
        have hd : loose bs false ts = some (.tuple [.str "any"]) := hall.trans rfl
        exact ⟨len1, fun p np => ⟨.ref p, rfl, fails_at (q1 _ hd) (same_new np) (tup1 np (.str _))⟩⟩
      | val k =>
        refine no_if (sne (show ("value" : Str) ≠ "any" by decide +kernel)) ?_
        refine ⟨.ref pt, rfl, pt, r0, 0, _, rfl, rfl, SqT.of ept, e0, rfl, _, rfl, no_if (sne (show ("value" : Str) ≠ "variable" by decide +kernel)) ?_⟩
        refine iteF ⟨rfl, ⟨_, rfl⟩, ?_⟩
        rw [etk, loose_app bs false hn]
        rfl
      | var y =>
        refine no_if (sne (show ("variable" : Str) ≠ "any" by decide +kernel)) ?_
        refine ⟨.ref pt, rfl, pt, r0, 0, _, rfl, rfl, SqT.of ept, e0, rfl, _, rfl, yes_if ?_⟩
        refine ⟨.ref pt, rfl, pt, r0, 1, _, rfl, rfl, SqT.of ept, e1 y rfl, .ref a, rfl, a, _, rfl, .inr (SqT.of ea), rfl, flat_strs bs, _, rfl, ?_⟩
        rw [inV_str]
        by_cases c : y ∈ bs
        · rw [decide_eq_true c]
          refine iteF ⟨rfl, ⟨_, rfl⟩, ?_⟩
          rw [etk, loose_app bs false hn]
          show (if y ∈ bs then none else _) = _
          rw [if_pos c]
        · rw [decide_eq_false c]
          refine iteT ?_
          have hd : loose bs false ts = some (.tuple [.str "unbound", .str y]) := by
            rw [hall]
            show (if y ∈ bs then _ else _) = _
            rw [if_neg c]
          exact ⟨.ref pt, rfl, pt, r0, 1, _, rfl, rfl, SqT.of ept, e1 y rfl, len2, fun p np => ⟨.ref p, rfl, fails_at (q1 _ hd) (same_new np) (tup2 np (.str _) (.str _))⟩⟩
    · obtain ⟨rfl, ⟨x2, rfl⟩, hn⟩ := hP
      rw [lx, List.take_length] at hn
      exact q0 hn
abbrev dCTt (P : Program) (w : World) (K : PySem.W.Frag) (mg : Str → Option Value) (base : Heap) (C : Addr) : Prop := DefX P w K mg base "check_terms" 3 ["terms", "bound"] (spCTt C)
end
end KU

namespace KU
open PySem PySem.Spec PyProof.Rows PySem.HandSPX L2 KA
def wdW (wd : Str → Option Nat) (rl : Str) (n : Nat) : Str → Option Nat := fun x => if x = rl then some n else wd x
def tailP (wd : Str → Option Nat) (rl : Str) (ts : List T) (ls : List L) : Option PyData := match (bodyP (wdW wd rl ts.length) [] ls).1 with
  | some d => some d
  | none => loose (bodyP (wdW wd rl ts.length) [] ls).2 false ts
def offW (wd : Str → Option Nat) (rl : Str) (n : Nat) : Bool := match wd rl with
  | some m => !decide (m = n)
  | none => false
def aloneQ (isb off : Bool) (wd : Str → Option Nat) (rl : Str) (ts : List T) (ls : List L) : Option PyData :=
  if isb = true then some (.tuple [.str "base", .str rl]) else
  if (off || !(decide (1 ≤ ts.length) && decide (ts.length ≤ 4))) = true then some (.tuple [.str "width", .str rl]) else
  match (bodyP (wdW wd rl ts.length) [] ls).1 with
  | some d => some d
  | none => loose (bodyP (wdW wd rl ts.length) [] ls).2 false ts
def aloneP (isb : Bool) (wd : Str → Option Nat) (rl : Str) (ts : List T) (ls : List L) : Option PyData := aloneQ isb (offW wd rl ts.length) wd rl ts ls
def earlyP (isb off : Bool) (ts : List T) : Bool := isb || (off || !(decide (1 ≤ ts.length) && decide (ts.length ≤ 4)))
theorem widK_put {kvs : List (Key × V)} {wd : Str → Option Nat} (h : WidK kvs wd) (rl : Str) (n : Nat) : WidK (putK kvs (Sum.inr rl : Key) (.int (n : Nat))) (wdW wd rl n) := fun x => by
  rw [valV_put]
  unfold wdW
  by_cases c : x = rl
  · rw [if_pos (by rw [c]), if_pos c]
    rfl
  · rw [if_neg (fun z => c (inr_iff.mp z)), if_neg c]
    exact h x
theorem StR.same {C : Addr} {H H' : Hp} {s dx r f u d : Addr} {kr ku : List (Key × V)} {its : List It1} {N : Nat} (b : StR C H s dx r f u d kr ku its N) (k : Same H H') : StR C H' s dx r f u d kr ku its N := by
  obtain ⟨n, l, a, c⟩ := b.rul
  exact ⟨k _ _ b.hs, k _ _ b.hr, b.ns, b.nr, b.rel, ⟨n, l, fun x v h => by
    obtain ⟨nm, rl, ts, bd, e, t, m⟩ := a x v h
    exact ⟨nm, rl, ts, bd, e, t.mono (Tk.of k), m⟩, c⟩, b.srt, b.ok⟩
section
variable {P : Program} {w : World} {K : PySem.W.Frag} {mg : Str → Option Value} {base : Heap} {C C2 fI : Addr}
abbrev dCK (P : Program) (w : World) (K : PySem.W.Frag) (mg : Str → Option Value) (base : Heap) (C2 : Addr) : Prop := DefX P w K mg base "check_literals" 5 ["known", "body"] (spCK C2)
abbrev sCA : Stmt := topS 21
abbrev nCA : List Str := ["state", "relation", "terms", "body", "known", "bound", "rule", "width"]
theorem scCA : FnScope nCA ["state", "relation", "terms", "body"] (defScope sCA) := ⟨rfl, rfl, rfl, by decide +kernel, rfl, by decide +kernel, by decide +kernel⟩
def spCA (C C2 : Addr) : Sp := fun vs H Q E => ∃ (s dx r f ud d u ub : Addr) (rl : Str) (isb off : Bool) (kr ku : List (Key × V)) (its : List It1) (N : Nat) (od : Obj) (xs xb : List V) (ts : List T) (ls : List L), vs = [.ref s, .str rl, .ref u, .ref ub] ∧ StR C H s dx r f ud d kr ku its N ∧ H ud = some (.frz od (.dK ku)) ∧ N ≤ 400 ∧ TupR its ∧ (isb = true ↔ ∃ n, It1.rel rl n ∈ its) ∧ (off = true ↔ ∃ nm ds bd, It1.rule nm rl (.tuple ds) bd ∈ its ∧ ds.length ≠ ts.length) ∧ H u = some (.tup xs) ∧ Tps H xs (ts.map tD) ∧ ts.length ≤ 100 ∧ H ub = some (.tup xb) ∧ Tps H xb (ls.map litD) ∧ (∀ l ∈ ls, (litTs l).length ≤ 9) ∧ ls.length ≤ 9 ∧
  (∀ wd, WidAny its wd → aloneQ isb off wd rl ts ls = none → ∀ H', Same H H' → Q .non H') ∧ ∀ wd d, (earlyP isb off ts = true ∨ WidAny its wd) → aloneQ isb off wd rl ts ls = some d → Fails C2 H E d
theorem ok_ca {f0 : Addr} {fd : FuncData} (F0 : Fun K "check_alone" "check_alone" sCA f0 fd) (B : Bt mg) (Bx : Bt2 mg) (T : Cs K mg C) (T0 : PySem.RefX.RefTxt K mg C2 fI) (DWd : dWd P w K mg base C) (DCK : dCK P w K mg base C2) (DCTt : dCTt P w K mg base C2) : FnOk P w K mg base (L2.CX P w) 6 f0 fd ["state", "relation", "terms", "body"] (spCA C C2) := by
  refine F0.okX scCA (fun vs H Q E h => ?_) (fun cdv A outer s0 H vs Q E hr h => ?_)
  · obtain ⟨_, _, _, _, _, _, _, _, _, _, _, _, _, _, _, _, _, _, _, _, rfl, _⟩ := h
    rfl
  · obtain ⟨s, dx, r, f, ud, d, u, ub, rl, isb, off, kr, ku, its, N, od, xs, xb, ts, ls, rfl, b, hu0, hN, tu, hib, hoff, eu, tx, lt, eub, txb, hl, l9, q0, q1⟩ := h
    have hu := hu_of hr
    have lx : xs.length = ts.length := by rw [tx.length, List.length_map]
    refine ⟨_, (pss_cons (ps_if (pt_cmp (pc_din hu (pv 1) (pe_fld (pv 0) rfl)))
        (pss_one (ps_raiseRef rfl T0 hr (takes_of rfl rfl rfl rfl) (pa_cons (pe_tup (pa_cons pe_str (pa_cons (pv 1) pa_nil))) pa_nil)))
        pss_nil)
      (pss_cons (ps_setLc (i := 4) (own := [("rule", 6)]) (g := (gName 6)) (tt := (tTest (tOp rEq (tOp (rIxT K) (tVar 6) (tC (.int 0))) (tVar 1)))) (te := (tCB (rLenK K) (tCons (tOp (rIxT K) (tVar 6) (tC (.int 1))) tNil))) (by rfl) scCA.nd rfl rfl (sw_true rfl rfl rfl (by decide +kernel)) (pi_values (pe_fld (pv 0) rfl)) (blkOk_by (own := [("rule", 6)]) (N := nCA) (sc := defScope sCA) (by decide +kernel)) (fun _ _ _ _ _ => (pg_name (i := 6) scCA.nd rfl (Or.inl rfl))) (fun _ _ _ _ _ => pts_one (pt_cmpR op_eq (pe_ix ix_tup (pv 6) pe_int (fun _ _ => rfl)) (pv 1) (nomark _))) (fun _ _ _ _ _ => (pe_callB call_lenK (by rfl) B.len PySem.boot_len (pa_cons (pe_ix ix_tup (pv 6) pe_int (fun _ _ => rfl)) pa_nil))))
      (pss_cons (ps_if (PW.pt (pw_or (pt_val (pe_callB (cr_any rfl) (by rfl) Bx.any (by decide +kernel) (pa_cons (pe_lc (own := [("width", 7)]) (g := (gName 7)) (tt := tYes) (te := (tOp rNe (tVar 7) (tCB (rLenK K) (tCons (tVar 2) tNil)))) rfl scCA.nd (pi_list (pv 4)) (blkOk_by (own := [("width", 7)]) (N := nCA) (sc := defScope sCA) (by decide +kernel)) (fun _ _ _ _ _ => (pg_name (i := 7) scCA.nd rfl (Or.inl rfl))) (fun _ _ _ _ _ => pts_nil) (fun _ _ _ _ _ => (pe_cmpR op_ne (pv 7) (pe_callB call_lenK (by rfl) B.len PySem.boot_len (pa_cons (pv 2) pa_nil)) (nomark _)))) pa_nil))) (pw_or1 (pt_not (pt_chain op_le op_le pe_int (pe_callB call_lenK (by rfl) B.len PySem.boot_len (pa_cons (pv 2) pa_nil)) pe_int)))))
        (pss_one (ps_raiseRef rfl T0 hr (takes_of rfl rfl rfl rfl) (pa_cons (pe_tup (pa_cons pe_str (pa_cons (pv 1) pa_nil))) pa_nil)))
        pss_nil)
      (pss_cons (ps_set (i := 5) scCA.nd rfl (.inl rfl) (pe_defX DCK (hr.mono (by decide)) (by rfl) (passes_call (takes_of rfl rfl rfl rfl) (fun _ _ _ _ h => h)) (pa_cons (pe_sprd (pe_def DWd (hr.mono (by decide)) (by rfl) (pa_cons (pv 0) pa_nil)) (pv 1) (pe_callB call_lenK (by rfl) B.len PySem.boot_len (pa_cons (pv 2) pa_nil))) (pa_cons (pv 3) pa_nil))))
      (pss_one (ps_expr (pe_defX DCTt (hr.mono (by decide)) (by rfl) (passes_call (takes_of rfl rfl rfl rfl) (fun _ _ _ _ h => h)) (pa_cons (pv 2) (pa_cons (pv 5) pa_nil))))))))), ?_⟩
    obtain ⟨r1, r2, r3⟩ := id b.rel
    obtain ⟨u1, u2, u3, u4⟩ := id b.rul
    refine ⟨.str rl, rfl, .ref s, rfl, s, C, dx, _, _, rfl, b.hs, T.cl, T.nR, fl_rel _ _ _ _, r, valV kr (Sum.inr rl : Key), rfl, DGet.k (k := Sum.inr rl) b.hr, ?_⟩
    have e : (valV kr (Sum.inr rl : Key)).isSome = isb := by
      cases c : valV kr (Sum.inr rl : Key) with
      | some v =>
        obtain ⟨nm', n, a1, a2, a3⟩ := (r3 _ _).mp ((mem_val r1).mp c)
        have en := inr_iff.mp a1
        subst en
        exact (hib.mpr ⟨n, a3⟩).symm
      | none =>
        cases isb with
        | false => rfl
        | true =>
          obtain ⟨n, h⟩ := hib.mp rfl
          exact absurd ((r3 _ _).mpr ⟨rl, n, rfl, rfl, h⟩) ((val_none r1).mp c _)
    rw [e]
    cases isb with
    | true =>
      refine ⟨true, rfl, iteT ?_⟩
      exact ⟨.str rl, rfl, len2, fun p np => ⟨.ref p, rfl, fails_at (q1 (fun _ => none) _ (.inl rfl) rfl) (same_new np) (tup2 np (.str _) (.str _))⟩⟩
    | false =>
      refine ⟨false, rfl, iteF ?_⟩
      have nob : ∀ n, It1.rel rl n ∉ its := fun n h => by have := hib.mpr ⟨n, h⟩; cases this
      refine ⟨.ref s, rfl, s, C, dx, _, _, rfl, b.hs, T.cl, T.nU, fl_rul _ _ _ _, ud, od, ku, rfl, hu0, fun D nD => ?_⟩
      have nDu : D ≠ ud := fun z => by rw [z, hu0] at nD; cases nD
      have nD2 : H D = none := nD
      have lku : ku.length ≤ 400 := Nat.le_trans u2 hN
      refine lc_it walk_values (fun i H' => H' ud = some (.frz od (.dK ku)) ∧ (∀ a o, a ≠ ud → H a = some o → H' a = some o) ∧ ∃ ks : List Nat, H' D = some (.lst (ks.map fun k : Nat => V.int (k : Int))) ∧ ks.length ≤ i ∧ (∀ k ∈ ks, ∃ nm ds bd, It1.rule nm rl (.tuple ds) bd ∈ its ∧ ds.length = k) ∧ ∀ e ∈ ku.take i, ∀ nm ds bd, e.1 = (Sum.inr nm : Key) → It1.rule nm rl (.tuple ds) bd ∈ its → ds.length ∈ ks) ⟨?_, ?_, [], upd_same, Nat.le_refl _, (fun k z => by cases z), fun e he => by cases he⟩ (fun i H' _ hP => hP.1) (fun i y H' H3 hi hP hY => ?_) (fun H' hP => ?_)
      · rw [upd_ne nDu.symm]
        exact hu0
      · intro a o n h
        rw [upd_ne (ne_of_none h nD2)]
        exact h
      · obtain ⟨h1, h2, ks, hD, lk, c1, c2⟩ := hP
        obtain ⟨rfl, k, ek⟩ := hY
        obtain ⟨nm, rl', ts', bd, e1, e2, e3⟩ := u3 k y (List.mem_of_getElem? ek)
        obtain ⟨ds, e4⟩ := tu.2 _ _ _ _ e3
        have tk : Tk H H3 := fun a xs h => h2 a _ (fun z => by rw [z, hu0] at h; cases h) h
        have e2 := e2.mono tk
        rw [e4] at e2
        obtain ⟨t, vt, vb, rfl, et, g1, g2⟩ : ∃ t vt vb, y = .ref t ∧ H3 t = some (.tup [.str rl', vt, vb]) ∧ Tp H3 vt (.tuple ds) ∧ Tp H3 vb bd := by
          cases e2 with
          | tup a1 a2 => cases a2 with
            | cons b1 a2 => cases a2 with
              | cons b2 a2 => cases a2 with
                | cons b3 a2 =>
                  cases a2
                  cases b1
                  exact ⟨_, _, _, rfl, a1, b2, b3⟩
        obtain ⟨tt, zs, rfl, ett, tzs⟩ : ∃ tt zs, vt = .ref tt ∧ H3 tt = some (.tup zs) ∧ Tps H3 zs ds := by
          cases g1 with
          | tup a1 a2 => exact ⟨_, _, rfl, a1, a2⟩
        refine ⟨rfl, ?_⟩
        refine ⟨.ref t, rfl, t, _, 0, .str rl', rfl, rfl, SqT.of et, rfl, .str rl, rfl, rfl, _, rfl, ?_⟩
        subst e4
        have c2' : ∀ {ks' : List Nat}, (∀ k ∈ ks, k ∈ ks') → (rl' = rl → ds.length ∈ ks') → ∀ e ∈ ku.take (i + 1), ∀ nm ds bd, e.1 = (Sum.inr nm : Key) → It1.rule nm rl (.tuple ds) bd ∈ its → ds.length ∈ ks' := fun hk hk2 e he nm' ts2 bd2 a1 a2 => by
          rw [take_next ek] at he
          rcases List.mem_append.mp he with he | he
          · exact hk _ (c2 e he nm' ts2 bd2 a1 a2)
          · rw [List.mem_singleton.mp he] at a1
            have a1 : k = Sum.inr nm' := a1
            rw [e1] at a1
            have en := inr_iff.mp a1
            subst en
            have := sorted_key b.srt b.ok e3 a2 rfl
            injection this with _ z z2 _
            injection z2 with z2
            rw [← z2]
            exact hk2 z
        by_cases c : rl' = rl
        · subst c
          refine iteT' (decide_eq_true rfl) ?_
          refine ⟨.ref t, rfl, t, _, 1, .ref tt, rfl, rfl, SqT.of et, rfl, tt, zs, rfl, .inr (SqT.of ett), ?_⟩
          refine ⟨_, hD, small7 (by rw [List.length_map]; omega), ?_, fun a o n h => ?_, ks ++ [zs.length], ?_, by rw [List.length_append]; show ks.length + 1 ≤ _; omega, fun k' hk => ?_, c2' (fun k hk => List.mem_append_left _ hk) (fun _ => List.mem_append_right _ (List.mem_singleton.mpr tzs.length.symm))⟩
          · rw [upd_ne nDu.symm]
            exact h1
          · rw [upd_ne (ne_of_none h nD2)]
            exact h2 a o n h
          · rw [upd_same, List.map_append]
            rfl
          · rcases List.mem_append.mp hk with hk | hk
            · exact c1 k' hk
            · rw [List.mem_singleton.mp hk, tzs.length]
              exact ⟨_, _, _, e3, rfl⟩
        · refine iteF' (decide_eq_false fun z => c (by injection z)) ?_
          exact ⟨h1, h2, ks, hD, by omega, c1, c2' (fun _ h => h) fun z => absurd z c⟩
      · obtain ⟨h1, h2, ks, hD, lk, c1, c2⟩ := hP
        rw [List.take_length] at c2
        have smc : Same H H' := fun a o h => by
          by_cases z : a = ud
          · rw [z, hu0] at h
            rw [z, ← h]
            exact h1
          · exact h2 a o z h
        have cpD := hD
        generalize H' = Hc at smc cpD ⊢
        refine ⟨.ref D, rfl, D, rfl, ⟨_, SqL.of cpD⟩, fun D2 nD2 => ?_⟩
        refine lc_list (K := K) (a := D) (xs := ks.map fun k : Nat => V.int (k : Int)) (fun j H' => Same Hc H' ∧ H' D2 = some (.lst (((ks.take j).map fun k : Nat => !decide (k = ts.length)).map V.bl))) ⟨same_new nD2, upd_same⟩ (fun j H' _ hP => SqL.of (hP.1 _ _ cpD)) (fun j y Hj hj hP => ?_) (fun H7 hP => ?_)
        · obtain ⟨sm, eD⟩ := hP
          rw [List.getElem?_map] at hj
          obtain ⟨k, ek, rfl⟩ := Option.map_eq_some_iff.mp hj
          have ljj := (List.getElem?_eq_some_iff.mp ek).1
          refine ⟨rfl, ?_⟩
          refine iteT (B := True) ?_
          refine ⟨.int (k : Int), rfl, .ref u, rfl, u, xs, rfl, .inr (SqT.of (sm _ _ (smc _ _ eu))), rfl, ?_⟩
          refine ⟨_, eD, small7 (by rw [List.length_map, List.length_map, List.length_take]; omega), same_put sm nD2, ?_⟩
          rw [upd_same, take_next ek, List.map_append, List.map_append, lx]
          have : (!decide (V.int (k : Int) = V.int ((ts.length : Nat) : Int))) = !decide (k = ts.length) := by
            congr 1
            by_cases c : k = ts.length
            · rw [decide_eq_true c, decide_eq_true (by rw [c])]
            · rw [decide_eq_false c, decide_eq_false (fun z => c (by injection z with z; omega))]
          rw [this]
          rfl
        · obtain ⟨sm, eD⟩ := hP
          rw [List.length_map, List.take_length] at eD
          have sH := smc.trans sm
          have ean : (ks.map fun k : Nat => !decide (k = ts.length)).any id = off := by
            rw [Bool.eq_iff_iff, List.any_eq_true, hoff]
            constructor
            · rintro ⟨x, hx, hx2⟩
              obtain ⟨k, hk, rfl⟩ := List.mem_map.mp hx
              obtain ⟨nm, ds, bd, h1, h2⟩ := c1 k hk
              refine ⟨nm, ds, bd, h1, fun z => ?_⟩
              rw [← h2, decide_eq_true z] at hx2
              cases hx2
            · rintro ⟨nm, ds, bd, h1, h2⟩
              obtain ⟨v, hv⟩ := u4 _ _ _ _ h1
              exact ⟨_, List.mem_map.mpr ⟨_, c2 _ hv nm ds bd rfl h1, rfl⟩, by rw [decide_eq_false h2]; rfl⟩
          refine ⟨D2, _, rfl, SqL.of eD, _, rfl, ?_⟩
          rw [ean]
          have bad : earlyP false off ts = true → ∀ {Hx : Hp}, Same H Hx → ∀ p, Hx p = none → ∀ q, (upd Hx p (.tup [.str "width", .str rl])) q = none → E (.ref C2) (some q) (upd (upd Hx p (.tup [.str "width", .str rl])) q (.xd [(("problem" : Str), .ref p)])) := fun h Hx sx p np => fails_at (q1 (fun _ => none) _ (.inl h) (by
            have h : (off || !(decide (1 ≤ ts.length) && decide (ts.length ≤ 4))) = true := h
            unfold aloneQ
            rw [if_neg Bool.false_ne_true, if_pos h])) (sx.trans (same_new np)) (tup2 np (.str _) (.str _))
          have good : (off || !(decide (1 ≤ ts.length) && decide (ts.length ≤ 4))) = false → ∀ wd, aloneQ false off wd rl ts ls = (match (bodyP (wdW wd rl ts.length) [] ls).1 with
              | some d => some d
              | none => loose (bodyP (wdW wd rl ts.length) [] ls).2 false ts) := fun h wd => by
            unfold aloneQ
            rw [if_neg Bool.false_ne_true, if_neg (by rw [h]; exact Bool.false_ne_true)]
          cases eo : off with
          | true =>
            refine iteT' rfl ?_
            exact iteT' rfl ⟨.str rl, rfl, len2, fun p np => ⟨.ref p, rfl, bad (by rw [eo]; rfl) sH p np⟩⟩
          | false =>
            refine iteF' rfl ?_
            have i1 : decide ((1 : Int) ≤ ((xs.length : Nat) : Int)) = decide (1 ≤ ts.length) := by
              rw [lx]
              by_cases c : 1 ≤ ts.length
              · rw [decide_eq_true c, decide_eq_true (by omega)]
              · rw [decide_eq_false c, decide_eq_false (by omega)]
            have i2 : decide (((xs.length : Nat) : Int) ≤ 4) = decide (ts.length ≤ 4) := by
              rw [lx]
              by_cases c : ts.length ≤ 4
              · rw [decide_eq_true c, decide_eq_true (by omega)]
              · rw [decide_eq_false c, decide_eq_false (by omega)]
            refine ⟨.ref u, rfl, u, xs, rfl, .inr (SqT.of (sH _ _ eu)), 1, _, rfl, rfl, _, rfl, ?_⟩
            rw [i1]
            by_cases c1' : 1 ≤ ts.length
            · refine iteT' (decide_eq_true c1') ?_
              refine ⟨_, 4, rfl, rfl, _, rfl, ?_⟩
              rw [i2]
              by_cases c2' : ts.length ≤ 4
              · have hg := good (by rw [eo, decide_eq_true c1', decide_eq_true c2']; rfl)
                rw [eo] at hg
                refine iteF' (by rw [decide_eq_true c2']; rfl) ?_
                intro p np
                generalize hG : upd _ p _ = H8
                obtain ⟨s8, e8⟩ := gen_up hG np
                clear hG
                have sH8 := sH.trans s8
                refine ⟨.ref s, rfl, .inr ⟨s, dx, r, f, ud, d, kr, ku, its, N, od, rfl, b.same sH8, sH8 _ _ hu0, hN, tu, fun bb more wd H9 s9 eb wk wy nb lm => ?_⟩⟩
                have hg := hg wd
                have sH9 := sH8.trans s9
                have npb : p ≠ bb := fun z => by rw [← z, e8] at nb; cases nb
                have ep9 := s9 _ _ e8
                have npH : H p = none := by
                  cases ex : H p with
                  | none => rfl
                  | some o => rw [sH _ _ ex] at np; cases np
                refine ⟨bb, more, rfl, ep9, .of eb, npb, lm, fun qq nq => ?_⟩
                have npq : p ≠ qq := fun z => by rw [← z, ep9] at nq; cases nq
                have nqH : H qq = none := by
                  cases ex : H qq with
                  | none => rfl
                  | some o => rw [sH9 _ _ ex] at nq; cases nq
                have s10 : Same H (upd (upd H9 p (.dK more)) qq (.dK [])) := same_put (same_put sH9 npH) nqH
                refine ⟨.str rl, rfl, .ref u, rfl, u, xs, rfl, .inr (SqT.of (s10 _ _ eu)), Sum.inr rl, rfl, upd_same, by rw [upd_ne npq]; exact upd_same, ?_⟩
                have s12 : Same H (upd (upd (upd (upd H9 p (.dK more)) qq (.dK [])) qq (.dK [(Sum.inr rl, V.int (xs.length : Nat))])) p (.dK (putK more (Sum.inr rl) (V.int (xs.length : Nat))))) := same_put (same_put s10 nqH) npH
                have e12 := upd_same (H := upd (upd (upd H9 p (.dK more)) qq (.dK [])) qq (.dK [(Sum.inr rl, V.int (xs.length : Nat))])) (a := p) (o := .dK (putK more (Sum.inr rl) (V.int (xs.length : Nat))))
                generalize upd (upd (upd (upd H9 p (.dK more)) qq (.dK [])) qq (.dK [(Sum.inr rl, V.int (xs.length : Nat))])) p (.dK (putK more (Sum.inr rl) (V.int (xs.length : Nat)))) = H12 at s12 e12 ⊢
                have wk2 := widK_put wk rl xs.length
                rw [lx] at wk2 e12
                refine ⟨.ref ub, rfl, p, ub, xb, ls, _, wdW wd rl ts.length, rfl, s12 _ _ eub, txb.mono (Tk.of s12), hl, l9, e12, wk2, fun z pb H13 s13 eb13 => ?_, fun d z => (q1 wd d (.inr wy) (by rw [eo]; rw [hg, z])).same s12⟩
                have sH13 := s12.trans s13
                have hg2 : aloneQ false false wd rl ts ls = loose (bodyP (wdW wd rl ts.length) [] ls).2 false ts := by rw [hg, z]
                exact ⟨.ref u, rfl, .ref pb, rfl, u, pb, xs, ts, _, rfl, sH13 _ _ eu, tx.mono (Tk.of sH13), eb13, fun z2 => q0 wd wy (by rw [eo]; exact hg2.trans z2) _ sH13, fun d z2 => (q1 wd d (.inr wy) (by rw [eo]; exact hg2.trans z2)).same sH13⟩
              · have hd : earlyP false off ts = true := by show (false || (off || !(decide (1 ≤ ts.length) && decide (ts.length ≤ 4)))) = true; rw [eo, decide_eq_false c2', Bool.and_false]; rfl
                refine iteT' (by rw [decide_eq_false c2']; rfl) ⟨.str rl, rfl, len2, fun p np => ⟨.ref p, rfl, bad hd sH p np⟩⟩
            · have hd : earlyP false off ts = true := by show (false || (off || !(decide (1 ≤ ts.length) && decide (ts.length ≤ 4)))) = true; rw [eo, decide_eq_false c1', Bool.false_and]; rfl
              refine iteF' (decide_eq_false c1') ⟨false, rfl, iteT' rfl ⟨.str rl, rfl, len2, fun p np => ⟨.ref p, rfl, bad hd sH p np⟩⟩⟩
abbrev dCA (P : Program) (w : World) (K : PySem.W.Frag) (mg : Str → Option Value) (base : Heap) (C C2 : Addr) : Prop := DefX P w K mg base "check_alone" 6 ["state", "relation", "terms", "body"] (spCA C C2)
end
end KU

namespace KU
open PySem PySem.Spec PyProof.Rows PySem.HandSPX L2 KA
def ruI (r : Ru) : It1 := .rule r.nm r.rl (.tuple (r.ts.map tD)) (.tuple (r.ls.map litD))
def RulesOf (its : List It1) (R : List Ru) : Prop := (∀ r ∈ R, ruI r ∈ its) ∧ ∀ nm rl ts bd, It1.rule nm rl ts bd ∈ its → ∃ r ∈ R, ruI r = .rule nm rl ts bd
theorem putK_snoc {kvs : List (Key × V)} {k : Key} {v : V} (h : valV kvs k = none) : putK kvs k v = kvs ++ [(k, v)] := by
  unfold putK
  rw [if_neg]
  rw [valV_any, h]
  exact Bool.false_ne_true
theorem rules_par {H : Hp} {its : List It1} {R : List Ru} (ro : RulesOf its R) : ∀ {ku : List (Key × V)}, (∀ k v, (k, v) ∈ ku → ∃ nm rl ts bd, k = Sum.inr nm ∧ Tp H v (.tuple [.str rl, ts, bd]) ∧ It1.rule nm rl ts bd ∈ its) → ∃ R', RuK H ku R' ∧ ∀ r ∈ R', r ∈ R
  | [], _ => ⟨[], ⟨rfl, .nil⟩, fun r hr => by cases hr⟩
  | (k, v) :: ku, h => by
    obtain ⟨R', ⟨a1, a2⟩, hm⟩ := rules_par ro (ku := ku) fun k v m => h k v (List.mem_cons_of_mem _ m)
    obtain ⟨nm, rl, ts, bd, rfl, tv, hi⟩ := h k v List.mem_cons_self
    obtain ⟨r, hr, er⟩ := ro.2 nm rl ts bd hi
    cases er
    refine ⟨r :: R', ⟨?_, .cons tv a2⟩, fun x hx => ?_⟩
    · show Sum.inr r.nm :: ku.map (·.1) = Sum.inr r.nm :: R'.map (fun r => (Sum.inr r.nm : Key))
      rw [a1]
    · rcases List.mem_cons.mp hx with rfl | hx
      · exact hr
      · exact hm x hx
theorem ruk_nodup {H : Hp} {ku : List (Key × V)} {R : List Ru} (h : RuK H ku R) (n : nd ku) : (R.map Ru.nm).Nodup := by
  have e : ku.map (·.1) = (R.map Ru.nm).map (Sum.inr : Str → Key) := by rw [h.1, List.map_map]; rfl
  have n : (ku.map (·.1)).Nodup := n
  rw [e] at n
  exact List.Pairwise.of_map (Sum.inr : Str → Key) (fun a b q z => q (by rw [z])) n
def ruleP (hn : Bool) (nm : Str) (al eo : Option PyData) : Option PyData := if hn = true then some (.tuple [.str "exists", .str "rule", .str nm]) else match al with
  | some d => some d
  | none => eo
section
variable {P : Program} {w : World} {K : PySem.W.Frag} {mg : Str → Option Value} {base : Heap} {C C2 fI : Addr}
abbrev sCB : Stmt := topS 20
theorem scCB : FnScope ["state", "body"] ["state", "body"] (defScope sCB) := ⟨rfl, rfl, rfl, by decide +kernel, rfl, by decide +kernel, by decide +kernel⟩
def spCB (C C2 : Addr) : Sp := fun vs H Q E => ∃ (s dx r f ud d u : Addr) (kr ku : List (Key × V)) (its : List It1) (N : Nat) (xs : List V) (ls : List L), vs = [.ref s, .ref u] ∧ StR C H s dx r f ud d kr ku its N ∧ H ud = some (.dK ku) ∧ N ≤ 400 ∧ TupR its ∧ H u = some (.tup xs) ∧ Tps H xs (ls.map litD) ∧ (∀ l ∈ ls, (litTs l).length ≤ 9) ∧ ls.length ≤ 9 ∧
  (∀ wd, WidAny its wd → (bodyP wd [] ls).1 = none → ∀ p H', Same H H' → Q (.ref p) H') ∧ ∀ wd d, WidAny its wd → (bodyP wd [] ls).1 = some d → Fails C2 H E d
theorem ok_chb {f0 : Addr} {fd : FuncData} (F0 : Fun K "check_body" "check_body" sCB f0 fd) (DW : dWd P w K mg base C) (DK : dCK P w K mg base C2) : FnOk P w K mg base (L2.CX P w) 6 f0 fd ["state", "body"] (spCB C C2) := by
  refine F0.okX scCB (fun vs H Q E h => ?_) (fun cdv A outer s0 H vs Q E hr h => ?_)
  · obtain ⟨_, _, _, _, _, _, _, _, _, _, _, _, _, rfl, _⟩ := h
    rfl
  · obtain ⟨s, dx, r, f, ud, d, u, kr, ku, its, N, xs, ls, rfl, b, hu0, hN, tu, eu, tx, hl, l9, q0, q1⟩ := h
    have r1 : Room 1 _ := hr.mono (by decide)
    refine ⟨_, pss_one (ps_ret (pe_defX DK hr (by rfl) (passes_call (takes_of rfl rfl rfl rfl) (fun _ _ _ _ h => h)) (pa_cons (pe_def DW r1 (by rfl) (pa_cons (pv 0) pa_nil)) (pa_cons (pv 1) pa_nil)))), ?_⟩
    refine ⟨.ref s, rfl, .inl ⟨s, dx, r, f, ud, d, kr, ku, its, N, rfl, b, hu0, hN, tu, fun p kvs wd H' sm ep wk wy np _ => ?_⟩⟩
    exact ⟨.ref u, rfl, p, u, xs, ls, kvs, wd, rfl, sm _ _ eu, tx.mono (Tk.of sm), hl, l9, ep, wk, fun z p2 H2 s2 e2 => q0 wd wy z p2 H2 (sm.trans s2), fun d z => (q1 wd d wy z).same sm⟩
abbrev dCB (P : Program) (w : World) (K : PySem.W.Frag) (mg : Str → Option Value) (base : Heap) (C C2 : Addr) : Prop := DefX P w K mg base "check_body" 6 ["state", "body"] (spCB C C2)
end
end KU

namespace KU
open PySem PySem.Spec PyProof.Rows PySem.HandSPX L2 KA
section
variable {P : Program} {w : World} {K : PySem.W.Frag} {mg : Str → Option Value} {base : Heap}
abbrev sRO : Stmt := topS 49
abbrev nRO : List Str := ["body", "pairs", "literal"]
theorem scRO : FnScope nRO ["body"] (defScope sRO) := ⟨rfl, rfl, rfl, by decide +kernel, rfl, by decide +kernel, by decide +kernel⟩
def kinds : List Str := ["fact", "not", "count"]
theorem ok_ro {f : Addr} {fd : FuncData} (F : Fun K "_law_relations_of" "_law_relations_of" sRO f fd) (B : Bt mg) : FnOk P w K mg base CX0 1 f fd ["body"] spBe := by
  refine F.ok scRO (fun vs H Q E h => ?_) (fun cdv A outer s H vs Q E hr h => ?_)
  · obtain ⟨_, _, _, rfl, _⟩ := h
    rfl
  · obtain ⟨u, xs, ls, rfl, eu, tx, l9, q⟩ := h
    have hu := hu_of hr
    have lx : xs.length = ls.length := by rw [tx.length, List.length_map]
    have sne : ∀ {x y : Str}, x ≠ y → V.str x ≠ V.str y := fun n z => n (by injection z)
    refine ⟨_, (pss_cons (ps_set (i := 1) scRO.nd rfl (.inl rfl) (pe_lst pa_nil))
      (pss_cons (ps_for PassesOwn.never rfl (pi_tup (pv 0)) (pg_name (i := 2) scRO.nd rfl (Or.inl rfl))
        (pss_one (ps_if (pt_cmpR op_in_seq (pe_ix ix_tup (pv 2) pe_int (fun _ _ => rfl)) (pe_lst (pa_cons pe_str (pa_cons pe_str (pa_cons pe_str pa_nil)))) rfl)
          (pss_one (ps_expr (pe_bm PySem.F.plainAttrs_list PySem.F.slot_list_append PySem.F.type_list_append mt_append (pv 1) (pa_cons (pe_tup (pa_cons (pe_ix ix_tup (pv 2) (pe_op op_sub (pe_callB call_len_seq (by rfl) B.len PySem.boot_len (pa_cons (pv 2) pa_nil)) pe_int) (fun _ _ => rfl)) (pa_cons (pe_cmpR op_ne (pe_ix ix_tup (pv 2) pe_int (fun _ _ => rfl)) pe_str (nomark _)) pa_nil))) pa_nil))))
          pss_nil)))
      (pss_one (ps_ret (pv 1))))), ?_⟩
    refine ⟨Nat.zero_le _, fun a na => ?_⟩
    have s0 : Same H (upd H a (.lst [])) := same_new na
    refine ⟨.ref u, rfl, u, rfl, ⟨xs, SqT.of (s0 _ _ eu)⟩, ?_⟩
    refine for_it walk_tup (fun i σ H' => Same H H' ∧ (∃ x2, σ = [some (.ref u), some (.ref a), x2]) ∧ ∃ ys, H' a = some (.lst ys) ∧ Tps H' ys ((edgesL (ls.take i)).map edgeD)) ⟨s0, ⟨none, rfl⟩, [], upd_same, .nil⟩
      (fun i σ H' _ hP => SqT.of (hP.1 _ _ eu)) (fun i x σ H1 H' hi hP hY => ?_) (fun σ H' hP => ?_)
    · obtain ⟨rfl, hx⟩ := hY
      obtain ⟨sm, ⟨x2, rfl⟩, ys, ea, ty⟩ := hP
      obtain ⟨l, el, tl⟩ := lit_get tx hx
      have tl := tl.mono (Tk.of sm)
      have le : ys.length ≤ 9 := by
        have h1 := ty.length
        have h2 := edges_len (ls.take i)
        rw [List.length_map] at h1
        rw [List.length_take] at h2
        omega
      have ee : edgesL (ls.take (i + 1)) = edgesL (ls.take i) ++ edgesL [l] := by rw [take_next el, edges_app]
      have add : ∀ (Hb : Hp) (r : Str) (b : Bool) (p : Addr), Same H' Hb → edgesL [l] = [(r, b)] → Hb p = none → (upd Hb p (.tup [.str r, .bl b])) a = some (.lst ys) ∧ Same H (upd (upd Hb p (.tup [.str r, .bl b])) a (.lst (ys ++ [.ref p]))) ∧ Tps (upd (upd Hb p (.tup [.str r, .bl b])) a (.lst (ys ++ [.ref p]))) (ys ++ [.ref p]) ((edgesL (ls.take (i + 1))).map edgeD) := fun Hb r b p sb e np => by
        have s1 := same_new (o := .tup [.str r, .bl b]) np
        have ea1 := s1 _ _ (sb _ _ ea)
        have tk : Tk (upd Hb p (.tup [.str r, .bl b])) (upd (upd Hb p (.tup [.str r, .bl b])) a (.lst (ys ++ [.ref p]))) := Tk.lst ea1
        refine ⟨ea1, same_put ((sm.trans sb).trans s1) na, ?_⟩
        rw [ee, List.map_append, e]
        exact (((ty.mono (Tk.of sb)).mono (Tk.of s1)).mono tk).append (.cons ((tup2 np (.str r) (.bl b)).mono tk) .nil)
      have skip : ∀ Hb : Hp, Same H' Hb → edgesL [l] = [] → Same H Hb ∧ (∃ x2, ([some (.ref u), some (.ref a), some x] : L2.St) = [some (.ref u), some (.ref a), x2]) ∧ ∃ ys, Hb a = some (.lst ys) ∧ Tps Hb ys ((edgesL (ls.take (i + 1))).map edgeD) := fun Hb sb e => by
        refine ⟨sm.trans sb, ⟨_, rfl⟩, ys, sb _ _ ea, ?_⟩
        rw [ee, e, List.append_nil]
        exact ty.mono (Tk.of sb)
      obtain ⟨p, r0, rfl, ep, e0⟩ := lit_name tl
      refine ⟨.ref p, rfl, p, r0, 0, _, rfl, rfl, SqT.of ep, e0, len3, fun z nz => ?_⟩
      generalize hG : upd _ z _ = Hb
      obtain ⟨sb, ez⟩ := gen_up hG nz
      clear hG
      have ez : Hb z = some (.lst (kinds.map V.str)) := ez
      refine ⟨z, _, rfl, .inl (SqL.of ez), rfl, flat_strs kinds, _, rfl, ?_⟩
      rw [inV_str]
      have epb := sb _ _ ep
      cases l with
      | fact r ts =>
        obtain ⟨p', t, zs, e1, e2, _⟩ := lit3_inv tl
        cases e1
        rw [ep] at e2
        cases e2
        refine iteT' (decide_eq_true (show ("fact" : Str) ∈ kinds by decide +kernel)) ?_
        refine ⟨.ref a, rfl, .inl ⟨rfl, _, SqL.of (sb _ _ ea)⟩, ?_⟩
        refine ⟨.ref p, rfl, .ref p, rfl, p, _, rfl, .inr (SqT.of epb), 3, 2, rfl, rfl, p, _, 1, .str r, rfl, rfl, SqT.of epb, rfl, ?_⟩
        refine ⟨.ref p, rfl, p, _, 0, .str "fact", rfl, rfl, SqT.of epb, rfl, rfl, len2, fun q1 nq => ?_⟩
        obtain ⟨b1, b2, b3⟩ := add Hb r false q1 sb rfl nq
        exact ⟨a, ys, _, rfl, rfl, b1, small1000 (by omega), b2, ⟨_, rfl⟩, _, upd_same, b3⟩
      | notl r ts =>
        obtain ⟨p', t, zs, e1, e2, _⟩ := lit3_inv tl
        cases e1
        rw [ep] at e2
        cases e2
        refine iteT' (decide_eq_true (show ("not" : Str) ∈ kinds by decide +kernel)) ?_
        refine ⟨.ref a, rfl, .inl ⟨rfl, _, SqL.of (sb _ _ ea)⟩, ?_⟩
        refine ⟨.ref p, rfl, .ref p, rfl, p, _, rfl, .inr (SqT.of epb), 3, 2, rfl, rfl, p, _, 1, .str r, rfl, rfl, SqT.of epb, rfl, ?_⟩
        refine ⟨.ref p, rfl, p, _, 0, .str "not", rfl, rfl, SqT.of epb, rfl, rfl, len2, fun q1 nq => ?_⟩
        obtain ⟨b1, b2, b3⟩ := add Hb r true q1 sb rfl nq
        exact ⟨a, ys, _, rfl, rfl, b1, small1000 (by omega), b2, ⟨_, rfl⟩, _, upd_same, b3⟩
      | cnt x r ts =>
        obtain ⟨p', t, zs, e1, e2, _⟩ := litN_inv tl
        cases e1
        rw [ep] at e2
        cases e2
        refine iteT' (decide_eq_true (show ("count" : Str) ∈ kinds by decide +kernel)) ?_
        refine ⟨.ref a, rfl, .inl ⟨rfl, _, SqL.of (sb _ _ ea)⟩, ?_⟩
        refine ⟨.ref p, rfl, .ref p, rfl, p, _, rfl, .inr (SqT.of epb), 4, 2, rfl, rfl, p, _, 2, .str r, rfl, rfl, SqT.of epb, rfl, ?_⟩
        refine ⟨.ref p, rfl, p, _, 0, .str "count", rfl, rfl, SqT.of epb, rfl, rfl, len2, fun q1 nq => ?_⟩
        obtain ⟨b1, b2, b3⟩ := add Hb r true q1 sb rfl nq
        exact ⟨a, ys, _, rfl, rfl, b1, small1000 (by omega), b2, ⟨_, rfl⟩, _, upd_same, b3⟩
      | cmp o s1 s2 => exact iteF' (decide_eq_false (show ("compare" : Str) ∉ kinds by decide +kernel)) (skip Hb sb rfl)
      | isl z' o s1 s2 => exact iteF' (decide_eq_false (show ("is" : Str) ∉ kinds by decide +kernel)) (skip Hb sb rfl)
    · obtain ⟨sm, ⟨x2, rfl⟩, ys, ea, ty⟩ := hP
      rw [lx, List.take_length] at ty
      exact ⟨.ref a, rfl, q a ys _ sm ea ty na⟩
abbrev dRO (P : Program) (w : World) (K : PySem.W.Frag) (mg : Str → Option Value) (base : Heap) : Prop := Def P w K mg base "_law_relations_of" 1 ["body"] spBe
end
end KU

namespace KU
open PySem PySem.Spec PyProof.Rows PySem.HandSPX L2 KA
/-! ### ways of n edges -/
inductive Pt (adj : Str → List Str) : Nat → Str → Str → Prop
  | one {x y} : y ∈ adj x → Pt adj 1 x y
  | step {n x y z} : Pt adj n x y → z ∈ adj y → Pt adj (n + 1) x z
theorem Pt.pos {adj : Str → List Str} {n : Nat} {x y : Str} (h : Pt adj n x y) : 1 ≤ n := by
  cases h with
  | one _ => exact Nat.le_refl _
  | step _ _ => omega
theorem Pt.rch {adj : Str → List Str} {n : Nat} {x y : Str} (h : Pt adj n x y) : Rch adj x y := by
  induction h with
  | one a => exact .one a
  | step _ a ih => exact .step ih a
theorem Pt.head {adj : Str → List Str} {n : Nat} {x y : Str} (h : Pt adj n x y) : (n = 1 ∧ y ∈ adj x) ∨ ∃ m z, n = m + 1 ∧ z ∈ adj x ∧ Pt adj m z y := by
  induction h with
  | one a => exact .inl ⟨rfl, a⟩
  | @step n x y z h a ih =>
    rcases ih with ⟨rfl, b⟩ | ⟨m, z', rfl, b, c⟩
    · exact .inr ⟨1, y, rfl, b, .one a⟩
    · exact .inr ⟨m + 1, z', rfl, b, .step c a⟩
theorem Rch.head {adj : Str → List Str} {x z y : Str} (a : z ∈ adj x) (h : Rch adj z y) : Rch adj x y := by
  induction h with
  | one b => exact .step (.one a) b
  | step _ b ih => exact .step ih b
open Classical in
theorem countP_lt {α : Type} {l : List α} {p q : α → Prop} (h : ∀ a ∈ l, p a → q a) (s : ∃ a ∈ l, q a ∧ ¬ p a) : l.countP (fun a => decide (p a)) < l.countP (fun a => decide (q a)) := by
  induction l with
  | nil => obtain ⟨a, m, _⟩ := s; cases m
  | cons b l ih =>
    have mono : l.countP (fun a => decide (p a)) ≤ l.countP (fun a => decide (q a)) := List.countP_mono_left fun a m e => decide_eq_true (h a (List.mem_cons_of_mem _ m) (of_decide_eq_true e))
    rw [List.countP_cons, List.countP_cons]
    by_cases c : ∃ a ∈ l, q a ∧ ¬ p a
    · have := ih (fun a m => h a (List.mem_cons_of_mem _ m)) c
      by_cases pb : p b
      · rw [if_pos (decide_eq_true pb), if_pos (decide_eq_true (h b List.mem_cons_self pb))]
        omega
      · rw [if_neg (fun z => pb (of_decide_eq_true z))]
        split <;> omega
    · obtain ⟨a, m, qa, pa⟩ := s
      rcases List.mem_cons.mp m with rfl | m
      · rw [if_pos (decide_eq_true qa), if_neg (fun z => pa (of_decide_eq_true z))]
        omega
      · exact absurd ⟨a, m, qa, pa⟩ c
def Ds (adj : Str → List Str) (x : Str) (t : Nat) (y : Str) : Prop := y = x ∨ ∃ n, n ≤ t ∧ Pt adj n x y
theorem rch_pt {R : List Ru} {x y : Str} (r : Rch (adjOf R) x y) : ∃ n, n ≤ R.length + 1 ∧ Pt (adjOf R) n x y := by
  classical
  have hs : ∀ {z y : Str}, z ∈ adjOf R y → y ∈ R.map Ru.rl := fun h => by
    obtain ⟨r, hr, e, _⟩ := mem_adj.mp h
    exact List.mem_map.mpr ⟨r, hr, e⟩
  have mono : ∀ {t : Nat} {y : Str}, Ds (adjOf R) x t y → Ds (adjOf R) x (t + 1) y := fun h => h.imp id fun ⟨n, l, p⟩ => ⟨n, by omega, p⟩
  obtain ⟨t, ht, st⟩ : ∃ t, t ≤ R.length ∧ ∀ h ∈ R.map Ru.rl, Ds (adjOf R) x (t + 1) h → Ds (adjOf R) x t h := by
    by_cases c : ∃ t, t ≤ R.length ∧ ∀ h ∈ R.map Ru.rl, Ds (adjOf R) x (t + 1) h → Ds (adjOf R) x t h
    · exact c
    · exfalso
      have gr : ∀ t, t ≤ R.length + 1 → t ≤ (R.map Ru.rl).countP (fun a => decide (Ds (adjOf R) x t a)) := fun t => by
        induction t with
        | zero => intro _; exact Nat.zero_le _
        | succ t ih =>
          intro ht
          have h1 := ih (by omega)
          have h2 : ∃ a ∈ R.map Ru.rl, Ds (adjOf R) x (t + 1) a ∧ ¬ Ds (adjOf R) x t a := by
            by_cases d : ∃ a ∈ R.map Ru.rl, Ds (adjOf R) x (t + 1) a ∧ ¬ Ds (adjOf R) x t a
            · exact d
            · refine absurd ⟨t, by omega, fun h hh ds => ?_⟩ c
              by_cases e : Ds (adjOf R) x t h
              · exact e
              · exact absurd ⟨h, hh, ds, e⟩ d
          have := countP_lt (l := R.map Ru.rl) (p := Ds (adjOf R) x t) (q := Ds (adjOf R) x (t + 1)) (fun a _ h => mono h) h2
          omega
      have h1 := gr (R.length + 1) (Nat.le_refl _)
      have h2 := List.countP_le_length (p := fun a => decide (Ds (adjOf R) x (R.length + 1) a)) (l := R.map Ru.rl)
      rw [List.length_map] at h2
      omega
  have key : ∃ n, n ≤ t + 1 ∧ Pt (adjOf R) n x y := by
    induction r with
    | one a => exact ⟨1, by omega, .one a⟩
    | step _ a ih =>
      obtain ⟨n, l, p⟩ := ih
      rcases st _ (hs a) (.inr ⟨n, l, p⟩) with rfl | ⟨m, l2, p2⟩
      · exact ⟨1, by omega, .one a⟩
      · exact ⟨m + 1, by omega, .step p2 a⟩
  obtain ⟨n, l, p⟩ := key
  exact ⟨n, by omega, p⟩
/-! ### the law's lists, by relation -/
structure ReK (H0 H : Hp) (R : List Ru) (kvs : List (Key × V)) (rch : Str → List Str) : Prop where
  adj : AdjK H kvs rch
  inj : ∀ x y p, valV kvs (Sum.inr x : Key) = some (.ref p) → valV kvs (Sum.inr y : Key) = some (.ref p) → x = y
  new : ∀ x p, valV kvs (Sum.inr x : Key) = some (.ref p) → H0 p = none
  ndl : ∀ x, (rch x).Nodup
  snd : ∀ x y, y ∈ rch x → Rch (adjOf R) x y
def KeepQ (kvs : List (Key × V)) (H H' : Hp) : Prop := ∀ c o, H c = some o → (∀ x, valV kvs (Sum.inr x : Key) ≠ some (.ref c)) → H' c = some o
theorem KeepQ.trans {kvs : List (Key × V)} {H H1 H2 : Hp} (a : KeepQ kvs H H1) (b : KeepQ kvs H1 H2) : KeepQ kvs H H2 := fun c o h n => b c o (a c o h n) n
theorem KeepQ.of {kvs : List (Key × V)} {H H' : Hp} (s : Same H H') : KeepQ kvs H H' := fun c o h _ => s c o h
theorem rch_all {R : List Ru} {x y : Str} (r : Rch (adjOf R) x y) : y ∈ allOf R := by
  cases r with
  | one a => exact adj_all a
  | step _ a => exact adj_all a
theorem ReK.small {H0 H : Hp} {R : List Ru} {kvs : List (Key × V)} {rch : Str → List Str} (h : ReK H0 H R kvs rch) (ok : ∀ r ∈ R, OkRu r) (x : Str) : (rch x).length ≤ 9 * R.length := Nat.le_trans (nodup_le (h.ndl x) fun y hy => rch_all (h.snd x y hy)) (all_len ok)
theorem ReK.same {H0 H H' : Hp} {R : List Ru} {kvs : List (Key × V)} {rch : Str → List Str} (h : ReK H0 H R kvs rch) (s : Same H H') : ReK H0 H' R kvs rch := ⟨h.adj.same s, h.inj, h.new, h.ndl, h.snd⟩
def rchA (rch : Str → List Str) (x y : Str) : Str → List Str := fun z => if z = x then rch x ++ [y] else rch z
theorem mem_rchA {rch : Str → List Str} {x y a b : Str} : b ∈ rchA rch x y a ↔ b ∈ rch a ∨ (a = x ∧ b = y) := by
  unfold rchA
  by_cases c : a = x
  · rw [if_pos c, List.mem_append, List.mem_singleton, c]
    exact ⟨fun h => h.imp id fun z => ⟨rfl, z⟩, fun h => h.imp id And.right⟩
  · rw [if_neg c]
    exact ⟨.inl, fun h => h.elim id fun z => absurd z.1 c⟩
theorem ReK.app {H0 H : Hp} {R : List Ru} {kvs : List (Key × V)} {rch : Str → List Str} {x y : Str} {q : Addr} (h : ReK H0 H R kvs rch) (e : valV kvs (Sum.inr x : Key) = some (.ref q)) (n : y ∉ rch x) (r : Rch (adjOf R) x y) : ReK H0 (upd H q (.lst ((rch x ++ [y]).map V.str))) R kvs (rchA rch x y) := by
  refine ⟨fun z => ?_, h.inj, h.new, fun z => ?_, fun a b hb => ?_⟩
  · unfold rchA
    by_cases c : z = x
    · subst c
      rw [if_pos rfl]
      exact .inr ⟨q, e, upd_same⟩
    · rw [if_neg c]
      rcases h.adj z with g | ⟨p, g1, g2⟩
      · exact .inl g
      · exact .inr ⟨p, g1, by rw [upd_ne (fun w => c (h.inj _ _ q (by rw [← w]; exact g1) e))]; exact g2⟩
  · unfold rchA
    by_cases c : z = x
    · rw [if_pos c]
      refine List.nodup_append.mpr ⟨h.ndl x, by simp, fun a ha b hb w => n ?_⟩
      rw [List.mem_singleton.mp hb] at w
      rw [← w]
      exact ha
    · rw [if_neg c]
      exact h.ndl z
  · rcases mem_rchA.mp hb with g | ⟨rfl, rfl⟩
    · exact h.snd a b g
    · exact r
theorem ReK.keep {H : Hp} {kvs : List (Key × V)} {x : Str} {q : Addr} {o : HO} (e : valV kvs (Sum.inr x : Key) = some (.ref q)) : KeepQ kvs H (upd H q o) := fun c u h n => by
  rw [upd_ne (fun z => n x (by rw [z]; exact e))]
  exact h
def Up (a b : Str → List Str) : Prop := ∀ x y, y ∈ a x → y ∈ b x
/-- after t turns -/
def Turned (R : List Ru) (t : Nat) (rch : Str → List Str) : Prop := ∀ n x y, n ≤ t → Pt (adjOf R) n x y → y ∈ rch x
/-- the rule has been gone through in this turn -/
def Gone (rch0 rch : Str → List Str) (r : Ru) : Prop := ∀ e ∈ edgesL r.ls, e.1 ∈ rch r.rl ∧ ∀ y ∈ rch0 e.1, y ∈ rch r.rl
theorem Gone.up {rch0 rch rch' : Str → List Str} {r : Ru} (h : Gone rch0 rch r) (u : Up rch rch') : Gone rch0 rch' r := fun e he => ⟨u _ _ (h e he).1, fun y hy => u _ _ ((h e he).2 y hy)⟩
theorem turned_next {R : List Ru} {t : Nat} {rch0 rch : Str → List Str} (h : Turned R t rch0) (g : ∀ r ∈ R, Gone rch0 rch r) : Turned R (t + 1) rch := fun n x y hn p => by
  rcases p.head with ⟨_, a⟩ | ⟨m, z, rfl, a, b⟩
  · obtain ⟨r, hr, rfl, e, he, rfl⟩ := mem_adj.mp a
    exact (g r hr e he).1
  · obtain ⟨r, hr, rfl, e, he, rfl⟩ := mem_adj.mp a
    exact (g r hr e he).2 y (h m _ y (by omega) b)
end KU

namespace KU
open PySem PySem.Spec PyProof.Rows PySem.HandSPX L2 KA
theorem ReK.at_ {H0 H : Hp} {R : List Ru} {kvs : List (Key × V)} {rch : Str → List Str} (h : ReK H0 H R kvs rch) {x : Str} {c : Addr} (e : valV kvs (Sum.inr x : Key) = some (.ref c)) : H c = some (.lst ((rch x).map V.str)) := by
  rcases h.adj x with ⟨a, _⟩ | ⟨p, a, b⟩
  · rw [e] at a; cases a
  · rw [e] at a; cases a; exact b
theorem KeepQ.tk {H0 H H' : Hp} {R : List Ru} {kvs : List (Key × V)} {rch : Str → List Str} (h : ReK H0 H R kvs rch) (k : KeepQ kvs H H') : Tk H H' := fun c xs e => k c _ e fun x z => by rw [h.at_ z] at e; cases e
theorem ReK.put {H0 H : Hp} {R : List Ru} {kvs : List (Key × V)} {rch : Str → List Str} {a : Addr} {o : HO} (h : ReK H0 H R kvs rch) (ha : H0 a ≠ none) : ReK H0 (upd H a o) R kvs rch :=
  ⟨fun x => by
    rcases h.adj x with g | ⟨p, g1, g2⟩
    · exact .inl g
    · exact .inr ⟨p, g1, by rw [upd_ne (fun z => ha (by rw [← z]; exact h.new _ _ g1))]; exact g2⟩, h.inj, h.new, h.ndl, h.snd⟩
theorem ReK.no {H0 H : Hp} {R : List Ru} {kvs : List (Key × V)} {rch : Str → List Str} (h : ReK H0 H R kvs rch) {c : Addr} (n : H c = none) : ∀ x, valV kvs (Sum.inr x : Key) ≠ some (.ref c) := fun x z => by
  have := h.at_ z
  rw [n] at this
  cases this
section
variable {P : Program} {w : World} {K : PySem.W.Frag} {mg : Str → Option Value} {base : Heap}
abbrev sLR : Stmt := topS 50
abbrev nLR : List Str := ["rules", "reach", "name", "turn", "relation", "other", "below", "each"]
theorem scLR : FnScope nLR ["rules"] (defScope sLR) := ⟨rfl, rfl, rfl, by decide +kernel, rfl, by decide +kernel, by decide +kernel⟩
def spLR : Sp := fun vs H Q _ => ∃ (a : Addr) (ku : List (Key × V)) (R : List Ru), vs = [.ref a] ∧ H a = some (.dK ku) ∧ RuK H ku R ∧ (R.map Ru.nm).Nodup ∧ (∀ r ∈ R, OkRu r) ∧ R.length ≤ 60 ∧
  ∀ p kvs rch H', Same H H' → H p = none → H' p = some (.dK kvs) → AdjK H' kvs rch → (∀ x, (rch x).length ≤ 600) → (∀ x y, y ∈ rch x ↔ Rch (adjOf R) x y) → Q (.ref p) H'
theorem ok_lr {f : Addr} {fd : FuncData} (F : Fun K "_law_reach" "_law_reach" sLR f fd) (B : Bt mg) (DRO : dRO P w K mg base) : FnOk P w K mg base CX0 2 f fd ["rules"] spLR := by
  refine F.ok scLR (fun vs H Q E h => ?_) (fun cdv A outer s H vs Q E hr h => ?_)
  · obtain ⟨_, _, _, rfl, _⟩ := h
    rfl
  · obtain ⟨a, ku, R, rfl, ea, rk, nn, ok, lR, q⟩ := h
    have hu := hu_of hr
    refine ⟨_, (pss_cons (ps_set (i := 1) scLR.nd rfl (.inl rfl) pe_dnewK)
      (pss_cons (ps_lock (ps_for PassesOwn.never rfl (pi_keys (pv 0)) (pg_name (i := 2) scLR.nd rfl (Or.inl rfl))
        (pss_one (ps_dput hu (pv 1) (pe_ix ix_tup (pe_dget hu (pv 0) (pv 2) (fun _ _ => rfl)) pe_int (fun _ _ => rfl)) (pe_lst pa_nil) rfl))))
      (pss_cons (ps_for PassesOwn.never rfl (pi_range1 (by rfl) B.rng (pa_cons (pe_op op_add (pe_callB call_lenD (by rfl) B.len PySem.boot_len (pa_cons (pv 0) pa_nil)) pe_int) pa_nil)) (pg_name (i := 3) scLR.nd rfl (Or.inl rfl))
        (pss_one (ps_lock (ps_for PassesOwn.never rfl (pi_keys (pv 0)) (pg_name (i := 2) scLR.nd rfl (Or.inl rfl))
          (pss_cons (ps_set (i := 4) scLR.nd rfl (.inl rfl) (pe_ix ix_tup (pe_dget hu (pv 0) (pv 2) (fun _ _ => rfl)) pe_int (fun _ _ => rfl)))
          (pss_one (ps_for PassesOwn.never rfl (pi_list (pe_def DRO (hr.mono (by decide)) (by rfl) (pa_cons (pe_ix ix_tup (pe_dget hu (pv 0) (pv 2) (fun _ _ => rfl)) pe_int (fun _ _ => rfl)) pa_nil))) (pg_tup rfl (pgs_cons (pg_name (i := 5) scLR.nd rfl (Or.inl rfl)) (pgs_cons (pg_name (i := 6) scLR.nd rfl (Or.inl rfl)) pgs_nil)))
            (pss_one (ps_for PassesOwn.never rfl (pi_list (pe_op op_cat (pe_lst (pa_cons (pv 5) pa_nil)) (pe_dget2 hu (pv 1) (pv 5) (pe_lst pa_nil) ⟨rfl, rfl, rfl, rfl⟩))) (pg_name (i := 7) scLR.nd rfl (Or.inl rfl))
              (pss_one (ps_if (pt_cmpR op_notIn_seq (pv 7) (pe_dget hu (pv 1) (pv 4) (fun _ _ => rfl)) rfl)
                (pss_one (ps_expr (pe_bm PySem.F.plainAttrs_list PySem.F.slot_list_append PySem.F.type_list_append mt_append (pe_dget hu (pv 1) (pv 4) (fun _ _ => rfl)) (pa_cons (pv 7) pa_nil))))
                pss_nil)))))))))))
      (pss_one (ps_ret (pv 1)))))), ?_⟩
    have lku := rk.length
    refine fun p np => ?_
    generalize hG : upd _ p _ = H1
    obtain ⟨s1, e1⟩ := gen_up hG np
    clear hG
    have nap : a ≠ p := fun z => by rw [← z, ea] at np; cases np
    have ha0 : H a ≠ none := by rw [ea]; exact fun z => nomatch z
    refine ⟨a, .dK ku, s1 _ _ ea, trivial, fun od => ?_⟩
    refine ⟨.ref a, rfl, a, od, rfl, .inl ⟨ku, upd_same, ?_⟩⟩
    refine for_it walk_keys (fun i σ H' => (∃ x2, σ = [some (.ref a), some (.ref p), x2, none, none, none, none, none]) ∧ H' a = some (.frz od (.dK ku)) ∧ (∀ c o, c ≠ a → H c = some o → H' c = some o) ∧ ∃ kvs, H' p = some (.dK kvs) ∧ kvs.length ≤ i ∧ ReK H H' R kvs (fun _ => []) ∧ ∀ r ∈ R.take i, (valV kvs (Sum.inr r.rl : Key)).isSome = true) ⟨⟨none, rfl⟩, upd_same, fun c o hc h => by rw [upd_ne hc]; exact s1 _ _ h, [], by rw [upd_ne nap.symm]; exact e1, Nat.le_refl _, ⟨fun x => .inl ⟨rfl, rfl⟩, (fun x y p z => by cases z), (fun x p z => by cases z), fun x => List.nodup_nil, fun x y z => by cases z⟩, fun r hr => by cases hr⟩
      (fun i σ H' _ hP => hP.2.1) (fun i x σ H1 H' hi hP hY => ?_) (fun σ H' hP => ?_)
    · obtain ⟨rfl, k, v, ek, rfl⟩ := hY
      obtain ⟨⟨x2, rfl⟩, ha, kp, kvs, ep, lk, E, has⟩ := hP
      have tk : Tk H H' := fun c xs h => kp c _ (fun z => by rw [z, ea] at h; cases h) h
      obtain ⟨r, er, rfl, _⟩ := (rk.mono tk).get ek
      have hr' := List.mem_of_getElem? er
      obtain ⟨v, ev, tv⟩ := rk.look nn hr'
      obtain ⟨t, vt, u, xs, rfl, et, _, eu, tx⟩ := ruV_of (tv.mono tk)
      refine ⟨Nat.zero_le _, fun z nz => ?_⟩
      generalize hG : upd _ z _ = H2
      obtain ⟨s2, e2⟩ := gen_up hG nz
      clear hG
      have nza : z ≠ a := fun y => by rw [y, ha] at nz; cases nz
      have nzH : H z = none := by
        cases e : H z with
        | none => rfl
        | some o => rw [kp z o nza e] at nz; cases nz
      have nzp : z ≠ p := fun y => by rw [y, ep] at nz; cases nz
      refine ⟨.ref p, rfl, .ref a, rfl, .str r.nm, rfl, a, .ref t, rfl, .inl ⟨ku, Sum.inr r.nm, .inr ⟨od, s2 _ _ ha⟩, rfl, ev.symm⟩, t, _, 0, .str r.rl, rfl, rfl, SqT.of (s2 _ _ et), rfl, ?_⟩
      refine ⟨p, _, rfl, DPut.k (k := (Sum.inr r.rl : Key)) (s2 _ _ ep) (small7 (by omega)), ?_⟩
      have E2 := E.same s2
      refine ⟨⟨_, rfl⟩, by rw [upd_ne nap]; exact s2 _ _ ha, fun c o hc h => by rw [upd_ne (fun y => by rw [y, np] at h; cases h)]; exact s2 _ _ (kp c o hc h), putK kvs (Sum.inr r.rl : Key) (.ref z), upd_same, by have := length_putK kvs (Sum.inr r.rl : Key) (.ref z); omega, ⟨fun x => ?_, fun x y g h1 h2 => ?_, fun x g h1 => ?_, fun x => List.nodup_nil, fun x y z => by cases z⟩, fun r' hr2 => ?_⟩
      · rw [valV_put]
        by_cases c : (Sum.inr x : Key) = Sum.inr r.rl
        · rw [if_pos c]
          exact .inr ⟨z, rfl, by rw [upd_ne nzp]; exact e2⟩
        · rw [if_neg c]
          rcases E2.adj x with h | ⟨g, h1, h2⟩
          · exact .inl h
          · exact .inr ⟨g, h1, by rw [upd_ne (fun y => by rw [y, s2 _ _ ep] at h2; cases h2)]; exact h2⟩
      · rw [valV_put] at h1 h2
        by_cases c1 : (Sum.inr x : Key) = Sum.inr r.rl
        · by_cases c2 : (Sum.inr y : Key) = Sum.inr r.rl
          · rw [inr_iff.mp c1, inr_iff.mp c2]
          · rw [if_pos c1] at h1
            rw [if_neg c2] at h2
            cases h1
            exact absurd h2 (E.no nz y)
        · rw [if_neg c1] at h1
          by_cases c2 : (Sum.inr y : Key) = Sum.inr r.rl
          · rw [if_pos c2] at h2
            cases h2
            exact absurd h1 (E.no nz x)
          · rw [if_neg c2] at h2
            exact E.inj x y g h1 h2
      · rw [valV_put] at h1
        by_cases c1 : (Sum.inr x : Key) = Sum.inr r.rl
        · rw [if_pos c1] at h1
          cases h1
          exact nzH
        · rw [if_neg c1] at h1
          exact E.new x g h1
      · rw [valV_put]
        by_cases c : (Sum.inr r'.rl : Key) = Sum.inr r.rl
        · rw [if_pos c]; rfl
        · rw [if_neg c]
          rw [take_next er] at hr2
          rcases List.mem_append.mp hr2 with h | h
          · exact has r' h
          · rw [List.mem_singleton.mp h] at c
            exact absurd rfl c
    · obtain ⟨⟨x2, rfl⟩, ha, kp, kvs, ep, lk, E, has⟩ := hP
      rw [lku, List.take_length] at has
      refine ⟨ha, ?_⟩
      have sc : Same H (upd H' a (.dK ku)) := fun c o h => by
        by_cases z : c = a
        · subst z
          rw [upd_same, ← ea, h]
        · rw [upd_ne z]
          exact kp c o z h
      have epc : (upd H' a (.dK ku)) p = some (.dK kvs) := by rw [upd_ne nap.symm]; exact ep
      have Ec : ReK H (upd H' a (.dK ku)) R kvs (fun _ => []) := E.put ha0
      generalize upd H' a (.dK ku) = Hc at sc epc Ec ⊢
      have oldq : ∀ {c : Addr} {o : HO}, H c = some o → ∀ x, valV kvs (Sum.inr x : Key) ≠ some (.ref c) := fun {c o} h x z => by
        rw [E.new x c z] at h
        cases h
      have pq : ∀ x, valV kvs (Sum.inr x : Key) ≠ some (.ref p) := fun x z => by rw [Ec.at_ z] at epc; cases epc
      refine ⟨.ref a, rfl, a, ku, rfl, sc _ _ ea, _, 1, rfl, rfl, ((ku.length + 1 : Nat) : Int), rfl, by omega, by omega, ?_⟩
      refine for_range (lo := 0) (n := (((ku.length + 1 : Nat) : Int)).toNat) (fun t σ H' => (∃ x2 x3 x4 x5 x6 x7, σ = [some (.ref a), some (.ref p), x2, x3, x4, x5, x6, x7]) ∧ KeepQ kvs Hc H' ∧ ∃ rch, ReK H H' R kvs rch ∧ Turned R t rch) ⟨⟨_, _, _, _, _, _, rfl⟩, (fun c o h _ => h), fun _ => [], Ec, fun n x y hn pt => absurd pt.pos (by omega)⟩ (fun t σ H' ht hP => ?_) (fun σ H' hP => ?_)
      · obtain ⟨⟨x2, x3, x4, x5, x6, x7, rfl⟩, kq, rch, E, tu⟩ := hP
        have sH : Same H H' := fun c o h => kq c o (sc _ _ h) (oldq h)
        refine ⟨a, .dK ku, sH _ _ ea, trivial, fun od => ?_⟩
        have EL : ReK H (upd H' a (.frz od (.dK ku))) R kvs rch := E.put ha0
        have haL : (upd H' a (.frz od (.dK ku))) a = some (.frz od (.dK ku)) := upd_same
        have kpL : ∀ c o, c ≠ a → H' c = some o → (upd H' a (.frz od (.dK ku))) c = some o := fun c o hc h => by rw [upd_ne hc]; exact h
        generalize hHL : upd H' a (.frz od (.dK ku)) = HL at EL haL kpL ⊢
        have epL : HL p = some (.dK kvs) := kpL _ _ nap.symm (kq _ _ epc pq)
        have tkL : Tk H HL := fun c xs h => kpL _ _ (fun z => by rw [z, ea] at h; cases h) (sH _ _ h)
        refine ⟨.ref a, rfl, a, od, rfl, .inl ⟨ku, haL, ?_⟩⟩
        have aq := oldq ea
        refine for_it walk_keys (fun i σ H2 => (∃ x2 x4 x5 x6 x7, σ = [some (.ref a), some (.ref p), x2, some (.int (0 + t)), x4, x5, x6, x7]) ∧ KeepQ kvs HL H2 ∧ ∃ rch', ReK H H2 R kvs rch' ∧ Up rch rch' ∧ ∀ r ∈ R.take i, Gone rch rch' r) ⟨⟨_, _, _, _, _, rfl⟩, (fun c o h _ => h), rch, EL, (fun x y h => h), fun r hr => by cases hr⟩
          (fun i σ H2 _ hP => hP.2.1 _ _ haL aq) (fun i x σ H1 H2 hi hP hY => ?_) (fun σ H2 hP => ?_)
        · obtain ⟨rfl, k, v, ek, rfl⟩ := hY
          obtain ⟨⟨x2, x4, x5, x6, x7, rfl⟩, kq2, rch2, E2, up2, gone⟩ := hP
          have ha2 := kq2 _ _ haL aq
          have ep2 := kq2 _ _ epL pq
          have tk2 : Tk H H2 := fun c xs h => (kq2.tk EL) c xs (tkL c xs h)
          obtain ⟨r, er, rfl, _⟩ := (rk.mono tk2).get ek
          have hr' := List.mem_of_getElem? er
          have okr := ok r hr'
          obtain ⟨v, ev, tv⟩ := rk.look nn hr'
          obtain ⟨tt, vt, u, xs, rfl, et, _, eu, tx⟩ := ruV_of (tv.mono tk2)
          refine ⟨.ref a, rfl, .str r.nm, rfl, a, .ref tt, rfl, .inl ⟨ku, Sum.inr r.nm, .inr ⟨od, ha2⟩, rfl, ev.symm⟩, tt, _, 0, .str r.rl, rfl, rfl, SqT.of et, rfl, ?_⟩
          refine ⟨.ref a, rfl, .str r.nm, rfl, a, .ref tt, rfl, .inl ⟨ku, Sum.inr r.nm, .inr ⟨od, ha2⟩, rfl, ev.symm⟩, tt, _, 2, .ref u, rfl, rfl, SqT.of et, rfl, ?_⟩
          refine ⟨u, xs, r.ls, rfl, eu, tx, okr.2, fun b ys H6 s6 eb tb nb => ?_⟩
          have lys := tb.length
          rw [List.length_map] at lys
          have E6 := E2.same s6
          have bq := E2.no nb
          have ep6 := s6 _ _ ep2
          obtain ⟨lq, elq⟩ : ∃ lq, valV kvs (Sum.inr r.rl : Key) = some (.ref lq) := by
            rcases Ec.adj r.rl with ⟨g, _⟩ | ⟨lq, g, _⟩
            · have := has r hr'
              rw [g] at this
              cases this
            · exact ⟨lq, g⟩
          refine ⟨b, rfl, ⟨_, SqL.of eb⟩, ?_⟩
          refine for_list (K := K) (a := b) (xs := ys) (fun j σ H3 => (∃ x5 x6 x7, σ = [some (.ref a), some (.ref p), some (.str r.nm), some (.int (0 + t)), some (.str r.rl), x5, x6, x7]) ∧ KeepQ kvs H6 H3 ∧ ∃ rch3, ReK H H3 R kvs rch3 ∧ Up rch2 rch3 ∧ ∀ e ∈ (edgesL r.ls).take j, e.1 ∈ rch3 r.rl ∧ ∀ y ∈ rch e.1, y ∈ rch3 r.rl) ⟨⟨_, _, _, rfl⟩, (fun c o h _ => h), rch2, E6, (fun x y h => h), fun e he => by cases he⟩ (fun j σ H3 _ hP => SqL.of (hP.2.1 _ _ eb bq)) (fun j y σ H3 hj hP => ?_) (fun σ H3 hP => ?_)
          · obtain ⟨⟨x5, x6, x7, rfl⟩, kq3, rch3, E3, up3, dn⟩ := hP
            obtain ⟨e, ee, qq, rfl, eq⟩ := edge_get (tb.mono (kq3.tk E6)) hj
            have he := List.mem_of_getElem? ee
            refine ⟨qq, _, rfl, SqT.of eq, rfl, _, _, rfl, _, _, rfl, rfl, ?_⟩
            refine ⟨.str e.1, rfl, len1, fun c1 nc1 => ?_⟩
            generalize hG : upd _ c1 _ = H4
            obtain ⟨s4, e4⟩ := gen_up hG nc1
            clear hG
            have ep3 := kq3 _ _ ep6 pq
            refine ⟨.ref p, rfl, p, rfl, .inl ⟨kvs, .of (s4 _ _ ep3)⟩, .str e.1, rfl, Nat.zero_le _, fun z nz => ?_⟩
            generalize hG : upd _ z _ = H5
            obtain ⟨s5, e5⟩ := gen_up hG nz
            clear hG
            have s35 := s4.trans s5
            have E5 := E3.same s35
            refine ⟨valV kvs (Sum.inr e.1 : Key), .inl ⟨kvs, Sum.inr e.1, .inl (s35 _ _ ep3), rfl, rfl⟩, ?_⟩
            obtain ⟨lp, evp, elp⟩ : ∃ lp, (valV kvs (Sum.inr e.1 : Key)).getD (.ref z) = .ref lp ∧ H5 lp = some (.lst ((rch3 e.1).map V.str)) := by
              rcases E5.adj e.1 with ⟨g1, g2⟩ | ⟨lp, g1, g2⟩
              · exact ⟨z, by rw [g1]; rfl, by rw [g2]; exact e5⟩
              · exact ⟨lp, by rw [g1]; rfl, g2⟩
            rw [evp]
            have sm3 := E3.small ok e.1
            refine ⟨c1, lp, _, _, rfl, rfl, s5 _ _ e4, elp, small6 (by rw [List.length_map]; show 1 + _ ≤ _; omega), fun c nc => ?_⟩
            generalize hG : upd _ c _ = H7
            obtain ⟨s7, e7⟩ := gen_up hG nc
            clear hG
            have s37 := s35.trans s7
            have E7 := E5.same s7
            have cq := E5.no nc
            have e7 : H7 c = some (.lst ((e.1 :: rch3 e.1).map V.str)) := e7
            refine ⟨c, rfl, ⟨_, SqL.of e7⟩, ?_⟩
            refine for_list (K := K) (a := c) (xs := (e.1 :: rch3 e.1).map V.str) (fun k σ H8 => (∃ x7, σ = [some (.ref a), some (.ref p), some (.str r.nm), some (.int (0 + t)), some (.str r.rl), some (.str e.1), some (.bl e.2), x7]) ∧ KeepQ kvs H7 H8 ∧ ∃ rch8, ReK H H8 R kvs rch8 ∧ Up rch3 rch8 ∧ ∀ y ∈ (e.1 :: rch3 e.1).take k, y ∈ rch8 r.rl) ⟨⟨_, rfl⟩, (fun c o h _ => h), rch3, E7, (fun x y h => h), fun e he => by cases he⟩ (fun k σ H8 _ hP => SqL.of (hP.2.1 _ _ e7 cq)) (fun k y σ H8 hk hP => ?_) (fun σ H8 hP => ?_)
            · obtain ⟨⟨x7, rfl⟩, kq8, rch8, E8, up8, dn8⟩ := hP
              rw [List.getElem?_map] at hk
              obtain ⟨y, ey, rfl⟩ := Option.map_eq_some_iff.mp hk
              have my := List.mem_of_getElem? ey
              have ae : e.1 ∈ adjOf R r.rl := mem_adj.mpr ⟨r, hr', rfl, e, he, rfl⟩
              have ry : Rch (adjOf R) r.rl y := by
                rcases List.mem_cons.mp my with rfl | my
                · exact .one ae
                · exact Rch.head ae (E3.snd _ _ my)
              have ep8 := kq8 _ _ (s37 _ _ ep3) pq
              have el8 := E8.at_ elq
              have DG : DGet H8 p (.str r.rl) (some (.ref lq)) := .inl ⟨kvs, Sum.inr r.rl, .inl ep8, rfl, elq.symm⟩
              refine ⟨.str y, rfl, .ref p, rfl, .str r.rl, rfl, p, .ref lq, rfl, DG, lq, _, rfl, .inl (SqL.of el8), rfl, flat_strs _, _, rfl, ?_⟩
              rw [inV_str]
              by_cases c : y ∈ rch8 r.rl
              · rw [decide_eq_true c]
                refine iteF' rfl ⟨⟨_, rfl⟩, kq8, rch8, E8, up8, fun z hz => ?_⟩
                rw [take_next ey] at hz
                rcases List.mem_append.mp hz with hz | hz
                · exact dn8 z hz
                · rw [List.mem_singleton.mp hz]
                  exact c
              · rw [decide_eq_false c]
                refine iteT' rfl ?_
                have sm8 := E8.small ok r.rl
                refine ⟨.ref p, rfl, .str r.rl, rfl, p, .ref lq, rfl, DG, .inl ⟨rfl, _, SqL.of el8⟩, .str y, rfl, lq, _, _, rfl, rfl, el8, small7 (by rw [List.length_map]; omega), ?_⟩
                have em : (rch8 r.rl).map V.str ++ [V.str y] = (rch8 r.rl ++ [y]).map V.str := by rw [List.map_append]; rfl
                rw [em]
                refine ⟨⟨_, rfl⟩, kq8.trans (ReK.keep elq), rchA rch8 r.rl y, E8.app elq c ry, fun x z hz => mem_rchA.mpr (.inl (up8 x z hz)), fun z hz => ?_⟩
                rw [take_next ey] at hz
                rcases List.mem_append.mp hz with hz | hz
                · exact mem_rchA.mpr (.inl (dn8 z hz))
                · exact mem_rchA.mpr (.inr ⟨rfl, List.mem_singleton.mp hz⟩)
            · obtain ⟨⟨x7, rfl⟩, kq8, rch8, E8, up8, dn8⟩ := hP
              rw [List.length_map, List.take_length] at dn8
              refine ⟨⟨_, _, _, rfl⟩, (kq3.trans (KeepQ.of s37)).trans kq8, rch8, E8, fun x z hz => up8 x z (up3 x z hz), fun e' he' => ?_⟩
              rw [take_next ee] at he'
              rcases List.mem_append.mp he' with he' | he'
              · exact ⟨up8 _ _ (dn e' he').1, fun z hz => up8 _ _ ((dn e' he').2 z hz)⟩
              · rw [List.mem_singleton.mp he']
                exact ⟨dn8 _ List.mem_cons_self, fun z hz => dn8 _ (List.mem_cons_of_mem _ (up3 _ _ (up2 _ _ hz)))⟩
          · obtain ⟨⟨x5, x6, x7, rfl⟩, kq3, rch3, E3, up3, dn⟩ := hP
            rw [lys, List.take_length] at dn
            refine ⟨⟨_, _, _, _, _, rfl⟩, (kq2.trans (KeepQ.of s6)).trans kq3, rch3, E3, fun x z hz => up3 x z (up2 x z hz), fun r' hr2 => ?_⟩
            rw [take_next er] at hr2
            rcases List.mem_append.mp hr2 with h | h
            · exact (gone r' h).up up3
            · rw [List.mem_singleton.mp h]
              exact dn
        · obtain ⟨⟨x2, x4, x5, x6, x7, rfl⟩, kq2, rch2, E2, up2, gone⟩ := hP
          rw [lku, List.take_length] at gone
          have ha2 := kq2 _ _ haL aq
          refine ⟨ha2, ⟨_, _, _, _, _, _, rfl⟩, fun c o h n => ?_, rch2, E2.put ha0, turned_next tu gone⟩
          by_cases z : c = a
          · subst z
            rw [upd_same]
            exact (sc _ _ ea).symm.trans h
          · rw [upd_ne z]
            exact kq2 _ _ (kpL _ _ z (kq _ _ h n)) n
      · obtain ⟨⟨x2, x3, x4, x5, x6, x7, rfl⟩, kq, rch, E, tu⟩ := hP
        have sH : Same H H' := fun c o h => kq c o (sc _ _ h) (oldq h)
        refine ⟨.ref p, rfl, q p kvs rch H' sH np (kq _ _ epc pq) E.adj (fun x => by have := E.small ok x; omega) fun x y => ⟨E.snd x y, fun h => ?_⟩⟩
        obtain ⟨n, hn, pt⟩ := rch_pt h
        refine tu n x y ?_ pt
        rw [Int.toNat_natCast, lku]
        exact hn
abbrev dLR (P : Program) (w : World) (K : PySem.W.Frag) (mg : Str → Option Value) (base : Heap) : Prop := Def P w K mg base "_law_reach" 2 ["rules"] spLR
end
end KU

namespace KU
open PySem PySem.Spec PyProof.Rows PySem.HandSPX L2 KA
theorem isNew_cg {a b : List Str} (h : ∀ x, x ∈ a ↔ x ∈ b) (l : L) : isNew a l = isNew b l := by
  cases l with
  | isl x o s t =>
    show (!decide (x ∈ a)) = !decide (x ∈ b)
    by_cases c : x ∈ a
    · rw [decide_eq_true c, decide_eq_true ((h x).mp c)]
    · rw [decide_eq_false c, decide_eq_false (fun z => c ((h x).mpr z))]
  | _ => rfl
theorem makes_cg : ∀ {ls : List L} {a b : List Str}, (∀ x, x ∈ a ↔ x ∈ b) → makesL a ls = makesL b ls
  | [], _, _, _ => rfl
  | l :: r, a, b, h => by
    show (if isNew a l = true then true else makesL (addU a (bindsL l)) r) = if isNew b l = true then true else makesL (addU b (bindsL l)) r
    rw [isNew_cg h l, makes_cg (ls := r) (a := addU a (bindsL l)) (b := addU b (bindsL l)) fun x => by rw [mem_addU, mem_addU, h x]]
theorem bind9 {l : L} (h : (litTs l).length ≤ 9) : (bindsL l).length ≤ 9 := by
  cases l with
  | fact r ts => exact Nat.le_trans (varsOf_len ts) h
  | isl x o s t => exact (by decide : 1 ≤ 9)
  | cnt x r ts => exact (by decide : 1 ≤ 9)
  | notl r ts => exact Nat.zero_le _
  | cmp o s t => exact Nat.zero_le _
section
variable {P : Program} {w : World} {K : PySem.W.Frag} {mg : Str → Option Value} {base : Heap}
abbrev dBiR (P : Program) (w : World) (K : PySem.W.Frag) (mg : Str → Option Value) (base : Heap) : Prop := Def P w K mg base "_law_binds" 1 ["literal"] spBi
abbrev sLM : Stmt := topS 51
abbrev nLM : List Str := ["body", "bound", "literal"]
theorem scLM : FnScope nLM ["body"] (defScope sLM) := ⟨rfl, rfl, rfl, by decide +kernel, rfl, by decide +kernel, by decide +kernel⟩
theorem ok_lm {f : Addr} {fd : FuncData} (F : Fun K "_law_makes" "_law_makes" sLM f fd) (DBi : dBiR P w K mg base) : FnOk P w K mg base CX0 2 f fd ["body"] spMks := by
  refine F.ok scLM (fun vs H Q E h => ?_) (fun cdv A outer s H vs Q E hr h => ?_)
  · obtain ⟨_, _, _, rfl, _⟩ := h
    rfl
  · obtain ⟨u, xs, ls, rfl, eu, tx, hl, l9, q⟩ := h
    have hu := hu_of hr
    have lx : xs.length = ls.length := by rw [tx.length, List.length_map]
    have sne : ∀ {x y : Str}, x ≠ y → V.str x ≠ V.str y := fun n z => n (by injection z)
    refine ⟨_, (pss_cons (ps_set (i := 1) scLM.nd rfl (.inl rfl) (pe_lst pa_nil))
      (pss_cons (ps_for PassesOwn.never rfl (pi_tup (pv 0)) (pg_name (i := 2) scLM.nd rfl (Or.inl rfl))
        (pss_cons (ps_if (PW.pt (pw_and (pt_cmpR op_eq (pe_ix ix_tup (pv 2) pe_int (fun _ _ => rfl)) pe_str (nomark _)) (pw_and1 (pt_cmpR op_notIn_seq (pe_ix ix_tup (pv 2) pe_int (fun _ _ => rfl)) (pv 1) rfl))))
          (pss_one (ps_ret pe_bl))
          pss_nil)
        (pss_one (ps_set (i := 1) scLM.nd rfl (.inl rfl) (pe_op op_cat (pv 1) (pe_def DBi (hr.mono (by decide)) (by rfl) (pa_cons (pv 2) pa_nil)))))))
      (pss_one (ps_ret pe_bl)))), ?_⟩
    refine ⟨Nat.zero_le _, fun a na => ?_⟩
    have s0 : Same H (upd H a (.lst [])) := same_new na
    refine ⟨.ref u, rfl, u, rfl, ⟨xs, SqT.of (s0 _ _ eu)⟩, ?_⟩
    refine for_it walk_tup (fun i σ H' => Same H H' ∧ ∃ b bs x2, σ = [some (.ref u), some (.ref b), x2] ∧ H' b = some (.lst (bs.map V.str)) ∧ bs.length ≤ 10 * i ∧ makesL [] ls = makesL bs (ls.drop i)) ⟨s0, a, [], none, rfl, upd_same, Nat.le_refl _, rfl⟩
      (fun i σ H' _ hP => SqT.of (hP.1 _ _ eu)) (fun i x σ H1 H' hi hP hY => ?_) (fun σ H' hP => ?_)
    · obtain ⟨rfl, hx⟩ := hY
      obtain ⟨sm, b, bs, x2, rfl, eb, lb, hbd⟩ := hP
      obtain ⟨l, el, tl⟩ := lit_get tx hx
      have tl := tl.mono (Tk.of sm)
      have hlm := hl l (List.mem_of_getElem? el)
      rw [drop_get el] at hbd
      have hbd : makesL [] ls = if isNew bs l = true then true else makesL (addU bs (bindsL l)) (ls.drop (i + 1)) := hbd
      obtain ⟨p, r0, rfl, ep, e0⟩ := lit_name tl
      have li := (List.getElem?_eq_some_iff.mp el).1
      refine ⟨.ref p, rfl, p, r0, 0, _, rfl, rfl, SqT.of ep, e0, rfl, _, rfl, ?_⟩
      have lbl := bindsL_len l
      have go : isNew bs l = false → ∃ x, x = V.ref b ∧ _root_.KU.spBi [V.ref p] H' (fun y H2 => (∃ a' b' xs' ys', x = .ref a' ∧ y = .ref b' ∧ H2 a' = some (.lst xs') ∧ H2 b' = some (.lst ys') ∧ xs'.length + ys'.length ≤ sizeLine ∧ ∀ c, H2 c = none → Same H (upd H2 c (.lst (xs' ++ ys'))) ∧ ∃ b2 bs2 x2, ([some (.ref u), some (.ref c), some (.ref p)] : L2.St) = [some (.ref u), some (.ref b2), x2] ∧ (upd H2 c (.lst (xs' ++ ys'))) b2 = some (.lst (bs2.map V.str)) ∧ bs2.length ≤ 10 * (i + 1) ∧ makesL [] ls = makesL bs2 (ls.drop (i + 1)))) E0 := fun hn => by
        refine ⟨_, rfl, _, l, rfl, tl, bind9 hlm, fun r ts e => ?_, fun q2 H2 s2 e2 n2 => ?_⟩
        · subst e
          exact hlm
        · refine ⟨b, q2, _, _, rfl, rfl, s2 _ _ eb, e2, small6 (by rw [List.length_map, List.length_map]; omega), fun c nc => ⟨(sm.trans s2).trans (same_new nc), c, bs ++ bindsL l, _, rfl, by rw [upd_same, List.map_append], by rw [List.length_append]; omega, ?_⟩⟩
          rw [hbd, hn, if_neg Bool.false_ne_true]
          exact makes_cg fun x => by rw [mem_addU, List.mem_append]
      by_cases ci : litName l = "is"
      · cases l with
        | isl z o t1 t2 =>
          obtain ⟨p', vx, vy, e1, e2, _⟩ := litI_inv tl
          cases e1
          rw [ep] at e2
          cases e2
          refine yes_if ?_
          refine ⟨.ref p, rfl, p, _, 1, .str z, rfl, rfl, SqT.of ep, rfl, .ref b, rfl, b, _, rfl, .inl (SqL.of eb), rfl, flat_strs bs, _, rfl, ?_⟩
          rw [inV_str]
          by_cases c : z ∈ bs
          · rw [decide_eq_true c]
            refine iteF' rfl ?_
            obtain ⟨x, e, g⟩ := go (by show (!decide (z ∈ bs)) = false; rw [decide_eq_true c]; rfl)
            subst e
            exact ⟨.ref b, rfl, .ref p, rfl, g⟩
          · rw [decide_eq_false c]
            refine iteT' rfl ?_
            have e : makesL [] ls = true := by
              rw [hbd, if_pos]
              show (!decide (z ∈ bs)) = true
              rw [decide_eq_false c]
              rfl
            rw [e] at q
            exact q _ sm
        | fact r ts => exact absurd ci (show ("fact" : Str) ≠ "is" by decide +kernel)
        | notl r ts => exact absurd ci (show ("not" : Str) ≠ "is" by decide +kernel)
        | cmp o t1 t2 => exact absurd ci (show ("compare" : Str) ≠ "is" by decide +kernel)
        | cnt z r ts => exact absurd ci (show ("count" : Str) ≠ "is" by decide +kernel)
      · refine no_if (sne ci) (iteF' rfl ?_)
        obtain ⟨x, e, g⟩ := go (by
          cases l with
          | isl z o t1 t2 => exact absurd rfl ci
          | _ => rfl)
        subst e
        exact ⟨.ref b, rfl, .ref p, rfl, g⟩
    · obtain ⟨sm, b, bs, x2, rfl, eb, lb, hbd⟩ := hP
      rw [lx, List.drop_length] at hbd
      have hbd : makesL [] ls = false := hbd
      rw [hbd] at q
      exact q _ sm
abbrev dLM (P : Program) (w : World) (K : PySem.W.Frag) (mg : Str → Option Value) (base : Heap) : Prop := Def P w K mg base "_law_makes" 2 ["body"] spMks
abbrev sLG : Stmt := topS 52
abbrev nLG : List Str := ["rules", "reach", "name", "other", "below"]
theorem scLG : FnScope nLG ["rules"] (defScope sLG) := ⟨rfl, rfl, rfl, by decide +kernel, rfl, by decide +kernel, by decide +kernel⟩
def spLG : Sp := fun vs H Q _ => ∃ (a : Addr) (ku : List (Key × V)) (R : List Ru), vs = [.ref a] ∧ H a = some (.dK ku) ∧ RuK H ku R ∧ (R.map Ru.nm).Nodup ∧ (∀ r ∈ R, OkRu r) ∧ R.length ≤ 60 ∧
  ∀ b H', Same H H' → (b = true ↔ Ring R) → Q (.bl b) H'
theorem ok_lg {f : Addr} {fd : FuncData} (F : Fun K "_law_ring" "_law_ring" sLG f fd) (DLR : dLR P w K mg base) (DRO : dRO P w K mg base) : FnOk P w K mg base CX0 3 f fd ["rules"] spLG := by
  refine F.ok scLG (fun vs H Q E h => ?_) (fun cdv A outer s H vs Q E hr h => ?_)
  · obtain ⟨_, _, _, rfl, _⟩ := h
    rfl
  · obtain ⟨a, ku, R, rfl, ea, rk, nn, ok, lR, q⟩ := h
    have hu := hu_of hr
    refine ⟨_, (pss_cons (ps_set (i := 1) scLG.nd rfl (.inl rfl) (pe_def DLR (hr.mono (by decide)) (by rfl) (pa_cons (pv 0) pa_nil)))
      (pss_cons (ps_lock (ps_for PassesOwn.never rfl (pi_keys (pv 0)) (pg_name (i := 2) scLG.nd rfl (Or.inl rfl))
        (pss_one (ps_for PassesOwn.never rfl (pi_list (pe_def DRO (hr.mono (by decide)) (by rfl) (pa_cons (pe_ix ix_tup (pe_dget hu (pv 0) (pv 2) (fun _ _ => rfl)) pe_int (fun _ _ => rfl)) pa_nil))) (pg_tup rfl (pgs_cons (pg_name (i := 3) scLG.nd rfl (Or.inl rfl)) (pgs_cons (pg_name (i := 4) scLG.nd rfl (Or.inl rfl)) pgs_nil)))
          (pss_one (ps_if (PW.pt (pw_and (pt_val (pv 4)) (pw_and1 (PW.pt (pw_or (pt_cmpR op_eq (pv 3) (pe_ix ix_tup (pe_dget hu (pv 0) (pv 2) (fun _ _ => rfl)) pe_int (fun _ _ => rfl)) (nomark _)) (pw_or1 (pt_cmpR op_in_seq (pe_ix ix_tup (pe_dget hu (pv 0) (pv 2) (fun _ _ => rfl)) pe_int (fun _ _ => rfl)) (pe_dget2 hu (pv 1) (pv 3) (pe_lst pa_nil) ⟨rfl, rfl, rfl, rfl⟩) rfl)))))))
            (pss_one (ps_ret pe_bl))
            pss_nil))))))
      (pss_one (ps_ret pe_bl)))), ?_⟩
    have lku := rk.length
    refine ⟨.ref a, rfl, a, ku, R, rfl, ea, rk, nn, ok, lR, fun p kvs rch H1 s1 np ep ad sml hrc => ?_⟩
    have ea1 := s1 _ _ ea
    have nap : a ≠ p := fun z => by rw [← z, ea] at np; cases np
    refine ⟨a, .dK ku, ea1, trivial, fun od => ?_⟩
    have adL : AdjK (upd H1 a (.frz od (.dK ku))) kvs rch := fun x => by
      rcases ad x with g | ⟨lp, g1, g2⟩
      · exact .inl g
      · exact .inr ⟨lp, g1, by rw [upd_ne (fun z => by rw [z, ea1] at g2; cases g2)]; exact g2⟩
    have haL : (upd H1 a (.frz od (.dK ku))) a = some (.frz od (.dK ku)) := upd_same
    have epL : (upd H1 a (.frz od (.dK ku))) p = some (.dK kvs) := by rw [upd_ne nap.symm]; exact ep
    have kpL : ∀ c o, c ≠ a → H c = some o → (upd H1 a (.frz od (.dK ku))) c = some o := fun c o hc h => by rw [upd_ne hc]; exact s1 _ _ h
    generalize upd H1 a (.frz od (.dK ku)) = HL at adL haL epL kpL ⊢
    have tkL : Tk H HL := fun c xs h => kpL _ _ (fun z => by rw [z, ea] at h; cases h) h
    have back : ∀ {H' : Hp}, Same HL H' → Same H (upd H' a (.dK ku)) := fun {H'} s' c o h => by
      by_cases z : c = a
      · subst z
        rw [upd_same, ← ea, h]
      · rw [upd_ne z]
        exact s' _ _ (kpL c o z h)
    refine ⟨.ref a, rfl, a, od, rfl, .inl ⟨ku, haL, ?_⟩⟩
    refine for_it walk_keys (fun i σ H' => (∃ x2 x3 x4, σ = [some (.ref a), some (.ref p), x2, x3, x4]) ∧ Same HL H' ∧ ∀ r ∈ R.take i, ¬ ∃ e ∈ edgesL r.ls, e.2 = true ∧ Back R e.1 r.rl) ⟨⟨none, none, none, rfl⟩, (fun _ _ h => h), fun r hr => by cases hr⟩
      (fun i σ H' _ hP => hP.2.1 _ _ haL) (fun i x σ H1 H' hi hP hY => ?_) (fun σ H' hP => ?_)
    · obtain ⟨rfl, k, v, ek, rfl⟩ := hY
      obtain ⟨⟨x2, x3, x4, rfl⟩, sm, no⟩ := hP
      have tk : Tk H H' := fun c xs h => sm _ _ (tkL c xs h)
      obtain ⟨r, er, rfl, _⟩ := (rk.mono tk).get ek
      have hr' := List.mem_of_getElem? er
      have okr := ok r hr'
      obtain ⟨v, ev, tv⟩ := rk.look nn hr'
      obtain ⟨t, vt, u, xs, rfl, et, _, eu, tx⟩ := ruV_of (tv.mono tk)
      have ha' := sm _ _ haL
      refine ⟨.ref a, rfl, .str r.nm, rfl, a, .ref t, rfl, .inl ⟨ku, Sum.inr r.nm, .inr ⟨od, ha'⟩, rfl, ev.symm⟩, t, _, 2, .ref u, rfl, rfl, SqT.of et, rfl, ?_⟩
      refine ⟨u, xs, r.ls, rfl, eu, tx, okr.2, fun b ys H6 s6 eb tb nb => ?_⟩
      have lys := tb.length
      rw [List.length_map] at lys
      refine ⟨b, rfl, ⟨_, SqL.of eb⟩, ?_⟩
      refine for_list (K := K) (a := b) (xs := ys) (fun j σ H3 => (∃ x3 x4, σ = [some (.ref a), some (.ref p), some (.str r.nm), x3, x4]) ∧ Same H6 H3 ∧ ¬ ∃ e ∈ (edgesL r.ls).take j, e.2 = true ∧ Back R e.1 r.rl) ⟨⟨_, _, rfl⟩, (fun _ _ h => h), fun ⟨_, z, _⟩ => by cases z⟩ (fun j σ H3 _ hP => SqL.of (hP.2.1 _ _ eb)) (fun j y σ H3 hj hP => ?_) (fun σ H3 hP => ?_)
      · obtain ⟨⟨x3, x4, rfl⟩, sm3, no3⟩ := hP
        obtain ⟨e, ee, qq, rfl, eq⟩ := edge_get tb hj
        have he := List.mem_of_getElem? ee
        refine ⟨qq, _, rfl, SqT.of (sm3 _ _ eq), rfl, _, _, rfl, _, _, rfl, rfl, ?_⟩
        have sL3 := (sm.trans s6).trans sm3
        have s63 := s6.trans sm3
        have skip : ∀ H9, Same H3 H9 → ¬ (e.2 = true ∧ Back R e.1 r.rl) → (∃ x3 x4, ([some (.ref a), some (.ref p), some (.str r.nm), some (.str e.1), some (.bl e.2)] : L2.St) = [some (.ref a), some (.ref p), some (.str r.nm), x3, x4]) ∧ Same H6 H9 ∧ ¬ ∃ e ∈ (edgesL r.ls).take (j + 1), e.2 = true ∧ Back R e.1 r.rl := fun H9 s9 hn => ⟨⟨_, _, rfl⟩, sm3.trans s9, fun ⟨e', h1, h2⟩ => by
          rw [take_next ee] at h1
          rcases List.mem_append.mp h1 with h1 | h1
          · exact no3 ⟨e', h1, h2⟩
          · rw [List.mem_singleton.mp h1] at h2
            exact hn h2⟩
        have hit : ∀ H9, Same H3 H9 → e.2 = true ∧ Back R e.1 r.rl → H9 a = some (.frz od (.dK ku)) ∧ Q (.bl true) (upd H9 a (.dK ku)) := fun H9 s9 hh => ⟨s9 _ _ (sL3 _ _ haL), q true _ (back (sL3.trans s9)) ⟨fun _ => ⟨r, hr', e, he, hh⟩, fun _ => rfl⟩⟩
        refine ⟨.bl e.2, rfl, e.2, rfl, ?_⟩
        cases e2 : e.2 with
        | false =>
          refine iteF' rfl (iteF' rfl ?_)
          have := skip H3 (fun _ _ h => h) (fun z => by rw [e2] at z; cases z.1)
          rw [e2] at this
          exact this
        | true =>
          refine iteT' rfl ?_
          have DG : ∀ {H9 : Hp}, Same H3 H9 → DGet H9 a (.str r.nm) (some (.ref t)) := fun s9 => .inl ⟨ku, Sum.inr r.nm, .inr ⟨od, s9 _ _ (sL3 _ _ haL)⟩, rfl, ev.symm⟩
          refine ⟨.str e.1, rfl, .ref a, rfl, .str r.nm, rfl, a, .ref t, rfl, DG (fun _ _ h => h), t, _, 0, .str r.rl, rfl, rfl, SqT.of (s63 _ _ et), rfl, rfl, _, rfl, ?_⟩
          by_cases c : e.1 = r.rl
          · refine iteT' (decide_eq_true (by rw [c])) (iteT' rfl ?_)
            exact hit H3 (fun _ _ h => h) ⟨e2, .inl c⟩
          · refine iteF' (decide_eq_false fun z => c (by injection z)) ?_
            refine ⟨.ref a, rfl, .str r.nm, rfl, a, .ref t, rfl, DG (fun _ _ h => h), t, _, 0, .str r.rl, rfl, rfl, SqT.of (s63 _ _ et), rfl, ?_⟩
            refine ⟨.ref p, rfl, p, rfl, .inl ⟨kvs, .of (sL3 _ _ epL)⟩, .str e.1, rfl, Nat.zero_le _, fun z nz => ?_⟩
            generalize hG : upd _ z _ = H5
            obtain ⟨s5, e5⟩ := gen_up hG nz
            clear hG
            refine ⟨valV kvs (Sum.inr e.1 : Key), .inl ⟨kvs, Sum.inr e.1, .inl (s5 _ _ (sL3 _ _ epL)), rfl, rfl⟩, ?_⟩
            obtain ⟨lp, evp, elp⟩ : ∃ lp, (valV kvs (Sum.inr e.1 : Key)).getD (.ref z) = .ref lp ∧ H5 lp = some (.lst ((rch e.1).map V.str)) := by
              rcases adL e.1 with ⟨g1, g2⟩ | ⟨lp, g1, g2⟩
              · exact ⟨z, by rw [g1]; rfl, by rw [g2]; exact e5⟩
              · exact ⟨lp, by rw [g1]; rfl, s5 _ _ (sL3 _ _ g2)⟩
            rw [evp]
            refine ⟨lp, _, rfl, .inl (SqL.of elp), rfl, flat_strs _, _, rfl, ?_⟩
            rw [inV_str]
            by_cases c2 : r.rl ∈ rch e.1
            · refine iteT' (decide_eq_true c2) ?_
              exact hit H5 s5 ⟨e2, .inr ((hrc _ _).mp c2)⟩
            · refine iteF' (decide_eq_false c2) ?_
              have := skip H5 s5 (fun hh => hh.2.elim (fun z => c z) fun z => c2 ((hrc _ _).mpr z))
              rw [e2] at this
              exact this
      · obtain ⟨⟨x3, x4, rfl⟩, sm3, no3⟩ := hP
        rw [lys, List.take_length] at no3
        refine ⟨⟨_, _, _, rfl⟩, (sm.trans s6).trans sm3, fun r' hr2 => ?_⟩
        rw [take_next er] at hr2
        rcases List.mem_append.mp hr2 with h | h
        · exact no r' h
        · rw [List.mem_singleton.mp h]
          exact no3
    · obtain ⟨⟨x2, x3, x4, rfl⟩, sm, no⟩ := hP
      rw [lku, List.take_length] at no
      exact ⟨sm _ _ haL, q false _ (back sm) ⟨(fun z => by cases z), fun ⟨r, hr, h⟩ => absurd h (no r hr)⟩⟩
abbrev dLG (P : Program) (w : World) (K : PySem.W.Frag) (mg : Str → Option Value) (base : Heap) : Prop := Def P w K mg base "_law_ring" 3 ["rules"] spLG
end
end KU

namespace KU
open PySem PySem.Spec PyProof.Rows PySem.HandSPX L2 KA
def strsD (xs : List Str) : List PyData := xs.map PyData.str
theorem dls_strs {H : Hp} : ∀ xs : List Str, Dls H (xs.map V.str) (strsD xs)
  | [] => .nil
  | x :: xs => .cons (.str x) (dls_strs xs)
theorem strs_depth (xs : List Str) : (PyData.list (strsD xs)).depth ≤ 1 := by
  have h : PyData.depthAll (strsD xs) ≤ 0 := depthAll_of fun d m => by
    obtain ⟨x, _, rfl⟩ := List.mem_map.mp m
    exact Nat.le_refl _
  show PyData.depthAll (strsD xs) + 1 ≤ 1
  omega
section
variable {P : Program} {w : World} {K : PySem.W.Frag} {mg : Str → Option Value} {base : Heap}
abbrev sLW : Stmt := topS 53
abbrev nLW : List Str := ["rules", "reach", "name", "relation", "terms", "body", "back", "other", "below"]
theorem scLW : FnScope nLW ["rules"] (defScope sLW) := ⟨rfl, rfl, rfl, by decide +kernel, rfl, by decide +kernel, by decide +kernel⟩
def FgL (R : List Ru) (xs : List Str) : Prop := (∃ r ∈ R, Least R r ∧ xs = [r.nm]) ∨ ((∀ r ∈ R, ¬ Grow R r) ∧ xs = [])
def spLW : Sp := fun vs H Q _ => ∃ (a : Addr) (ku : List (Key × V)) (R : List Ru), vs = [.ref a] ∧ H a = some (.dK ku) ∧ RuK H ku R ∧ (R.map Ru.nm).Nodup ∧ (∀ r ∈ R, OkRu r) ∧ R.length ≤ 60 ∧
  ∀ p xs H', Same H H' → H p = none → H' p = some (.lst (xs.map V.str)) → FgL R xs → Q (.ref p) H'
theorem ok_lw2 {f : Addr} {fd : FuncData} (F : Fun K "_law_growing" "_law_growing" sLW f fd) (B : Bt mg) (Bx : Bt2 mg) (DLR : dLR P w K mg base) (DRO : dRO P w K mg base) (DLM : dLM P w K mg base) : FnOk P w K mg base CX0 3 f fd ["rules"] spLW := by
  refine F.ok scLW (fun vs H Q E h => ?_) (fun cdv A outer s H vs Q E hr h => ?_)
  · obtain ⟨_, _, _, rfl, _⟩ := h
    rfl
  · obtain ⟨a, ku, R, rfl, ea, rk, nn, ok, lR, q⟩ := h
    have hu := hu_of hr
    refine ⟨_, (pss_cons (ps_set (i := 1) scLW.nd rfl (.inr rfl) (pe_def DLR (hr.mono (by decide)) (by rfl) (pa_cons (pv 0) pa_nil)))
      (pss_cons (ps_for PassesOwn.never rfl (pi_list (pe_callB cr_sortedS (by rfl) Bx.sorted boot_sorted (pa_cons (pe_callTy (call_listD rfl) (by rfl) B.lst (by decide +kernel) (pa_cons (pv 0) pa_nil)) pa_nil))) (pg_name (i := 2) scLW.nd rfl (Or.inl rfl))
        (pss_cons (ps_asg (pe_dget hu (pv 0) (pv 2) (fun _ _ => rfl)) (pg_tup rfl (pgs_cons (pg_name (i := 3) scLW.nd rfl (Or.inr rfl)) (pgs_cons (pg_name (i := 4) scLW.nd rfl (Or.inl rfl)) (pgs_cons (pg_name (i := 5) scLW.nd rfl (Or.inl rfl)) pgs_nil)))))
        (pss_cons (ps_setLc (i := 6) (own := [("other", 7), ("below", 8)]) (g := (gTup K 2 (gCons (gName 7) (gCons (gName 8) gNil)))) (tt := (tOr (tTest (tOp rEq (tVar 7) (tVar 3))) (tTest (tOp (rIn K false) (tVar 3) (tDGet2 (tVar 1) (tVar 7) (tLst tNil)))))) (te := (tVar 7)) (by rfl) scLW.nd rfl rfl (sw_true rfl rfl rfl (by decide +kernel)) (pi_list (pe_def DRO (hr.mono (by decide)) (by rfl) (pa_cons (pv 5) pa_nil))) (blkOk_by (own := [("other", 7), ("below", 8)]) (N := nLW) (sc := defScope sLW) (by decide +kernel)) (fun _ _ _ _ _ => (pg_tup rfl (pgs_cons (pg_name (i := 7) scLW.nd rfl (Or.inl rfl)) (pgs_cons (pg_name (i := 8) scLW.nd rfl (Or.inl rfl)) pgs_nil)))) (fun _ _ _ _ _ => pts_one (PW.pt (pw_or (pt_cmpR op_eq (pv 7) (pv 3) (nomark _)) (pw_or1 (pt_cmpR op_in_seq (pv 3) (pe_dget2 hu (pv 1) (pv 7) (pe_lst pa_nil) ⟨rfl, rfl, rfl, rfl⟩) rfl))))) (fun _ _ _ _ _ => (pv 7)))
        (pss_one (ps_if (PW.pt (pw_and (pt_val (pe_def DLM (hr.mono (by decide)) (by rfl) (pa_cons (pv 5) pa_nil))) (pw_and1 (pt_cmpR (op_neQ hr.units) (pv 6) (pe_lst pa_nil) (nomark _)))))
          (pss_one (ps_ret (pe_lst (pa_cons (pv 2) pa_nil))))
          pss_nil)))))
      (pss_one (ps_ret (pe_lst pa_nil))))), ?_⟩
    refine ⟨.ref a, rfl, a, ku, R, rfl, ea, rk, nn, ok, lR, fun p kvs rch H1 s1 np ep ad sml hrc => ?_⟩
    have ek0 : ku.map (fun kv => kV kv.1) = (R.map Ru.nm).map V.str := by
      have h2 := congrArg (List.map kV) rk.1
      rw [List.map_map, List.map_map] at h2
      rw [List.map_map]
      exact h2
    have lku := rk.length
    refine ⟨.ref a, rfl, a, ku, rfl, .of (s1 _ _ ea), fun n0 nn0 => ?_⟩
    rw [ek0]
    generalize hG : upd _ n0 _ = H2
    obtain ⟨s2, e2⟩ := gen_up hG nn0
    clear hG
    refine ⟨n0, R.map Ru.nm, rfl, SqL.of e2, by rw [List.length_map]; omega, fun zs zp per srt nzp => ?_⟩
    have pz := sorted_pw srt (per.nodup_iff.mpr nn)
    generalize hG : upd _ zp _ = H3
    obtain ⟨s3, e3⟩ := gen_up hG nzp
    clear hG
    have s13 := s2.trans s3
    have s03 := s1.trans s13
    refine ⟨zp, rfl, ⟨_, SqL.of e3⟩, ?_⟩
    have npH : ∀ {Hx : Hp} {c : Addr}, Same H Hx → Hx c = none → H c = none := fun {Hx c} s n => by
      cases e : H c with
      | none => rfl
      | some o => rw [s _ _ e] at n; cases n
    refine for_list (K := K) (a := zp) (xs := zs.map V.str) (fun i σ H' => (∃ x2 x3 x4 x5 x6, σ = [some (.ref a), some (.ref p), x2, x3, x4, x5, x6, none, none]) ∧ Same H3 H' ∧ ∀ r ∈ R, r.nm ∈ zs.take i → ¬ Grow R r) ⟨⟨none, none, none, none, none, rfl⟩, (fun _ _ h => h), fun r _ h => by cases h⟩ (fun i σ H' _ hP => SqL.of (hP.2.1 _ _ e3)) (fun i x σ Hi hi hP => ?_) (fun σ H' hP => ?_)
    · obtain ⟨⟨x2, x3, x4, x5, x6, rfl⟩, sm, no⟩ := hP
      rw [List.getElem?_map] at hi
      obtain ⟨nm, ez, rfl⟩ := Option.map_eq_some_iff.mp hi
      obtain ⟨r, hr', rfl⟩ := List.mem_map.mp (per.mem_iff.mp (List.mem_of_getElem? ez))
      have s1i := s03.trans sm
      have s1x := s13.trans sm
      obtain ⟨v, ev, tv⟩ := rk.look nn hr'
      obtain ⟨t, vt, u, xs, rfl, et, _, eu, tx⟩ := ruV_of (tv.mono (Tk.of s1i))
      have okr := ok r hr'
      have lr9 := okr.2
      refine ⟨.ref a, rfl, .str r.nm, rfl, a, .ref t, rfl, .inl ⟨ku, Sum.inr r.nm, .inl (s1i _ _ ea), rfl, ev.symm⟩, ?_⟩
      refine ⟨t, _, rfl, SqT.of et, rfl, _, _, rfl, _, _, rfl, _, _, rfl, rfl, ?_⟩
      have skip : ¬ Grow R r → ∀ H', Same Hi H' → Same H3 H' ∧ ∀ r' ∈ R, r'.nm ∈ zs.take (i + 1) → ¬ Grow R r' := fun hg H' s' => ⟨sm.trans s', fun r' hr2 hz => by
        rw [take_next ez] at hz
        rcases List.mem_append.mp hz with hz | hz
        · exact no r' hr2 hz
        · rw [same_nm nn hr2 hr' (List.mem_singleton.mp hz)]
          exact hg⟩
      refine ⟨.ref u, rfl, u, xs, r.ls, rfl, eu, tx, okr.2, fun b ys H6 s6 eb tb nb => ?_⟩
      refine ⟨b, rfl, ⟨_, SqL.of eb⟩, fun D nD => ?_⟩
      have lys := tb.length
      rw [List.length_map] at lys
      have leg := edges_len r.ls
      have s1y := s1x.trans s6
      refine lc_list (K := K) (a := b) (xs := ys) (fun j H' => Same H6 H' ∧ ∃ bs : List Str, H' D = some (.lst (bs.map V.str)) ∧ bs.length ≤ j ∧ (bs ≠ [] ↔ ∃ e ∈ (edgesL r.ls).take j, Back R e.1 r.rl)) ⟨same_new nD, [], upd_same, Nat.le_refl _, ⟨(fun z => absurd rfl z), fun ⟨_, z, _⟩ => by cases z⟩⟩ (fun j H' _ hP => SqL.of (hP.1 _ _ eb)) (fun j y Hj hj hP => ?_) (fun H7 hP => ?_)
      · obtain ⟨sm6, bs, eD, lb, hb⟩ := hP
        obtain ⟨e, ee, qq, rfl, eq⟩ := edge_get tb hj
        have ljj := (List.getElem?_eq_some_iff.mp ee).1
        refine ⟨qq, _, rfl, SqT.of (sm6 _ _ eq), rfl, _, _, rfl, _, _, rfl, rfl, rfl, ?_⟩
        have s1j := s1y.trans sm6
        have add : ∀ H8, Same Hj H8 → Back R e.1 r.rl → ∃ acc, H8 D = some (.lst acc) ∧ acc.length < sizeLine ∧ (Same H6 (upd H8 D (.lst (acc ++ [.str e.1]))) ∧ ∃ bs : List Str, (upd H8 D (.lst (acc ++ [.str e.1]))) D = some (.lst (bs.map V.str)) ∧ bs.length ≤ j + 1 ∧ (bs ≠ [] ↔ ∃ e ∈ (edgesL r.ls).take (j + 1), Back R e.1 r.rl)) := fun H8 s8 hk => by
          refine ⟨_, s8 _ _ eD, small7 (by rw [List.length_map]; omega), same_put (sm6.trans s8) nD, bs ++ [e.1], by rw [upd_same, List.map_append]; rfl, by rw [List.length_append]; show bs.length + 1 ≤ _; omega, ?_⟩
          rw [take_next ee]
          exact ⟨fun _ => ⟨e, List.mem_append_right _ (List.mem_singleton.mpr rfl), hk⟩, fun _ z => by cases bs <;> cases z⟩
        have skp : ∀ H8, Same Hj H8 → ¬ Back R e.1 r.rl → Same H6 H8 ∧ ∃ bs : List Str, H8 D = some (.lst (bs.map V.str)) ∧ bs.length ≤ j + 1 ∧ (bs ≠ [] ↔ ∃ e ∈ (edgesL r.ls).take (j + 1), Back R e.1 r.rl) := fun H8 s8 hk => by
          refine ⟨sm6.trans s8, bs, s8 _ _ eD, by omega, ?_⟩
          rw [hb, take_next ee]
          constructor
          · rintro ⟨e', h1, h2⟩
            exact ⟨e', List.mem_append_left _ h1, h2⟩
          · rintro ⟨e', h1, h2⟩
            rcases List.mem_append.mp h1 with h1 | h1
            · exact ⟨e', h1, h2⟩
            · rw [List.mem_singleton.mp h1] at h2
              exact absurd h2 hk
        refine ⟨.str e.1, rfl, .str r.rl, rfl, rfl, _, rfl, ?_⟩
        by_cases c : e.1 = r.rl
        · refine iteT' (decide_eq_true (by rw [c])) (iteT' rfl ?_)
          exact ⟨.str e.1, rfl, add Hj (fun _ _ h => h) (.inl c)⟩
        · refine iteF' (decide_eq_false fun z => c (by injection z)) ?_
          have epj := s1j _ _ ep
          refine ⟨.str r.rl, rfl, .ref p, rfl, p, rfl, .inl ⟨kvs, .of epj⟩, .str e.1, rfl, Nat.zero_le _, fun z nz => ?_⟩
          generalize hG : upd _ z _ = H5
          obtain ⟨s5, e5⟩ := gen_up hG nz
          clear hG
          refine ⟨valV kvs (Sum.inr e.1 : Key), .inl ⟨kvs, Sum.inr e.1, .inl (s5 _ _ epj), rfl, rfl⟩, ?_⟩
          obtain ⟨lp, evp, elp⟩ : ∃ lp, (valV kvs (Sum.inr e.1 : Key)).getD (.ref z) = .ref lp ∧ H5 lp = some (.lst ((rch e.1).map V.str)) := by
            rcases ad e.1 with ⟨g1, g2⟩ | ⟨lp, g1, g2⟩
            · exact ⟨z, by rw [g1]; rfl, by rw [g2]; exact e5⟩
            · exact ⟨lp, by rw [g1]; rfl, s5 _ _ (s1j _ _ g2)⟩
          rw [evp]
          refine ⟨lp, _, rfl, .inl (SqL.of elp), rfl, flat_strs _, _, rfl, ?_⟩
          rw [inV_str]
          by_cases c2 : r.rl ∈ rch e.1
          · refine iteT' (decide_eq_true c2) ?_
            exact ⟨.str e.1, rfl, add H5 s5 (.inr ((hrc _ _).mp c2))⟩
          · refine iteF' (decide_eq_false c2) ?_
            exact skp H5 s5 (fun hh => hh.elim (fun z => c z) fun z => c2 ((hrc _ _).mpr z))
      · obtain ⟨sm6, bs, eD, lb, hb⟩ := hP
        rw [lys, List.take_length] at hb
        have si7 := s6.trans sm6
        refine ⟨.ref u, rfl, u, xs, r.ls, rfl, si7 _ _ eu, tx.mono (Tk.of si7), okr.1, okr.2, fun H8 s8 => ⟨makesL [] r.ls, rfl, ?_⟩⟩
        have si8 := si7.trans s8
        cases em : makesL [] r.ls with
        | false =>
          refine iteF' rfl (iteF' rfl ?_)
          obtain ⟨h1, h2⟩ := skip (fun g => by rw [g.1] at em; cases em) H8 si8
          exact ⟨⟨_, _, _, _, _, rfl⟩, h1, h2⟩
        | true =>
          refine iteT' rfl ?_
          refine ⟨.ref D, rfl, Nat.zero_le _, fun z nz => ?_⟩
          generalize hG : upd _ z _ = H9
          obtain ⟨s9, e9⟩ := gen_up hG nz
          clear hG
          have si9 := si8.trans s9
          refine ⟨.list (strsD bs), .list (strsD []), .lst (s9 _ _ (s8 _ _ eD)) (dls_strs bs), .lst e9 .nil, Nat.le_trans (strs_depth []) (by decide), _, rfl, ?_⟩
          cases bs with
          | nil =>
            refine iteF' rfl ?_
            obtain ⟨h1, h2⟩ := skip (fun g => hb.mpr g.2 rfl) H9 si9
            exact ⟨⟨_, _, _, _, _, rfl⟩, h1, h2⟩
          | cons x0 bs =>
            refine iteT' rfl ?_
            refine ⟨.str r.nm, rfl, len1, fun w nw => ?_⟩
            refine q w [r.nm] _ ((s1i.trans si9).trans (same_new nw)) (npH (s1i.trans si9) nw) upd_same (.inl ⟨r, hr', ⟨⟨em, hb.mp (fun z => by cases z)⟩, fun r' hr2 g => ?_⟩, rfl⟩)
            have hz := per.mem_iff.mpr (List.mem_map.mpr ⟨r', hr2, rfl⟩)
            rw [← List.take_append_drop i zs, drop_get ez] at hz
            rcases List.mem_append.mp hz with hz | hz
            · exact absurd g (no r' hr2 hz)
            · rcases List.mem_cons.mp hz with hz | hz
              · exact .inl hz
              · refine .inr ?_
                have pd := List.Pairwise.drop (i := i) pz
                rw [drop_get ez] at pd
                exact (List.pairwise_cons.mp pd).1 _ hz
    · obtain ⟨⟨x2, x3, x4, x5, x6, rfl⟩, sm, no⟩ := hP
      rw [List.length_map, List.take_length] at no
      refine ⟨Nat.zero_le _, fun w nw => ?_⟩
      exact q w [] _ ((s03.trans sm).trans (same_new nw)) (npH (s03.trans sm) nw) upd_same (.inr ⟨fun r hr2 => no r hr2 (per.mem_iff.mpr (List.mem_map.mpr ⟨r, hr2, rfl⟩)), rfl⟩)
abbrev dLW (P : Program) (w : World) (K : PySem.W.Frag) (mg : Str → Option Value) (base : Heap) : Prop := Def P w K mg base "_law_growing" 3 ["rules"] spLW
end
end KU

namespace KU
open PySem PySem.Spec PyProof.Rows PySem.HandSPX L2 KA
def rlOf (R : List Ru) : List (Str × Nat) := R.map fun r => (r.rl, r.ts.length)
theorem ruE_of {H : Hp} {ku : List (Key × V)} {R : List Ru} (h : RuK H ku R) : RulE H ku (rlOf R) := by
  refine ⟨by rw [h.length]; exact (List.length_map ..).symm, fun i k v r n e1 e2 => ?_⟩
  obtain ⟨r', er, _, tv⟩ := h.get e1
  unfold rlOf at e2
  rw [List.getElem?_map, er] at e2
  cases e2
  obtain ⟨t, vt, u, xs, rfl, et, tt, eu, tx⟩ := ruV_of tv
  cases tt with
  | tup a1 a2 =>
    refine ⟨t, _, _, _, rfl, et, a1, ?_⟩
    rw [a2.length, List.length_map]
theorem loose_tup {bs : List Str} {a : Bool} {d : PyData} : ∀ {ts : List T}, loose bs a ts = some d → d ≠ .none
  | [], h => by cases h
  | .any :: r, h => by
    have h : (if a then loose bs a r else some (.tuple [.str "any"])) = some d := h
    cases a with
    | true => exact loose_tup (ts := r) h
    | false => cases h; exact fun z => by cases z
  | .var x :: r, h => by
    have h : (if x ∈ bs then loose bs a r else some (.tuple [.str "unbound", .str x])) = some d := h
    by_cases c : x ∈ bs
    · rw [if_pos c] at h
      exact loose_tup (ts := r) h
    · rw [if_neg c] at h
      cases h
      exact fun z => by cases z
  | .val _ :: r, h => loose_tup (ts := r) h
theorem not_non {H : Hp} {v : V} {d : PyData} (t : Tp H v d) (n : d ≠ .none) : v ≠ .non := fun z => by
  subst z
  cases t
  exact n rfl
section
variable {P : Program} {w : World} {K : PySem.W.Frag} {mg : Str → Option Value} {base : Heap}
abbrev sRP : Stmt := topS 54
abbrev nRP : List Str := ["world", "name", "relation", "terms", "body", "widths_v", "problem", "bound", "rules"]
theorem scRP : FnScope nRP ["world", "name", "relation", "terms", "body"] (defScope sRP) := ⟨rfl, rfl, rfl, by decide +kernel, rfl, by decide +kernel, by decide +kernel⟩
/-- the law's world -/
structure Wo (H : Hp) (W Rr U : Addr) (kr ku : List (Key × V)) (R : List Ru) : Prop where
  hW : H W = some (.dK [(.inr "relations", .ref Rr), (.inr "rules", .ref U)])
  hR : H Rr = some (.dK kr)
  hU : H U = some (.dK ku)
  ne : W ≠ U
  lkr : kr.length ≤ 10
  lR : R.length ≤ 10
  rk : RuK H ku R
  nn : (R.map Ru.nm).Nodup
  ok : ∀ r ∈ R, OkRu r
theorem Wo.mono {H H' : Hp} {W Rr U : Addr} {kr ku : List (Key × V)} {R : List Ru} (h : Wo H W Rr U kr ku R) (s : Same H H') : Wo H' W Rr U kr ku R :=
  ⟨s _ _ h.hW, s _ _ h.hR, s _ _ h.hU, h.ne, h.lkr, h.lR, h.rk.mono (Tk.of s), h.nn, h.ok⟩
def spRP : Sp := fun vs H Q _ => ∃ (W Rr U u ub : Addr) (kr ku : List (Key × V)) (R : List Ru) (wd : Str → Option Nat) (nm rl : Str) (xs xb : List V) (ts : List T) (ls : List L) (isb hn : Bool), vs = [.ref W, .str nm, .str rl, .ref u, .ref ub] ∧ Wo H W Rr U kr ku R ∧ WidK (mergeK (rlK (rlOf R)) kr) wd ∧ isb = (valV kr (Sum.inr rl : Key)).isSome ∧ (hn = true ↔ ∃ r ∈ R, r.nm = nm) ∧
  H u = some (.tup xs) ∧ Tps H xs (ts.map tD) ∧ ts.length ≤ 100 ∧ H ub = some (.tup xb) ∧ Tps H xb (ls.map litD) ∧ BodyN ls ∧ OkRu ⟨nm, rl, ts, ls⟩ ∧
  ∀ v eo H', Same H H' → (hn = false → aloneP isb wd rl ts ls = none → EdgeP (R ++ [⟨nm, rl, ts, ls⟩]) eo) → Tp H' v (optD (ruleP hn nm (aloneP isb wd rl ts ls) eo)) → Q v H'
abbrev dWi' (P : Program) (w : World) (K : PySem.W.Frag) (mg : Str → Option Value) (base : Heap) : Prop := Def P w K mg base "_law_widths" 1 ["world"] spWi
theorem ok_rp {f : Addr} {fd : FuncData} (F : Fun K "_law_rule_problem" "_law_rule_problem" sRP f fd) (B : Bt mg) (Bx : Bt2 mg) (DWi : dWi P w K mg base) (DBp : dBp P w K mg base) (DLo : dLo P w K mg base) (DLG : dLG P w K mg base) (DLW : dLW P w K mg base) : FnOk P w K mg base CX0 4 f fd ["world", "name", "relation", "terms", "body"] spRP := by
  refine F.ok scRP (fun vs H Q E h => ?_) (fun cdv A outer s H vs Q E hr h => ?_)
  · obtain ⟨_, _, _, _, _, _, _, _, _, _, _, _, _, _, _, _, _, rfl, _⟩ := h
    rfl
  · obtain ⟨W, Rr, U, u, ub, kr, ku, R, wd, nm, rl, xs, xb, ts, ls, isb, hn, rfl, wo, wk, hib, hhn, eu, tx, lt, eub, txb, bn, okn, q⟩ := h
    have hu := hu_of hr
    refine ⟨_, (pss_cons (ps_set (i := 5) scRP.nd rfl (.inl rfl) (pe_def DWi (hr.mono (by decide)) (by rfl) (pa_cons (pv 0) pa_nil)))
      (pss_cons (ps_if (pt_cmp (pc_din hu (pv 1) (pe_dget hu (pv 0) pe_str (fun _ _ => rfl))))
        (pss_one (ps_ret (pe_tup (pa_cons pe_str (pa_cons pe_str (pa_cons (pv 1) pa_nil))))))
        pss_nil)
      (pss_cons (ps_if (pt_cmp (pc_din hu (pv 2) (pe_dget hu (pv 0) pe_str (fun _ _ => rfl))))
        (pss_one (ps_ret (pe_tup (pa_cons pe_str (pa_cons (pv 2) pa_nil)))))
        pss_nil)
      (pss_cons (ps_if (PW.pt (pw_or (pt_cmpR op_ne (pe_dget2 hu (pv 5) (pv 2) (pe_callB call_lenK (by rfl) B.len PySem.boot_len (pa_cons (pv 3) pa_nil)) ⟨rfl, rfl, rfl, rfl⟩) (pe_callB call_lenK (by rfl) B.len PySem.boot_len (pa_cons (pv 3) pa_nil)) (nomark _)) (pw_or1 (pt_not (pt_chain op_le op_le pe_int (pe_callB call_lenK (by rfl) B.len PySem.boot_len (pa_cons (pv 3) pa_nil)) pe_int)))))
        (pss_one (ps_ret (pe_tup (pa_cons pe_str (pa_cons (pv 2) pa_nil)))))
        pss_nil)
      (pss_cons (ps_dput hu (pv 5) (pv 2) (pe_callB call_lenK (by rfl) B.len PySem.boot_len (pa_cons (pv 3) pa_nil)) rfl)
      (pss_cons (ps_asg (pe_def DBp (hr.mono (by decide)) (by rfl) (pa_cons (pv 5) (pa_cons (pv 4) pa_nil))) (pg_tup rfl (pgs_cons (pg_name (i := 6) scRP.nd rfl (Or.inl rfl)) (pgs_cons (pg_name (i := 7) scRP.nd rfl (Or.inl rfl)) pgs_nil))))
      (C8.pss_cut (ps_if (pt_cmpR op_isN (pv 6) pe_non (nomark _))
        (pss_one (ps_set (i := 6) scRP.nd rfl (.inl rfl) (pe_def DLo (hr.mono (by decide)) (by rfl) (pa_cons (pv 3) (pa_cons (pv 7) (pa_cons pe_bl pa_nil))))))
        pss_nil)
      (pss_cons (ps_set (i := 8) scRP.nd rfl (.inl rfl) (pe_callTy call_dictD (by rfl) Bx.dict (by decide +kernel) (pa_cons (pe_dget hu (pv 0) pe_str (fun _ _ => rfl)) pa_nil)))
      (pss_cons (ps_dput hu (pv 8) (pv 1) (pe_tup (pa_cons (pv 2) (pa_cons (pv 3) (pa_cons (pv 4) pa_nil)))) rfl)
      (pss_cons (ps_if (PW.pt (pw_and (pt_cmpR op_isN (pv 6) pe_non (nomark _)) (pw_and1 (pt_val (pe_def DLG (hr.mono (by decide)) (by rfl) (pa_cons (pv 8) pa_nil))))))
        (pss_one (ps_set (i := 6) scRP.nd rfl (.inl rfl) (pe_tup (pa_cons pe_str pa_nil))))
        pss_nil)
      (pss_cons (ps_if (PW.pt (pw_and (pt_cmpR op_isN (pv 6) pe_non (nomark _)) (pw_and1 (pt_cmpR (op_neQ hr.units) (pe_def DLW (hr.mono (by decide)) (by rfl) (pa_cons (pv 8) pa_nil)) (pe_lst pa_nil) (nomark _)))))
        (pss_one (ps_set (i := 6) scRP.nd rfl (.inl rfl) (pe_tup (pa_cons pe_str (pa_cons (pe_ix ix_list (pe_def DLW (hr.mono (by decide)) (by rfl) (pa_cons (pv 8) pa_nil)) pe_int (fun _ _ => rfl)) pa_nil)))))
        pss_nil)
      (pss_one (ps_ret (pv 6)))))))))))))), ?_⟩
    have lx : xs.length = ts.length := by rw [tx.length, List.length_map]
    have nku : nd ku := by
      show (ku.map (·.1)).Nodup
      rw [wo.rk.1, show R.map (fun r => (Sum.inr r.nm : Key)) = (R.map Ru.nm).map Sum.inr by rw [List.map_map]; rfl]
      exact List.Pairwise.map _ (fun a b q z => q (inr_iff.mp z)) wo.nn
    have lRl : (rlOf R).length ≤ 10 := by unfold rlOf; rw [List.length_map]; exact wo.lR
    refine ⟨.ref W, rfl, W, Rr, U, kr, ku, rlOf R, rfl, wo.hW, wo.hR, wo.hU, wo.ne, wo.lkr, lRl, nku, ruE_of wo.rk, fun p H1 s1 e1 n1 => ?_⟩
    have wo1 := wo.mono s1
    have gU : ∀ {Hx : Hp}, Wo Hx W Rr U kr ku R → DGet Hx W (.str "rules") (some (.ref U)) := fun o => .inl ⟨_, Sum.inr "rules", .inl o.hW, rfl, rfl⟩
    have gR : ∀ {Hx : Hp}, Wo Hx W Rr U kr ku R → DGet Hx W (.str "relations") (some (.ref Rr)) := fun o => .inl ⟨_, Sum.inr "relations", .inl o.hW, rfl, rfl⟩
    have hlook : (valV ku (Sum.inr nm : Key)).isSome = hn := by
      cases hn with
      | true =>
        obtain ⟨r, hr', e'⟩ := hhn.mp rfl
        obtain ⟨v, ev, _⟩ := wo.rk.look wo.nn hr'
        rw [← e', ev]
        rfl
      | false =>
        cases c : valV ku (Sum.inr nm : Key) with
        | none => rfl
        | some v =>
          obtain ⟨i, hi, ei⟩ := List.mem_iff_getElem.mp ((mem_val nku).mp c)
          obtain ⟨r', er', ek, _⟩ := wo.rk.get (by rw [List.getElem?_eq_getElem hi, ei])
          have := hhn.mpr ⟨r', List.mem_of_getElem? er', (inr_iff.mp ek).symm⟩
          cases this
    refine ⟨.str nm, rfl, .ref W, rfl, W, .ref U, rfl, gU wo1, U, valV ku (Sum.inr nm : Key), rfl, DGet.k (k := Sum.inr nm) wo1.hU, ?_⟩
    rw [hlook]
    cases hn with
    | true =>
      refine ⟨true, rfl, iteT ⟨.str nm, rfl, len3, fun t nt => ?_⟩⟩
      exact q _ none _ (s1.trans (same_new nt)) (fun z => by cases z) (tup3 nt (.str _) (.str _) (.str _))
    | false =>
      refine ⟨false, rfl, iteF ?_⟩
      have hno : valV ku (Sum.inr nm : Key) = none := by
        cases c : valV ku (Sum.inr nm : Key) with
        | none => rfl
        | some v => rw [c] at hlook; cases hlook
      refine ⟨.str rl, rfl, .ref W, rfl, W, .ref Rr, rfl, gR wo1, Rr, valV kr (Sum.inr rl : Key), rfl, DGet.k (k := Sum.inr rl) wo1.hR, ?_⟩
      rw [← hib]
      have q' : ∀ v eo al H', Same H H' → aloneP isb wd rl ts ls = al → (al = none → EdgeP (R ++ [⟨nm, rl, ts, ls⟩]) eo) → Tp H' v (optD (match al with | some d => some d | none => eo)) → Q v H' := fun v eo al H' s' ha he t => q v eo H' s' (fun _ z => he (ha.symm.trans z)) (by
        rw [ha]
        exact t)
      cases isb with
      | true =>
        refine ⟨true, rfl, iteT ⟨.str rl, rfl, len2, fun t nt => ?_⟩⟩
        exact q' _ none _ _ (s1.trans (same_new nt)) rfl (fun z => by cases z) (tup2 nt (.str _) (.str _))
      | false =>
        refine ⟨false, rfl, iteF ?_⟩
        have ale : aloneP false wd rl ts ls = if (offW wd rl ts.length || !(decide (1 ≤ ts.length) && decide (ts.length ≤ 4))) = true then some (.tuple [.str "width", .str rl]) else
            match (bodyP (wdW wd rl ts.length) [] ls).1 with
            | some d => some d
            | none => loose (bodyP (wdW wd rl ts.length) [] ls).2 false ts := rfl
        have bad : aloneP false wd rl ts ls = some (.tuple [.str "width", .str rl]) → ∀ {Hx : Hp}, Same H Hx → ∀ t, Hx t = none → Q (.ref t) (upd Hx t (.tup [.str "width", .str rl])) := fun h Hx sx t nt => q' _ none _ _ (sx.trans (same_new nt)) h (fun z => by cases z) (tup2 nt (.str _) (.str _))
        have eu1 := s1 _ _ eu
        refine ⟨.ref p, rfl, p, rfl, .inl ⟨_, .of e1⟩, .str rl, rfl, .ref u, rfl, u, xs, rfl, .inr (SqT.of eu1), valV (mergeK (rlK (rlOf R)) kr) (Sum.inr rl : Key), DGet.k (k := Sum.inr rl) e1, ?_⟩
        rw [wk rl]
        obtain ⟨n0, en0, eo0⟩ : ∃ n0 : Nat, ((wd rl).map fun n => V.int (n : Int)).getD (.int (xs.length : Nat)) = .int (n0 : Int) ∧ offW wd rl ts.length = !decide (n0 = ts.length) := by
          unfold offW
          cases wd rl with
          | none => exact ⟨xs.length, rfl, by rw [lx, decide_eq_true rfl]; rfl⟩
          | some m => exact ⟨m, rfl, rfl⟩
        rw [en0]
        refine ⟨.ref u, rfl, u, xs, rfl, .inr (SqT.of eu1), rfl, _, rfl, ?_⟩
        have ed : (!decide (V.int (n0 : Int) = V.int ((xs.length : Nat) : Int))) = offW wd rl ts.length := by
          rw [eo0, lx]
          congr 1
          by_cases c : n0 = ts.length
          · rw [decide_eq_true c, decide_eq_true (by rw [c])]
          · rw [decide_eq_false c, decide_eq_false (fun z => c (by injection z with z; omega))]
        rw [ed]
        cases eo : offW wd rl ts.length with
        | true =>
          refine iteT' rfl (iteT' rfl ?_)
          have hd := ale
          rw [eo, Bool.true_or, if_pos rfl] at hd
          exact ⟨.str rl, rfl, len2, fun t nt => bad hd s1 t nt⟩
        | false =>
          refine iteF' rfl ?_
          have i1 : decide ((1 : Int) ≤ ((xs.length : Nat) : Int)) = decide (1 ≤ ts.length) := by
            rw [lx]
            by_cases c : 1 ≤ ts.length
            · rw [decide_eq_true c, decide_eq_true (by omega)]
            · rw [decide_eq_false c, decide_eq_false (by omega)]
          have i2 : decide (((xs.length : Nat) : Int) ≤ 4) = decide (ts.length ≤ 4) := by
            rw [lx]
            by_cases c : ts.length ≤ 4
            · rw [decide_eq_true c, decide_eq_true (by omega)]
            · rw [decide_eq_false c, decide_eq_false (by omega)]
          rw [eo, Bool.false_or] at ale
          have good : (decide (1 ≤ ts.length) && decide (ts.length ≤ 4)) = true → aloneP false wd rl ts ls = (match (bodyP (wdW wd rl ts.length) [] ls).1 with
            | some d => some d
            | none => loose (bodyP (wdW wd rl ts.length) [] ls).2 false ts) := fun h => by rw [ale, h]; rfl
          have badd : (decide (1 ≤ ts.length) && decide (ts.length ≤ 4)) = false → aloneP false wd rl ts ls = some (.tuple [.str "width", .str rl]) := fun h => by rw [ale, h]; rfl
          refine ⟨.ref u, rfl, u, xs, rfl, .inr (SqT.of eu1), 1, _, rfl, rfl, _, rfl, ?_⟩
          rw [i1]
          by_cases c1' : 1 ≤ ts.length
          · refine iteT' (decide_eq_true c1') ?_
            refine ⟨_, 4, rfl, rfl, _, rfl, ?_⟩
            rw [i2]
            by_cases c2' : ts.length ≤ 4
            · have hg := good (by rw [decide_eq_true c1', decide_eq_true c2']; rfl)
              refine iteF' (by rw [decide_eq_true c2']; rfl) ?_
              have lm : (mergeK (rlK (rlOf R)) kr).length ≤ 100 := by
                have h1 := length_mergeK kr (rlK (rlOf R))
                have h2 := rlK_len (rlOf R)
                have h3 := wo.lkr
                omega
              refine ⟨.ref u, rfl, u, xs, rfl, .inr (SqT.of eu1), .ref p, rfl, .str rl, rfl, p, _, rfl, DPut.k (k := (Sum.inr rl : Key)) e1 (small7 (by omega)), ?_⟩
              have s2 : Same H (upd H1 p (.dK (putK (mergeK (rlK (rlOf R)) kr) (Sum.inr rl) (.int (xs.length : Nat))))) := same_put s1 n1
              have e2 : (upd H1 p (.dK (putK (mergeK (rlK (rlOf R)) kr) (Sum.inr rl) (.int (xs.length : Nat))))) p = some (.dK (putK (mergeK (rlK (rlOf R)) kr) (Sum.inr rl) (.int (xs.length : Nat)))) := upd_same
              generalize upd H1 p (.dK (putK (mergeK (rlK (rlOf R)) kr) (Sum.inr rl) (.int (xs.length : Nat)))) = H2 at s2 e2 ⊢
              have wk2 := widK_put wk rl xs.length
              rw [lx] at wk2 e2
              refine ⟨.ref p, rfl, .ref ub, rfl, p, ub, xb, ls, _, wdW wd rl ts.length, rfl, s2 _ _ eub, txb.mono (Tk.of s2), bn, e2, wk2, fun pp b v H3 s3 epp tv eb hnn => ?_⟩
              refine ⟨pp, _, rfl, SqT.of epp, rfl, _, _, rfl, _, _, rfl, rfl, ?_⟩
              have s03 := s2.trans s3
              refine ⟨fun σ H' => ∃ v6 : V, σ = [some (.ref W), some (.str nm), some (.str rl), some (.ref u), some (.ref ub), some (.ref p), some v6, some (.ref b), none] ∧ Same H H' ∧ Tp H' v6 (optD (aloneP false wd rl ts ls)) ∧ (∀ d, aloneP false wd rl ts ls = some d → d ≠ .none), ?_, ?_⟩
              · refine ⟨v, rfl, rfl, _, rfl, ?_⟩
                cases eb1 : (bodyP (wdW wd rl ts.length) [] ls).1 with
                | some d =>
                  rw [eb1] at tv
                  refine iteF' (decide_eq_false (not_non tv (hnn d eb1))) ⟨v, rfl, s03, ?_, fun d' h => ?_⟩
                  · rw [hg, eb1]
                    exact tv
                  · rw [hg, eb1] at h
                    cases h
                    exact hnn d eb1
                | none =>
                  rw [eb1] at tv
                  have ev : v = .non := by cases tv; rfl
                  subst ev
                  refine iteT' (decide_eq_true rfl) ?_
                  refine ⟨.ref u, rfl, .ref b, rfl, u, b, xs, ts, _, false, rfl, s03 _ _ eu, tx.mono (Tk.of s03), eb, fun v6 H6 s6 t6 => ⟨v6, rfl, s03.trans s6, ?_, fun d' h => ?_⟩⟩
                  · rw [hg, eb1]
                    exact t6
                  · rw [hg, eb1] at h
                    exact loose_tup h
              · rintro σ H6 ⟨v6, rfl, s6, t6, nn6⟩
                have wo6 := wo.mono s6
                refine ⟨.ref W, rfl, W, .ref U, rfl, gU wo6, U, ku, rfl, .of wo6.hU, fun g ng => ?_⟩
                generalize hG : upd _ g _ = H7
                obtain ⟨s7, e7⟩ := gen_up hG ng
                clear hG
                have ngH : H g = none := by
                  cases e : H g with
                  | none => rfl
                  | some o => rw [s6 _ _ e] at ng; cases ng
                have s07 := s6.trans s7
                refine ⟨.str rl, rfl, .ref u, rfl, .ref ub, rfl, len3, fun t nt => ?_⟩
                generalize hG : upd _ t _ = H8
                obtain ⟨s8, e8⟩ := gen_up hG nt
                clear hG
                have ntg : t ≠ g := fun y => by rw [y, e7] at nt; cases nt
                have lku : ku.length ≤ 10 := by rw [wo.rk.length]; exact wo.lR
                refine ⟨.ref g, rfl, .str nm, rfl, g, _, rfl, DPut.k (k := (Sum.inr nm : Key)) (s8 _ _ e7) (small7 (by omega)), ?_⟩
                rw [putK_snoc hno]
                have s09 : Same H (upd H8 g (.dK (ku ++ [(Sum.inr nm, V.ref t)]))) := same_put (s07.trans s8) ngH
                have s69 : Tk H6 (upd H8 g (.dK (ku ++ [(Sum.inr nm, V.ref t)]))) := fun c ys h => by
                  rw [upd_ne (fun y => by rw [y, ng] at h; cases h)]
                  exact s8 _ _ (s7 _ _ h)
                have e9 : (upd H8 g (.dK (ku ++ [(Sum.inr nm, V.ref t)]))) g = some (.dK (ku ++ [(Sum.inr nm, V.ref t)])) := upd_same
                have e9t : (upd H8 g (.dK (ku ++ [(Sum.inr nm, V.ref t)]))) t = some (.tup [.str rl, .ref u, .ref ub]) := by rw [upd_ne ntg]; exact e8
                generalize upd H8 g (.dK (ku ++ [(Sum.inr nm, V.ref t)])) = H9 at s09 s69 e9 e9t ⊢
                have t9 := t6.mono s69
                have rk9 : RuK H9 (ku ++ [(Sum.inr nm, V.ref t)]) (R ++ [(⟨nm, rl, ts, ls⟩ : Ru)]) := by
                  refine ⟨by rw [List.map_append, List.map_append, wo.rk.1]; rfl, ?_⟩
                  rw [List.map_append, List.map_append]
                  refine (wo.rk.2.mono (Tk.of s09)).append (.cons ?_ .nil)
                  exact .tup e9t (.cons (.str _) (.cons (.tup (s09 _ _ eu) (tx.mono (Tk.of s09))) (.cons (.tup (s09 _ _ eub) (txb.mono (Tk.of s09))) .nil)))
                have nn9 : ((R ++ [(⟨nm, rl, ts, ls⟩ : Ru)]).map Ru.nm).Nodup := by
                  rw [List.map_append]
                  refine List.nodup_append.mpr ⟨wo.nn, by simp, fun a ha c hc y => ?_⟩
                  obtain ⟨r', hr', er'⟩ := List.mem_map.mp ha
                  have hc : c = nm := List.mem_singleton.mp hc
                  have := hhn.mpr ⟨r', hr', by rw [er', y, hc]⟩
                  cases this
                have ok9 : ∀ r ∈ R ++ [(⟨nm, rl, ts, ls⟩ : Ru)], OkRu r := fun x hx => by
                  rcases List.mem_append.mp hx with hx | hx
                  · exact wo.ok x hx
                  · rw [List.mem_singleton.mp hx]
                    exact okn
                have l9 : (R ++ [(⟨nm, rl, ts, ls⟩ : Ru)]).length ≤ 60 := by
                  have := wo.lR
                  rw [List.length_append]
                  show _ + 1 ≤ _
                  omega
                refine ⟨v6, rfl, rfl, _, rfl, ?_⟩
                cases ea : aloneP false wd rl ts ls with
                | some d =>
                  rw [ea] at t9
                  have nv := not_non t9 (nn6 d ea)
                  refine iteF' (decide_eq_false nv) (iteF' rfl ?_)
                  refine ⟨v6, rfl, rfl, _, rfl, iteF' (decide_eq_false nv) (iteF' rfl ⟨v6, rfl, ?_⟩)⟩
                  exact q' _ none _ _ s09 ea (fun z => by cases z) t9
                | none =>
                  rw [ea] at t9
                  have ev : v6 = .non := by cases t9; rfl
                  subst ev
                  refine iteT' (decide_eq_true rfl) ?_
                  refine ⟨.ref g, rfl, g, _, _, rfl, e9, rk9, nn9, ok9, l9, fun rb Ha sa hb => ⟨rb, rfl, ?_⟩⟩
                  have s0a := s09.trans sa
                  cases rb with
                  | true =>
                    refine iteT' rfl ?_
                    refine ⟨len1, fun y ny => ?_⟩
                    have tr := tup1 (H := Ha) (p := y) ny (.str "ring")
                    refine ⟨.ref y, rfl, rfl, _, rfl, iteF' (decide_eq_false (fun z => by cases z)) (iteF' rfl ⟨.ref y, rfl, ?_⟩)⟩
                    exact q' _ (some (.tuple [.str "ring"])) _ _ (s0a.trans (same_new ny)) ea (fun _ => .inl ⟨hb.mp rfl, rfl⟩) tr
                  | false =>
                    refine iteF' rfl ?_
                    have nr : ¬ Ring (R ++ [(⟨nm, rl, ts, ls⟩ : Ru)]) := fun z => by have := hb.mpr z; cases this
                    have tka := Tk.of sa
                    refine ⟨.non, rfl, rfl, _, rfl, iteT' (decide_eq_true rfl) ?_⟩
                    refine ⟨.ref g, rfl, g, _, _, rfl, sa _ _ e9, rk9.mono tka, nn9, ok9, l9, fun y zs Hb sb ny ey fg => ?_⟩
                    have sab := sa.trans sb
                    refine ⟨Nat.zero_le _, fun z nz => ?_⟩
                    generalize hG : upd _ z _ = Hc
                    obtain ⟨sc, ec⟩ := gen_up hG nz
                    clear hG
                    refine ⟨.list (strsD zs), .list (strsD []), .lst (sc _ _ ey) (dls_strs zs), .lst ec .nil, Nat.le_trans (strs_depth []) (by decide), _, rfl, ?_⟩
                    have s9c := sab.trans sc
                    rcases fg with ⟨r, hr', l', rfl⟩ | ⟨no, rfl⟩
                    · refine iteT' rfl ?_
                      refine ⟨.ref g, rfl, g, _, _, rfl, s9c _ _ e9, rk9.mono (Tk.of s9c), nn9, ok9, l9, fun y2 zs2 Hd sd ny2 ey2 fg2 => ?_⟩
                      rcases fg2 with ⟨r2, hr2, l2, rfl⟩ | ⟨no, _⟩
                      · refine ⟨y2, _, 0, .str r2.nm, rfl, rfl, SqL.of ey2, rfl, len2, fun w nw => ?_⟩
                        have s0d := (s09.trans s9c).trans sd
                        have tw := tup2 (H := Hd) (p := w) nw (.str "grows") (.str r2.nm)
                        refine ⟨.ref w, rfl, ?_⟩
                        exact q' _ (some (.tuple [.str "grows", .str r2.nm])) _ _ (s0d.trans (same_new nw)) ea (fun _ => .inr ⟨nr, .inl ⟨r2, hr2, l2, rfl⟩⟩) tw
                      · exact absurd l'.1 (no r hr')
                    · refine iteF' rfl ⟨.non, rfl, ?_⟩
                      exact q' _ none _ _ (s09.trans s9c) ea (fun _ => .inr ⟨nr, .inr ⟨no, rfl⟩⟩) .non
            · have hd := badd (by rw [decide_eq_false c2', Bool.and_false])
              refine iteT' (by rw [decide_eq_false c2']; rfl) ⟨.str rl, rfl, len2, fun t nt => bad hd s1 t nt⟩
          · have hd := badd (by rw [decide_eq_false c1', Bool.false_and])
            refine iteF' (decide_eq_false c1') ⟨false, rfl, iteT' rfl ⟨.str rl, rfl, len2, fun t nt => bad hd s1 t nt⟩⟩
abbrev dRP (P : Program) (w : World) (K : PySem.W.Frag) (mg : Str → Option Value) (base : Heap) : Prop := Def P w K mg base "_law_rule_problem" 4 ["world", "name", "relation", "terms", "body"] spRP
end
end KU

namespace KU
open PySem PySem.Spec PyProof.Rows PySem.HandSPX L2 KA
def RelT (_ : Str) (n : Nat) : Prop := n ≤ 5
theorem keepO_b {x : Str} {t : T} (h : TermB t) : TermB (keepO x t) := by
  unfold keepO
  by_cases c : t = .var x
  · rw [if_pos c]
    trivial
  · rw [if_neg c]
    exact h
theorem keepN_in {bs : List Str} {ts : List T} {t : T} (_ : t ∈ ts) : ∀ x, keepN bs t = .var x → x ∈ bs := fun x e => by
  cases t with
  | any => cases e
  | val k => cases e
  | var y =>
    have e : (if y ∈ bs then T.var y else .any) = .var x := e
    by_cases c : y ∈ bs
    · rw [if_pos c] at e
      cases e
      exact c
    · rw [if_neg c] at e
      cases e
section
variable {P : Program} {w : World} {K : PySem.W.Frag} {mg : Str → Option Value} {base : Heap}
def spLlT : Sp := fun vs H Q _ => ∃ (st L wd b : Addr) (wk : List (Key × V)) (ks bs : List Str), vs = [.ref st, .ref wd, .ref b, .bl true] ∧ Good st L H ∧ H wd = some (.dK wk) ∧ WdK wk ks ∧ H b = some (.lst (bs.map V.str)) ∧ b ≠ st ∧ bs.length ≤ 40 ∧ (∀ x ∈ bs, x ∈ vars4) ∧
  ∀ (v : V) (l : KU.L) H', Dr st L H H' → Tp H' v (litD l) → LitN l → Q v H'
theorem ok_llT {f : Addr} {fd : FuncData} (F : Fun K "_law_literal" "_law_literal" sLl f fd) (B : Bt mg) (hso : mg "sorted" = none) (DN : dNext P w K mg base) (DV : dLv P w K mg base) (DT : dLt P w K mg base) (DS : dLs P w K mg base) : FnOk P w K mg base CX0 4 f fd ["state", "widths_v", "bound", "careful"] spLlT := by
  refine F.ok scLl (fun vs H Q E h => ?_) (fun cdv A outer s H vs Q E hr h => ?_)
  · obtain ⟨_, _, _, _, _, _, _, rfl, _⟩ := h
    rfl
  · obtain ⟨st, L, wd, b, wk, ks, bs, rfl, g, ew, ⟨w1, w2, w3, w4⟩, eb, nb, lb, hb, q⟩ := h
    have hu := hu_of hr
    have r1 : Room 1 _ := hr.mono (by decide)
    have r2 : Room 2 _ := hr.mono (by decide)
    refine ⟨_, pss_cons (ps_set (i := 4) scLl.nd rfl (.inl rfl) (pe_callB cr_sortedS (by rfl) hso boot_sorted (pa_cons (pe_callTy (call_listD rfl) (by rfl) B.lst (by decide +kernel) (pa_cons (pv 1) pa_nil)) pa_nil)))
      (pss_cons (ps_set (i := 5) scLl.nd rfl (.inl rfl) (pe_ix ix_list (pv 4) (pe_def DN r1 (by rfl) (pa_cons (pv 0) (pa_cons (pe_callB call_len_seq (by rfl) B.len PySem.boot_len (pa_cons (pv 4) pa_nil)) pa_nil))) (fun _ _ => rfl)))
      (pss_cons (ps_set (i := 6) scLl.nd rfl (.inl rfl) (pe_dget hu (pv 1) (pv 5) (fun _ _ => rfl)))
      (pss_cons (ps_if (PW.pt (pw_and (pt_not (pt_val (pv 3))) (pw_and1 (pt_cmpR op_eq (pe_def DN r1 (by rfl) (pa_cons (pv 0) (pa_cons pe_int pa_nil))) pe_int (nomark _))))) pss_never pss_nil)
      (pss_cons (ps_if (PW.pt (pw_and (pt_not (pt_val (pv 3))) (pw_and1 (pt_cmpR op_eq (pe_def DN r1 (by rfl) (pa_cons (pv 0) (pa_cons pe_int pa_nil))) pe_int (nomark _))))) pss_never pss_nil)
      (pss_cons (ps_setLc (i := 7) (own := [("k", 11)]) (g := gName 11) (tt := tYes) (te := tCall spLt [] E0 (tCons (tVar 0) (tCons (tVar 2) tNil))) (by rfl) scLl.nd rfl rfl (sw_true rfl rfl rfl (by decide +kernel)) (pi_range1 (by rfl) B.rng (pa_cons (pv 6) pa_nil)) (blkOk_by (own := [("k", 11)]) (N := nLl) (sc := defScope sLl) (by decide +kernel))
        (fun _ _ _ _ _ => pg_name (i := 11) scLl.nd rfl (Or.inl rfl)) (fun _ _ _ _ _ => pts_nil) (fun _ _ _ _ _ => pe_def DT hr (by rfl) (pa_cons (pv 0) (pa_cons (pv 2) pa_nil))))
      (pss_cons (ps_set (i := 8) scLl.nd rfl (.inl rfl) (pe_ix ix_list (pe_lst (pa_cons pe_str (pa_cons pe_str (pa_cons pe_str (pa_cons pe_str (pa_cons pe_str (pa_cons pe_str (pa_cons pe_str pa_nil)))))))) (pe_def DN r1 (by rfl) (pa_cons (pv 0) (pa_cons pe_int pa_nil))) (fun _ _ => rfl)))
      (C8.pss_cut (ps_if (PW.pt (pw_and (pt_cmpR op_eq (pv 8) pe_str (nomark _)) (pw_and1 (PW.pt (pw_or (pt_val (pv 3)) (pw_or1 (pt_cmpR op_gt (pe_def DN r1 (by rfl) (pa_cons (pv 0) (pa_cons pe_int pa_nil))) pe_int (nomark _))))))))
        (pss_one (ps_setLc (i := 7) (own := [("term", 12)]) (g := gName 12) (tt := tYes) (te := tOp (rIxL K) (tLst (tCons (tVar 12) (tCons (tTup (tCons (tC (.str "any")) tNil)) tNil))) (tCB rInt1 (tCons (tAndV (tOp rEq (tOp (rIxT K) (tVar 12) (tC (.int 0))) (tC (.str "variable"))) (tOp (rIn K true) (tOp (rIxT K) (tVar 12) (tC (.int 1))) (tVar 2))) tNil))) (by rfl) scLl.nd rfl rfl (sw_true rfl rfl rfl (by decide +kernel)) (pi_list (pv 7)) (blkOk_by (own := [("term", 12)]) (N := nLl) (sc := defScope sLl) (by decide +kernel))
          (fun _ _ _ _ _ => pg_name (i := 12) scLl.nd rfl (Or.inl rfl)) (fun _ _ _ _ _ => pts_nil) (fun _ _ _ _ _ => pe_ix ix_list (pe_lst (pa_cons (pv 12) (pa_cons (pe_tup (pa_cons pe_str pa_nil)) pa_nil))) (pe_callTy (r := rInt1) call_intB (by rfl) B.int (by decide +kernel) (pa_cons (pe_and (pe_cmpR op_eq (pe_ix ix_tup (pv 12) pe_int (fun _ _ => rfl)) pe_str (nomark _)) (pe_one (pe_cmpR op_notIn_seq (pe_ix ix_tup (pv 12) pe_int (fun _ _ => rfl)) (pv 2) rfl))) pa_nil)) (fun _ _ => rfl)))) pss_nil)
      (pss_cons (ps_if (pt_cmpR op_in_seq (pv 8) (pe_lst (pa_cons pe_str (pa_cons pe_str pa_nil))) rfl) (pss_one (ps_ret (pe_tup (pa_cons (pv 8) (pa_cons (pv 5) (pa_cons (pe_callTy call_tuple_of (by rfl) B.tup (by decide +kernel) (pa_cons (pv 7) pa_nil)) pa_nil)))))) pss_nil)
      (pss_cons (ps_set (i := 9) scLl.nd rfl (.inl rfl) (pe_lst (pa_cons (pe_def DT hr (by rfl) (pa_cons (pv 0) (pa_cons (pv 2) pa_nil))) (pa_cons (pe_def DT hr (by rfl) (pa_cons (pv 0) (pa_cons (pv 2) pa_nil))) pa_nil))))
      (pss_cons (ps_if (PW.pt (pw_or (pt_val (pv 3)) (pw_or1 (pt_cmpR op_gt (pe_def DN r1 (by rfl) (pa_cons (pv 0) (pa_cons pe_int pa_nil))) pe_int (nomark _)))))
        (pss_one (ps_setLc (i := 9) (own := [("term", 12)]) (g := gName 12) (tt := tYes) (te := tCall spLs [] E0 (tCons (tVar 12) (tCons (tVar 2) tNil))) (by rfl) scLl.nd rfl rfl (sw_true rfl rfl rfl (by decide +kernel)) (pi_list (pv 9)) (blkOk_by (own := [("term", 12)]) (N := nLl) (sc := defScope sLl) (by decide +kernel))
          (fun _ _ _ _ _ => pg_name (i := 12) scLl.nd rfl (Or.inl rfl)) (fun _ _ _ _ _ => pts_nil) (fun _ _ _ _ _ => pe_def DS r1 (by rfl) (pa_cons (pv 12) (pa_cons (pv 2) pa_nil))))) pss_nil)
      (pss_cons (ps_set (i := 10) scLl.nd rfl (.inr rfl) (pe_def DV r2 (by rfl) (pa_cons (pv 0) pa_nil)))
      (pss_cons (ps_if (pt_cmpR op_eq (pv 8) pe_str (nomark _)) (pss_one (ps_ret (pe_tup (pa_cons (pv 8) (pa_cons (pe_ix ix_list (pe_lst (pa_cons pe_str (pa_cons pe_str (pa_cons pe_str (pa_cons pe_str (pa_cons pe_str (pa_cons pe_str pa_nil))))))) (pe_def DN r1 (by rfl) (pa_cons (pv 0) (pa_cons pe_int pa_nil))) (fun _ _ => rfl)) (pa_cons (pe_ix ix_list (pv 9) pe_int (fun _ _ => rfl)) (pa_cons (pe_ix ix_list (pv 9) pe_int (fun _ _ => rfl)) pa_nil))))))) pss_nil)
      (pss_cons (ps_if (pt_cmpR op_eq (pv 8) pe_str (nomark _)) (pss_one (ps_ret (pe_tup (pa_cons (pv 8) (pa_cons (pv 10) (pa_cons (pe_ix ix_list (pe_lst (pa_cons pe_str (pa_cons pe_str (pa_cons pe_str pa_nil)))) (pe_def DN r1 (by rfl) (pa_cons (pv 0) (pa_cons pe_int pa_nil))) (fun _ _ => rfl)) (pa_cons (pe_ix ix_list (pv 9) pe_int (fun _ _ => rfl)) (pa_cons (pe_ix ix_list (pv 9) pe_int (fun _ _ => rfl)) pa_nil)))))))) pss_nil)
      (pss_cons (ps_if (pt_val (pv 3)) (pss_one (ps_setLc (i := 7) (own := [("term", 12)]) (g := gName 12) (tt := tYes) (te := tOp (rIxL K) (tLst (tCons (tVar 12) (tCons (tTup (tCons (tC (.str "any")) tNil)) tNil))) (tCB rInt1 (tCons (tOp rEqP (tVar 12) (tTup (tCons (tC (.str "variable")) (tCons (tVar 10) tNil)))) tNil))) (by rfl) scLl.nd rfl rfl (sw_true rfl rfl rfl (by decide +kernel)) (pi_list (pv 7)) (blkOk_by (own := [("term", 12)]) (N := nLl) (sc := defScope sLl) (by decide +kernel))
          (fun _ _ _ _ _ => pg_name (i := 12) scLl.nd rfl (Or.inl rfl)) (fun _ _ _ _ _ => pts_nil) (fun _ _ _ _ _ => pe_ix ix_list (pe_lst (pa_cons (pv 12) (pa_cons (pe_tup (pa_cons pe_str pa_nil)) pa_nil))) (pe_callTy (r := rInt1) call_intB (by rfl) B.int (by decide +kernel) (pa_cons (pe_cmpR (op_eqP hr.units) (pv 12) (pe_tup (pa_cons pe_str (pa_cons (pv 10) pa_nil))) (nomark _)) pa_nil)) (fun _ _ => rfl)))) pss_nil)
      (pss_one (ps_ret (pe_tup (pa_cons (pv 8) (pa_cons (pv 10) (pa_cons (pv 5) (pa_cons (pe_callTy call_tuple_of (by rfl) B.tup (by decide +kernel) (pa_cons (pv 7) pa_nil)) pa_nil))))))))))))))))))))), ?_⟩
    have nwst : wd ≠ st := fun z => by
      obtain ⟨_, _, _, _, e, _⟩ := g
      rw [z, e] at ew
      cases ew
    -- names
    refine ⟨.ref wd, rfl, wd, wk, rfl, .inl ew, fun n0 nn0 => ?_⟩
    have dA := Dr.new (o := .lst (wk.map fun kv => kV kv.1)) g nn0
    have ekk : (wk.map fun kv => kV kv.1) = ks.map V.str := by
      have e := congrArg (List.map kV) w1
      rw [List.map_map, List.map_map] at e
      exact e
    rw [ekk] at dA ⊢
    refine ⟨n0, ks, rfl, SqL.of upd_same, w3, fun ys pn per srt npn => ?_⟩
    have dB := dA.add (o := .lst (ys.map V.str)) npn
    have epn : (upd (upd H n0 (.lst (ks.map V.str))) pn (.lst (ys.map V.str))) pn = some (.lst (ys.map V.str)) := upd_same
    have npst : pn ≠ st := fun z => dA.good.not_none (by rw [← z]; exact npn)
    revert dB epn
    clear dA npn nn0
    generalize (upd (upd H n0 (.lst (ks.map V.str))) pn (.lst (ys.map V.str))) = H1
    intro d1 epn
    have ly : ys.length = ks.length := per.length_eq
    -- relation
    refine ⟨.ref pn, rfl, .ref st, rfl, .ref pn, rfl, pn, _, rfl, .inl (SqL.of epn), st, L, _, rfl, d1.good, by rw [List.length_map, ly]; omega, by rw [List.length_map, ly]; omega, fun v2 H2 d2 v0 v1 => ?_⟩
    rw [List.length_map] at v1
    obtain ⟨r, hr0, er⟩ := pick_at (f := V.str) (ks := ys) v0 v1
    refine ⟨pn, _, v2, .str r, rfl, rfl, SqL.of (d2.at_ npst epn), er, ?_⟩
    have dr := d1.trans d2
    obtain ⟨n, hn1, hn3, hval⟩ := w4 r (per.mem_iff.mp hr0)
    refine ⟨.ref wd, rfl, .str r, rfl, wd, .int (n : Nat), rfl, .inl ⟨wk, .inr r, .inl (dr.at_ nwst ew), rfl, hval.symm⟩, ?_⟩
    have hrel : RelT r n := show n ≤ 5 by omega
    have hn3 : n ≤ 5 := by omega
    refine ⟨.bl true, rfl, true, rfl, iteF (iteF ?_)⟩
    refine ⟨.bl true, rfl, true, rfl, iteF (iteF ?_)⟩
    -- terms
    refine ⟨.int (n : Nat), rfl, (n : Nat), rfl, by omega, by omega, fun D nD => ?_⟩
    have nDst : D ≠ st := fun z => dr.good.not_none (by rw [← z]; exact nD)
    refine lc_range (lo := 0) (n := ((n : Nat) : Int).toNat) (fun i H' => Dr st L H2 H' ∧ ∃ us ts, H' D = some (.lst us) ∧ Tps H' us (ts.map tD) ∧ ts.length = i ∧ ∀ t ∈ ts, TermB t) ⟨Dr.new dr.good nD, [], [], upd_same, .nil, rfl, fun t h => by cases h⟩ (fun i H' hi hP => ?_) (fun H' hP => ?_)
    · obtain ⟨dd, us, ts, eD, tu, lt, ht⟩ := hP
      refine ⟨rfl, iteT (B := True) ?_⟩
      refine ⟨.ref st, rfl, .ref b, rfl, st, L, b, bs, rfl, dd.good, (dr.trans dd).at_ nb eb, nb, lb, hb, fun v t H5 d5 tv tb => ?_⟩
      have lu := tu.length
      rw [List.length_map] at lu
      have eD5 := d5.at_ nDst eD
      refine ⟨us, eD5, small1000 (by omega), (dd.trans d5).put dr.good nD, us ++ [v], ts ++ [t], upd_same, ?_, by rw [List.length_append, lt]; rfl, fun t2 h2 => ?_⟩
      · rw [List.map_append]
        exact ((tu.mono (d5.tk dd.good)).mono (Tk.lst eD5)).append (.cons (tv.mono (Tk.lst eD5)) .nil)
      · rcases List.mem_append.mp h2 with h2 | h2
        · exact ht t2 h2
        · rw [List.mem_singleton.mp h2]
          exact tb
    obtain ⟨dd, us, ts, eD, tu, lt, ht⟩ := hP
    have lt : ts.length = n := by rw [lt, Int.toNat_natCast]
    have d3 := dr.trans dd
    -- form
    refine ⟨(by show 7 ≤ sizeLine; decide), fun pf npf => ?_⟩
    have d4 := Dr.new (o := .lst (forms.map V.str)) d3.good npf
    refine ⟨.ref st, rfl, st, L, 7, rfl, d4.good, by decide, by decide, fun v5 H5 d5 w0 w1 => ?_⟩
    obtain ⟨fm, hfm, efm⟩ := pick_at (f := V.str) (ks := forms) w0 w1
    refine ⟨pf, _, v5, .str fm, rfl, rfl, SqL.of (Dr.keep d3.good npf d5), efm, ?_⟩
    have d6 := d3.trans (d4.trans d5)
    have eD6 := (d4.trans d5).at_ nDst eD
    have tu6 := tu.mono ((d4.trans d5).tk d3.good)
    clear d4 d5 npf w0 w1 efm
    have hrel : RelT r ts.length := by rw [lt]; exact hrel
    have lt3 : ts.length ≤ 5 := by omega
    refine ⟨fun σ' H' => (∃ (tl : Addr) (us : List V) (ts : List T) (x9 x10 x11 x12 : Option V), σ' = [some (.ref st), some (.ref wd), some (.ref b), some (.bl true), some (.ref pn), some (.str r), some (.int (n : Nat)), some (.ref tl), some (.str fm), x9, x10, x11, x12] ∧ H' tl = some (.lst us) ∧ Tps H' us (ts.map tD) ∧ tl ≠ st ∧ RelT r ts.length ∧ ts.length ≤ 5 ∧ (∀ t ∈ ts, TermB t) ∧ (fm = "not" → ∀ t ∈ ts, ∀ x, t = .var x → x ∈ bs)) ∧ Dr st L H H', ?_, fun σ' H' hm => ?_⟩
    · refine ⟨.str fm, rfl, rfl, _, rfl, ?_⟩
      by_cases c : fm = "not"
      · rw [c, decide_eq_true rfl]
        refine iteT ⟨.bl true, rfl, true, rfl, iteT (iteT ?_)⟩
        refine ⟨.ref D, rfl, D, rfl, ⟨us, SqL.of eD6⟩, fun D2 nD2 => ?_⟩
        have lus : us.length = ts.length := by rw [tu6.length, List.length_map]
        have nD2st : D2 ≠ st := fun z => d6.good.not_none (by rw [← z]; exact nD2)
        have eb6 := d6.at_ nb eb
        refine lc_tps walk_list ((ts.map (keepN bs)).map tD) (by rw [List.length_map, List.length_map, lus]) (by omega) nD2 (fun H2 sm => SqL.of (sm _ _ eD6)) (fun i x H2 H3 Q2 R hi sm hY qq => ?_) (fun H2 acc sm eA tA => ?_)
        · obtain ⟨rfl, hx⟩ := hY
          obtain ⟨t, et, tt⟩ := term_get tu6 hx
          have tt := tt.mono (Tk.of sm)
          have ed : ((ts.map (keepN bs)).map tD)[i]? = some (tD (keepN bs t)) := by
            rw [List.getElem?_map, List.getElem?_map, et]
            rfl
          obtain ⟨pt, r0, rfl, ept, e0, e1, e2⟩ := pairs_get tt
          refine ⟨rfl, iteT (B := True) ?_⟩
          refine ⟨.ref pt, rfl, (by show 1 ≤ sizeLine; decide), fun pa npa => ⟨(by show 2 ≤ sizeLine; decide), fun pl npl => ?_⟩⟩
          have s8 : Same H3 (upd (upd H3 pa (.tup [.str "any"])) pl (.lst [.ref pt, .ref pa])) := (same_new npa).trans (same_new npl)
          have epa : (upd (upd H3 pa (.tup [.str "any"])) pl (.lst [.ref pt, .ref pa])) pa = some (.tup [.str "any"]) := same_new npl _ _ upd_same
          have epl : (upd (upd H3 pa (.tup [.str "any"])) pl (.lst [.ref pt, .ref pa])) pl = some (.lst [.ref pt, .ref pa]) := upd_same
          revert s8 epa epl
          generalize (upd (upd H3 pa (.tup [.str "any"])) pl (.lst [.ref pt, .ref pa])) = H8
          intro s8 epa epl
          have st : ∀ {x y : Str}, x ≠ y → V.str x ≠ V.str y := fun n z => n (by injection z)
          refine ⟨.ref pt, rfl, pt, r0, 0, _, rfl, rfl, SqT.of (s8 _ _ ept), e0, rfl, _, rfl, ?_⟩
          cases t with
          | any =>
            rw [show tName .any = ("any" : Str) from rfl, decide_eq_false (st (show ("any" : Str) ≠ "variable" by decide +kernel))]
            exact iteF (.inr ⟨_, rfl, pl, _, 0, .ref pt, rfl, rfl, SqL.of epl, rfl, qq _ _ _ s8 ed (tt.mono (Tk.of s8))⟩)
          | val k =>
            rw [show tName (.val k) = ("value" : Str) from rfl, decide_eq_false (st (show ("value" : Str) ≠ "variable" by decide +kernel))]
            exact iteF (.inr ⟨_, rfl, pl, _, 0, .ref pt, rfl, rfl, SqL.of epl, rfl, qq _ _ _ s8 ed (tt.mono (Tk.of s8))⟩)
          | var y =>
            rw [show tName (.var y) = ("variable" : Str) from rfl, decide_eq_true rfl]
            refine iteT ⟨.ref pt, rfl, pt, r0, 1, _, rfl, rfl, SqT.of (s8 _ _ ept), e1 y rfl, .ref b, rfl, b, _, rfl, .inl (SqL.of (s8 _ _ (sm _ _ eb6))), rfl, flat_strs bs, .inr ⟨_, rfl, ?_⟩⟩
            rw [inV_str]
            have ek : keepN bs (.var y) = if y ∈ bs then .var y else .any := rfl
            by_cases c2 : y ∈ bs
            · rw [decide_eq_true c2]
              rw [ek, if_pos c2] at ed
              exact ⟨pl, _, 0, .ref pt, rfl, rfl, SqL.of epl, rfl, qq _ _ _ s8 ed (tt.mono (Tk.of s8))⟩
            · rw [decide_eq_false c2]
              rw [ek, if_neg c2] at ed
              exact ⟨pl, _, 1, .ref pa, rfl, rfl, SqL.of epl, rfl, qq _ _ _ s8 ed (.tup epa (.cons (.str _) .nil))⟩
        · refine ⟨⟨D2, acc, ts.map (keepN bs), _, _, _, _, rfl, eA, tA, nD2st, by rw [List.length_map]; exact hrel, by rw [List.length_map]; exact lt3, fun t h => ?_, fun _ t h => ?_⟩, d6.trans (Dr.same d6.good sm)⟩
          · obtain ⟨t0, h0, rfl⟩ := List.mem_map.mp h
            exact keepN_n (ht t0 h0)
          · obtain ⟨t0, h0, rfl⟩ := List.mem_map.mp h
            exact keepN_in h0
      · rw [decide_eq_false (fun z => c (by injection z))]
        refine iteF (iteF ⟨⟨D, us, ts, _, _, _, _, rfl, eD6, tu6, nDst, hrel, lt3, ht, fun z => absurd z c⟩, d6⟩)
    · obtain ⟨⟨tl, us, ts, x9, x10, x11, x12, rfl, etl, tus, ntl, hrel, lt3, ht, hn2⟩, dr⟩ := hm
      have sne : ∀ {x y : Str}, x ≠ y → V.str x ≠ V.str y := fun n z => n (by injection z)
      have eb' := dr.at_ nb eb
      refine ⟨.str fm, rfl, (by show 2 ≤ sizeLine; decide), fun pq npq => ?_⟩
      refine ⟨pq, _, rfl, .inl (SqL.of upd_same), rfl, by rfl, _, rfl, ?_⟩
      rw [show ([V.str "fact", V.str "not"] : List V) = (["fact", "not"] : List Str).map V.str from rfl]
      have d1 := dr.add (o := .lst ((["fact", "not"] : List Str).map V.str)) npq
      have etl1 : (upd H' pq (.lst ((["fact", "not"] : List Str).map V.str))) tl = some (.lst us) := by
        rw [upd_ne (ne_of_none etl npq)]
        exact etl
      have eb1 : (upd H' pq (.lst ((["fact", "not"] : List Str).map V.str))) b = some (.lst (bs.map V.str)) := by
        rw [upd_ne (ne_of_none eb' npq)]
        exact eb'
      have tus1 := tus.mono (Tk.new (o := .lst ((["fact", "not"] : List Str).map V.str)) npq)
      rw [if_neg Bool.false_ne_true, inV_str]
      revert d1 etl1 eb1 tus1
      generalize (upd H' pq (.lst ((["fact", "not"] : List Str).map V.str))) = H1
      intro d1 etl1 eb1 tus1
      have last : ∀ {a : Addr} {o : HO} {tp : Addr} {o2 : HO} {G : Hp}, G a = some o → G tp = none → (upd G tp o2) a = some o := fun {a o tp o2 G} h n => by
        rw [upd_ne (ne_of_none h n)]
        exact h
      by_cases c : fm ∈ (["fact", "not"] : List Str)
      · rw [decide_eq_true c]
        refine iteT ⟨.str fm, rfl, .str r, rfl, .ref tl, rfl, tl, us, rfl, .inl ⟨SqL.of etl1, fun tp ntp => ⟨(by show 3 ≤ sizeLine; decide), fun rp nrp => ?_⟩⟩⟩
        have d2 := (d1.add (o := .tup us) ntp).add (o := .tup [.str fm, .str r, .ref tp]) nrp
        have tt : Tp (upd (upd H1 tp (.tup us)) rp (.tup [.str fm, .str r, .ref tp])) (.ref rp) (.tuple [.str fm, .str r, .tuple (ts.map tD)]) :=
          .tup upd_same (.cons (.str _) (.cons (.str _) (.cons (.tup (last upd_same nrp) ((tus1.mono (Tk.new ntp)).mono (Tk.new nrp))) .nil)))
        rcases List.mem_cons.mp c with rfl | c
        · exact q _ (.fact r ts) _ d2 tt ⟨hrel, ht⟩
        · obtain rfl := List.mem_singleton.mp c
          exact q _ (.notl r ts) _ d2 tt ⟨hrel, ht⟩
      · rw [decide_eq_false c]
        refine iteF ?_
        -- the pair
        refine ⟨.ref st, rfl, .ref b, rfl, st, L, b, bs, rfl, d1.good, eb1, nb, lb, hb, fun va ta Ha da tva tba => ?_⟩
        have eba := da.at_ nb eb1
        refine ⟨.ref st, rfl, .ref b, rfl, st, L, b, bs, rfl, da.good, eba, nb, lb, hb, fun vb tb Hb db tvb tbb => ⟨(by show 2 ≤ sizeLine; decide), fun pp npp => ?_⟩⟩
        have dab := da.trans db
        have tva2 := tva.mono (db.tk da.good)
        have d2 := (d1.trans dab).add (o := .lst [va, vb]) npp
        have etl2 : (upd Hb pp (.lst [va, vb])) tl = some (.lst us) := last (dab.at_ ntl etl1) npp
        have eb2 : (upd Hb pp (.lst [va, vb])) b = some (.lst (bs.map V.str)) := last (dab.at_ nb eb1) npp
        have tus2 := (tus1.mono (dab.tk d1.good)).mono (Tk.new (o := .lst [va, vb]) npp)
        have tp2 : Tps (upd Hb pp (.lst [va, vb])) [va, vb] (([ta, tb] : List T).map tD) := .cons (tva2.mono (Tk.new npp)) (.cons (tvb.mono (Tk.new npp)) .nil)
        have epp : (upd Hb pp (.lst [va, vb])) pp = some (.lst [va, vb]) := upd_same
        revert d2 etl2 eb2 tus2 tp2 epp
        generalize (upd Hb pp (.lst [va, vb])) = H2
        intro d2 etl2 eb2 tus2 tp2 epp
        refine ⟨.bl true, rfl, true, rfl, iteT (iteT ?_)⟩
        refine ⟨.ref pp, rfl, pp, rfl, ⟨_, SqL.of epp⟩, fun D nD => ?_⟩
        refine lc_tps walk_list ((([ta, tb] : List T).map fun t => settled t bs).map tD) rfl (by show 2 ≤ 1000; decide) nD (fun H5 sm => SqL.of (sm _ _ epp)) (fun i x H5 H6 Q2 R hi sm hY qq => ?_) (fun H3 acc sm eA tA => ?_)
        · obtain ⟨rfl, hx⟩ := hY
          obtain ⟨t, et, tt⟩ := term_get tp2 hx
          refine ⟨rfl, iteT (B := True) ?_⟩
          refine ⟨x, rfl, .ref b, rfl, x, b, t, bs, rfl, tt.mono (Tk.of sm), sm _ _ eb2, fun v' H7 s7 tv' => qq v' H7 _ s7 ?_ tv'⟩
          rw [List.getElem?_map, List.getElem?_map, et]
          rfl
        · have tA : Tps H3 acc [tD (settled ta bs), tD (settled tb bs)] := tA
          obtain ⟨a1, a2, rfl, ta1, ta2⟩ := two_of tA
          have d3 := d2.trans (Dr.same d2.good sm)
          have etl3 := sm _ _ etl2
          have tus3 := tus2.mono (Tk.of sm)
          have nDst : D ≠ st := fun z => d2.good.not_none (by rw [← z]; exact nD)
          have sa1 := settled_n (bs := bs) tba
          have sb1 := settled_n (bs := bs) tbb
          refine ⟨.ref st, rfl, st, L, rfl, d3.good, fun x H4 d4 hx => ?_⟩
          have d5 := d3.trans d4
          have eA4 := d4.at_ nDst eA
          have ta14 := ta1.mono (d4.tk d3.good)
          have ta24 := ta2.mono (d4.tk d3.good)
          have etl4 := d4.at_ ntl etl3
          have tus4 := tus3.mono (d4.tk d3.good)
          refine ⟨.str fm, rfl, rfl, _, rfl, ?_⟩
          by_cases c1 : fm = "compare"
          · rw [c1, decide_eq_true rfl]
            refine iteT ⟨.str "compare", rfl, (by show 6 ≤ sizeLine; decide), fun po npo => ?_⟩
            have d6 := Dr.new (o := .lst (ops6.map V.str)) d5.good npo
            refine ⟨.ref st, rfl, st, L, 6, rfl, d6.good, by decide, by decide, fun v7 H7 d7 w0 w1 => ?_⟩
            obtain ⟨op, hop, eop⟩ := pick_at (f := V.str) (ks := ops6) w0 w1
            have d67 := d6.trans d7
            have eA7 := d67.at_ nDst eA4
            refine ⟨po, _, v7, .str op, rfl, rfl, SqL.of (Dr.keep d5.good npo d7), eop, .ref D, rfl, D, _, 0, a1, rfl, rfl, SqL.of eA7, rfl, .ref D, rfl, D, _, 1, a2, rfl, rfl, SqL.of eA7, rfl, (by show 4 ≤ sizeLine; decide), fun rp nrp => ?_⟩
            exact q _ (.cmp op _ _) _ ((d5.trans d67).add nrp) (.tup upd_same (.cons (.str _) (.cons (.str _) (.cons ((ta14.mono (d67.tk d5.good)).mono (Tk.new nrp)) (.cons ((ta24.mono (d67.tk d5.good)).mono (Tk.new nrp)) .nil))))) ⟨sa1, sb1⟩
          · rw [decide_eq_false (sne c1)]
            refine iteF ⟨.str fm, rfl, rfl, _, rfl, ?_⟩
            by_cases c2 : fm = "is"
            · rw [c2, decide_eq_true rfl]
              refine iteT ⟨.str "is", rfl, .str x, rfl, (by show 3 ≤ sizeLine; decide), fun po npo => ?_⟩
              have d6 := Dr.new (o := .lst (ops3.map V.str)) d5.good npo
              refine ⟨.ref st, rfl, st, L, 3, rfl, d6.good, by decide, by decide, fun v7 H7 d7 w0 w1 => ?_⟩
              obtain ⟨op, hop, eop⟩ := pick_at (f := V.str) (ks := ops3) w0 w1
              have d67 := d6.trans d7
              have eA7 := d67.at_ nDst eA4
              refine ⟨po, _, v7, .str op, rfl, rfl, SqL.of (Dr.keep d5.good npo d7), eop, .ref D, rfl, D, _, 0, a1, rfl, rfl, SqL.of eA7, rfl, .ref D, rfl, D, _, 1, a2, rfl, rfl, SqL.of eA7, rfl, (by show 5 ≤ sizeLine; decide), fun rp nrp => ?_⟩
              exact q _ (.isl x op _ _) _ ((d5.trans d67).add nrp) (.tup upd_same (.cons (.str _) (.cons (.str _) (.cons (.str _) (.cons ((ta14.mono (d67.tk d5.good)).mono (Tk.new nrp)) (.cons ((ta24.mono (d67.tk d5.good)).mono (Tk.new nrp)) .nil)))))) ⟨hx, sa1, sb1⟩
            · rw [decide_eq_false (sne c2)]
              have c3 : fm = "count" := by
                simp only [forms, List.mem_cons, List.not_mem_nil, or_false] at hfm c
                rcases hfm with z | z | z | z | z | z | z
                · exact absurd (.inl z) c
                · exact absurd (.inl z) c
                · exact absurd (.inl z) c
                · exact absurd (.inr z) c
                · exact absurd z c1
                · exact absurd z c2
                · exact z
              refine iteF ⟨.bl true, rfl, true, rfl, iteT ?_⟩
              refine ⟨.ref tl, rfl, tl, rfl, ⟨us, SqL.of etl4⟩, fun D2 nD2 => ?_⟩
              have lus : us.length = ts.length := by rw [tus4.length, List.length_map]
              refine lc_tps walk_list ((ts.map (keepO x)).map tD) (by rw [List.length_map, List.length_map, lus]) (by omega) nD2 (fun H5 sm => SqL.of (sm _ _ etl4)) (fun i y H5 H6 Q2 R hi sm hY qq => ?_) (fun H6 acc sm6 eA6 tA6 => ?_)
              · obtain ⟨rfl, hy⟩ := hY
                obtain ⟨t, et, tt⟩ := term_get tus4 hy
                have tt := tt.mono (Tk.of sm)
                have ed : ((ts.map (keepO x)).map tD)[i]? = some (tD (keepO x t)) := by
                  rw [List.getElem?_map, List.getElem?_map, et]
                  rfl
                refine ⟨rfl, iteT (B := True) ?_⟩
                refine ⟨y, rfl, (by show 1 ≤ sizeLine; decide), fun pa npa => ⟨(by show 2 ≤ sizeLine; decide), fun pl npl => ?_⟩⟩
                refine ⟨y, rfl, .str x, rfl, (by show 2 ≤ sizeLine; decide), fun pe npe => ?_⟩
                have s8 : Same H6 (upd (upd (upd H6 pa (.tup [.str "any"])) pl (.lst [y, .ref pa])) pe (.tup [.str "variable", .str x])) := ((same_new npa).trans (same_new npl)).trans (same_new npe)
                have epa : (upd (upd (upd H6 pa (.tup [.str "any"])) pl (.lst [y, .ref pa])) pe (.tup [.str "variable", .str x])) pa = some (.tup [.str "any"]) := same_new npe _ _ (same_new npl _ _ upd_same)
                have epl : (upd (upd (upd H6 pa (.tup [.str "any"])) pl (.lst [y, .ref pa])) pe (.tup [.str "variable", .str x])) pl = some (.lst [y, .ref pa]) := same_new npe _ _ upd_same
                have epe : (upd (upd (upd H6 pa (.tup [.str "any"])) pl (.lst [y, .ref pa])) pe (.tup [.str "variable", .str x])) pe = some (.tup [.str "variable", .str x]) := upd_same
                revert s8 epa epl epe
                generalize (upd (upd (upd H6 pa (.tup [.str "any"])) pl (.lst [y, .ref pa])) pe (.tup [.str "variable", .str x])) = H8
                intro s8 epa epl epe
                refine ⟨_, _, tt.mono (Tk.of s8), .tup epe (.cons (.str _) (.cons (.str _) .nil)), tD_small t, .inr ⟨_, rfl, ?_⟩⟩
                rw [eqv_var]
                by_cases c4 : t = .var x
                · rw [decide_eq_true c4]
                  have ek : keepO x t = .any := if_pos c4
                  rw [ek] at ed
                  exact ⟨pl, _, 1, .ref pa, rfl, rfl, SqL.of epl, rfl, qq _ _ _ s8 ed (.tup epa (.cons (.str _) .nil))⟩
                · rw [decide_eq_false c4]
                  have ek : keepO x t = t := if_neg c4
                  rw [ek] at ed
                  exact ⟨pl, _, 0, y, rfl, rfl, SqL.of epl, rfl, qq _ _ _ s8 ed (tt.mono (Tk.of s8))⟩
              · have d7 := d5.trans (Dr.same d5.good sm6)
                refine ⟨.str fm, rfl, .str x, rfl, .str r, rfl, .ref D2, rfl, D2, acc, rfl, .inl ⟨SqL.of eA6, fun tp ntp => ⟨(by show 4 ≤ sizeLine; decide), fun rp nrp => ?_⟩⟩⟩
                refine q _ (.cnt x r (ts.map (keepO x))) _ ((d7.add ntp).add nrp) ?_ ⟨hx, by rw [List.length_map]; exact hrel, fun t h => ?_⟩
                · rw [c3]
                  exact .tup upd_same (.cons (.str _) (.cons (.str _) (.cons (.str _) (.cons (.tup (last upd_same nrp) ((tA6.mono (Tk.new ntp)).mono (Tk.new nrp))) .nil))))
                · obtain ⟨t0, h0, rfl⟩ := List.mem_map.mp h
                  exact keepO_b (ht t0 h0)
end
end KU

namespace KU
open PySem PySem.Spec PyProof.Rows PySem.HandSPX L2 KA
section
variable {P : Program} {w : World} {K : PySem.W.Frag} {mg : Str → Option Value} {base : Heap}
def spLlB : Sp := fun vs H Q E => spLl vs H Q E ∨ spLlT vs H Q E
abbrev dLlB (P : Program) (w : World) (K : PySem.W.Frag) (mg : Str → Option Value) (base : Heap) : Prop := Def P w K mg base "_law_literal" 4 ["state", "widths_v", "bound", "careful"] spLlB
theorem fn_or {f : Addr} {fd : FuncData} {k : Nat} {ps : List Str} {s1 s2 : Sp} (a : FnOk P w K mg base CX0 k f fd ps s1) (b : FnOk P w K mg base CX0 k f fd ps s2) : FnOk P w K mg base CX0 k f fd ps (fun vs H Q E => s1 vs H Q E ∨ s2 vs H Q E) :=
  ⟨fun vs H Q E h => h.elim (a.len vs H Q E) (b.len vs H Q E), fun A outer s H args us vs Q E hr e0 bt r h => h.elim (a.run A outer s H args us vs Q E hr e0 bt r) (b.run A outer s H args us vs Q E hr e0 bt r)⟩
theorem lit_both {vs : List V} {H : Hp} {Q : VK} {E : XK} (h : ∃ (st L wd b : Addr) (wk : List (Key × V)) (ks bs : List Str) (cf : Bool), vs = [.ref st, .ref wd, .ref b, .bl cf] ∧ Good st L H ∧ H wd = some (.dK wk) ∧ WdK wk ks ∧ H b = some (.lst (bs.map V.str)) ∧ b ≠ st ∧ bs.length ≤ 40 ∧ (∀ x ∈ bs, x ∈ vars4) ∧
    ∀ (v : V) (l : KU.L) H', Dr st L H H' → Tp H' v (litD l) → LitN l → Q v H') : spLlB vs H Q E := by
  obtain ⟨st, L, wd, b, wk, ks, bs, cf, rfl, h⟩ := h
  cases cf with
  | false => exact .inl ⟨st, L, wd, b, wk, ks, bs, rfl, h⟩
  | true => exact .inr ⟨st, L, wd, b, wk, ks, bs, rfl, h⟩
def spLbB : Sp := fun vs H Q _ => ∃ (st L wd : Addr) (wk : List (Key × V)) (ks : List Str) (cf : Bool), vs = [.ref st, .ref wd, .bl cf, .int 3] ∧ Good st L H ∧ H wd = some (.dK wk) ∧ WdK wk ks ∧
  ∀ (p : Addr) (us : List V) (ls : List KU.L) H', Dr st L H H' → H' p = some (.tup us) → Tps H' us (ls.map litD) → BodyN ls → Q (.ref p) H'
theorem ok_lbB {f : Addr} {fd : FuncData} (F : Fun K "_law_body" "_law_body" sLb f fd) (B : Bt mg) (DN : dNext P w K mg base) (DL : dLlB P w K mg base) (DB : dBi P w K mg base) : FnOk P w K mg base CX0 5 f fd ["state", "widths_v", "careful", "most"] spLbB := by
  refine F.ok scLb (fun vs H Q E h => ?_) (fun cdv A outer s H vs Q E hr h => ?_)
  · obtain ⟨_, _, _, _, _, _, rfl, _⟩ := h
    rfl
  · obtain ⟨st, L, wd, wk, ks, cf, rfl, g, ew, hwk, q⟩ := h
    have r1 : Room 1 _ := hr.mono (by decide)
    refine ⟨_, pss_cons (ps_set (i := 4) scLb.nd rfl (.inl rfl) (pe_lst pa_nil))
      (pss_cons (ps_set (i := 5) scLb.nd rfl (.inr rfl) (pe_lst pa_nil))
      (pss_cons (ps_set (i := 6) scLb.nd rfl (.inl rfl) pe_int)
      (pss_cons (ps_for PassesOwn.never rfl (pi_range1 (by rfl) B.rng (pa_cons (pe_def DN r1 (by rfl) (pa_cons (pv 0) (pa_cons (pe_op op_add (pv 3) pe_int) pa_nil))) pa_nil)) (pg_name (i := 7) scLb.nd rfl (.inl rfl))
        (pss_cons (ps_set (i := 8) scLb.nd rfl (.inl rfl) (pe_def DL hr (by rfl) (pa_cons (pv 0) (pa_cons (pv 1) (pa_cons (pv 5) (pa_cons (pv 2) pa_nil))))))
        (pss_one (ps_if (PW.pt (pw_or (pt_cmpR op_ne (pe_ix ix_tup (pv 8) pe_int (fun _ _ => rfl)) pe_str (nomark _)) (pw_or1 (pt_cmpR op_lt (pv 6) pe_int (nomark _)))))
          (pss_cons (ps_expr (pe_bm PySem.F.plainAttrs_list PySem.F.slot_list_append PySem.F.type_list_append mt_append (pv 4) (pa_cons (pv 8) pa_nil)))
          (pss_cons (ps_set (i := 6) scLb.nd rfl (.inl rfl) (pe_op op_add (pv 6) (pe_callTy call_int1 (by rfl) B.int (by decide +kernel) (pa_cons (pe_cmpR op_eq (pe_ix ix_tup (pv 8) pe_int (fun _ _ => rfl)) pe_str (nomark _)) pa_nil))))
          (pss_one (ps_set (i := 5) scLb.nd rfl (.inr rfl) (pe_op op_cat (pv 5) (pe_lc (own := [("name", 9)]) (g := gName 9) (tt := tTest (tOp (rIn K true) (tVar 9) (tVar 5))) (te := tVar 9) rfl scLb.nd (pi_list (pe_def DB r1 (by rfl) (pa_cons (pv 8) pa_nil))) (blkOk_by (own := [("name", 9)]) (N := nLb) (sc := defScope sLb) (by decide +kernel))
            (fun _ _ _ _ _ => pg_name (i := 9) scLb.nd rfl (Or.inl rfl)) (fun _ _ _ _ _ => pts_one (pt_cmpR op_notIn_seq (pv 9) (pv 5) rfl)) (fun _ _ _ _ _ => pv 9)))))))
          pss_nil))))
      (pss_one (ps_ret (pe_callTy call_tuple_of (by rfl) B.tup (by decide +kernel) (pa_cons (pv 4) pa_nil))))))), ?_⟩
    have nwst : wd ≠ st := fun z => by
      obtain ⟨_, _, _, _, e, _⟩ := g
      rw [z, e] at ew
      cases ew
    refine ⟨(by show 0 ≤ sizeLine; decide), fun bd nbd => ?_⟩
    refine ⟨(by show 0 ≤ sizeLine; decide), fun bo nbo => ?_⟩
    have d1 := (Dr.new (o := .lst []) g nbd).add (o := .lst []) nbo
    have ebd : (upd (upd H bd (.lst [])) bo (.lst [])) bd = some (.lst []) := by
      rw [upd_ne (ne_of_none upd_same nbo)]
      exact upd_same
    have ebo : (upd (upd H bd (.lst [])) bo (.lst [])) bo = some (.lst []) := upd_same
    have nbst : bd ≠ st := fun z => g.not_none (by rw [← z]; exact nbd)
    have nbo0 : H bo = none := (same_new nbd).free nbo
    have nost : bo ≠ st := fun z => g.not_none (by rw [← z]; exact nbo0)
    have nbb : bd ≠ bo := fun z => by rw [← z, upd_same] at nbo; cases nbo
    revert d1 ebd ebo
    generalize (upd (upd H bd (.lst [])) bo (.lst [])) = H1
    intro d1 ebd ebo
    refine ⟨.ref st, rfl, .int 3, rfl, 3, 1, rfl, rfl, st, L, 4, rfl, d1.good, by decide, by decide, fun n H2 d2 n0 n1 => ?_⟩
    have d12 := d1.trans d2
    refine ⟨n, rfl, by omega, by omega, ?_⟩
    refine for_range (lo := 0) (n := n.toNat) (fun i σ H' => (∃ (b : Addr) (us : List V) (ls : List KU.L) (x7 x8 x9 : Option V), σ = [some (.ref st), some (.ref wd), some (.bl cf), some (.int 3), some (.ref bd), some (.ref b), some (.int ((factsOf ls).length : Nat)), x7, x8, x9] ∧ H' bd = some (.lst us) ∧ Tps H' us (ls.map litD) ∧ b ≠ st ∧ b ≠ bd ∧ H' b = some (.lst ((boundOf ls).map V.str)) ∧ (boundOf ls).length ≤ 5 * i ∧ (∀ x ∈ boundOf ls, x ∈ vars4) ∧ ls.length ≤ i ∧ (factsOf ls).length ≤ 3 ∧ ∀ l ∈ ls, LitN l) ∧ Dr st L H H')
      ⟨⟨bo, [], [], none, none, none, rfl, d2.at_ nbst ebd, .nil, nost, nbb.symm, d2.at_ nost ebo, Nat.le_refl _, (fun x h => (by cases h)), Nat.le_refl _, (by show 0 ≤ 3; decide), fun l h => (by cases h)⟩, d12⟩ (fun i σ H' hi hP => ?_) (fun σ H' hP => ?_)
    · obtain ⟨⟨b, us, ls, x7, x8, x9, rfl, eus, tus, nb, nbbd, eb, lbo, hbo, lls, lfa, hlit⟩, dr⟩ := hP
      have hi6 : i < 6 := by omega
      refine ⟨.ref st, rfl, .ref wd, rfl, .ref b, rfl, .bl cf, rfl, ?_⟩
      have lbo2 : (boundOf ls).length ≤ 40 := by omega
      refine lit_both ⟨st, L, wd, b, wk, ks, boundOf ls, cf, rfl, dr.good, dr.at_ nwst ew, hwk, eb, nb, lbo2, hbo, fun v l H3 d3 tl hl => ?_⟩
      have eus3 := d3.at_ nbst eus
      have tus3 := tus.mono (d3.tk dr.good)
      have eb3 := d3.at_ nb eb
      have dr3 := dr.trans d3
      obtain ⟨bl1, bl2, bl3⟩ := binds_len hl
      obtain ⟨p, r0, rfl, ep, e0⟩ := lit_name tl
      refine ⟨.ref p, rfl, p, r0, 0, _, rfl, rfl, SqT.of ep, e0, rfl, _, rfl, ?_⟩
      have lus := tus.length
      rw [List.length_map] at lus
      have hne : ∀ z : Str, (!decide (V.str z = V.str "fact")) = !decide (z = "fact") := fun z => by
        by_cases c : z = "fact"
        · rw [c, decide_eq_true rfl, decide_eq_true rfl]
        · rw [decide_eq_false c, decide_eq_false (fun y => c (by injection y))]
      rw [hne]
      -- the literal comes, or it does not
      have keep : LitN l → ∀ l' ∈ ls ++ [l], LitN l' := fun h l' e => by
        rcases List.mem_append.mp e with e | e
        · exact hlit l' e
        · rw [List.mem_singleton.mp e]
          exact h
      refine or_ifs (b := decide ((((factsOf ls).length : Nat) : Int) < 3)) ?_ (fun h => ⟨.int ((factsOf ls).length : Nat), rfl, _, _, rfl, rfl, _, rfl, h⟩)
      by_cases c : (!decide (litName l = "fact") || decide ((((factsOf ls).length : Nat) : Int) < 3)) = true
      · rw [c]
        refine iteT ?_
        have hc : litName l = "fact" → (factsOf ls).length < 3 := fun e => by
          rw [e, decide_eq_true rfl, Bool.not_true, Bool.false_or] at c
          have := of_decide_eq_true c
          omega
        refine ⟨.ref bd, rfl, .inl ⟨rfl, _, SqL.of eus3⟩, .ref p, rfl, bd, us, _, rfl, rfl, eus3, small1000 (by omega), ?_⟩
        have nbst3 : bd ≠ st := nbst
        have dr4 : Dr st L H (upd H3 bd (.lst (us ++ [.ref p]))) := dr3.put g nbd
        have tk4 : Tk H3 (upd H3 bd (.lst (us ++ [.ref p]))) := Tk.lst eus3
        have eb4 : (upd H3 bd (.lst (us ++ [.ref p]))) b = some (.lst ((boundOf ls).map V.str)) := by
          rw [upd_ne nbbd]
          exact eb3
        have eus4 : (upd H3 bd (.lst (us ++ [.ref p]))) bd = some (.lst (us ++ [.ref p])) := upd_same
        revert dr4 tk4 eb4 eus4
        generalize (upd H3 bd (.lst (us ++ [.ref p]))) = H4
        intro dr4 tk4 eb4 eus4
        have ep4 := tk4 _ _ ep
        have tl4 := tl.mono tk4
        -- facts
        refine ⟨.int ((factsOf ls).length : Nat), rfl, .ref p, rfl, p, r0, 0, _, rfl, rfl, SqT.of ep4, e0, rfl, .inr ⟨_, rfl, _, _, rfl, rfl, ?_⟩⟩
        -- bound
        refine ⟨.ref b, rfl, ?_⟩
        refine ⟨.ref p, rfl, .ref p, l, rfl, tl4, by omega, fun r ts e => Nat.le_trans (bl2 r ts e) (by decide), fun pb H5 s5 epb npb => ?_⟩
        refine ⟨pb, rfl, ⟨_, SqL.of epb⟩, fun D nD => ?_⟩
        have eb5 := s5 _ _ eb4
        have dr5 := dr4.trans (Dr.same dr4.good s5)
        refine lc_keep walk_list ((bindsL l).map V.str) ((bindsL l).map fun x => !decide (x ∈ boundOf ls)) rfl (by rw [List.length_map, List.length_map]) (by rw [List.length_map]; omega) nD (fun H2 sm => SqL.of (sm _ _ epb)) (fun j y H6 H7 Q2 R hj sm hY qt qf => ?_) (fun H6 sm eD => ?_)
        · obtain ⟨rfl, hy⟩ := hY
          rw [List.getElem?_map] at hy
          cases ex : (bindsL l)[j]? with
          | none => rw [ex] at hy; cases hy
          | some x =>
            rw [ex] at hy
            have hy : V.str x = y := Option.some.inj hy
            subst hy
            refine ⟨rfl, .str x, rfl, .ref b, rfl, b, _, rfl, .inl (SqL.of (sm _ _ eb5)), rfl, flat_strs _, _, rfl, ?_⟩
            have ek : ∀ b', (!decide (x ∈ boundOf ls)) = b' → ((bindsL l).map fun x => !decide (x ∈ boundOf ls))[j]? = some b' := fun b' e => by
              rw [List.getElem?_map, ex]
              exact congrArg some e
            have ey : ((bindsL l).map V.str)[j]? = some (V.str x) := by
              rw [List.getElem?_map, ex]
              rfl
            rw [inV_str]
            by_cases c5 : x ∈ boundOf ls
            · rw [decide_eq_true c5]
              exact iteF (qf _ (Same.refl _) (ek _ (by rw [decide_eq_true c5]; rfl)))
            · rw [decide_eq_false c5]
              exact iteT ⟨.str x, rfl, qt _ _ (Same.refl _) (ek _ (by rw [decide_eq_false c5]; rfl)) ey⟩
        · have efil : ((((bindsL l).map V.str).zip ((bindsL l).map fun x => !decide (x ∈ boundOf ls))).filter (·.2)).map (·.1) = ((bindsL l).filter fun x => !decide (x ∈ boundOf ls)).map V.str := by
            generalize bindsL l = xs
            induction xs with
            | nil => rfl
            | cons x xs ih =>
              rw [List.map_cons, List.map_cons, List.zip_cons_cons]
              cases cx : !decide (x ∈ boundOf ls) with
              | true => rw [List.filter_cons_of_pos rfl, List.filter_cons_of_pos (p := fun x => !decide (x ∈ boundOf ls)) cx, List.map_cons, List.map_cons, ih]
              | false => rw [List.filter_cons_of_neg Bool.false_ne_true, List.filter_cons_of_neg (p := fun x => !decide (x ∈ boundOf ls)) (by rw [cx]; exact Bool.false_ne_true), ih]
          rw [efil] at eD
          have dr6 := dr5.trans (Dr.same dr5.good sm)
          have eb6 := sm _ _ eb5
          have eadd : boundOf (ls ++ [l]) = addN (boundOf ls) (bindsL l) := boundOf_snoc ls l
          have lfil : ((bindsL l).filter fun x => !decide (x ∈ boundOf ls)).length ≤ 5 := Nat.le_trans (List.length_filter_le _ _) bl1
          refine ⟨b, D, _, _, rfl, rfl, eb6, eD, Nat.le_of_lt (small1000 (by rw [List.length_map, List.length_map]; omega)), fun bn nbn => ?_⟩
          have dr7 := dr6.add (o := .lst ((boundOf ls).map V.str ++ ((bindsL l).filter fun x => !decide (x ∈ boundOf ls)).map V.str)) nbn
          have ebn : (upd H6 bn (.lst ((boundOf ls).map V.str ++ ((bindsL l).filter fun x => !decide (x ∈ boundOf ls)).map V.str))) bn = some (.lst ((boundOf (ls ++ [l])).map V.str)) := by
            rw [upd_same, eadd]
            unfold addN
            rw [List.map_append]
          have eus6 := sm _ _ (s5 _ _ eus4)
          have nbn1 : bn ≠ bd := fun z => by rw [z, eus6] at nbn; cases nbn
          have nbn2 : bn ≠ st := fun z => dr6.good.not_none (by rw [← z]; exact nbn)
          refine ⟨⟨bn, us ++ [.ref p], ls ++ [l], some (.int (0 + (i : Int))), some (.ref p), x9, ?_, by rw [upd_ne nbn1.symm]; exact eus6, ?_, nbn2, nbn1, ebn, ?_, ?_, by rw [List.length_append, List.length_singleton]; omega, ?_, keep hl⟩, dr7⟩
          · have ef : (((factsOf (ls ++ [l])).length : Nat) : Int) = ((factsOf ls).length : Nat) + (if decide (V.str (litName l) = V.str "fact") = true then 1 else 0) := by
              rw [facts_snoc]
              by_cases c6 : litName l = "fact"
              · rw [if_pos c6, c6, decide_eq_true rfl, if_pos rfl]
                rfl
              · rw [if_neg c6, decide_eq_false (fun z => c6 (by injection z)), if_neg Bool.false_ne_true]
                rfl
            rw [ef]
            rfl
          · rw [List.map_append]
            exact (((tus3.mono tk4).mono (Tk.of (s5.trans sm))).mono (Tk.new nbn)).append (.cons ((tl4.mono (Tk.of (s5.trans sm))).mono (Tk.new nbn)) .nil)
          · rw [eadd]
            unfold addN
            rw [List.length_append]
            omega
          · intro x hx
            rw [eadd] at hx
            rcases List.mem_append.mp hx with hx | hx
            · exact hbo x hx
            · exact bl3 x (List.mem_filter.mp hx).1
          · rw [facts_snoc]
            by_cases c6 : litName l = "fact"
            · rw [if_pos c6]
              exact hc c6
            · rw [if_neg c6]
              exact lfa
      · rw [Bool.not_eq_true] at c
        rw [c]
        refine iteF ⟨⟨b, us, ls, _, _, _, rfl, eus3, tus3, nb, nbbd, eb3, by omega, hbo, by omega, lfa, hlit⟩, dr3⟩
    · obtain ⟨⟨b, us, ls, x7, x8, x9, rfl, eus, tus, nb, nbbd, eb, lbo, hbo, lls, lfa, hlit⟩, dr⟩ := hP
      refine ⟨.ref bd, rfl, bd, us, rfl, .inl ⟨SqL.of eus, fun tp ntp => ?_⟩⟩
      exact q tp us ls _ (dr.add ntp) upd_same (tus.mono (Tk.new ntp)) ⟨by omega, hlit⟩
abbrev dLbB (P : Program) (w : World) (K : PySem.W.Frag) (mg : Str → Option Value) (base : Heap) : Prop := Def P w K mg base "_law_body" 5 ["state", "widths_v", "careful", "most"] spLbB
end
end KU

namespace KU
open PySem PySem.Spec PyProof.Rows PySem.HandSPX L2 KA
mutual
/-- data of ints, texts, None and tuples -/
def okN : PyData → Prop
  | .none => True
  | .bool _ => True
  | .int _ => True
  | .str _ => True
  | .tuple ds => ds.length ≤ 1000 ∧ okNs ds
  | _ => False
def okNs : List PyData → Prop
  | [] => True
  | d :: r => okN d ∧ okNs r
end
theorem okNs_mem : ∀ {ds : List PyData} {d : PyData}, okNs ds → d ∈ ds → okN d
  | x :: r, d, h, m => by
    rw [okNs] at h
    rcases List.mem_cons.mp m with e | e
    · rw [e]
      exact h.1
    · exact okNs_mem h.2 e
section
variable {P : Program} {w : World} {K : PySem.W.Frag} {mg : Str → Option Value} {base : Heap}
def spSE (n : Nat) : Sp := fun vs H Q _ => ∃ (v u : V) (d : PyData), vs = [v, u] ∧ Tp H v d ∧ Tp H u d ∧ okN d ∧ d.depth ≤ n ∧ Q (.bl true) H
def spSEl (n : Nat) : Sp := fun vs H Q _ => ∃ (a b : Addr) (xs ys : List V) (ds : List PyData), vs = [.ref a, .ref b] ∧ H a = some (.lst xs) ∧ H b = some (.lst ys) ∧ Tps H xs ds ∧ Tps H ys ds ∧ okNs ds ∧ PyData.depthAll ds ≤ n ∧ ds.length ≤ 1000 ∧ Q (.bl true) H
theorem ok_se {f : Addr} {fd : FuncData} (F : Fun K "_law_same" "_law_same" sSM f fd) (B : Bt mg) (n : Nat) (DS : n = 0 ∨ ∃ m, n = m + 1 ∧ Def P w K mg base "_law_same" (m + 1) ["actual", "expected"] (spSE m)) :
    FnOk P w K mg base CX0 (n + 1) f fd ["actual", "expected"] (spSE n) := by
  refine F.ok scSM (fun vs H Q E h => ?_) (fun cdv A outer s H vs Q E hr h => ?_)
  · obtain ⟨v, u, _, rfl, _⟩ := h
    rfl
  · obtain ⟨v, u, d, rfl, tv, tu, nd, dn, q⟩ := h
    cases tu with
    | bl b =>
      refine ⟨_, pss_cons (ps_if (pt_cmpR op_isN (pv 1) pe_non (nomark _)) pss_never pss_nil)
        (pss_cons (ps_if (pt_val (pe_callB call_isi (by rfl) B.isi (by decide +kernel) (pa_cons (pv 1) (pa_cons (pe_bltn (v := .ty "bool") (u := .type "bool") (by rfl) B.bool (by decide +kernel) rfl) pa_nil)))) (pss_one (ps_ret (pe_and (pe_callB call_isi (by rfl) B.isi (by decide +kernel) (pa_cons (pv 0) (pa_cons (pe_bltn (v := .ty "bool") (u := .type "bool") (by rfl) B.bool (by decide +kernel) rfl) pa_nil))) (pe_one (pe_cmpR (op_eqP hr.units) (pv 0) (pv 1) (nomark _)))))) pss_nil) pss_never), ?_⟩
      refine ⟨.bl b, rfl, rfl, _, rfl, no_if (fun z => nomatch z) ?_⟩
      refine ⟨.bl b, rfl, isi_yes (.base (.bl b)) (by decide +kernel) ?_⟩
      cases tv
      refine ⟨.bl b, rfl, isi_yes (.base (.bl b)) (by decide +kernel) ?_⟩
      refine ⟨.bl b, rfl, .bl b, rfl, _, _, .bl b, .bl b, Nat.zero_le _, ?_⟩
      have e : PyData.eqv (.bool b) (.bool b) = true := by cases b <;> simp [PyData.eqv]
      rw [e]
      exact q
    | non =>
      cases tv
      refine ⟨_, pss_cons (ps_if (pt_cmpR op_isN (pv 1) pe_non (nomark _)) (pss_one (ps_ret (pe_cmpR op_isN (pv 0) pe_non (nomark _)))) pss_nil) pss_never, ?_⟩
      refine ⟨.non, rfl, rfl, _, rfl, yes_if ⟨.non, rfl, rfl, ?_⟩⟩
      rw [decide_eq_true rfl]
      exact q
    | int i =>
      refine ⟨_, pss_cons (ps_if (pt_cmpR op_isN (pv 1) pe_non (nomark _)) pss_never pss_nil)
        (pss_cons (ps_if (pt_val (pe_callB call_isi (by rfl) B.isi (by decide +kernel) (pa_cons (pv 1) (pa_cons (pe_bltn (v := .ty "bool") (u := .type "bool") (by rfl) B.bool (by decide +kernel) rfl) pa_nil)))) pss_never pss_nil)
        (pss_cons (ps_if (pt_val (pe_callB call_isi (by rfl) B.isi (by decide +kernel) (pa_cons (pv 1) (pa_cons (pe_bltn (v := .ty "int") (u := .type "int") (by rfl) B.int (by decide +kernel) rfl) pa_nil))))
          (pss_one (ps_ret (pe_and (pe_callB call_isi (by rfl) B.isi (by decide +kernel) (pa_cons (pv 0) (pa_cons (pe_bltn (v := .ty "int") (u := .type "int") (by rfl) B.int (by decide +kernel) rfl) pa_nil))) (pe_and (pe_not (pe_callB call_isi (by rfl) B.isi (by decide +kernel) (pa_cons (pv 0) (pa_cons (pe_bltn (v := .ty "bool") (u := .type "bool") (by rfl) B.bool (by decide +kernel) rfl) pa_nil)))) (pe_one (pe_cmpR (op_eqP hr.units) (pv 0) (pv 1) (nomark _))))))) pss_nil)
        pss_never)), ?_⟩
      refine ⟨.int i, rfl, rfl, _, rfl, no_if (fun z => nomatch z) ?_⟩
      refine ⟨.int i, rfl, isi_no (.base (.int i)) (by decide +kernel) ?_⟩
      refine ⟨.int i, rfl, isi_yes (.base (.int i)) (by decide +kernel) ?_⟩
      cases tv
      refine ⟨.int i, rfl, isi_yes (.base (.int i)) (by decide +kernel) ?_⟩
      refine ⟨.int i, rfl, .int i, .ty "bool", _, _, false, rfl, .ty "bool", .base (.int i), kit_ty (by decide +kernel), false, rfl, true, rfl, iteT ?_⟩
      refine ⟨.int i, rfl, .int i, rfl, _, _, .int i, .int i, Nat.zero_le _, ?_⟩
      rw [eqv_int, decide_eq_true rfl]
      exact q
    | str z =>
      refine ⟨_, pss_cons (ps_if (pt_cmpR op_isN (pv 1) pe_non (nomark _)) pss_never pss_nil)
        (pss_cons (ps_if (pt_val (pe_callB call_isi (by rfl) B.isi (by decide +kernel) (pa_cons (pv 1) (pa_cons (pe_bltn (v := .ty "bool") (u := .type "bool") (by rfl) B.bool (by decide +kernel) rfl) pa_nil)))) pss_never pss_nil)
        (pss_cons (ps_if (pt_val (pe_callB call_isi (by rfl) B.isi (by decide +kernel) (pa_cons (pv 1) (pa_cons (pe_bltn (v := .ty "int") (u := .type "int") (by rfl) B.int (by decide +kernel) rfl) pa_nil)))) pss_never pss_nil)
        (pss_cons (ps_if (pt_val (pe_callB call_isi (by rfl) B.isi (by decide +kernel) (pa_cons (pv 1) (pa_cons (pe_bltn (v := .ty "str") (u := .type "str") (by rfl) B.str (by decide +kernel) rfl) pa_nil))))
          (pss_one (ps_ret (pe_and (pe_callB call_isi (by rfl) B.isi (by decide +kernel) (pa_cons (pv 0) (pa_cons (pe_bltn (v := .ty "str") (u := .type "str") (by rfl) B.str (by decide +kernel) rfl) pa_nil))) (pe_one (pe_cmpR (op_eqP hr.units) (pv 0) (pv 1) (nomark _)))))) pss_nil)
        pss_never))), ?_⟩
      refine ⟨.str z, rfl, rfl, _, rfl, no_if (fun z => nomatch z) ?_⟩
      refine ⟨.str z, rfl, isi_no (.base (.str z)) (by decide +kernel) ?_⟩
      refine ⟨.str z, rfl, isi_no (.base (.str z)) (by decide +kernel) ?_⟩
      refine ⟨.str z, rfl, isi_yes (.base (.str z)) (by decide +kernel) ?_⟩
      cases tv
      refine ⟨.str z, rfl, isi_yes (.base (.str z)) (by decide +kernel) ?_⟩
      refine ⟨.str z, rfl, .str z, rfl, _, _, .str z, .str z, Nat.zero_le _, ?_⟩
      rw [eqv_str, decide_eq_true rfl]
      exact q
    | @tup b ys es e2 r2 =>
      rcases DS with rfl | ⟨m, rfl, DS⟩
      · exact absurd dn (by
          show ¬ PyData.depthAll es + 1 ≤ 0
          omega)
      have ly := r2.length
      rw [okN] at nd
      have dm : PyData.depthAll es ≤ m := by
        have t : PyData.depthAll es + 1 ≤ m + 1 := dn
        omega
      refine ⟨_, pss_cons (ps_if (pt_cmpR op_isN (pv 1) pe_non (nomark _)) pss_never pss_nil)
        (pss_cons (ps_if (pt_val (pe_callB call_isi (by rfl) B.isi (by decide +kernel) (pa_cons (pv 1) (pa_cons (pe_bltn (v := .ty "bool") (u := .type "bool") (by rfl) B.bool (by decide +kernel) rfl) pa_nil)))) pss_never pss_nil)
        (pss_cons (ps_if (pt_val (pe_callB call_isi (by rfl) B.isi (by decide +kernel) (pa_cons (pv 1) (pa_cons (pe_bltn (v := .ty "int") (u := .type "int") (by rfl) B.int (by decide +kernel) rfl) pa_nil)))) pss_never pss_nil)
        (pss_cons (ps_if (pt_val (pe_callB call_isi (by rfl) B.isi (by decide +kernel) (pa_cons (pv 1) (pa_cons (pe_bltn (v := .ty "str") (u := .type "str") (by rfl) B.str (by decide +kernel) rfl) pa_nil)))) pss_never pss_nil)
        (pss_cons (ps_if (PW.pt (pw_and (pt_val (pe_callB call_isi (by rfl) B.isi (by decide +kernel) (pa_cons (pv 1) (pa_cons (pe_bltn (v := .ty "tuple") (u := .type "tuple") (by rfl) B.tup (by decide +kernel) rfl) pa_nil)))) (pw_and1 (pt_not (pt_val (pe_callB call_isi (by rfl) B.isi (by decide +kernel) (pa_cons (pv 0) (pa_cons (pe_bltn (v := .ty "tuple") (u := .type "tuple") (by rfl) B.tup (by decide +kernel) rfl) pa_nil)))))))) (pss_one (ps_ret pe_bl)) pss_nil)
        (pss_cons (ps_if (PW.pt (pw_and (pt_val (pe_callB call_isi (by rfl) B.isi (by decide +kernel) (pa_cons (pv 1) (pa_cons (pe_bltn (v := .ty "list") (u := .type "list") (by rfl) B.lst (by decide +kernel) rfl) pa_nil)))) (pw_and1 (pt_not (pt_val (pe_callB call_isi (by rfl) B.isi (by decide +kernel) (pa_cons (pv 0) (pa_cons (pe_bltn (v := .ty "list") (u := .type "list") (by rfl) B.lst (by decide +kernel) rfl) pa_nil)))))))) pss_never pss_nil)
        (pss_cons (ps_if (pt_cmpR op_ne (pe_callB call_len_seq (by rfl) B.len PySem.boot_len (pa_cons (pv 0) pa_nil)) (pe_callB call_len_seq (by rfl) B.len PySem.boot_len (pa_cons (pv 1) pa_nil)) (nomark _)) (pss_one (ps_ret pe_bl)) pss_nil)
        (pss_cons (ps_for PassesOwn.never rfl (pi_range1 (by rfl) B.rng (pa_cons (pe_callB call_len_seq (by rfl) B.len PySem.boot_len (pa_cons (pv 1) pa_nil)) pa_nil)) (pg_name (i := 2) scSM.nd rfl (.inl rfl))
            (pss_one (ps_if (pt_not (pt_val (pe_def DS hr (by rfl) (pa_cons (pe_ix ix_tup (pv 0) (pv 2) (fun _ _ => rfl)) (pa_cons (pe_ix ix_tup (pv 1) (pv 2) (fun _ _ => rfl)) pa_nil))))) (pss_one (ps_ret pe_bl)) pss_nil)))
        (pss_one (ps_ret pe_bl))))))))), ?_⟩
      refine ⟨.ref b, rfl, rfl, _, rfl, no_if (fun z => nomatch z) ?_⟩
      refine ⟨.ref b, rfl, isi_no (.base (.tup e2)) (by decide +kernel) ?_⟩
      refine ⟨.ref b, rfl, isi_no (.base (.tup e2)) (by decide +kernel) ?_⟩
      refine ⟨.ref b, rfl, isi_no (.base (.tup e2)) (by decide +kernel) ?_⟩
      refine ⟨.ref b, rfl, isi_yes (.base (.tup e2)) (by decide +kernel) ?_⟩
      cases tv with
      | @tup a xs _ e r =>
        have lx := r.length
        refine ⟨.ref a, rfl, .ref a, .ty "tuple", _, _, true, rfl, .ty "tuple", .base (.tup e), kit_ty (by decide +kernel), true, rfl, iteF ?_⟩
        refine ⟨.ref b, rfl, .ref b, .ty "list", _, _, false, rfl, .ty "list", .base (.tup e2), kit_ty (by decide +kernel), false, rfl, iteF (iteF ?_)⟩
        refine ⟨.ref a, rfl, a, xs, rfl, .inr (SqT.of e), .ref b, rfl, b, ys, rfl, .inr (SqT.of e2), rfl, _, rfl, ?_⟩
        rw [lx, ly, decide_eq_true rfl]
        refine iteF ?_
        refine ⟨.ref b, rfl, b, ys, rfl, .inr (SqT.of e2), _, rfl, by omega, by omega, ?_⟩
        rw [ly, Int.toNat_natCast]
        refine for_range (lo := 0) (n := es.length) (fun i σ H' => H' = H ∧ ∃ x2, σ = [some (.ref a), some (.ref b), x2]) ⟨rfl, none, rfl⟩ (fun i σ H' hi hP => ?_) (fun σ H' hP => ?_)
        · obtain ⟨rfl, x2, rfl⟩ := hP
          have g2 := List.getElem?_eq_getElem hi
          obtain ⟨x, ex, tx⟩ := r.at_ g2
          obtain ⟨y, ey, ty⟩ := r2.at_ g2
          have e0 : (0 : Int) + (i : Int) = ((i : Nat) : Int) := Int.zero_add _
          refine ⟨.ref a, rfl, .int (0 + i), rfl, a, xs, 0 + i, x, rfl, rfl, SqT.of e, at_of e0 ex, .ref b, rfl, .int (0 + i), rfl, b, ys, 0 + i, y, rfl, rfl, SqT.of e2, at_of e0 ey, ?_⟩
          exact ⟨x, y, _, rfl, tx, ty, okNs_mem nd.2 (List.mem_of_getElem? g2), Nat.le_trans (depth_at g2) dm, _, rfl, iteF ⟨rfl, _, rfl⟩⟩
        · obtain ⟨rfl, x2, rfl⟩ := hP
          exact q
theorem ok_sel {f : Addr} {fd : FuncData} (F : Fun K "_law_same" "_law_same" sSM f fd) (B : Bt mg) (m : Nat) (DS : Def P w K mg base "_law_same" (m + 1) ["actual", "expected"] (spSE m)) :
    FnOk P w K mg base CX0 (m + 2) f fd ["actual", "expected"] (spSEl m) := by
  refine F.ok scSM (fun vs H Q E h => ?_) (fun cdv A outer s H vs Q E hr h => ?_)
  · obtain ⟨_, _, _, _, _, rfl, _⟩ := h
    rfl
  · obtain ⟨a, b, xs, ys, es, rfl, e, e2, r, r2, nd, dm, le, q⟩ := h
    have ly := r2.length
    have lx := r.length
    refine ⟨_, pss_cons (ps_if (pt_cmpR op_isN (pv 1) pe_non (nomark _)) pss_never pss_nil)
        (pss_cons (ps_if (pt_val (pe_callB call_isi (by rfl) B.isi (by decide +kernel) (pa_cons (pv 1) (pa_cons (pe_bltn (v := .ty "bool") (u := .type "bool") (by rfl) B.bool (by decide +kernel) rfl) pa_nil)))) pss_never pss_nil)
        (pss_cons (ps_if (pt_val (pe_callB call_isi (by rfl) B.isi (by decide +kernel) (pa_cons (pv 1) (pa_cons (pe_bltn (v := .ty "int") (u := .type "int") (by rfl) B.int (by decide +kernel) rfl) pa_nil)))) pss_never pss_nil)
        (pss_cons (ps_if (pt_val (pe_callB call_isi (by rfl) B.isi (by decide +kernel) (pa_cons (pv 1) (pa_cons (pe_bltn (v := .ty "str") (u := .type "str") (by rfl) B.str (by decide +kernel) rfl) pa_nil)))) pss_never pss_nil)
        (pss_cons (ps_if (PW.pt (pw_and (pt_val (pe_callB call_isi (by rfl) B.isi (by decide +kernel) (pa_cons (pv 1) (pa_cons (pe_bltn (v := .ty "tuple") (u := .type "tuple") (by rfl) B.tup (by decide +kernel) rfl) pa_nil)))) (pw_and1 (pt_not (pt_val (pe_callB call_isi (by rfl) B.isi (by decide +kernel) (pa_cons (pv 0) (pa_cons (pe_bltn (v := .ty "tuple") (u := .type "tuple") (by rfl) B.tup (by decide +kernel) rfl) pa_nil)))))))) pss_never pss_nil)
        (pss_cons (ps_if (PW.pt (pw_and (pt_val (pe_callB call_isi (by rfl) B.isi (by decide +kernel) (pa_cons (pv 1) (pa_cons (pe_bltn (v := .ty "list") (u := .type "list") (by rfl) B.lst (by decide +kernel) rfl) pa_nil)))) (pw_and1 (pt_not (pt_val (pe_callB call_isi (by rfl) B.isi (by decide +kernel) (pa_cons (pv 0) (pa_cons (pe_bltn (v := .ty "list") (u := .type "list") (by rfl) B.lst (by decide +kernel) rfl) pa_nil)))))))) pss_never pss_nil)
        (pss_cons (ps_if (pt_cmpR op_ne (pe_callB call_len_seq (by rfl) B.len PySem.boot_len (pa_cons (pv 0) pa_nil)) (pe_callB call_len_seq (by rfl) B.len PySem.boot_len (pa_cons (pv 1) pa_nil)) (nomark _)) (pss_one (ps_ret pe_bl)) pss_nil)
        (pss_cons (ps_for PassesOwn.never rfl (pi_range1 (by rfl) B.rng (pa_cons (pe_callB call_len_seq (by rfl) B.len PySem.boot_len (pa_cons (pv 1) pa_nil)) pa_nil)) (pg_name (i := 2) scSM.nd rfl (.inl rfl))
            (pss_one (ps_if (pt_not (pt_val (pe_def DS hr (by rfl) (pa_cons (pe_ix ix_list (pv 0) (pv 2) (fun _ _ => rfl)) (pa_cons (pe_ix ix_list (pv 1) (pv 2) (fun _ _ => rfl)) pa_nil))))) (pss_one (ps_ret pe_bl)) pss_nil)))
        (pss_one (ps_ret pe_bl))))))))), ?_⟩
    refine ⟨.ref b, rfl, rfl, _, rfl, no_if (fun z => nomatch z) ?_⟩
    refine ⟨.ref b, rfl, isi_no (.base (.lst e2)) (by decide +kernel) ?_⟩
    refine ⟨.ref b, rfl, isi_no (.base (.lst e2)) (by decide +kernel) ?_⟩
    refine ⟨.ref b, rfl, isi_no (.base (.lst e2)) (by decide +kernel) ?_⟩
    refine ⟨.ref b, rfl, .ref b, .ty "tuple", _, _, false, rfl, .ty "tuple", .base (.lst e2), kit_ty (by decide +kernel), false, rfl, iteF (iteF ?_)⟩
    refine ⟨.ref b, rfl, .ref b, .ty "list", _, _, true, rfl, .ty "list", .base (.lst e2), kit_ty (by decide +kernel), true, rfl, iteT ?_⟩
    refine ⟨.ref a, rfl, .ref a, .ty "list", _, _, true, rfl, .ty "list", .base (.lst e), kit_ty (by decide +kernel), true, rfl, iteF ?_⟩
    refine ⟨.ref a, rfl, a, xs, rfl, .inl (SqL.of e), .ref b, rfl, b, ys, rfl, .inl (SqL.of e2), rfl, _, rfl, ?_⟩
    rw [lx, ly, decide_eq_true rfl]
    refine iteF ?_
    refine ⟨.ref b, rfl, b, ys, rfl, .inl (SqL.of e2), _, rfl, by omega, by omega, ?_⟩
    rw [ly, Int.toNat_natCast]
    refine for_range (lo := 0) (n := es.length) (fun i σ H' => H' = H ∧ ∃ x2, σ = [some (.ref a), some (.ref b), x2]) ⟨rfl, none, rfl⟩ (fun i σ H' hi hP => ?_) (fun σ H' hP => ?_)
    · obtain ⟨rfl, x2, rfl⟩ := hP
      have g2 := List.getElem?_eq_getElem hi
      obtain ⟨x, ex, tx⟩ := r.at_ g2
      obtain ⟨y, ey, ty⟩ := r2.at_ g2
      have e0 : (0 : Int) + (i : Int) = ((i : Nat) : Int) := Int.zero_add _
      refine ⟨.ref a, rfl, .int (0 + i), rfl, a, xs, 0 + i, x, rfl, rfl, SqL.of e, at_of e0 ex, .ref b, rfl, .int (0 + i), rfl, b, ys, 0 + i, y, rfl, rfl, SqL.of e2, at_of e0 ey, ?_⟩
      exact ⟨x, y, _, rfl, tx, ty, okNs_mem nd (List.mem_of_getElem? g2), Nat.le_trans (depth_at g2) dm, _, rfl, iteF ⟨rfl, _, rfl⟩⟩
    · obtain ⟨rfl, x2, rfl⟩ := hP
      exact q
/-- _law_same of the same data -/
def spSmE : Sp := fun vs H Q E => spSE 8 vs H Q E ∨ spSEl 8 vs H Q E
abbrev dSmE (P : Program) (w : World) (K : PySem.W.Frag) (mg : Str → Option Value) (base : Heap) : Prop := Def P w K mg base "_law_same" 10 ["actual", "expected"] spSmE
end
/-- the problems are tuples of texts -/
def txtT (d : PyData) : Prop := ∃ zs : List Str, d = .tuple (zs.map PyData.str) ∧ zs.length ≤ 3
theorem txt_ok (zs : List Str) (h : zs.length ≤ 1000) : okN (.tuple (zs.map PyData.str)) ∧ (PyData.tuple (zs.map PyData.str)).depth ≤ 1 := by
  have a : okNs (zs.map PyData.str) := by
    induction zs with
    | nil => simp [okNs]
    | cons z r ih => exact (by rw [List.map_cons, okNs]; exact ⟨by simp [okN], ih (by rw [List.length_cons] at h; omega)⟩)
  have b : PyData.depthAll (zs.map PyData.str) = 0 := by
    clear a
    induction zs with
    | nil => rfl
    | cons z r ih =>
      rw [List.map_cons, PyData.depthAll, ih (by rw [List.length_cons] at h; omega)]
      rfl
  refine ⟨by rw [okN]; exact ⟨by rw [List.length_map]; exact h, a⟩, ?_⟩
  show PyData.depthAll (zs.map PyData.str) + 1 ≤ 1
  rw [b]
  exact Nat.le_refl _
theorem loose_txt {bs : List Str} {a : Bool} {d : PyData} : ∀ {ts : List T}, loose bs a ts = some d → txtT d
  | [], h => nomatch h
  | .any :: r, h => by
    cases a with
    | true => exact loose_txt (ts := r) h
    | false =>
      injection h with h
      exact ⟨["any"], h.symm, (by decide)⟩
  | .val _ :: r, h => loose_txt (ts := r) h
  | .var y :: r, h => by
    have h : (if y ∈ bs then loose bs a r else some (.tuple [.str "unbound", .str y])) = some d := h
    by_cases c : y ∈ bs
    · rw [if_pos c] at h
      exact loose_txt h
    · rw [if_neg c] at h
      injection h with h
      exact ⟨["unbound", y], h.symm, (by show 2 ≤ 3; decide)⟩
theorem relP_txt {wd : Str → Option Nat} {r : Str} {n : Nat} {d : PyData} (h : relP wd r n = some d) : txtT d := by
  unfold relP at h
  cases c : wd r with
  | none =>
    rw [c] at h
    injection h with h
    exact ⟨["no relation", r], h.symm, (by show 2 ≤ 3; decide)⟩
  | some m =>
    rw [c] at h
    have h : (if n = m then none else some (PyData.tuple [.str "width", .str r])) = some d := h
    by_cases c2 : n = m
    · rw [if_pos c2] at h
      cases h
    · rw [if_neg c2] at h
      injection h with h
      exact ⟨["width", r], h.symm, (by show 2 ≤ 3; decide)⟩
theorem litP_txt {wd : Str → Option Nat} {bs : List Str} {l : L} {d : PyData} (h : litP wd bs l = some d) : txtT d := by
  cases l with
  | fact r ts => exact relP_txt h
  | cmp o a b => exact loose_txt h
  | isl x o a b => exact loose_txt h
  | notl r ts =>
    have h : (match relP wd r ts.length with | some d => some d | none => loose bs true ts) = some d := h
    cases c : relP wd r ts.length with
    | some d' =>
      rw [c] at h
      injection h with h
      rw [← h]
      exact relP_txt c
    | none =>
      rw [c] at h
      exact loose_txt h
  | cnt x r ts =>
    have h : (match relP wd r ts.length with | some d => some d | none => if T.var x ∈ ts then some (.tuple [.str "own total", .str x]) else none) = some d := h
    cases c : relP wd r ts.length with
    | some d' =>
      rw [c] at h
      injection h with h
      rw [← h]
      exact relP_txt c
    | none =>
      rw [c] at h
      have h : (if T.var x ∈ ts then some (PyData.tuple [.str "own total", .str x]) else none) = some d := h
      by_cases c2 : T.var x ∈ ts
      · rw [if_pos c2] at h
        injection h with h
        exact ⟨["own total", x], h.symm, (by show 2 ≤ 3; decide)⟩
      · rw [if_neg c2] at h
        cases h
theorem bodyP_txt {wd : Str → Option Nat} {d : PyData} : ∀ {ls : List L} {bs : List Str}, (bodyP wd bs ls).1 = some d → txtT d
  | [], bs, h => nomatch h
  | l :: r, bs, h => by
    cases c : litP wd bs l with
    | some d' =>
      have e : bodyP wd bs (l :: r) = (some d', bs) := by
        show (match litP wd bs l with | some d => (some d, bs) | none => _) = _
        rw [c]
      rw [e] at h
      injection h with h
      rw [← h]
      exact litP_txt c
    | none =>
      have e : bodyP wd bs (l :: r) = bodyP wd (addU bs (bindsL l)) r := by
        show (match litP wd bs l with | some d => (some d, bs) | none => _) = _
        rw [c]
      rw [e] at h
      exact bodyP_txt h
theorem bodyP_len {wd : Str → Option Nat} : ∀ {ls : List L} {bs : List Str}, (∀ l ∈ ls, LitN l) → (bodyP wd bs ls).2.length ≤ bs.length + 5 * ls.length
  | [], bs, _ => Nat.le_refl _
  | l :: r, bs, h => by
    cases c : litP wd bs l with
    | some d' =>
      have e : bodyP wd bs (l :: r) = (some d', bs) := by
        show (match litP wd bs l with | some d => (some d, bs) | none => _) = _
        rw [c]
      rw [e]
      exact Nat.le_add_right _ _
    | none =>
      have e : bodyP wd bs (l :: r) = bodyP wd (addU bs (bindsL l)) r := by
        show (match litP wd bs l with | some d => (some d, bs) | none => _) = _
        rw [c]
      rw [e]
      have h1 := bodyP_len (wd := wd) (ls := r) (bs := addU bs (bindsL l)) fun l' m => h l' (List.mem_cons_of_mem _ m)
      have h2 := addU_len (bindsL l) bs
      have h3 := (binds_len (h l List.mem_cons_self)).1
      rw [List.length_cons]
      omega
end KU

namespace KU
open PySem PySem.Spec PyProof.Rows PySem.HandSPX L2 KA
section
variable {X : Cx} {k : Nat} {m : Str} {C : Addr} {ps : List Str} {sp : Sp} {o : Expr} {ta : TE} {pos apos : Pos}
end
theorem depthAll_le {n : Nat} : ∀ {ds : List PyData}, (∀ d ∈ ds, d.depth ≤ n) → PyData.depthAll ds ≤ n
  | [], _ => Nat.zero_le _
  | d :: ds, h => by
    have h1 := h d List.mem_cons_self
    have h2 := depthAll_le (ds := ds) fun x hx => h x (List.mem_cons_of_mem _ hx)
    show max d.depth (PyData.depthAll ds) ≤ n
    omega

section
variable {P : Program} {w : World} {K : PySem.W.Frag} {mg : Str → Option Value} {base : Heap} {C : Addr}
abbrev mAll (P : Program) (w : World) (K : PySem.W.Frag) (mg : Str → Option Value) (base : Heap) (C : Addr) : Prop := MDef P w K mg base C "all_items" 1 ["self"] (spAll C)
end
theorem mem_puts : ∀ {js l : List It1}, SortedI l → OkL l → OkL js → (js.map keyI).Nodup → ∀ x, x ∈ puts l js ↔ x ∈ js ∨ (x ∈ l ∧ ∀ j ∈ js, keyI x ≠ keyI j)
  | [], l, _, _, _, _, x => ⟨fun h => .inr ⟨h, fun j hj => by cases hj⟩, fun h => h.elim (fun z => by cases z) fun z => z.1⟩
  | j :: js, l, s, o, oj, n, x => by
    have o1 : okI j := oj j List.mem_cons_self
    have n1 : keyI j ∉ js.map keyI ∧ (js.map keyI).Nodup := List.nodup_cons.mp n
    have ih := mem_puts (js := js) (l := putI l j) (sorted_putI s o o1) (ok_putI o o1) (fun i hi => oj i (List.mem_cons_of_mem _ hi)) n1.2 x
    have e : puts l (j :: js) = puts (putI l j) js := rfl
    rw [e, ih, mem_putI o o1, List.mem_cons]
    constructor
    · rintro (h | ⟨rfl | ⟨h1, h2⟩, h3⟩)
      · exact .inl (.inr h)
      · exact .inl (.inl rfl)
      · refine .inr ⟨h1, fun y hy => ?_⟩
        rcases List.mem_cons.mp hy with rfl | hy
        · exact h2
        · exact h3 y hy
    · rintro ((rfl | h) | ⟨h1, h2⟩)
      · by_cases c : ∃ y ∈ js, keyI x = keyI y
        · obtain ⟨y, hy, ey⟩ := c
          exact absurd (List.mem_map.mpr ⟨y, hy, ey.symm⟩) n1.1
        · exact .inr ⟨.inl rfl, fun y hy z => c ⟨y, hy, z⟩⟩
      · exact .inl h
      · exact .inr ⟨.inr ⟨h1, h2 j List.mem_cons_self⟩, fun y hy => h2 y (List.mem_cons_of_mem _ hy)⟩
def StL (C : Addr) (st : Addr) (s : Addr) (its : List It1) (H : Hp) : Prop := ∃ F N, StAt C H s its F N ∧ N ≤ 60 ∧ s ≠ st ∧ ¬ F st
theorem StL.same {C st s : Addr} {its : List It1} {H H' : Hp} (t : StL C st s its H) (k : Same H H') : StL C st s its H' :=
  let ⟨F, N, S, n, a, b⟩ := t
  ⟨F, N, S.same k, n, a, b⟩
theorem StL.dr {C st L s : Addr} {its : List It1} {H H' : Hp} (t : StL C st s its H) (g : Good st L H) (d : Dr st L H H') : StL C st s its H' :=
  let ⟨F, N, S, n, a, b⟩ := t
  ⟨F, N, S.mono (d.tk g) (fun o h => d.at_ a h) (fun x o hx h => d.at_ (fun z => b (by rw [← z]; exact hx)) h) (Nat.le_refl _), n, a, b⟩
theorem kept_same {x dx C : Addr} {H H' : Hp} (nx : H x = none) (nd : H dx = none) (k : Kept x (upd (upd H dx (.own x)) x (.ins C dx [])) H') : Same H H' := fun a o h => by
  have n1 := ne_of_none h nx
  refine k a o ?_ n1
  rw [upd_ne n1, upd_ne (ne_of_none h nd)]
  exact h
theorem kept_new {x dx C a : Addr} {H : Hp} (h : (upd (upd H dx (.own x)) x (.ins C dx [])) a = none) : H a = none := by
  by_cases c : a = x
  · rw [c, upd_same] at h
    cases h
  · rw [upd_ne c] at h
    by_cases c2 : a = dx
    · rw [c2, upd_same] at h
      cases h
    · rw [upd_ne c2] at h
      exact h
theorem len0 : ([] : List V).length ≤ sizeLine := Nat.zero_le _
theorem len4 {a b c d : V} : [a, b, c, d].length ≤ sizeLine := by
  rw [sizeLine_eq]
  exact (by decide : 4 ≤ 16777216)
theorem tupN {H : Hp} {p : Addr} {vs : List V} {ds : List PyData} (n : H p = none) (t : Tps H vs ds) : Tp (upd H p (.tup vs)) (.ref p) (.tuple ds) := .tup upd_same (t.mono (Tk.of (same_new n)))
theorem nice_1 {d : PyData} (h : nice d) : nice (.tuple [d]) := nice_tup (niceAll_cons h niceAll_nil) (by show 1 ≤ 1000; decide)
theorem putI_len (l : List It1) (i : It1) : (putI l i).length ≤ l.length + 1 := by
  unfold putI
  rw [List.length_append, List.length_append]
  have h : ∀ l : List It1, (l.filter fun x => decide (kc (keyI x) (keyI i) < 0)).length + (l.filter fun x => decide (kc (keyI x) (keyI i) > 0)).length ≤ l.length := fun l => by
    induction l with
    | nil => exact Nat.le_refl _
    | cons x r ih =>
      rw [List.filter_cons, List.filter_cons]
      by_cases a : kc (keyI x) (keyI i) < 0
      · rw [if_pos (decide_eq_true a), if_neg (by rw [decide_eq_false (by omega)]; exact Bool.false_ne_true)]
        rw [List.length_cons, List.length_cons]
        omega
      · rw [if_neg (by rw [decide_eq_false a]; exact Bool.false_ne_true)]
        by_cases b : kc (keyI x) (keyI i) > 0
        · rw [if_pos (decide_eq_true b), List.length_cons, List.length_cons]
          omega
        · rw [if_neg (by rw [decide_eq_false b]; exact Bool.false_ne_true), List.length_cons]
          omega
  have h := h l
  show _ + 1 + _ ≤ _
  omega
theorem puts_len : ∀ (js l : List It1), (puts l js).length ≤ l.length + js.length
  | [], l => Nat.le_refl _
  | j :: js, l => by
    have h := puts_len js (putI l j)
    have h2 := putI_len l j
    show (puts (putI l j) js).length ≤ l.length + (js.length + 1)
    omega
mutual
theorem okN_of : ∀ {d : PyData}, nice d → okN d
  | .int _, _ => by simp [okN]
  | .str _, _ => by simp [okN]
  | .tuple ds, h => by
    rw [nice] at h
    rw [okN]
    exact ⟨h.1, okNs_nice h.2⟩
  | .none, h => by simp [nice] at h
  | .bool _, h => by simp [nice] at h
  | .list _, h => by simp [nice] at h
  | .dict _, h => by simp [nice] at h
theorem okNs_nice : ∀ {ds : List PyData}, niceAll ds → okNs ds
  | [], _ => by simp [okNs]
  | d :: r, h => by
    rw [niceAll] at h
    rw [okNs]
    exact ⟨okN_of h.1, okNs_nice h.2⟩
end
theorem okNs_of {ds : List PyData} (h : ∀ d ∈ ds, nice d) : okNs ds := okNs_nice (niceAll_of h)

end KU

namespace L2
open PySem PySem.Spec PyProof.Rows
/-- a suite that may begin where a thing is still locked -/
theorem pss_thaw {X : Cx} {body : List Stmt} {t : TS} (h : PSs X body t) : PSs X body (fun D σ H => t D σ H ∨ ∃ d od u, H d = some (.frz od u) ∧ (∀ o' u', X.H_0 d ≠ some (.frz o' u')) ∧ t D σ (upd H d u)) := by
  refine ⟨fun pins s σ H D I hw => ?_⟩
  rcases hw with hw | ⟨d, od, u, hd, hn, hw⟩
  · exact h.run pins s σ H D I hw
  · exact h.run pins s σ _ D (I.unlock hd hn) hw
end L2
namespace KU
open PySem PySem.Spec PyProof.Rows PySem.HandSPX L2 KA
/-- each fact is of a relation of the base and has as many values as columns -/
def fitP (its : List It1) : Prop := ∀ nm ds, It1.fact nm ds ∈ its → ∃ n : Int, It1.rel nm n ∈ its ∧ n = (ds.length : Nat)
section
variable {P : Program} {w : World} {K : PySem.W.Frag} {mg : Str → Option Value} {base : Heap} {C C2 fI : Addr}
abbrev sFF : Stmt := topS 32
abbrev nFF : List Str := ["state", "relation", "rows", "width", "row"]
theorem scFF : FnScope nFF ["state"] (defScope sFF) := ⟨rfl, rfl, rfl, by decide +kernel, rfl, by decide +kernel, by decide +kernel⟩
def spFF (C : Addr) : Sp := fun vs H Q _ => ∃ (s : Addr) (its : List It1) (F : Addr → Prop) (N : Nat), vs = [.ref s] ∧ StAt C H s its F N ∧ N ≤ 400 ∧ ∀ b H', Same H H' → (b = true ↔ fitP its) → Q (.bl b) H'
theorem ok_ff {f0 : Addr} {fd : FuncData} (F0 : Fun K "facts_fit" "facts_fit" sFF f0 fd) (B : Bt mg) (Bx : Bt2 mg) (T : Cs K mg C) : FnOk P w K mg base CX0 1 f0 fd ["state"] (spFF C) := by
  refine F0.ok scFF (fun vs H Q E h => ?_) (fun cdv A outer s0 H vs Q E hr h => ?_)
  · obtain ⟨_, _, _, _, rfl, _⟩ := h
    rfl
  · obtain ⟨s, its, F, N, rfl, S, hN, q⟩ := h
    have hu := hu_of hr
    refine ⟨_, (pss_cons (ps_lock (ps_for PassesOwn.never rfl (pi_items (pe_fld (pv 0) rfl)) (pg_tup rfl (pgs_cons (pg_name (i := 1) scFF.nd rfl (Or.inl rfl)) (pgs_cons (pg_name (i := 2) scFF.nd rfl (Or.inl rfl)) pgs_nil)))
        (pss_cons (ps_set (i := 3) scFF.nd rfl (.inr rfl) (pe_dget1 hu (pe_fld (pv 0) rfl) (pv 1) ⟨rfl, rfl, rfl, rfl⟩))
        (pss_one (ps_if (pt_val (pe_callB (cr_any rfl) (by rfl) Bx.any (by decide +kernel) (pa_cons (pe_lc (own := [("row", 4)]) (g := (gName 4)) (tt := tYes) (te := (tOp rNe (tCB (rLenK K) (tCons (tVar 4) tNil)) (tVar 3))) rfl scFF.nd (pi_list (pv 2)) (blkOk_by (own := [("row", 4)]) (N := nFF) (sc := defScope sFF) (by decide +kernel)) (fun _ _ _ _ _ => (pg_name (i := 4) scFF.nd rfl (Or.inl rfl))) (fun _ _ _ _ _ => pts_nil) (fun _ _ _ _ _ => (pe_cmpR op_ne (pe_callB call_lenK (by rfl) B.len PySem.boot_len (pa_cons (pv 4) pa_nil)) (pv 3) (nomark _)))) pa_nil)))
          (pss_one (ps_ret pe_bl))
          pss_nil)))))
      (pss_one (ps_ret pe_bl))), ?_⟩
    obtain ⟨dx, r, f, u, d, kr, kf, ku, kd, b⟩ := id S
    obtain ⟨r1, r2, r3⟩ := id b.rel
    obtain ⟨f1, f2, f3, f4, f5⟩ := id b.fac
    refine ⟨f, .dK kf, b.hf, trivial, fun od => ?_⟩
    have hfs : s ≠ f := b.ns b.ff
    have hrf : r ≠ f := b.rf
    have L : ∀ a o, a ≠ f → H a = some o → (upd H f (.frz od (.dK kf))) a = some o := fun a o n h => by rw [upd_ne n]; exact h
    refine ⟨.ref s, rfl, s, C, dx, _, _, rfl, L _ _ hfs b.hs, T.cl, T.nF, fl_fac _ _ _ _, f, od, kf, rfl, upd_same, ?_⟩
    have thaw : ∀ {H' : Hp}, H' f = some (.frz od (.dK kf)) → (∀ a o, a ≠ f → H a = some o → H' a = some o) → Same H (upd H' f (.dK kf)) := fun h1 h2 a o h => by
      by_cases z : a = f
      · rw [z, b.hf] at h
        rw [z, upd_same, ← h]
      · rw [upd_ne z]
        exact h2 a o z h
    refine for_it walk_items (fun i σ H' => (∃ y1 y2 y3, σ = [some (.ref s), y1, y2, y3, none]) ∧ H' f = some (.frz od (.dK kf)) ∧ (∀ a o, a ≠ f → H a = some o → H' a = some o) ∧ ∀ e ∈ kf.take i, ∀ nm ds, e.1 = (Sum.inr nm : Key) → It1.fact nm ds ∈ its → ∃ n : Int, It1.rel nm n ∈ its ∧ n = (ds.length : Nat)) ⟨⟨_, _, _, rfl⟩, upd_same, L, fun e he => by cases he⟩ (fun i σ H' _ hP => hP.2.1) (fun i y σ H' H3 hi hP hY => ?_) (fun σ H' hP => ?_)
    · obtain ⟨⟨y1, y2, y3, rfl⟩, h1, h2, h3⟩ := hP
      obtain ⟨t, xa, ya, rfl, nt, rfl, hx, hy⟩ := hY
      have ek : kf[i]? = some kf[i] := List.getElem?_eq_getElem hi
      have hx : (kf[i]?.map fun kv => kV kv.1) = some xa := hx
      have hy : (kf[i]?.map Prod.snd) = some ya := hy
      rw [ek] at hx hy
      have hx : kV kf[i].1 = xa := Option.some.inj hx
      have hy : kf[i].2 = ya := Option.some.inj hy
      subst hx hy
      obtain ⟨nm, l, rs, g1, g2, g3, ⟨⟨xs, el, tr⟩, _, _, lrs⟩, hrs⟩ := f3 kf[i].1 kf[i].2 (List.getElem_mem hi)
      have nlf : l ≠ f := lst_ne el b.hf
      have ntf : t ≠ f := fun z => by rw [z, h1] at nt; cases nt
      generalize hG : upd H' t _ = H4
      obtain ⟨s4, e4⟩ := gen_up hG nt
      clear hG
      have h14 := s4 _ _ h1
      have h24 : ∀ a o, a ≠ f → H a = some o → H4 a = some o := fun a o n h => s4 _ _ (h2 a o n h)
      have el4 := h24 _ _ nlf el
      have tk : Tk H H4 := fun a xs h => h24 a _ (fun z => by rw [z, b.hf] at h; cases h) h
      have tr4 := tr.mono tk
      refine ⟨t, _, rfl, SqT.of e4, rfl, _, _, rfl, _, _, rfl, rfl, ?_⟩
      rw [g1, g2]
      have er4 := h24 _ _ hrf b.hr
      refine ⟨.ref s, rfl, s, C, dx, _, _, rfl, h24 _ _ hfs b.hs, T.cl, T.nR, fl_rel _ _ _ _, r, rfl, .inl ⟨_, .of er4⟩, .str nm, rfl, valV kr (Sum.inr nm : Key), DGet.k (k := Sum.inr nm) er4, ?_⟩
      have lxs : xs.length = rs.length := by rw [tr.length, List.length_map]
      -- the rows
      have uniq : ∀ n m, It1.rel nm n ∈ its → It1.rel nm m ∈ its → n = m := fun n m a1 a2 => by
        have := sorted_key b.srt b.ok a1 a2 rfl
        injection this
      refine ⟨.ref l, rfl, l, rfl, ⟨_, SqL.of el4⟩, fun D2 nD2 => ?_⟩
      refine lc_list (K := K) (a := l) (xs := xs) (fun j H' => Same H4 H' ∧ ∃ bs : List Bool, H' D2 = some (.lst (bs.map V.bl)) ∧ bs.length = j ∧ (bs.any id = false ↔ ∀ ds ∈ rs.take j, ∃ n : Int, It1.rel nm n ∈ its ∧ n = (ds.length : Nat))) ⟨same_new nD2, [], upd_same, rfl, ⟨(fun _ ds z => by cases z), fun _ => rfl⟩⟩ (fun j H' _ hP => SqL.of (hP.1 _ _ el4)) (fun j y Hj hj hP => ?_) (fun H7 hP => ?_)
      · obtain ⟨sm, bs, eD, lb, hb⟩ := hP
        have ljj := (List.getElem?_eq_some_iff.mp hj).1
        have erj : rs[j]? = some (rs[j]'(by omega)) := List.getElem?_eq_getElem (by omega)
        generalize rs[j]'(by omega) = ds at erj
        obtain ⟨d', ed', td⟩ := tr4.get hj
        rw [List.getElem?_map, erj] at ed'
        cases ed'
        obtain ⟨p, zs, rfl, ep, tz⟩ : ∃ p zs, y = .ref p ∧ H4 p = some (.tup zs) ∧ Tps H4 zs ds := by
          cases td with
          | tup a1 a2 => exact ⟨_, _, rfl, a1, a2⟩
        have hsc : scal (V.int ((zs.length : Nat) : Int)) ((valV kr (Sum.inr nm : Key)).getD .non) = true := by
          cases c : valV kr (Sum.inr nm : Key) with
          | none => rfl
          | some v =>
            obtain ⟨nm', n, a1, a2, a3⟩ := (r3 _ _).mp ((mem_val r1).mp c)
            subst a2
            rfl
        refine ⟨rfl, ?_⟩
        refine iteT (B := True) ?_
        refine ⟨.ref p, rfl, p, zs, rfl, .inr (SqT.of (sm _ _ ep)), _, rfl, hsc, ?_⟩
        refine ⟨_, eD, small7 (by rw [List.length_map]; omega), same_put sm nD2, bs ++ [_], by rw [upd_same, List.map_append]; rfl, by rw [List.length_append, lb]; rfl, ?_⟩
        have tl := tz.length
        rw [List.any_append, Bool.or_eq_false_iff, hb, take_next erj]
        have key : ((!decide (V.int ((zs.length : Nat) : Int) = (valV kr (Sum.inr nm : Key)).getD .non)) = false) ↔ ∃ n : Int, It1.rel nm n ∈ its ∧ n = (ds.length : Nat) := by
          cases c : valV kr (Sum.inr nm : Key) with
          | none =>
            constructor
            · intro z
              rw [decide_eq_false (fun y => by cases y)] at z
              cases z
            · rintro ⟨n, hn, _⟩
              exact absurd ((r3 _ _).mpr ⟨nm, n, rfl, rfl, hn⟩) ((val_none r1).mp c _)
          | some v =>
            obtain ⟨nm', n, a1, a2, a3⟩ := (r3 _ _).mp ((mem_val r1).mp c)
            have en := inr_iff.mp a1
            subst en
            subst a2
            show ((!decide (V.int ((zs.length : Nat) : Int) = .int n)) = false) ↔ _
            constructor
            · intro z
              by_cases c2 : V.int ((zs.length : Nat) : Int) = .int n
              · injection c2 with c2
                exact ⟨n, a3, by omega⟩
              · rw [decide_eq_false c2] at z
                cases z
            · rintro ⟨m, hm, em⟩
              have := uniq _ _ a3 hm
              rw [decide_eq_true (by rw [this, em, tl])]
              rfl
        constructor
        · rintro ⟨h1, h2⟩ e he
          rcases List.mem_append.mp he with he | he
          · exact h1 e he
          · rw [List.mem_singleton.mp he]
            refine key.mp ?_
            rw [List.any_cons, List.any_nil, Bool.or_false] at h2
            exact h2
        · intro h
          refine ⟨fun e he => h e (List.mem_append_left _ he), ?_⟩
          rw [List.any_cons, List.any_nil, Bool.or_false]
          exact key.mpr (h ds (List.mem_append_right _ (List.mem_singleton.mpr rfl)))
      · obtain ⟨sm, bs, eD, lb, hb⟩ := hP
        have lxs2 : xs.length = rs.length := lxs
        rw [lxs2, List.take_length] at hb
        refine ⟨D2, _, rfl, SqL.of eD, _, rfl, ?_⟩
        have h17 := sm _ _ h14
        have h27 : ∀ a o, a ≠ f → H a = some o → H7 a = some o := fun a o n h => sm _ _ (h24 a o n h)
        cases c : bs.any id with
        | true =>
          refine iteT' rfl ⟨h17, q false _ (thaw h17 h27) ⟨(fun z => by cases z), fun z => ?_⟩⟩
          have := hb.mpr fun ds hd => z nm ds ((hrs ds).mp hd)
          rw [c] at this
          cases this
        | false =>
          refine iteF' rfl ?_
          refine ⟨⟨_, _, _, rfl⟩, h17, h27, fun e he nm' ds a1 a2 => ?_⟩
          rw [take_next ek] at he
          rcases List.mem_append.mp he with he | he
          · exact h3 e he nm' ds a1 a2
          · rw [List.mem_singleton.mp he, g1] at a1
            have en := inr_iff.mp a1
            subst en
            exact hb.mp c ds ((hrs ds).mpr a2)
    · obtain ⟨⟨y1, y2, y3, rfl⟩, h1, h2, h3⟩ := hP
      refine ⟨h1, ?_⟩
      refine q true _ (thaw h1 h2) ⟨fun _ nm ds hm => ?_, fun _ => rfl⟩
      obtain ⟨v, hv⟩ := (f4 nm).mpr (.inr ⟨ds, hm⟩)
      exact h3 _ (by rw [List.take_length]; exact hv) nm ds rfl hm
abbrev dFF (P : Program) (w : World) (K : PySem.W.Frag) (mg : Str → Option Value) (base : Heap) (C : Addr) : Prop := Def P w K mg base "facts_fit" 1 ["state"] (spFF C)
end
end KU

namespace KU
open PySem PySem.Spec PyProof.Rows PySem.HandSPX L2 KA
theorem str_tri2 (x y : Str) (n : x ≠ y) : x.cps.toList < y.cps.toList ∨ y.cps.toList < x.cps.toList := by
  cases c : ltCps x.cps.toList y.cps.toList with
  | true =>
    rw [ltCps_eq] at c
    exact .inl (of_decide_eq_true c)
  | false => exact .inr (str_lt c n)
theorem least_ex (R0 : List Ru) : ∀ R : List Ru, (∃ r ∈ R, Grow R0 r) → ∃ r ∈ R, Grow R0 r ∧ ∀ r' ∈ R, Grow R0 r' → r'.nm = r.nm ∨ r.nm.cps.toList < r'.nm.cps.toList
  | [], ⟨_, h, _⟩ => by cases h
  | a :: R, h => by
    by_cases c : ∃ r ∈ R, Grow R0 r
    · obtain ⟨r, hr, g, m⟩ := least_ex R0 R c
      by_cases ga : Grow R0 a
      · by_cases e : a.nm = r.nm
        · refine ⟨r, List.mem_cons_of_mem _ hr, g, fun r' h' g' => ?_⟩
          rcases List.mem_cons.mp h' with rfl | h'
          · exact .inl e
          · exact m r' h' g'
        · rcases str_tri2 _ _ e with l | l
          · refine ⟨a, List.mem_cons_self, ga, fun r' h' g' => ?_⟩
            rcases List.mem_cons.mp h' with rfl | h'
            · exact .inl rfl
            · rcases m r' h' g' with z | z
              · exact .inr (by rw [z]; exact l)
              · exact .inr (List.lt_trans l z)
          · refine ⟨r, List.mem_cons_of_mem _ hr, g, fun r' h' g' => ?_⟩
            rcases List.mem_cons.mp h' with rfl | h'
            · exact .inr l
            · exact m r' h' g'
      · refine ⟨r, List.mem_cons_of_mem _ hr, g, fun r' h' g' => ?_⟩
        rcases List.mem_cons.mp h' with rfl | h'
        · exact absurd g' ga
        · exact m r' h' g'
    · obtain ⟨r, hr, g⟩ := h
      rcases List.mem_cons.mp hr with rfl | hr
      · refine ⟨r, List.mem_cons_self, g, fun r' h' g' => ?_⟩
        rcases List.mem_cons.mp h' with rfl | h'
        · exact .inl rfl
        · exact absurd ⟨r', h', g'⟩ c
      · exact absurd ⟨r, hr, g⟩ c
theorem edge_ex (R : List Ru) : ∃ o, EdgeP R o := by
  by_cases c : Ring R
  · exact ⟨_, .inl ⟨c, rfl⟩⟩
  · by_cases g : ∃ r ∈ R, Grow R r
    · obtain ⟨r, hr, g, m⟩ := least_ex R R g
      exact ⟨_, .inr ⟨c, .inl ⟨r, hr, ⟨g, m⟩, rfl⟩⟩⟩
    · exact ⟨_, .inr ⟨c, .inr ⟨fun r hr gr => g ⟨r, hr, gr⟩, rfl⟩⟩⟩
theorem edge_none {R : List Ru} {o : Option PyData} (h : EdgeP R o) : o = none ↔ ¬ Ring R ∧ ∀ r ∈ R, ¬ Grow R r := by
  rcases h with ⟨a, rfl⟩ | ⟨a, ⟨r, hr, g, rfl⟩ | ⟨b, rfl⟩⟩
  · exact ⟨(fun z => by cases z), fun z => absurd a z.1⟩
  · exact ⟨(fun z => by cases z), fun z => absurd g.1 (z.2 r hr)⟩
  · exact ⟨fun _ => ⟨a, b⟩, fun _ => rfl⟩
theorem bool_of (A : Prop) : ∃ b : Bool, b = true ↔ A := by
  by_cases c : A
  · exact ⟨true, fun _ => c, fun _ => rfl⟩
  · exact ⟨false, (fun z => by cases z), fun z => absurd z c⟩
def DensOf (its : List It1) (D : List (Str × List L)) : Prop := (∀ d ∈ D, It1.den d.1 (.tuple (d.2.map litD)) ∈ its) ∧ ∀ nm bd, It1.den nm bd ∈ its → ∃ d ∈ D, d.1 = nm ∧ bd = .tuple (d.2.map litD)
/-- the rule is of a derived relation, of one width, of 1 to 4 columns -/
def CleanOne (its : List It1) (R : List Ru) (r : Ru) : Prop := (∀ n, It1.rel r.rl n ∉ its) ∧ (∀ r' ∈ R, r'.rl = r.rl → r'.ts.length = r.ts.length) ∧ 1 ≤ r.ts.length ∧ r.ts.length ≤ 4
def SoundS (its : List It1) (R : List Ru) (D : List (Str × List L)) : Prop := fitP its ∧ (∀ r ∈ R, CleanOne its R r) ∧ (∀ wd, WidAny its wd → (∀ r ∈ R, tailP wd r.rl r.ts r.ls = none) ∧ ∀ d ∈ D, (bodyP wd [] d.2).1 = none) ∧ ¬ Ring R ∧ ∀ r ∈ R, ¬ Grow R r
theorem nm_inj {α : Type} {D : List (Str × α)} (n : (D.map (·.1)).Nodup) {a b : Str × α} (h : a ∈ D) (h' : b ∈ D) (e : a.1 = b.1) : a = b := by
  induction D with
  | nil => cases h
  | cons x D ih =>
    have n2 := List.nodup_cons.mp n
    rcases List.mem_cons.mp h with g | g
    · rcases List.mem_cons.mp h' with g' | g'
      · rw [g, g']
      · exact absurd (List.mem_map.mpr ⟨_, g', e.symm.trans (by rw [g])⟩) n2.1
    · rcases List.mem_cons.mp h' with g' | g'
      · exact absurd (List.mem_map.mpr ⟨_, g, e.trans (by rw [g'])⟩) n2.1
      · exact ih n2.2 g g'
theorem rule_len {its : List It1} {R : List Ru} (ro : RulesOf its R) {nm x : Str} {ds : List PyData} {bd : PyData} (h : It1.rule nm x (.tuple ds) bd ∈ its) : ∃ r ∈ R, r.rl = x ∧ r.nm = nm ∧ r.ts.length = ds.length := by
  obtain ⟨r, hr, e⟩ := ro.2 _ _ _ _ h
  unfold ruI at e
  injection e with e1 e2 e3 _
  injection e3 with e3
  exact ⟨r, hr, e2, e1, by rw [← e3, List.length_map]⟩
theorem wid_one {its : List It1} {R : List Ru} (ro : RulesOf its R) (tu : TupR its) (cl : ∀ r ∈ R, CleanOne its R r) {wd wd' : Str → Option Nat} (h : WidAny its wd) (h' : WidAny its wd') : wd = wd' := by
  funext x
  by_cases c : ∃ n, It1.rel x n ∈ its
  · obtain ⟨n, hn⟩ := c
    rw [h.1 x n hn, h'.1 x n hn]
  · have no : ∀ n, It1.rel x n ∉ its := fun n hn => c ⟨n, hn⟩
    by_cases c2 : ∃ nm ts bd, It1.rule nm x ts bd ∈ its
    · obtain ⟨nm, ts, bd, hm⟩ := c2
      obtain ⟨n1, d1, b1, m1, e1⟩ := h.2.1 _ _ _ _ hm no
      obtain ⟨n2, d2, b2, m2, e2⟩ := h'.2.1 _ _ _ _ hm no
      obtain ⟨r1, g1, k1, _, l1⟩ := rule_len ro m1
      obtain ⟨r2, g2, k2, _, l2⟩ := rule_len ro m2
      rw [e1, e2, ← l1, ← l2, (cl r2 g2).2.1 r1 g1 (k1.trans k2.symm)]
    · have z1 : wd x = none := by
        cases e : wd x with
        | none => rfl
        | some k => exact absurd (h.2.2 x k e) (fun z => z.elim c c2)
      have z2 : wd' x = none := by
        cases e : wd' x with
        | none => rfl
        | some k => exact absurd (h'.2.2 x k e) (fun z => z.elim c c2)
      rw [z1, z2]
section
variable {its : List It1} {R : List Ru} {r : Ru} {isb off : Bool} {wd : Str → Option Nat}
def OffOf (its : List It1) (r : Ru) (off : Bool) : Prop := off = true ↔ ∃ nm ds bd, It1.rule nm r.rl (.tuple ds) bd ∈ its ∧ ds.length ≠ r.ts.length
theorem alone_fine (ro : RulesOf its R) (hib : isb = true ↔ ∃ n, It1.rel r.rl n ∈ its) (hof : OffOf its r off) (h : aloneQ isb off wd r.rl r.ts r.ls = none) : CleanOne its R r ∧ tailP wd r.rl r.ts r.ls = none := by
  unfold aloneQ at h
  cases isb with
  | true => rw [if_pos rfl] at h; cases h
  | false =>
    rw [if_neg Bool.false_ne_true] at h
    by_cases c : (off || !(decide (1 ≤ r.ts.length) && decide (r.ts.length ≤ 4))) = true
    · rw [if_pos c] at h; cases h
    · rw [if_neg c] at h
      refine ⟨⟨fun n hn => (by have := hib.mpr ⟨n, hn⟩; cases this), fun r' hr' e => ?_, ?_, ?_⟩, h⟩
      · by_cases c2 : r'.ts.length = r.ts.length
        · exact c2
        · refine absurd ?_ c
          rw [hof.mpr ⟨r'.nm, r'.ts.map tD, .tuple (r'.ls.map litD), by rw [← e]; exact ro.1 r' hr', by rw [List.length_map]; exact c2⟩]
          rfl
      · by_cases c2 : 1 ≤ r.ts.length
        · exact c2
        · refine absurd ?_ c
          rw [decide_eq_false c2, Bool.false_and, Bool.not_false, Bool.or_true]
      · by_cases c2 : r.ts.length ≤ 4
        · exact c2
        · refine absurd ?_ c
          rw [decide_eq_false c2, Bool.and_false, Bool.not_false, Bool.or_true]
theorem alone_bad (ro : RulesOf its R) {D : List (Str × List L)} (hr : r ∈ R) (hib : isb = true ↔ ∃ n, It1.rel r.rl n ∈ its) (hof : OffOf its r off) (he : earlyP isb off r.ts = true ∨ WidAny its wd) {d : PyData} (h : aloneQ isb off wd r.rl r.ts r.ls = some d) : ¬ SoundS its R D := by
  rintro ⟨_, cl, wt, _⟩
  obtain ⟨c1, c2, c3, c4⟩ := cl r hr
  have e1 : isb = false := by
    cases isb with
    | false => rfl
    | true => obtain ⟨n, hn⟩ := hib.mp rfl; exact absurd hn (c1 n)
  have e2 : off = false := by
    cases off with
    | false => rfl
    | true =>
      obtain ⟨nm, ds, bd, hm, ne⟩ := hof.mp rfl
      obtain ⟨r', g, k, _, l⟩ := rule_len ro hm
      exact absurd (l.symm.trans (c2 r' g k)) ne
  subst e1 e2
  have e3 : earlyP false false r.ts = false := by
    unfold earlyP
    rw [decide_eq_true c3, decide_eq_true c4]
    rfl
  rcases he with he | he
  · rw [e3] at he; cases he
  · have := (wt wd he).1 r hr
    unfold aloneQ at h
    rw [if_neg Bool.false_ne_true, if_neg (by rw [decide_eq_true c3, decide_eq_true c4]; exact Bool.false_ne_true)] at h
    unfold tailP at this
    rw [this] at h
    cases h
end
section
variable {P : Program} {w : World} {K : PySem.W.Frag} {mg : Str → Option Value} {base : Heap} {C C2 fI : Addr}
section
variable {X : Cx} {k : Nat} {x : Str} {ps : List Str} {sp : Sp} {e : Expr} {es : List Expr} {t : TA} {p pos : Pos} {E : L2.St → XK}
theorem pe_defS (D : DefX X.prog X.w X.K X.mg X.base x k ps sp) (hr : Room k X.A) (hg : Gl X x) (hx : ∀ σ, PassesAt (L2.CX X.prog X.w) X σ (E σ)) (ha : PA X (e :: es) t) (hdb : (x == ("__debug__" : Str)) = false := by decide)
    (he : starEach (e :: es) X.env = (false, eval e X.env) :: starEach es X.env := by rfl) (hpl : (backTo pos (starEach es X.env)).any (·.1) = false := by rfl) : PE X (.Call (.Name x p) (e :: es) [] pos) (tCallS sp E t) := by
  obtain ⟨f, fd, F, hm, hk, hb⟩ := D.ex
  exact pe_callS F hr hg hm hk hb hx ha hdb he hpl
end
abbrev sIS : Stmt := topS 33
abbrev nIS : List Str := ["state", "relation", "terms", "body"]
theorem scIS : FnScope nIS ["state"] (defScope sIS) := ⟨rfl, rfl, rfl, by decide +kernel, rfl, by decide +kernel, by decide +kernel⟩
def spIS (C : Addr) : Sp := fun vs H Q _ => ∃ (s : Addr) (its : List It1) (F : Addr → Prop) (N : Nat) (R : List Ru) (D : List (Str × List L)), vs = [.ref s] ∧ StAt C H s its F N ∧ N ≤ 400 ∧ TupR its ∧ RulesOf its R ∧ (R.map Ru.nm).Nodup ∧ (∀ r ∈ R, OkRu r) ∧ (∀ r ∈ R, r.ts.length ≤ 100) ∧ R.length ≤ 50 ∧ DensOf its D ∧ (D.map (·.1)).Nodup ∧ (∀ d ∈ D, (∀ l ∈ d.2, (litTs l).length ≤ 9) ∧ d.2.length ≤ 9) ∧
  ∀ b H', Same H H' → (b = true ↔ SoundS its R D) → Q (.bl b) H'
theorem ok_is {f0 : Addr} {fd : FuncData} (F0 : Fun K "is_sound" "is_sound" sIS f0 fd) (T : Cs K mg C) (T0 : PySem.RefX.RefTxt K mg C2 fI) (DFF : dFF P w K mg base C) (DCA : dCA P w K mg base C C2) (DCE : dCE P w K mg base C2) (DCB : dCB P w K mg base C C2) : FnOk P w K mg base CX0 8 f0 fd ["state"] (spIS C) := by
  refine F0.ok scIS (fun vs H Q E h => ?_) (fun cdv A outer s0 H vs Q E hr h => ?_)
  · obtain ⟨_, _, _, _, _, _, rfl, _⟩ := h
    rfl
  · obtain ⟨s, its, F, N, R, D, rfl, S, hN, tu, ro, nn, okR, tl, lR, dn, nnD, okD, q⟩ := h
    have hu := hu_of hr
    refine ⟨_, (pss_cons (ps_if (pt_not (pt_val (pe_def DFF (hr.mono (by decide)) (by rfl) (pa_cons (pv 0) pa_nil))))
        (pss_one (ps_ret pe_bl))
        pss_nil)
      (pss_cons (ps_try_only (Wout := fun _ _ _ _ => False) (ts := fun _ _ _ D σ H' => tRet (tC (.bl false)) D σ H' ∨ ∃ d od u, H' d = some (.frz od u) ∧ (∀ o' u', H d ≠ some (.frz o' u')) ∧ tRet (tC (.bl false)) D σ (upd H' d u))
          (tb := fun W => tSeq (tLock (tFor (iVals (tFld K (tVar 0) "rules")) (gTup K 3 (gCons (gName 1) (gCons (gName 2) (gCons (gName 3) gNil)))) (tDrop (tCallS (spCA C C2) (WE W) (tCons (tVar 0) (tCons (tVar 1) (tCons (tVar 2) (tCons (tVar 3) tNil))))))))
            (tSeq (tDrop (tCallS (spCE C2) (WE W) (tCons (tFld K (tVar 0) "rules") tNil)))
              (tLock (tFor (iVals (tFld K (tVar 0) "denials")) (gName 3) (tDrop (tCallS (spCB C C2) (WE W) (tCons (tVar 0) (tCons (tVar 3) tNil))))))))
          rfl rfl ⟨rfl, by decide, Or.inl T0.gC⟩ takes0
          (fun W pn xe tk po => pss_cons (ps_lock (ps_for po rfl (pi_values (pe_fld (pv 0) rfl)) (pg_tup rfl (pgs_cons (pg_name (i := 1) scIS.nd rfl (Or.inl rfl)) (pgs_cons (pg_name (i := 2) scIS.nd rfl (Or.inl rfl)) (pgs_cons (pg_name (i := 3) scIS.nd rfl (Or.inl rfl)) pgs_nil))))
                (pss_one (ps_expr (by exact (pe_defS DCA (hr.mono (by decide)) (by rfl) (fun σ => passAt tk σ) (pa_cons (pv 0) (pa_cons (pv 1) (pa_cons (pv 2) (pa_cons (pv 3) pa_nil))))))))))
            (pss_cons (ps_expr (by exact (pe_defS DCE (hr.mono (by decide)) (by rfl) (fun σ => passAt tk σ) (pa_cons (pe_fld (pv 0) rfl) pa_nil))))
              (pss_one (ps_lock (ps_for po rfl (pi_values (pe_fld (pv 0) rfl)) (pg_name (i := 3) scIS.nd rfl (Or.inl rfl))
                (pss_one (ps_expr (by exact (pe_defS DCB (hr.mono (by decide)) (by rfl) (fun σ => passAt tk σ) (pa_cons (pv 0) (pa_cons (pv 3) pa_nil)))))))))))
          (fun a oe cls d pn _ _ => pss_thaw (pss_one (ps_ret pe_bl))))
        (pss_one (ps_ret pe_bl)))), ?_⟩
    obtain ⟨dx, r, f, u, d, kr, kf, ku, kd, b⟩ := id S
    obtain ⟨u1, u2, u3, u4⟩ := id b.rul
    obtain ⟨d1, d2, d3, d4⟩ := id b.den
    refine ⟨.ref s, rfl, s, its, F, N, rfl, S, hN, fun bf H1 s1 hbf => ⟨_, rfl, ?_⟩⟩
    cases bf with
    | false => exact iteT (q false _ s1 ⟨(fun z => by cases z), fun z => hbf.mpr z.1⟩)
    | true =>
      refine iteF ?_
      have fit := hbf.mp rfl
      obtain ⟨eo, heo⟩ := edge_ex R
      have hsu : s ≠ u := b.ns b.fu
      have hsd : s ≠ d := b.ns b.fd
      have lku : ku.length ≤ 400 := Nat.le_trans u2 hN
      have stR : ∀ {Hx : Hp}, Same H Hx → StR C Hx s dx r f u d kr ku its N := fun sx => StR.same ⟨b.hs, b.hr, hsu, b.ru, b.rel, b.rul, b.srt, b.ok⟩ sx
      have stR2 : ∀ {Hx : Hp}, (∀ a o, a ≠ u → H a = some o → Hx a = some o) → StR C Hx s dx r f u d kr ku its N := fun hx => ⟨hx _ _ hsu b.hs, hx _ _ b.ru b.hr, hsu, b.ru, b.rel, ⟨u1, u2, fun k v h => by
        obtain ⟨nm, rl, ts, bd, e, t, m⟩ := u3 k v h
        exact ⟨nm, rl, ts, bd, e, t.mono (fun a xs h => hx a _ (fun z => by rw [z, b.hu] at h; cases h) h), m⟩, u4⟩, b.srt, b.ok⟩
      have stR3 : ∀ {Hx : Hp}, (∀ a o, a ≠ d → H a = some o → Hx a = some o) → StR C Hx s dx r f u d kr ku its N := fun hx => ⟨hx _ _ hsd b.hs, hx _ _ b.rd b.hr, hsu, b.ru, b.rel, ⟨u1, u2, fun k v h => by
        obtain ⟨nm, rl, ts, bd, e, t, m⟩ := u3 k v h
        exact ⟨nm, rl, ts, bd, e, t.mono (fun a xs h => hx a _ (fun z => by rw [z, b.hd] at h; cases h) h), m⟩, u4⟩, b.srt, b.ok⟩
      -- the rules
      refine ⟨u, .dK ku, s1 _ _ b.hu, trivial, fun od => ?_⟩
      have L1 : ∀ a o, a ≠ u → H a = some o → (upd H1 u (.frz od (.dK ku))) a = some o := fun a o n h => by rw [upd_ne n]; exact s1 _ _ h
      refine ⟨.ref s, rfl, s, C, dx, _, _, rfl, L1 _ _ hsu b.hs, T.cl, T.nU, fl_rul _ _ _ _, u, od, ku, rfl, upd_same, ?_⟩
      have thawU : ∀ {H' : Hp}, H' u = some (.frz od (.dK ku)) → (∀ a o, a ≠ u → H a = some o → H' a = some o) → Same H (upd H' u (.dK ku)) := fun h1 h2 a o h => by
        by_cases z : a = u
        · rw [z, b.hu] at h
          rw [z, upd_same, ← h]
        · rw [upd_ne z]
          exact h2 a o z h
      refine for_it walk_values (fun i σ H' => (∃ y1 y2 y3, σ = [some (.ref s), y1, y2, y3]) ∧ H' u = some (.frz od (.dK ku)) ∧ (∀ a o, a ≠ u → H a = some o → H' a = some o) ∧ ∀ e ∈ ku.take i, ∀ r ∈ R, e.1 = (Sum.inr r.nm : Key) → CleanOne its R r ∧ ∃ wd, WidAny its wd ∧ tailP wd r.rl r.ts r.ls = none) ⟨⟨_, _, _, rfl⟩, upd_same, L1, fun e he => by cases he⟩ (fun i σ H' _ hP => hP.2.1) (fun i y σ H' H3 hi hP hY => ?_) (fun σ H' hP => ?_)
      · obtain ⟨⟨y1, y2, y3, rfl⟩, h1, h2, h3⟩ := hP
        obtain ⟨rfl, k, ek⟩ := hY
        obtain ⟨nm, rl, ts, bd, e1, e2, e3⟩ := u3 k y (List.mem_of_getElem? ek)
        obtain ⟨ru, hru, er⟩ := ro.2 _ _ _ _ e3
        unfold ruI at er
        injection er with er1 er2 er3 er4
        subst er1 er2 er3 er4
        have tk : Tk H H3 := fun a xs h => h2 a _ (fun z => by rw [z, b.hu] at h; cases h) h
        have e2 := e2.mono tk
        obtain ⟨t, tt, tb, xs, xb, rfl, et, ett, txs, etb, txb⟩ : ∃ t tt tb xs xb, y = .ref t ∧ H3 t = some (.tup [.str ru.rl, .ref tt, .ref tb]) ∧ H3 tt = some (.tup xs) ∧ Tps H3 xs (ru.ts.map tD) ∧ H3 tb = some (.tup xb) ∧ Tps H3 xb (ru.ls.map litD) := by
          cases e2 with
          | tup a1 a2 => cases a2 with
            | cons b1 a2 => cases a2 with
              | cons b2 a2 => cases a2 with
                | cons b3 a2 =>
                  cases a2
                  cases b1
                  cases b2 with
                  | tup c1 c2 => cases b3 with
                    | tup c3 c4 => exact ⟨_, _, _, _, _, rfl, a1, c1, c2, c3, c4⟩
        obtain ⟨isb, hib⟩ := bool_of (∃ n, It1.rel ru.rl n ∈ its)
        obtain ⟨off, hof⟩ := bool_of (∃ nm ds bd, It1.rule nm ru.rl (.tuple ds) bd ∈ its ∧ ds.length ≠ ru.ts.length)
        refine ⟨t, _, rfl, SqT.of et, rfl, _, _, rfl, _, _, rfl, _, _, rfl, rfl, ?_⟩
        have okr := okR ru hru
        refine ⟨.ref s, rfl, .str ru.rl, rfl, .ref tt, rfl, .ref tb, rfl, s, dx, r, f, u, d, tt, tb, ru.rl, isb, off, kr, ku, its, N, od, xs, xb, ru.ts, ru.ls, rfl, stR2 h2, h1, hN, tu, hib, hof, ett, txs, tl ru hru, etb, txb, okr.1, okr.2, fun wd wy z H4 s4 => ?_, fun wd dd hw z H4 qd v s4 ed tv => ⟨true, T0.te, fun _ a na => .inr ⟨u, od, .dK ku, s4 _ _ h1, fun o' u' e => ?_, ?_⟩, fun z => nomatch z⟩⟩
        · refine ⟨⟨_, _, _, rfl⟩, s4 _ _ h1, fun a o n h => s4 _ _ (h2 a o n h), fun e he r' hr' en => ?_⟩
          rw [take_next ek] at he
          rcases List.mem_append.mp he with he | he
          · exact h3 e he r' hr' en
          · rw [List.mem_singleton.mp he] at en
            have en : k = Sum.inr r'.nm := en
            rw [e1] at en
            have := same_nm nn hru hr' (inr_iff.mp en)
            subst this
            obtain ⟨f1, f2⟩ := alone_fine ro hib hof z
            exact ⟨f1, wd, wy, f2⟩
        · rw [b.hu] at e
          cases e
        · refine q false _ (thawU (s4 _ _ h1) fun a o n h => s4 _ _ (h2 a o n h)) ⟨(fun z => by cases z), fun zz => ?_⟩
          exact absurd zz (alone_bad ro hru hib hof hw z)
      · obtain ⟨⟨y1, y2, y3, rfl⟩, h1, h2, h3⟩ := hP
        rw [List.take_length] at h3
        refine ⟨h1, ?_⟩
        have s2 := thawU h1 h2
        generalize upd H' u (.dK ku) = H2 at s2 ⊢
        have cl : ∀ r ∈ R, CleanOne its R r := fun r hr => by
          obtain ⟨v, hv⟩ := u4 _ _ _ _ (ro.1 r hr)
          exact (h3 _ hv r hr rfl).1
        have tls : ∀ wd, WidAny its wd → ∀ r ∈ R, tailP wd r.rl r.ts r.ls = none := fun wd wy r hr => by
          obtain ⟨v, hv⟩ := u4 _ _ _ _ (ro.1 r hr)
          obtain ⟨_, wd', wy', z⟩ := h3 _ hv r hr rfl
          rw [wid_one ro tu cl wy wy']
          exact z
        clear h1 h2 h3
        -- the edges
        obtain ⟨R', rk, sub⟩ := rules_par ro u3
        have nn' := ruk_nodup rk u1
        have sup : ∀ r ∈ R, r ∈ R' := fun r hr => by
          obtain ⟨v, hv⟩ := u4 _ _ _ _ (ro.1 r hr)
          obtain ⟨i, hi, ei⟩ := List.mem_iff_getElem.mp hv
          obtain ⟨r', er', ek, _⟩ := rk.get (by rw [List.getElem?_eq_getElem hi, ei])
          have h' := List.mem_of_getElem? er'
          rw [same_nm nn hr (sub r' h') (inr_iff.mp ek)]
          exact h'
        have lR' : R'.length ≤ R.length := by
          have := nodup_le nn' (m := R.map Ru.nm) fun x hx => by
            obtain ⟨r, hr, e⟩ := List.mem_map.mp hx
            exact List.mem_map.mpr ⟨r, sub r hr, e⟩
          rw [List.length_map, List.length_map] at this
          exact this
        refine ⟨.ref s, rfl, s, C, dx, _, .ref u, rfl, s2 _ _ b.hs, T.cl, T.nU, fl_rul _ _ _ _, u, ku, R', eo, rfl, s2 _ _ b.hu, rk.mono (Tk.of s2), nn', fun x hx => okR x (sub x hx), by omega, edge_cg (fun x => ⟨sup x, sub x⟩) heo, fun z H4 s4 => ?_, fun dd z H4 qd v s4 ed tv => ⟨true, T0.te, fun _ a na => .inl ?_, fun z => nomatch z⟩⟩
        · have hno := (edge_none heo).mp z
          have s24 := s2.trans s4
          refine ⟨d, .dK kd, s24 _ _ b.hd, trivial, fun od2 => ?_⟩
          have L2 : ∀ a o, a ≠ d → H a = some o → (upd H4 d (.frz od2 (.dK kd))) a = some o := fun a o n h => by rw [upd_ne n]; exact s24 _ _ h
          refine ⟨.ref s, rfl, s, C, dx, _, _, rfl, L2 _ _ hsd b.hs, T.cl, T.nD, fl_den _ _ _ _, d, od2, kd, rfl, upd_same, ?_⟩
          have thawD : ∀ {H' : Hp}, H' d = some (.frz od2 (.dK kd)) → (∀ a o, a ≠ d → H a = some o → H' a = some o) → Same H (upd H' d (.dK kd)) := fun h1 h2 a o h => by
            by_cases z : a = d
            · rw [z, b.hd] at h
              rw [z, upd_same, ← h]
            · rw [upd_ne z]
              exact h2 a o z h
          refine for_it walk_values (fun i σ H' => (∃ y1 y2 y3, σ = [some (.ref s), y1, y2, y3]) ∧ H' d = some (.frz od2 (.dK kd)) ∧ (∀ a o, a ≠ d → H a = some o → H' a = some o) ∧ ∀ e ∈ kd.take i, ∀ dd ∈ D, e.1 = (Sum.inr dd.1 : Key) → ∃ wd, WidAny its wd ∧ (bodyP wd [] dd.2).1 = none) ⟨⟨_, _, _, rfl⟩, upd_same, L2, fun e he => by cases he⟩ (fun i σ H' _ hP => hP.2.1) (fun i y σ H' H3 hi hP hY => ?_) (fun σ H' hP => ?_)
          · obtain ⟨⟨y1, y2, y3, rfl⟩, h1, h2, h3⟩ := hP
            obtain ⟨rfl, k, ek⟩ := hY
            obtain ⟨nm, bd, e1, e2, e3⟩ := d3 k y (List.mem_of_getElem? ek)
            obtain ⟨dd, hdd, en, eb⟩ := dn.2 _ _ e3
            subst en eb
            have tk : Tk H H3 := fun a xs h => h2 a _ (fun z => by rw [z, b.hd] at h; cases h) h
            have e2 := e2.mono tk
            obtain ⟨t, xb, rfl, et, txb⟩ : ∃ t xb, y = .ref t ∧ H3 t = some (.tup xb) ∧ Tps H3 xb (dd.2.map litD) := by
              cases e2 with
              | tup a1 a2 => exact ⟨_, _, rfl, a1, a2⟩
            have okd := okD dd hdd
            refine ⟨.ref s, rfl, .ref t, rfl, s, dx, r, f, u, d, t, kr, ku, its, N, xb, dd.2, rfl, stR3 h2, h2 _ _ b.ud b.hu, hN, tu, et, txb, okd.1, okd.2, fun wd wy z p H5 s5 => ?_, fun wd pd wy z H5 qd v s5 ed tv => ⟨true, T0.te, fun _ a na => .inr ⟨d, od2, .dK kd, s5 _ _ h1, fun o' u' e => ?_, ?_⟩, fun z => nomatch z⟩⟩
            · refine ⟨⟨_, _, _, rfl⟩, s5 _ _ h1, fun a o n h => s5 _ _ (h2 a o n h), fun e he d' hd' en => ?_⟩
              rw [take_next ek] at he
              rcases List.mem_append.mp he with he | he
              · exact h3 e he d' hd' en
              · rw [List.mem_singleton.mp he] at en
                have en : k = Sum.inr d'.1 := en
                rw [e1] at en
                have := nm_inj nnD hdd hd' (inr_iff.mp en)
                subst this
                exact ⟨wd, wy, z⟩
            · rw [b.hd] at e
              cases e
            · refine q false _ (thawD (s5 _ _ h1) fun a o n h => s5 _ _ (h2 a o n h)) ⟨(fun z => by cases z), fun zz => ?_⟩
              have := (zz.2.2.1 wd wy).2 dd hdd
              rw [z] at this
              cases this
          · obtain ⟨⟨y1, y2, y3, rfl⟩, h1, h2, h3⟩ := hP
            rw [List.take_length] at h3
            refine ⟨h1, ?_⟩
            refine q true _ (thawD h1 h2) ⟨fun _ => ⟨fit, cl, fun wd wy => ⟨tls wd wy, fun dd hd => ?_⟩, hno⟩, fun _ => rfl⟩
            obtain ⟨v, hv⟩ := d4 _ _ (dn.1 dd hd)
            obtain ⟨wd', wy', z⟩ := h3 _ hv dd hd rfl
            rw [wid_one ro tu cl wy wy']
            exact z
        · refine q false _ (s2.trans s4) ⟨(fun z => by cases z), fun zz => ?_⟩
          have := (edge_none heo).mpr zz.2.2.2
          rw [z] at this
          cases this
abbrev dIS (P : Program) (w : World) (K : PySem.W.Frag) (mg : Str → Option Value) (base : Heap) (C : Addr) : Prop := Def P w K mg base "is_sound" 8 ["state"] (spIS C)
end
end KU

namespace KU
open PySem PySem.Spec PyProof.Rows PySem.HandSPX L2 KA
/-- a dict of widths from 1 to 4 -/
structure WdE (wk : List (Key × V)) (m : Nat) : Prop where
  val : ∀ e ∈ wk, ∃ (r : Str) (n : Nat), e = ((Sum.inr r : Key), V.int (n : Int)) ∧ 1 ≤ n ∧ n ≤ 4
  nd : nd wk
  len : wk.length ≤ m
theorem WdE.put {wk : List (Key × V)} {m : Nat} (h : WdE wk m) (r : Str) {n : Nat} (n1 : 1 ≤ n) (n4 : n ≤ 4) : WdE (putK wk (Sum.inr r : Key) (.int (n : Nat))) (m + 1) := by
  refine ⟨fun e he => ?_, nd_put h.nd _ _, Nat.le_trans (length_putK _ _ _) (Nat.succ_le_succ h.len)⟩
  obtain ⟨k, v⟩ := e
  rcases (mem_put h.nd).mp he with ⟨rfl, rfl⟩ | ⟨_, h1⟩
  · exact ⟨r, n, rfl, n1, n4⟩
  · exact h.val _ h1
theorem WdE.more {wk : List (Key × V)} {m m' : Nat} (h : WdE wk m) (l : m ≤ m') : WdE wk m' := ⟨h.val, h.nd, Nat.le_trans h.len l⟩
theorem wdE_rl : ∀ (rl : List (Str × Nat)) (wk : List (Key × V)) (m : Nat), WdE wk m → (∀ e ∈ rl, 1 ≤ e.2 ∧ e.2 ≤ 4) → WdE (rl.foldl (fun acc e => putK acc (Sum.inr e.1 : Key) (.int (e.2 : Nat))) wk) (m + rl.length)
  | [], wk, m, h, _ => h
  | e :: rl, wk, m, h, o => by
    have h1 := h.put e.1 (o e List.mem_cons_self).1 (o e List.mem_cons_self).2
    have := wdE_rl rl _ _ h1 fun x hx => o x (List.mem_cons_of_mem _ hx)
    rw [List.foldl_cons, List.length_cons]
    exact this.more (by omega)
theorem WdE.wdk {wk : List (Key × V)} {m : Nat} (h : WdE wk m) (h0 : 0 < wk.length) (hm : m < 64) : ∃ ks, WdK wk ks := by
  obtain ⟨ks, e⟩ := names_of (kvs := wk) fun k v hm => by
    obtain ⟨r, n, e, _⟩ := h.val _ hm
    cases e
    exact ⟨r, rfl⟩
  have el : wk.length = ks.length := by
    have := congrArg List.length e
    rw [List.length_map, List.length_map] at this
    exact this
  refine ⟨ks, e, by omega, by have := h.len; omega, fun r hr => ?_⟩
  have h1 : (Sum.inr r : Key) ∈ wk.map (·.1) := by
    rw [e]
    exact List.mem_map.mpr ⟨r, hr, rfl⟩
  obtain ⟨⟨k, v⟩, h2, h3⟩ := List.mem_map.mp h1
  have h3 : k = Sum.inr r := h3
  subst h3
  obtain ⟨r', n, e', n1, n4⟩ := h.val _ h2
  cases e'
  exact ⟨n, n1, n4, (mem_val h.nd).mpr h2⟩
theorem WdE.get {wk : List (Key × V)} {m : Nat} (h : WdE wk m) {r : Str} {v : V} (e : valV wk (Sum.inr r : Key) = some v) : ∃ n : Nat, v = .int (n : Int) ∧ 1 ≤ n ∧ n ≤ 4 := by
  obtain ⟨r', n, e', n1, n4⟩ := h.val _ ((mem_val h.nd).mp e)
  cases e'
  exact ⟨n, rfl, n1, n4⟩
theorem Wo.dr {H H' : Hp} {st L W Rr U : Addr} {kr ku : List (Key × V)} {R : List Ru} (h : Wo H W Rr U kr ku R) (g : Good st L H) (d : Dr st L H H') : Wo H' W Rr U kr ku R := by
  have ne : ∀ {a : Addr} {x : List (Key × V)}, H a = some (.dK x) → a ≠ st := fun e z => by
    obtain ⟨_, _, _, _, e', _⟩ := g
    rw [z, e'] at e
    cases e
  exact ⟨d.at_ (ne h.hW) h.hW, d.at_ (ne h.hR) h.hR, d.at_ (ne h.hU) h.hU, h.ne, h.lkr, h.lR, h.rk.mono (d.tk g), h.nn, h.ok⟩

def names5 : List Str := ["u", "u", "v", "w", "q"]
theorem WdE.setd {wk : List (Key × V)} {m : Nat} (h : WdE wk m) (l0 : 0 < wk.length) (r : Str) {n : Nat} (n1 : 1 ≤ n) (n4 : n ≤ 4) : WdE (putK wk (Sum.inr r : Key) (.int (n : Nat))) (m + 1) ∧ 0 < (putK wk (Sum.inr r : Key) (.int (n : Nat))).length := by
  refine ⟨h.put r n1 n4, ?_⟩
  cases hz : putK wk (Sum.inr r : Key) (.int (n : Nat)) with
  | nil =>
    have h2 : valV (putK wk (Sum.inr r : Key) (.int (n : Nat))) (Sum.inr r : Key) = some (.int (n : Nat)) := by rw [valV_put, if_pos rfl]
    rw [hz] at h2
    cases h2
  | cons a b => exact Nat.succ_pos _
section
variable {P : Program} {w : World} {K : PySem.W.Frag} {mg : Str → Option Value} {base : Heap}
abbrev sDR : Stmt := topS 56
abbrev nDR : List Str := ["state", "widths_v", "relation", "more", "body", "bound", "literal", "count", "terms", "k", "term"]
theorem scDR : FnScope nDR ["state", "widths_v"] (defScope sDR) := ⟨rfl, rfl, rfl, by decide +kernel, rfl, by decide +kernel, by decide +kernel⟩
def spDR : Sp := fun vs H Q _ => ∃ (st L wd : Addr) (wk : List (Key × V)), vs = [.ref st, .ref wd] ∧ Good st L H ∧ H wd = some (.dK wk) ∧ WdE wk 3 ∧ 0 < wk.length ∧
  ∀ (p u ub : Addr) (rl : Str) (xs xb : List V) (ts : List T) (ls : List KU.L) H', Dr st L H H' → H' p = some (.tup [.str rl, .ref u, .ref ub]) → H' u = some (.tup xs) → Tps H' xs (ts.map tD) → 1 ≤ ts.length → ts.length ≤ 3 → (∀ t ∈ ts, TermB t) → H' ub = some (.tup xb) → Tps H' xb (ls.map litD) → BodyN ls → Q (.ref p) H'
theorem ok_dr {f : Addr} {fd : FuncData} (F : Fun K "_law_drawn_rule" "_law_drawn_rule" sDR f fd) (B : Bt mg) (Bx : Bt2 mg) (DN : dNext P w K mg base) (DLb : dLbB P w K mg base) (DBi : dBiR P w K mg base) (DLt : dLt P w K mg base) (DLs : dLs P w K mg base) : FnOk P w K mg base CX0 6 f fd ["state", "widths_v"] spDR := by
  refine F.ok scDR (fun vs H Q E h => ?_) (fun cdv A outer s H vs Q E hr h => ?_)
  · obtain ⟨_, _, _, _, rfl, _⟩ := h
    rfl
  · obtain ⟨st, L, wd, wk0, rfl, g, ewd, EW0, l00, q⟩ := h
    have hu := hu_of hr
    refine ⟨_, (pss_cons (ps_set (i := 2) scDR.nd rfl (.inl rfl) (pe_ix ix_list (pe_lst (pa_cons pe_str (pa_cons pe_str (pa_cons pe_str (pa_cons pe_str (pa_cons pe_str pa_nil)))))) (pe_op op_fdiv (pe_def DN (hr.mono (by decide)) (by rfl) (pa_cons (pv 0) (pa_cons pe_int pa_nil))) pe_int) (fun _ _ => rfl)))
      (pss_cons (ps_set (i := 3) scDR.nd rfl (.inl rfl) (pe_callTy call_dictD (by rfl) Bx.dict (by decide +kernel) (pa_cons (pv 1) pa_nil)))
      (C8.pss_cut (ps_expr (pe_dsetd (pv 3) pe_str pe_int ⟨rfl, rfl, rfl, rfl⟩))
      (C8.pss_cut (ps_if (pt_cmpR op_eq (pe_def DN (hr.mono (by decide)) (by rfl) (pa_cons (pv 0) (pa_cons pe_int pa_nil))) pe_int (nomark _))
        (pss_one (ps_expr (pe_dsetd (pv 3) pe_str pe_int ⟨rfl, rfl, rfl, rfl⟩)))
        pss_nil)
      (pss_cons (ps_set (i := 4) scDR.nd rfl (.inl rfl) (pe_def DLb (hr.mono (by decide)) (by rfl) (pa_cons (pv 0) (pa_cons (pv 3) (pa_cons (pe_cmpR op_gt (pe_def DN (hr.mono (by decide)) (by rfl) (pa_cons (pv 0) (pa_cons pe_int pa_nil))) pe_int (nomark _)) (pa_cons pe_int pa_nil))))))
      (pss_cons (ps_set (i := 5) scDR.nd rfl (.inr rfl) (pe_lst pa_nil))
      (pss_cons (ps_for PassesOwn.never rfl (pi_tup (pv 4)) (pg_name (i := 6) scDR.nd rfl (Or.inl rfl))
        (pss_one (ps_set (i := 5) scDR.nd rfl (.inr rfl) (pe_op op_cat (pv 5) (pe_def DBi (hr.mono (by decide)) (by rfl) (pa_cons (pv 6) pa_nil))))))
      (pss_cons (ps_set (i := 7) scDR.nd rfl (.inl rfl) (pe_op op_add (pe_dget2 hu (pe_disp (pps_cons pe_str pe_int (pps_cons pe_str pe_int pps_nil)) (by rfl) (by rfl) (fun z => by cases z) (by decide)) (pv 2) pe_int ⟨rfl, rfl, rfl, rfl⟩) (pe_callTy call_int1 (by rfl) B.int (by decide +kernel) (pa_cons (pe_cmpR op_eq (pe_def DN (hr.mono (by decide)) (by rfl) (pa_cons (pv 0) (pa_cons pe_int pa_nil))) pe_int (nomark _)) pa_nil))))
      (pss_cons (ps_setLc (i := 8) (own := [("k", 9)]) (g := (gName 9)) (tt := tYes) (te := (tCall spLt [] E0 (tCons (tVar 0) (tCons (tVar 5) tNil)))) (by rfl) scDR.nd rfl rfl (sw_true rfl rfl rfl (by decide +kernel)) (pi_range1 (by rfl) B.rng (pa_cons (pv 7) pa_nil)) (blkOk_by (own := [("k", 9)]) (N := nDR) (sc := defScope sDR) (by decide +kernel)) (fun _ _ _ _ _ => (pg_name (i := 9) scDR.nd rfl (Or.inl rfl))) (fun _ _ _ _ _ => pts_nil) (fun _ _ _ _ _ => (pe_def DLt (hr.mono (by decide)) (by rfl) (pa_cons (pv 0) (pa_cons (pv 5) pa_nil)))))
      (C8.pss_cut (ps_if (pt_cmpR op_gt (pe_def DN (hr.mono (by decide)) (by rfl) (pa_cons (pv 0) (pa_cons pe_int pa_nil))) pe_int (nomark _))
        (pss_one (ps_setLc (i := 8) (own := [("term", 10)]) (g := (gName 10)) (tt := tYes) (te := (tCall spLs [] E0 (tCons (tVar 10) (tCons (tVar 5) tNil)))) (by rfl) scDR.nd rfl rfl (sw_true rfl rfl rfl (by decide +kernel)) (pi_list (pv 8)) (blkOk_by (own := [("term", 10)]) (N := nDR) (sc := defScope sDR) (by decide +kernel)) (fun _ _ _ _ _ => (pg_name (i := 10) scDR.nd rfl (Or.inl rfl))) (fun _ _ _ _ _ => pts_nil) (fun _ _ _ _ _ => (pe_def DLs (hr.mono (by decide)) (by rfl) (pa_cons (pv 10) (pa_cons (pv 5) pa_nil))))))
        pss_nil)
      (pss_one (ps_ret (pe_tup (pa_cons (pv 2) (pa_cons (pe_callTy call_tuple_of (by rfl) B.tup (by decide +kernel) (pa_cons (pv 8) pa_nil)) (pa_cons (pv 4) pa_nil)))))))))))))))), ?_⟩
    have nwst : wd ≠ st := fun z => by
      obtain ⟨_, _, _, _, e', _⟩ := g
      rw [z, e'] at ewd
      cases ewd
    -- relation
    refine ⟨(by show 5 ≤ sizeLine; decide), fun p1 np1 => ?_⟩
    have d1 := Dr.new (o := .lst (names5.map V.str)) g np1
    refine ⟨.ref st, rfl, st, L, 40, rfl, d1.good, by decide, by decide, fun v2 H2 d2 v20 v21 => ⟨v2, 9, rfl, rfl, ⟨by decide, by decide⟩, ?_⟩⟩
    obtain ⟨rl, hrl, erl⟩ := pick_at (f := V.str) (ks := names5) (v := v2 / 9) (by omega) (by show v2 / 9 < ((5 : Nat) : Int); omega)
    refine ⟨p1, _, v2 / 9, .str rl, rfl, rfl, SqL.of (Dr.keep g np1 d2), erl, ?_⟩
    have d12 := d1.trans d2
    have g2 := d12.good
    have ewd2 := d12.at_ nwst ewd
    -- more
    refine ⟨.ref wd, rfl, wd, wk0, rfl, .of ewd2, fun p np => ?_⟩
    generalize hG : upd _ p _ = H3
    obtain ⟨s3, e3⟩ := gen_up hG np
    clear hG
    have d23 := Dr.same g2 s3
    have npst : p ≠ st := fun z => g2.not_none (by rw [← z]; exact np)
    have lk0 := EW0.len
    refine ⟨fun σ H' => σ = [some (.ref st), some (.ref wd), some (.str rl), some (.ref p), none, none, none, none, none, none, none] ∧ ∃ wk, H' p = some (.dK wk) ∧ WdE wk 4 ∧ 0 < wk.length ∧ Dr st L H2 H', ?_, ?_⟩
    · exact ⟨.ref p, rfl, p, rfl, .inl ⟨wk0, .of e3⟩, wk0, Sum.inr "u", e3, rfl, small7 (by omega), fun v hv => ⟨rfl, wk0, e3, EW0.more (by decide), l00, d23⟩, fun hv => ⟨rfl, _, upd_same, (EW0.setd l00 "u" (n := 1) (by decide) (by decide)).1, (EW0.setd l00 "u" (n := 1) (by decide) (by decide)).2, d23.put g2 np⟩⟩
    rintro σ H4 ⟨rfl, wk4, e4, E4, l4, d24⟩
    have lk4 := E4.len
    refine ⟨fun σ H' => σ = [some (.ref st), some (.ref wd), some (.str rl), some (.ref p), none, none, none, none, none, none, none] ∧ ∃ wk, H' p = some (.dK wk) ∧ WdE wk 5 ∧ 0 < wk.length ∧ Dr st L H2 H', ?_, ?_⟩
    · refine ⟨.ref st, rfl, st, L, 3, rfl, d24.good, by decide, by decide, fun v5 H5 d5 _ _ => ⟨rfl, _, rfl, ite2 (fun _ => ?_) (fun _ => ?_)⟩⟩
      · have e5 := d5.at_ npst e4
        have d25 := d24.trans d5
        exact ⟨.ref p, rfl, p, rfl, .inl ⟨wk4, .of e5⟩, wk4, Sum.inr "v", e5, rfl, small7 (by omega), fun v hv => ⟨rfl, wk4, e5, E4.more (by decide), l4, d25⟩, fun hv => ⟨rfl, _, upd_same, (E4.setd l4 "v" (n := 2) (by decide) (by decide)).1, (E4.setd l4 "v" (n := 2) (by decide) (by decide)).2, d25.put g2 np⟩⟩
      · exact ⟨rfl, wk4, d5.at_ npst e4, E4.more (by decide), l4, d24.trans d5⟩
    rintro σ H8 ⟨rfl, wk, ep8, E8, l8, d28⟩
    obtain ⟨ks, wdk⟩ := E8.wdk l8 (by decide)
    have g8 := d28.good
    -- body
    refine ⟨.ref st, rfl, .ref p, rfl, .ref st, rfl, st, L, 8, rfl, g8, by decide, by decide, fun v9 H9 d9 _ _ => ⟨_, 0, rfl, rfl, ?_⟩⟩
    have ep9 := d9.at_ npst ep8
    have d29 := d28.trans d9
    refine ⟨st, L, p, wk, ks, _, rfl, d9.good, ep9, wdk, fun ub xb ls Ha da eub txb bn => ?_⟩
    have d2a := d29.trans da
    -- bound
    refine ⟨Nat.zero_le _, fun b nb => ?_⟩
    generalize hG : upd _ b _ = Hb
    obtain ⟨sb, eb⟩ := gen_up hG nb
    clear hG
    have ga := d2a.good
    have nbst : b ≠ st := fun z => ga.not_none (by rw [← z]; exact nb)
    have lxb : xb.length = ls.length := by rw [txb.length, List.length_map]
    have l6 := bn.1
    refine ⟨.ref ub, rfl, ub, rfl, ⟨xb, SqT.of (sb _ _ eub)⟩, ?_⟩
    refine for_it walk_tup (fun i σ H' => Same Ha H' ∧ ∃ b2 bs x8, σ = [some (.ref st), some (.ref wd), some (.str rl), some (.ref p), some (.ref ub), some (.ref b2), x8, none, none, none, none] ∧ H' b2 = some (.lst (bs.map V.str)) ∧ b2 ≠ st ∧ bs.length ≤ 5 * i ∧ ∀ x ∈ bs, x ∈ vars4) ⟨sb, b, [], none, rfl, eb, nbst, Nat.le_refl _, fun x hx => by cases hx⟩ (fun i σ H' _ hP => SqT.of (hP.1 _ _ eub)) (fun i x σ H1 H' hi hP hY => ?_) (fun σ Hc hP => ?_)
    · obtain ⟨rfl, hx⟩ := hY
      obtain ⟨sm, b2, bs, x8, rfl, e2, n2, lb, hb⟩ := hP
      obtain ⟨l, el, tl⟩ := lit_get txb hx
      have hl := bn.2 l (List.mem_of_getElem? el)
      obtain ⟨bl1, bl2, bl3⟩ := binds_len hl
      have li := (List.getElem?_eq_some_iff.mp el).1
      have tl := tl.mono (Tk.of sm)
      refine ⟨.ref b2, rfl, x, rfl, x, l, rfl, tl, by omega, fun r ts e => Nat.le_trans (bl2 r ts e) (by decide), fun y H5 s5 e5 n5 => ?_⟩
      refine ⟨b2, y, _, _, rfl, rfl, s5 _ _ e2, e5, small6 (by rw [List.length_map, List.length_map]; omega), fun z nz => ?_⟩
      have sH5 := sm.trans s5
      have nzst : z ≠ st := fun w' => by
        have := (Dr.same ga sH5).good.not_none
        rw [← w'] at this
        exact this nz
      refine ⟨sH5.trans (same_new nz), z, bs ++ bindsL l, _, rfl, by rw [upd_same, List.map_append], nzst, by rw [List.length_append]; omega, fun x hx => ?_⟩
      rcases List.mem_append.mp hx with hx | hx
      · exact hb x hx
      · exact bl3 x hx
    obtain ⟨sm, b2, bs, x8, rfl, e2, n2, lb, hb⟩ := hP
    have dac := Dr.same ga sm
    have d2c := d2a.trans dac
    have gc := d2c.good
    have lb40 : bs.length ≤ 40 := by omega
    -- count
    intro pd npd
    generalize hG : upd _ pd _ = Hq
    obtain ⟨sq, eq⟩ := gen_up hG npd
    clear hG
    refine ⟨eq, [(.inr "u", .int 1), (.inr "v", .int 2)], rfl, (by show 2 ≤ 15; decide), ?_⟩
    have npdst : pd ≠ st := fun z => gc.not_none (by rw [← z]; exact npd)
    generalize hG : upd Hq pd _ = Hq2
    have sq2 : Same Hc Hq2 := by
      subst hG
      exact same_put sq npd
    have eq2 : Hq2 pd = some (.dK [(.inr "u", .int 1), (.inr "v", .int 2)]) := by
      subst hG
      exact upd_same
    clear hG
    have dcq := Dr.same gc sq2
    refine ⟨pd, rfl, .inl ⟨_, .of eq2⟩, .str rl, rfl, valV [(.inr "u", .int 1), (.inr "v", .int 2)] (Sum.inr rl : Key), DGet.k (k := Sum.inr rl) eq2, ?_⟩
    obtain ⟨c, ec, c1, c2⟩ : ∃ c : Nat, (valV ([(.inr "u", .int 1), (.inr "v", .int 2)] : List (Key × V)) (Sum.inr rl : Key)).getD (.int 1) = .int (c : Int) ∧ 1 ≤ c ∧ c ≤ 2 := by
      by_cases h : (Sum.inr "u" : Key) = Sum.inr rl
      · exact ⟨1, by rw [valV_pos h]; rfl, by decide, by decide⟩
      · rw [valV_neg h]
        by_cases h2 : (Sum.inr "v" : Key) = Sum.inr rl
        · exact ⟨2, by rw [valV_pos h2]; rfl, by decide, by decide⟩
        · exact ⟨1, by rw [valV_neg h2]; rfl, by decide, by decide⟩
    rw [ec]
    refine ⟨.ref st, rfl, st, L, 16, rfl, dcq.good, by decide, by decide, fun v10 Hd dd10 _ _ => ⟨rfl, .inr ⟨_, rfl, ?_⟩⟩⟩
    refine ⟨(c : Int), _, rfl, rfl, ?_⟩
    obtain ⟨m, em, m1, m3⟩ : ∃ m : Nat, ((c : Int) + (if decide (V.int v10 = V.int 0) = true then 1 else 0)) = (m : Int) ∧ 1 ≤ m ∧ m ≤ 3 := by
      cases decide (V.int v10 = V.int 0) with
      | true => exact ⟨c + 1, by rw [if_pos rfl]; omega, by omega, by omega⟩
      | false => exact ⟨c, by rw [if_neg Bool.false_ne_true]; omega, by omega, by omega⟩
    show gName 7 (V.int ((c : Int) + (if decide (V.int v10 = V.int 0) = true then 1 else 0))) _ _ _
    rw [em]
    have d2d := (d2c.trans dcq).trans dd10
    have gd := d2d.good
    have e2d := dd10.at_ n2 (sq2 _ _ e2)
    refine ⟨.int (m : Int), rfl, (m : Int), rfl, by omega, by omega, fun D nD => ?_⟩
    have nDst : D ≠ st := fun z => gd.not_none (by rw [← z]; exact nD)
    refine lc_range (lo := 0) (n := ((m : Nat) : Int).toNat) (fun i H' => Dr st L Hd H' ∧ ∃ us ts, H' D = some (.lst us) ∧ Tps H' us (ts.map tD) ∧ ts.length = i ∧ ∀ t ∈ ts, TermB t) ⟨Dr.new gd nD, [], [], upd_same, .nil, rfl, fun t h => by cases h⟩ (fun i H' hi hP => ?_) (fun He hP => ?_)
    · obtain ⟨dd, us, ts, eD, tu, lt, ht⟩ := hP
      refine ⟨rfl, iteT (B := True) ?_⟩
      refine ⟨.ref st, rfl, .ref b2, rfl, st, L, b2, bs, rfl, dd.good, dd.at_ n2 e2d, n2, lb40, hb, fun v t H5 d5 tv tb => ?_⟩
      have lu := tu.length
      rw [List.length_map] at lu
      have eD5 := d5.at_ nDst eD
      refine ⟨us, eD5, small1000 (by omega), (dd.trans d5).put gd nD, us ++ [v], ts ++ [t], upd_same, ?_, by rw [List.length_append, lt]; rfl, fun t2 h2 => ?_⟩
      · rw [List.map_append]
        exact ((tu.mono (d5.tk dd.good)).mono (Tk.lst eD5)).append (.cons (tv.mono (Tk.lst eD5)) .nil)
      · rcases List.mem_append.mp h2 with h2 | h2
        · exact ht t2 h2
        · rw [List.mem_singleton.mp h2]
          exact tb
    obtain ⟨dde, us, ts, eD, tu, lt, ht⟩ := hP
    have lt : ts.length = m := by rw [lt, Int.toNat_natCast]
    have d2e := d2d.trans dde
    have dae := ((dac.trans dcq).trans dd10).trans dde
    refine ⟨fun σ H' => ∃ (y : Addr) (us : List V) (ts : List T) (x9 x10 : Option V), σ = [some (.ref st), some (.ref wd), some (.str rl), some (.ref p), some (.ref ub), some (.ref b2), x8, some (.int (m : Int)), some (.ref y), x9, x10] ∧ Dr st L Ha H' ∧ H' y = some (.lst us) ∧ Tps H' us (ts.map tD) ∧ y ≠ st ∧ ts.length = m ∧ ∀ t ∈ ts, TermB t, ?_, ?_⟩
    · refine ⟨.ref st, rfl, st, L, 8, rfl, d2e.good, by decide, by decide, fun v11 Hf df _ _ => ⟨_, 0, rfl, rfl, _, rfl, ite2 (fun _ => ?_) (fun _ => ?_)⟩⟩
      · have eDf := df.at_ nDst eD
        have tuf := tu.mono (df.tk d2e.good)
        have e2f := df.at_ n2 (dde.at_ n2 e2d)
        have daf := dae.trans df
        refine ⟨.ref D, rfl, D, rfl, ⟨_, SqL.of eDf⟩, fun D2 nD2 => ?_⟩
        have nD2st : D2 ≠ st := fun z => daf.good.not_none (by rw [← z]; exact nD2)
        have lus : us.length = ts.length := by rw [tuf.length, List.length_map]
        refine lc_tps walk_list ((ts.map fun t => settled t bs).map tD) (by rw [List.length_map, List.length_map, lus]) (by omega) nD2 (fun H5 sm => SqL.of (sm _ _ eDf)) (fun i x H5 H6 Q2 R hi sm hY qq => ?_) (fun H3 acc sm eA tA => ?_)
        · obtain ⟨rfl, hx⟩ := hY
          obtain ⟨t, et, tt⟩ := term_get tuf hx
          refine ⟨rfl, iteT (B := True) ?_⟩
          refine ⟨x, rfl, .ref b2, rfl, x, b2, t, bs, rfl, tt.mono (Tk.of sm), sm _ _ e2f, fun v' H7 s7 tv' => qq v' H7 _ s7 ?_ tv'⟩
          rw [List.getElem?_map, List.getElem?_map, et]
          rfl
        · refine ⟨D2, acc, _, _, _, rfl, daf.trans (Dr.same daf.good sm), eA, tA, nD2st, by rw [List.length_map]; omega, fun t h => ?_⟩
          obtain ⟨t0, h0, rfl⟩ := List.mem_map.mp h
          exact settled_n (ht t0 h0)
      · exact ⟨D, us, ts, _, _, rfl, dae.trans df, df.at_ nDst eD, tu.mono (df.tk d2e.good), nDst, lt, ht⟩
    rintro σ Hf ⟨y, us, ts, x9, x10, rfl, daf, ey, tu, nyst, lts, ht⟩
    refine ⟨.str rl, rfl, .ref y, rfl, y, us, rfl, .inl ⟨SqL.of ey, fun tp ntp => ?_⟩⟩
    generalize hG : upd _ tp _ = Hh
    obtain ⟨sh, eh⟩ := gen_up hG ntp
    clear hG
    refine ⟨.ref ub, rfl, len3, fun rp nrp => ?_⟩
    generalize hG : upd _ rp _ = Hi
    obtain ⟨si, ei⟩ := gen_up hG nrp
    clear hG
    have sgi := sh.trans si
    have dai := daf.trans (Dr.same daf.good sgi)
    have nust : ub ≠ st := fun z => by
      obtain ⟨_, _, _, _, e', _⟩ := ga
      rw [z, e'] at eub
      cases eub
    exact q rp tp ub rl us xb ts ls Hi ((d12.trans d2a).trans dai) ei (si _ _ eh) (tu.mono (Tk.of sgi)) (by omega) (by omega) ht (dai.at_ nust eub) (txb.mono (dai.tk ga)) bn
abbrev dDR (P : Program) (w : World) (K : PySem.W.Frag) (mg : Str → Option Value) (base : Heap) : Prop := Def P w K mg base "_law_drawn_rule" 6 ["state", "widths_v"] spDR
end
end KU

namespace KU
open PySem PySem.Spec PyProof.Rows PySem.HandSPX L2 KA
/-- the width that the last of the rules of x gives it -/
def lastW : List (Str × Nat) → Str → Option Nat
  | [], _ => none
  | e :: l, x => match lastW l x with
    | some n => some n
    | none => if e.1 = x then some e.2 else none
theorem lastW_mem {x : Str} {n : Nat} : ∀ {l : List (Str × Nat)}, lastW l x = some n → (x, n) ∈ l
  | [], h => by cases h
  | e :: l, h => by
    unfold lastW at h
    cases c : lastW l x with
    | some m => rw [c] at h; cases h; exact List.mem_cons_of_mem _ (lastW_mem c)
    | none =>
      rw [c] at h
      by_cases k : e.1 = x
      · have h : (if e.1 = x then some e.2 else none) = some n := h
        rw [if_pos k] at h
        cases h
        obtain ⟨a, b⟩ := e
        have k : a = x := k
        subst k
        exact List.mem_cons_self
      · have h : (if e.1 = x then some e.2 else none) = some n := h
        rw [if_neg k] at h
        cases h
theorem lastW_none {x : Str} : ∀ {l : List (Str × Nat)}, lastW l x = none ↔ ∀ e ∈ l, e.1 ≠ x
  | [] => ⟨fun _ e he => (by cases he), fun _ => rfl⟩
  | e :: l => by
    unfold lastW
    cases c : lastW l x with
    | some m =>
      refine ⟨(fun z => by cases z), fun z => ?_⟩
      exact absurd rfl (z (x, m) (List.mem_cons_of_mem _ (lastW_mem c)))
    | none =>
      have ih := lastW_none.mp c
      show (if e.1 = x then some e.2 else none) = none ↔ _
      by_cases k : e.1 = x
      · rw [if_pos k]
        exact ⟨(fun z => by cases z), fun z => absurd k (z e List.mem_cons_self)⟩
      · rw [if_neg k]
        refine ⟨fun _ a ha => ?_, fun _ => rfl⟩
        rcases List.mem_cons.mp ha with rfl | ha
        · exact k
        · exact ih a ha
theorem val_rl {x : Str} : ∀ (l : List (Str × Nat)) (acc : List (Key × V)), valV (l.foldl (fun acc e => putK acc (Sum.inr e.1 : Key) (.int (e.2 : Nat))) acc) (Sum.inr x : Key) = match lastW l x with
    | some n => some (.int (n : Nat))
    | none => valV acc (Sum.inr x : Key)
  | [], acc => rfl
  | e :: l, acc => by
    rw [List.foldl_cons, val_rl l, show lastW (e :: l) x = (match lastW l x with
      | some n => some n
      | none => if e.1 = x then some e.2 else none) from rfl]
    cases c : lastW l x with
    | some m => rfl
    | none =>
      show valV (putK acc (Sum.inr e.1 : Key) (.int (e.2 : Nat))) (Sum.inr x : Key) = _
      rw [valV_put]
      show _ = match (if e.1 = x then some e.2 else none) with
        | some n => some (V.int (n : Nat))
        | none => valV acc (Sum.inr x : Key)
      by_cases k : e.1 = x
      · rw [if_pos k, if_pos (by rw [k])]
      · rw [if_neg k, if_neg (fun z => k (inr_iff.mp z).symm)]
theorem lastW_some {R : List Ru} {x : Str} {n : Nat} {p : Ru → Bool} : (∀ e ∈ R, p e = false → e.rl ≠ x ∨ e.ts.length ≠ n) → lastW (rlOf R) x = some n → lastW (rlOf (R.filter p)) x = some n := by
  induction R with
  | nil => intro _ h; cases h
  | cons e l ih =>
    intro hp h
    have h : (match lastW (rlOf l) x with
      | some n => some n
      | none => if e.rl = x then some e.ts.length else none) = some n := h
    cases c : lastW (rlOf l) x with
    | some m =>
      rw [c] at h
      cases h
      have ih := ih (fun a ha => hp a (List.mem_cons_of_mem _ ha)) c
      cases pe : p e with
      | true =>
        rw [List.filter_cons_of_pos pe]
        show (match lastW (rlOf (l.filter p)) x with
          | some n => some n
          | none => if e.rl = x then some e.ts.length else none) = _
        rw [ih]
      | false =>
        rw [List.filter_cons_of_neg (by rw [pe]; exact Bool.false_ne_true)]
        exact ih
    | none =>
      rw [c] at h
      have h : (if e.rl = x then some e.ts.length else none) = some n := h
      by_cases k : e.rl = x
      · rw [if_pos k] at h
        cases h
        have pe : p e = true := by
          cases pe : p e with
          | true => rfl
          | false => exact absurd (hp e List.mem_cons_self pe) (fun z => z.elim (fun z => z k) fun z => z rfl)
        rw [List.filter_cons_of_pos pe]
        have n2 : lastW (rlOf (l.filter p)) x = none := lastW_none.mpr fun a ha => by
          obtain ⟨r, hr, rfl⟩ := List.mem_map.mp ha
          exact lastW_none.mp c _ (List.mem_map.mpr ⟨r, (List.mem_filter.mp hr).1, rfl⟩)
        show (match lastW (rlOf (l.filter p)) x with
          | some n => some n
          | none => if e.rl = x then some e.ts.length else none) = _
        rw [n2]
        show (if e.rl = x then some e.ts.length else none) = _
        rw [if_pos k]
      · rw [if_neg k] at h
        cases h
theorem lastW_else {R : List Ru} {x : Str} {p : Ru → Bool} (h : ∀ e ∈ R, p e = false → e.rl ≠ x) : lastW (rlOf (R.filter p)) x = lastW (rlOf R) x := by
  cases c : lastW (rlOf R) x with
  | some n => exact lastW_some (fun e he z => .inl (h e he z)) c
  | none =>
    refine lastW_none.mpr fun a ha => ?_
    obtain ⟨r, hr, rfl⟩ := List.mem_map.mp ha
    exact lastW_none.mp c _ (List.mem_map.mpr ⟨r, (List.mem_filter.mp hr).1, rfl⟩)
/-- a dict of names and numbers from 0 -/
def KrN (kr : List (Key × V)) : Prop := nd kr ∧ ∀ k v, (k, v) ∈ kr → ∃ (nm : Str) (n : Nat), k = Sum.inr nm ∧ v = .int (n : Int)
def wdLaw (kr : List (Key × V)) (R : List Ru) (x : Str) : Option Nat := match valV kr (Sum.inr x : Key) with
  | some v => natV (some v)
  | none => lastW (rlOf R) x
theorem widK_law {kr : List (Key × V)} (h : KrN kr) (R : List Ru) : WidK (mergeK (rlK (rlOf R)) kr) (wdLaw kr R) := fun x => by
  rw [val_merge kr _ h.1]
  unfold wdLaw
  cases c : valV kr (Sum.inr x : Key) with
  | some v =>
    obtain ⟨nm, n, _, rfl⟩ := h.2 _ _ ((mem_val h.1).mp c)
    show some (V.int (n : Int)) = some (V.int (((n : Int).toNat : Nat) : Int))
    rw [Int.toNat_natCast]
  | none =>
    show valV (rlK (rlOf R)) (Sum.inr x : Key) = _
    unfold rlK
    rw [val_rl]
    cases lastW (rlOf R) x with
    | some n => rfl
    | none => rfl
def others (R : List Ru) (r : Ru) : List Ru := R.filter fun x => decide (x.nm ≠ r.nm)
def DueR (kr : List (Key × V)) (R : List Ru) (r : Ru) : Prop := aloneP (valV kr (Sum.inr r.rl : Key)).isSome (wdLaw kr (others R r)) r.rl r.ts r.ls = none ∧ ¬ Ring R ∧ ∀ r' ∈ R, ¬ Grow R r'
def DueS (kr : List (Key × V)) (fl : List (Str × List Key)) (R : List Ru) (D : List (Str × List L)) : Prop := (∀ e ∈ fl, valV kr (Sum.inr e.1 : Key) = some (.int (e.2.length : Nat))) ∧ (∀ r ∈ R, DueR kr R r) ∧ ∀ d ∈ D, (bodyP (wdLaw kr R) [] d.2).1 = none
theorem others_not {R : List Ru} {r e : Ru} (n : (R.map Ru.nm).Nodup) (hr : r ∈ R) (he : e ∈ R) (h : decide (e.nm ≠ r.nm) = false) : e = r := by
  have h := of_decide_eq_false h
  by_cases c : e.nm = r.nm
  · exact same_nm n he hr c
  · exact absurd c h
theorem wdW_others {kr : List (Key × V)} {R : List Ru} {r : Ru} (n : (R.map Ru.nm).Nodup) (hr : r ∈ R) (m : Nat) : wdW (wdLaw kr (others R r)) r.rl m = wdW (wdLaw kr R) r.rl m := by
  funext x
  unfold wdW
  by_cases c : x = r.rl
  · rw [if_pos c, if_pos c]
  · rw [if_neg c, if_neg c]
    unfold wdLaw others
    rw [lastW_else (x := x)]
    intro e he z
    have := others_not n hr he z
    subst this
    exact fun y => c y.symm
section
variable {its : List It1} {kr : List (Key × V)} {fl : List (Str × List Key)} {R : List Ru} {D : List (Str × List L)}
theorem widAny_law (hk : KrN kr) (hrel : ∀ nm n, It1.rel nm n ∈ its ↔ valV kr (Sum.inr nm : Key) = some (.int n)) (ro : RulesOf its R) : WidAny its (wdLaw kr R) := by
  refine ⟨fun nm n h => ?_, fun nm rl ts bd h no => ?_, fun x k h => ?_⟩
  · unfold wdLaw
    rw [(hrel nm n).mp h]
    rfl
  · have c : valV kr (Sum.inr rl : Key) = none := by
      cases c : valV kr (Sum.inr rl : Key) with
      | none => rfl
      | some v =>
        obtain ⟨_, n, _, rfl⟩ := hk.2 _ _ ((mem_val hk.1).mp c)
        exact absurd ((hrel rl n).mpr c) (no n)
    obtain ⟨r, hr, e⟩ := ro.2 _ _ _ _ h
    unfold ruI at e
    injection e with e1 e2 e3 e4
    cases c2 : lastW (rlOf R) rl with
    | none => exact absurd e2 (lastW_none.mp c2 _ (List.mem_map.mpr ⟨r, hr, rfl⟩))
    | some m =>
      obtain ⟨r', hr', e'⟩ := List.mem_map.mp (lastW_mem c2)
      injection e' with f1 f2
      refine ⟨r'.nm, r'.ts.map tD, .tuple (r'.ls.map litD), ?_, ?_⟩
      · rw [← f1]
        exact ro.1 r' hr'
      · unfold wdLaw
        rw [c]
        show lastW (rlOf R) rl = _
        rw [c2, List.length_map, f2]
  · unfold wdLaw at h
    cases c : valV kr (Sum.inr x : Key) with
    | some v =>
      obtain ⟨_, n, _, rfl⟩ := hk.2 _ _ ((mem_val hk.1).mp c)
      exact .inl ⟨n, (hrel x n).mpr c⟩
    | none =>
      rw [c] at h
      obtain ⟨r, hr, e⟩ := List.mem_map.mp (lastW_mem (show lastW (rlOf R) x = some k from h))
      injection e with e1 e2
      refine .inr ⟨r.nm, .tuple (r.ts.map tD), .tuple (r.ls.map litD), ?_⟩
      rw [← e1]
      exact ro.1 r hr
theorem base_some (hk : KrN kr) (hrel : ∀ nm n, It1.rel nm n ∈ its ↔ valV kr (Sum.inr nm : Key) = some (.int n)) (x : Str) : valV kr (Sum.inr x : Key) = none ↔ ∀ n, It1.rel x n ∉ its := by
  constructor
  · intro c n h
    rw [(hrel x n).mp h] at c
    cases c
  · intro no
    cases c : valV kr (Sum.inr x : Key) with
    | none => rfl
    | some v =>
      obtain ⟨_, n, _, rfl⟩ := hk.2 _ _ ((mem_val hk.1).mp c)
      exact absurd ((hrel x n).mpr c) (no n)
theorem aloneP_none {wd : Str → Option Nat} {isb : Bool} {r : Ru} : aloneP isb wd r.rl r.ts r.ls = none ↔ isb = false ∧ offW wd r.rl r.ts.length = false ∧ 1 ≤ r.ts.length ∧ r.ts.length ≤ 4 ∧ tailP wd r.rl r.ts r.ls = none := by
  unfold aloneP aloneQ
  cases isb with
  | true => exact ⟨(fun z => by cases z), (fun z => by cases z.1)⟩
  | false =>
    rw [if_neg Bool.false_ne_true]
    cases offW wd r.rl r.ts.length with
    | true =>
      rw [Bool.true_or, if_pos rfl]
      exact ⟨(fun z => by cases z), (fun z => by cases z.2.1)⟩
    | false =>
      rw [Bool.false_or]
      by_cases c1 : 1 ≤ r.ts.length
      · by_cases c2 : r.ts.length ≤ 4
        · rw [decide_eq_true c1, decide_eq_true c2, if_neg (by exact Bool.false_ne_true)]
          exact ⟨fun z => ⟨rfl, rfl, c1, c2, z⟩, fun z => z.2.2.2.2⟩
        · rw [decide_eq_false c2, Bool.and_false, Bool.not_false, if_pos rfl]
          exact ⟨(fun z => by cases z), fun z => absurd z.2.2.2.1 c2⟩
      · rw [decide_eq_false c1, Bool.false_and, Bool.not_false, if_pos rfl]
        exact ⟨(fun z => by cases z), fun z => absurd z.2.2.1 c1⟩
theorem sound_due (hk : KrN kr) (hrel : ∀ nm n, It1.rel nm n ∈ its ↔ valV kr (Sum.inr nm : Key) = some (.int n)) (hfact : ∀ nm ds, It1.fact nm ds ∈ its ↔ ∃ e ∈ fl, e.1 = nm ∧ ds = e.2.map keyD) (ro : RulesOf its R) (tu : TupR its) (nn : (R.map Ru.nm).Nodup) : SoundS its R D ↔ DueS kr fl R D := by
  have wl := widAny_law hk hrel ro
  constructor
  · rintro ⟨fit, cl, wt, nr, ng⟩
    refine ⟨fun e he => ?_, fun r hr => ⟨aloneP_none.mpr ?_, nr, ng⟩, (wt _ wl).2⟩
    · obtain ⟨n, h1, h2⟩ := fit e.1 _ ((hfact _ _).mpr ⟨e, he, rfl, rfl⟩)
      rw [List.length_map] at h2
      rw [(hrel _ _).mp h1, h2]
    · obtain ⟨c1, c2, c3, c4⟩ := cl r hr
      have nb := (base_some hk hrel r.rl).mpr c1
      refine ⟨by rw [nb]; rfl, ?_, c3, c4, ?_⟩
      · unfold offW
        cases c : wdLaw kr (others R r) r.rl with
        | none => rfl
        | some m =>
          unfold wdLaw at c
          rw [nb] at c
          obtain ⟨r', hr', e⟩ := List.mem_map.mp (lastW_mem (show lastW (rlOf (others R r)) r.rl = some m from c))
          injection e with e1 e2
          have := c2 r' (List.mem_filter.mp hr').1 e1
          show (!decide (m = r.ts.length)) = false
          rw [decide_eq_true (e2.symm.trans this)]
          rfl
      · have := (wt _ wl).1 r hr
        unfold tailP at this ⊢
        rw [wdW_others nn hr]
        exact this
  · rintro ⟨fit, du, dd⟩
    have cl : ∀ r ∈ R, CleanOne its R r := fun r hr => by
      obtain ⟨a, _⟩ := du r hr
      obtain ⟨a1, a2, a3, a4, a5⟩ := aloneP_none.mp a
      have nbr : ∀ {q : Ru}, q ∈ R → valV kr (Sum.inr q.rl : Key) = none := fun {q} hq => by
        have := (aloneP_none.mp (du q hq).1).1
        cases c : valV kr (Sum.inr q.rl : Key) with
        | none => rfl
        | some v => rw [c] at this; cases this
      refine ⟨(base_some hk hrel r.rl).mp (nbr hr), fun r' hr' e => ?_, a3, a4⟩
      cases c : lastW (rlOf R) r.rl with
      | none => exact absurd rfl (lastW_none.mp c _ (List.mem_map.mpr ⟨r, hr, rfl⟩))
      | some m =>
        have key : ∀ q ∈ R, q.rl = r.rl → q.ts.length = m := fun q hq eq => by
          by_cases k : q.ts.length = m
          · exact k
          · have h1 : lastW (rlOf (others R q)) r.rl = some m := lastW_some (fun e he z => by
              have := others_not nn hq he z
              subst this
              exact .inr k) c
            have h2 := (aloneP_none.mp (du q hq).1).2.1
            unfold offW wdLaw at h2
            rw [nbr hq, eq, h1] at h2
            have h2 : (!decide (m = q.ts.length)) = false := h2
            rw [decide_eq_false (fun z => k z.symm)] at h2
            cases h2
        rw [key r' hr' e, key r hr rfl]
    refine ⟨fun nm ds h => ?_, cl, fun wd wy => ⟨fun r hr => ?_, fun d hd => ?_⟩, fun ⟨r, hr, z⟩ => (du r hr).2.1 ⟨r, hr, z⟩, fun r hr => (du r hr).2.2 r hr⟩
    · obtain ⟨e, he, rfl, rfl⟩ := (hfact _ _).mp h
      exact ⟨_, (hrel _ _).mpr (fit e he), by rw [List.length_map]⟩
    · rw [wid_one ro tu cl wy wl]
      have := (aloneP_none.mp (du r hr).1).2.2.2.2
      unfold tailP at this ⊢
      rw [wdW_others nn hr] at this
      exact this
    · rw [wid_one ro tu cl wy wl]
      exact dd d hd
end
end KU

namespace KU
open PySem PySem.Spec PyProof.Rows PySem.HandSPX L2 KA
theorem alone_txt {isb : Bool} {wd : Str → Option Nat} {rl : Str} {ts : List T} {ls : List L} {d : PyData} (h : aloneP isb wd rl ts ls = some d) : txtT d := by
  unfold aloneP aloneQ at h
  cases isb with
  | true => rw [if_pos rfl] at h; cases h; exact ⟨["base", rl], rfl, by show 2 ≤ 3; decide⟩
  | false =>
    rw [if_neg Bool.false_ne_true] at h
    split at h
    · cases h; exact ⟨["width", rl], rfl, by show 2 ≤ 3; decide⟩
    · split at h
      · rename_i d' e
        cases h
        exact bodyP_txt e
      · exact loose_txt h
theorem edge_txt {R : List Ru} {eo : Option PyData} (h : EdgeP R eo) {d : PyData} (e : eo = some d) : txtT d := by
  rcases h with ⟨_, b⟩ | ⟨_, ⟨r, _, _, b⟩ | ⟨_, b⟩⟩
  · rw [e] at b; cases b; exact ⟨["ring"], rfl, by show 1 ≤ 3; decide⟩
  · rw [e] at b; cases b; exact ⟨["grows", r.nm], rfl, by show 2 ≤ 3; decide⟩
  · rw [e] at b; cases b
theorem txt_ne {d : PyData} (h : txtT d) : d ≠ .none := fun z => by
  obtain ⟨zs, e, _⟩ := h
  rw [e] at z
  cases z
theorem ruk_drop {H : Hp} {nm : Str} : ∀ {R : List Ru} {ku : List (Key × V)}, RuK H ku R → RuK H (dropK ku (Sum.inr nm : Key)) (R.filter fun x => decide (x.nm ≠ nm))
  | [], ku, h => by
    have h1 : ku = [] := List.map_eq_nil_iff.mp h.1
    subst h1
    exact h
  | r :: R, [], h => by cases h.1
  | r :: R, (k, v) :: ku, h => by
    obtain ⟨h1, h2⟩ := h
    have h1 : k :: ku.map (·.1) = (Sum.inr r.nm : Key) :: R.map (fun r => (Sum.inr r.nm : Key)) := h1
    injection h1 with h1 h3
    cases h2 with
    | cons a1 a2 =>
      have ih := ruk_drop (nm := nm) (R := R) (ku := ku) ⟨h3, a2⟩
      unfold dropK at ih ⊢
      subst h1
      by_cases c : r.nm = nm
      · rw [List.filter_cons_of_neg (by rw [decide_eq_false (fun z => z (by rw [c]))]; exact Bool.false_ne_true), List.filter_cons_of_neg (by rw [decide_eq_false (fun z => z c)]; exact Bool.false_ne_true)]
        exact ih
      · rw [List.filter_cons_of_pos (by exact decide_eq_true (fun z => c (inr_iff.mp z))), List.filter_cons_of_pos (by exact decide_eq_true c)]
        exact ⟨by rw [List.map_cons, List.map_cons, ih.1], .cons a1 ih.2⟩
theorem eqv_nones : ∀ {ds : List (Option PyData)}, (∀ d, some d ∈ ds → ∃ zs, d = .tuple zs) → (PyData.eqvAll (ds.map optD) (List.replicate ds.length .none) = true ↔ ∀ d ∈ ds, d = none)
  | [], _ => ⟨fun _ d hd => (by cases hd), fun _ => by simp [PyData.eqvAll]⟩
  | o :: ds, h => by
    have ih := eqv_nones (ds := ds) fun d hd => h d (List.mem_cons_of_mem _ hd)
    rw [List.map_cons, List.length_cons, List.replicate_succ]
    cases o with
    | none =>
      have e : PyData.eqvAll (optD none :: ds.map optD) (.none :: List.replicate ds.length .none) = PyData.eqvAll (ds.map optD) (List.replicate ds.length .none) := by
        show PyData.eqvAll (.none :: ds.map optD) _ = _
        simp [PyData.eqvAll, PyData.eqv]
      rw [e, ih]
      constructor
      · intro z d hd
        rcases List.mem_cons.mp hd with rfl | hd
        · rfl
        · exact z d hd
      · exact fun z d hd => z d (List.mem_cons_of_mem _ hd)
    | some d =>
      obtain ⟨zs, rfl⟩ := h d List.mem_cons_self
      have e : PyData.eqvAll (optD (some (.tuple zs)) :: ds.map optD) (.none :: List.replicate ds.length .none) = false := by
        show PyData.eqvAll (.tuple zs :: ds.map optD) _ = _
        simp [PyData.eqvAll, PyData.eqv]
      rw [e]
      exact ⟨(fun z => by cases z), fun z => by have := z _ List.mem_cons_self; cases this⟩
section
variable {P : Program} {w : World} {K : PySem.W.Frag} {mg : Str → Option Value} {base : Heap}
abbrev sDU : Stmt := topS 55
abbrev nDU : List Str := ["world", "facts", "denials", "name", "row", "rules", "relation", "terms", "body"]
theorem scDU : FnScope nDU ["world", "facts", "denials"] (defScope sDU) := ⟨rfl, rfl, rfl, by decide +kernel, rfl, by decide +kernel, by decide +kernel⟩
def spDU : Sp := fun vs H Q _ => ∃ (W Rr U fa da : Addr) (kr ku kd : List (Key × V)) (fs : List V) (fl : List (Str × List Key)) (R : List Ru) (D : List (Str × List L)), vs = [.ref W, .ref fa, .ref da] ∧ Wo H W Rr U kr ku R ∧ KrN kr ∧ (∀ r ∈ R, r.ts.length ≤ 100 ∧ BodyN r.ls) ∧ Rr ≠ U ∧
  H fa = some (.lst fs) ∧ Tps H fs (fl.map fun e => .tuple [.str e.1, .tuple (e.2.map keyD)]) ∧ H da = some (.dK kd) ∧ kd.map (·.1) = D.map (fun d => (Sum.inr d.1 : Key)) ∧ Tps H (kd.map (·.2)) (D.map fun d => .tuple (d.2.map litD)) ∧ (D.map (·.1)).Nodup ∧ (∀ d ∈ D, BodyN d.2) ∧ D.length ≤ 100 ∧ da ≠ W ∧ da ≠ U ∧ da ≠ Rr ∧
  ∀ b H', Same H H' → (b = true ↔ DueS kr fl R D) → Q (.bl b) H'
theorem ok_du {f : Addr} {fd : FuncData} (F : Fun K "_law_is_due" "_law_is_due" sDU f fd) (B : Bt mg) (Bx : Bt2 mg) (DRP : dRP P w K mg base) (DBp : dBp P w K mg base) (DWi : dWi P w K mg base) : FnOk P w K mg base CX0 5 f fd ["world", "facts", "denials"] spDU := by
  refine F.ok scDU (fun vs H Q E h => ?_) (fun cdv A outer s H vs Q E hr h => ?_)
  · obtain ⟨_, _, _, _, _, _, _, _, _, _, _, _, rfl, _⟩ := h
    rfl
  · obtain ⟨W, Rr, U, fa, da, kr, ku, kd, fs, fl, R, D, rfl, wo, hk, hR, nRU, efa, tfa, eda, kdk, kdt, ndD, hD, lD, ndW, ndU, ndR, q⟩ := h
    have hu := hu_of hr
    refine ⟨_, (pss_cons (ps_for PassesOwn.never rfl (pi_list (pv 1)) (pg_tup rfl (pgs_cons (pg_name (i := 3) scDU.nd rfl (Or.inl rfl)) (pgs_cons (pg_name (i := 4) scDU.nd rfl (Or.inl rfl)) pgs_nil)))
        (pss_one (ps_if (pt_cmpR op_ne (pe_dget1 hu (pe_dget hu (pv 0) pe_str (fun _ _ => rfl)) (pv 3) ⟨rfl, rfl, rfl, rfl⟩) (pe_callB call_lenK (by rfl) B.len PySem.boot_len (pa_cons (pv 4) pa_nil)) (nomark _))
          (pss_one (ps_ret pe_bl))
          pss_nil)))
      (pss_cons (ps_lock (ps_for PassesOwn.never rfl (pi_keys (pe_dget hu (pv 0) pe_str (fun _ _ => rfl))) (pg_name (i := 3) scDU.nd rfl (Or.inl rfl))
        (pss_cons (ps_set (i := 5) scDU.nd rfl (.inl rfl) (pe_callTy call_dictD (by rfl) Bx.dict (by decide +kernel) (pa_cons (pe_dget hu (pv 0) pe_str (fun _ _ => rfl)) pa_nil)))
        (pss_cons (ps_asg (pe_dpop1 (pv 5) (pv 3) ⟨rfl, rfl, rfl, rfl⟩) (pg_tup rfl (pgs_cons (pg_name (i := 6) scDU.nd rfl (Or.inl rfl)) (pgs_cons (pg_name (i := 7) scDU.nd rfl (Or.inl rfl)) (pgs_cons (pg_name (i := 8) scDU.nd rfl (Or.inl rfl)) pgs_nil)))))
        (pss_one (ps_if (pt_cmpR op_notN (pe_def DRP (hr.mono (by decide)) (by rfl) (pa_cons (pe_disp (pps_cons pe_str (pe_dget hu (pv 0) pe_str (fun _ _ => rfl)) (pps_cons pe_str (pv 5) pps_nil)) (by rfl) (by rfl) (fun z => by cases z) (by decide)) (pa_cons (pv 3) (pa_cons (pv 6) (pa_cons (pv 7) (pa_cons (pv 8) pa_nil)))))) pe_non (nomark _))
          (pss_one (ps_ret pe_bl))
          pss_nil))))))
      (pss_one (ps_ret (pe_cmpR (op_eqQ hr.units) (pe_lock (pe_lc (own := [("name", 3)]) (g := (gName 3)) (tt := tYes) (te := (tOp (rIxT K) (tCall spBp [] E0 (tCons (tCall spWi [] E0 (tCons (tVar 0) tNil)) (tCons (tDGet (tVar 2) (tVar 3)) tNil))) (tC (.int 0)))) rfl scDU.nd (pi_keys (pv 2)) (blkOk_by (own := [("name", 3)]) (N := nDU) (sc := defScope sDU) (by decide +kernel)) (fun _ _ _ _ _ => (pg_name (i := 3) scDU.nd rfl (Or.inl rfl))) (fun _ _ _ _ _ => pts_nil) (fun _ _ _ _ _ => (pe_ix ix_tup (pe_def DBp (hr.mono (by decide)) (by rfl) (pa_cons (pe_def DWi (hr.mono (by decide)) (by rfl) (pa_cons (pv 0) pa_nil)) (pa_cons (pe_dget hu (pv 2) (pv 3) (fun _ _ => rfl)) pa_nil))) pe_int (fun _ _ => rfl))))) (pe_op op_rep (pe_lst (pa_cons pe_non pa_nil)) (pe_callB call_lenD (by rfl) B.len PySem.boot_len (pa_cons (pv 2) pa_nil))) (nomark _)))))), ?_⟩
    have gR : ∀ {Hx : Hp}, Hx W = some (.dK [(.inr "relations", .ref Rr), (.inr "rules", .ref U)]) → DGet Hx W (.str "relations") (some (.ref Rr)) := fun o => .inl ⟨_, Sum.inr "relations", .inl o, rfl, rfl⟩
    have gU : ∀ {Hx : Hp}, Hx W = some (.dK [(.inr "relations", .ref Rr), (.inr "rules", .ref U)]) → DGet Hx W (.str "rules") (some (.ref U)) := fun o => .inl ⟨_, Sum.inr "rules", .inl o, rfl, rfl⟩
    -- the facts
    refine ⟨.ref fa, rfl, fa, rfl, ⟨_, SqL.of efa⟩, ?_⟩
    have lfs := tfa.length
    rw [List.length_map] at lfs
    refine for_list (K := K) (a := fa) (xs := fs) (fun i σ H' => (∃ y3 y4, σ = [some (.ref W), some (.ref fa), some (.ref da), y3, y4, none, none, none, none]) ∧ Same H H' ∧ ∀ e ∈ fl.take i, valV kr (Sum.inr e.1 : Key) = some (.int (e.2.length : Nat))) ⟨⟨_, _, rfl⟩, (fun _ _ h => h), fun e he => by cases he⟩ (fun i σ H' _ hP => SqL.of (hP.2.1 _ _ efa)) (fun i x σ H' hi hP => ?_) (fun σ H1 hP => ?_)
    · obtain ⟨⟨y3, y4, rfl⟩, sm, hf⟩ := hP
      obtain ⟨d', ed', td⟩ := tfa.get hi
      rw [List.getElem?_map] at ed'
      obtain ⟨e, ee, rfl⟩ := Option.map_eq_some_iff.mp ed'
      have td := td.mono (Tk.of sm)
      obtain ⟨t, rw', zs, rfl, et, erw, tz⟩ : ∃ t rw' zs, x = .ref t ∧ H' t = some (.tup [.str e.1, .ref rw']) ∧ H' rw' = some (.tup zs) ∧ Tps H' zs (e.2.map keyD) := by
        cases td with
        | tup a1 a2 => cases a2 with
          | cons b1 a2 => cases a2 with
            | cons b2 a2 =>
              cases a2
              cases b1
              cases b2 with
              | tup c1 c2 => exact ⟨_, _, _, rfl, a1, c1, c2⟩
      have ltz := tz.length
      rw [List.length_map] at ltz
      refine ⟨t, _, rfl, SqT.of et, rfl, _, _, rfl, _, _, rfl, rfl, ?_⟩
      have hsc : scal ((valV kr (Sum.inr e.1 : Key)).getD .non) (V.int ((zs.length : Nat) : Int)) = true := by
        cases c : valV kr (Sum.inr e.1 : Key) with
        | none => rfl
        | some v =>
          obtain ⟨_, n, _, rfl⟩ := hk.2 _ _ ((mem_val hk.1).mp c)
          rfl
      refine ⟨.ref W, rfl, W, .ref Rr, rfl, gR (sm _ _ wo.hW), Rr, rfl, .inl ⟨_, .of (sm _ _ wo.hR)⟩, .str e.1, rfl, valV kr (Sum.inr e.1 : Key), DGet.k (k := Sum.inr e.1) (sm _ _ wo.hR), .ref rw', rfl, rw', zs, rfl, .inr (SqT.of erw), hsc, _, rfl, ?_⟩
      by_cases c : valV kr (Sum.inr e.1 : Key) = some (.int (e.2.length : Nat))
      · refine iteF' (by rw [c, ltz]; show (!decide (V.int ((e.2.length : Nat) : Int) = V.int ((e.2.length : Nat) : Int))) = false; rw [decide_eq_true rfl]; rfl) ⟨⟨_, _, rfl⟩, sm, fun e' he' => ?_⟩
        rw [take_next ee] at he'
        rcases List.mem_append.mp he' with he' | he'
        · exact hf e' he'
        · rw [List.mem_singleton.mp he']
          exact c
      · refine iteT' ?_ (q false _ sm ⟨(fun z => by cases z), fun z => absurd (z.1 e (List.mem_of_getElem? ee)) c⟩)
        rw [decide_eq_false]
        · rfl
        · intro z
          refine c ?_
          cases c2 : valV kr (Sum.inr e.1 : Key) with
          | none => rw [c2] at z; cases z
          | some v => rw [c2] at z; rw [← ltz]; exact congrArg some z
    obtain ⟨⟨y3, y4, rfl⟩, s1, hf⟩ := hP
    rw [lfs, List.take_length] at hf
    -- the rules
    refine ⟨U, .dK ku, s1 _ _ wo.hU, trivial, fun od => ?_⟩
    have L1 : ∀ a o, a ≠ U → H a = some o → (upd H1 U (.frz od (.dK ku))) a = some o := fun a o n h => by rw [upd_ne n]; exact s1 _ _ h
    refine ⟨.ref W, rfl, W, .ref U, rfl, gU (L1 _ _ wo.ne wo.hW), U, od, rfl, .inl ⟨ku, upd_same, ?_⟩⟩
    have thawU : ∀ {H' : Hp}, H' U = some (.frz od (.dK ku)) → (∀ a o, a ≠ U → H a = some o → H' a = some o) → Same H (upd H' U (.dK ku)) := fun h1 h2 a o h => by
      by_cases z : a = U
      · rw [z, wo.hU] at h
        rw [z, upd_same, ← h]
      · rw [upd_ne z]
        exact h2 a o z h
    have lku := wo.rk.length
    refine for_it walk_keys (fun i σ H' => (∃ y3 y4 y5 y6 y7 y8, σ = [some (.ref W), some (.ref fa), some (.ref da), y3, y4, y5, y6, y7, y8]) ∧ H' U = some (.frz od (.dK ku)) ∧ (∀ a o, a ≠ U → H a = some o → H' a = some o) ∧ ∀ r ∈ R.take i, DueR kr R r) ⟨⟨_, _, _, _, _, _, rfl⟩, upd_same, L1, fun r hr => by cases hr⟩ (fun i σ H' _ hP => hP.2.1) (fun i y σ H' H3 hi hP hY => ?_) (fun σ H' hP => ?_)
    · obtain ⟨⟨y3, y4, y5, y6, y7, y8, rfl⟩, h1, h2, h3⟩ := hP
      obtain ⟨rfl, k, v0, ek, rfl⟩ := hY
      have tk : Tk H H3 := fun a xs h => h2 a _ (fun z => by rw [z, wo.hU] at h; cases h) h
      obtain ⟨r, er, rfl, _⟩ := wo.rk.get ek
      have hr' := List.mem_of_getElem? er
      obtain ⟨v, ev, tv⟩ := wo.rk.look wo.nn hr'
      obtain ⟨t, vt, ub, xb, rfl, et, tt, eub, txb⟩ := ruV_of (tv.mono tk)
      obtain ⟨u, xs, rfl, eu, tx⟩ : ∃ u xs, vt = .ref u ∧ H3 u = some (.tup xs) ∧ Tps H3 xs (r.ts.map tD) := by
        cases tt with
        | tup a1 a2 => exact ⟨_, _, rfl, a1, a2⟩
      have eW3 := h2 _ _ wo.ne wo.hW
      have eR3 := h2 _ _ nRU wo.hR
      refine ⟨.ref W, rfl, W, .ref U, rfl, gU eW3, U, ku, rfl, .inr ⟨od, h1⟩, fun c nc => ?_⟩
      generalize hG : upd H3 c _ = H4
      obtain ⟨s4, e4⟩ := gen_up hG nc
      clear hG
      have ncU : c ≠ U := fun z => by rw [z, h1] at nc; cases nc
      have ncW : c ≠ W := fun z => by rw [z, eW3] at nc; cases nc
      have ncR : c ≠ Rr := fun z => by rw [z, eR3] at nc; cases nc
      refine ⟨.ref c, rfl, c, rfl, .inl ⟨_, .of e4⟩, .str r.nm, rfl, ku, Sum.inr r.nm, .ref t, e4, rfl, ev, ?_⟩
      have s5 : Same H3 (upd H4 c (.dK (dropK ku (Sum.inr r.nm : Key)))) := same_put s4 nc
      have e5 : (upd H4 c (.dK (dropK ku (Sum.inr r.nm : Key)))) c = some (.dK (dropK ku (Sum.inr r.nm : Key))) := upd_same
      generalize upd H4 c (.dK (dropK ku (Sum.inr r.nm : Key))) = H5 at s5 e5 ⊢
      refine ⟨t, _, rfl, SqT.of (s5 _ _ et), rfl, _, _, rfl, _, _, rfl, _, _, rfl, rfl, ?_⟩
      intro W2 nW2
      generalize hG : upd H5 W2 _ = H6
      obtain ⟨s6, e6⟩ := gen_up hG nW2
      clear hG
      have n2c : W2 ≠ c := fun z => by rw [z, e5] at nW2; cases nW2
      refine ⟨.ref W, rfl, W, .ref Rr, rfl, gR (s6 _ _ (s5 _ _ eW3)), .ref c, rfl, e6, [(.inr "relations", .ref Rr), (.inr "rules", .ref c)], rfl, (by show 2 ≤ 15; decide), ?_⟩
      have emw : mergeK [] [((.inr "relations" : Key), V.ref Rr), (.inr "rules", .ref c)] = [(.inr "relations", .ref Rr), (.inr "rules", .ref c)] := rfl
      rw [emw]
      have s7 : Same H5 (upd H6 W2 (.dK [(.inr "relations", .ref Rr), (.inr "rules", .ref c)])) := same_put s6 nW2
      have e7 : (upd H6 W2 (.dK [(.inr "relations", .ref Rr), (.inr "rules", .ref c)])) W2 = some (.dK [(.inr "relations", .ref Rr), (.inr "rules", .ref c)]) := upd_same
      generalize upd H6 W2 (.dK [(.inr "relations", .ref Rr), (.inr "rules", .ref c)]) = H7 at s7 e7 ⊢
      have s37 := s5.trans s7
      have tk7 : Tk H H7 := fun a xs h => s37 _ _ (tk a xs h)
      have lo : (others R r).length ≤ R.length := List.length_filter_le ..
      have lR := wo.lR
      have wo7 : Wo H7 W2 Rr c kr (dropK ku (Sum.inr r.nm : Key)) (others R r) := ⟨e7, s37 _ _ eR3, s7 _ _ e5, n2c, wo.lkr, by omega, (ruk_drop wo.rk).mono tk7, (List.Sublist.map _ List.filter_sublist).nodup wo.nn, fun x hx => wo.ok x (List.mem_filter.mp hx).1⟩
      have hRr := hR r hr'
      refine ⟨.str r.nm, rfl, .str r.rl, rfl, .ref u, rfl, .ref ub, rfl, W2, Rr, c, u, ub, kr, dropK ku (Sum.inr r.nm : Key), others R r, wdLaw kr (others R r), r.nm, r.rl, xs, xb, r.ts, r.ls, _, false, rfl, wo7, widK_law hk _, rfl, ⟨(fun z => by cases z), fun ⟨x, hx, e⟩ => ?_⟩, s37 _ _ eu, tx.mono (Tk.of s37), hRr.1, s37 _ _ eub, txb.mono (Tk.of s37), hRr.2, wo.ok r hr', fun v eo H8 s8 he tv8 => ⟨rfl, _, rfl, ?_⟩⟩
      · exact absurd e (of_decide_eq_true (List.mem_filter.mp hx).2)
      have s38 := s37.trans s8
      have h18 := s38 _ _ h1
      have h28 : ∀ a o, a ≠ U → H a = some o → H8 a = some o := fun a o n h => s38 _ _ (h2 a o n h)
      have stop : ¬ DueR kr R r → Q (.bl false) (upd H8 U (.dK ku)) := fun no => q false _ (thawU h18 h28) ⟨(fun z => by cases z), fun z => absurd (z.2.1 r hr') no⟩
      cases ea : aloneP (valV kr (Sum.inr r.rl : Key)).isSome (wdLaw kr (others R r)) r.rl r.ts r.ls with
      | some d =>
        rw [ea] at tv8
        have nv := not_non tv8 (txt_ne (alone_txt ea))
        refine iteT' (by rw [decide_eq_false nv]; rfl) ⟨h18, stop fun z => ?_⟩
        rw [z.1] at ea
        cases ea
      | none =>
        rw [ea] at tv8
        have he1 := he rfl ea
        have he2 : EdgeP R eo := edge_cg (fun x => ?_) he1
        · cases eo with
          | some d =>
            have nv := not_non tv8 (txt_ne (edge_txt he2 rfl))
            refine iteT' (by rw [decide_eq_false nv]; rfl) ⟨h18, stop fun z => ?_⟩
            have := (edge_none he2).mpr z.2
            cases this
          | none =>
            have hv : v = .non := by
              cases tv8
              rfl
            refine iteF' (by rw [decide_eq_true hv]; rfl) ⟨⟨_, _, _, _, _, _, rfl⟩, h18, h28, fun r2 h2' => ?_⟩
            rw [take_next er] at h2'
            rcases List.mem_append.mp h2' with h2' | h2'
            · exact h3 r2 h2'
            · rw [List.mem_singleton.mp h2']
              exact ⟨ea, (edge_none he2).mp rfl⟩
        · rw [List.mem_append, List.mem_singleton]
          constructor
          · rintro (h | rfl)
            · exact (List.mem_filter.mp h).1
            · exact hr'
          · intro h
            by_cases c : x.nm = r.nm
            · exact .inr (same_nm wo.nn h hr' c)
            · exact .inl (List.mem_filter.mpr ⟨h, decide_eq_true c⟩)
    · obtain ⟨⟨y3, y4, y5, y6, y7, y8, rfl⟩, h1, h2, h3⟩ := hP
      rw [lku, List.take_length] at h3
      refine ⟨h1, ?_⟩
      have s2 := thawU h1 h2
      generalize upd H' U (.dK ku) = H2 at s2 ⊢
      clear h1 h2
      have nku : nd ku := by
        show (ku.map (·.1)).Nodup
        rw [wo.rk.1, show R.map (fun r => (Sum.inr r.nm : Key)) = (R.map Ru.nm).map Sum.inr by rw [List.map_map]; rfl]
        exact List.Pairwise.map _ (fun a b q z => q (inr_iff.mp z)) wo.nn
      have lRl : (rlOf R).length ≤ 10 := by unfold rlOf; rw [List.length_map]; exact wo.lR
      have lkd : kd.length = D.length := by
        have := congrArg List.length kdk
        rw [List.length_map, List.length_map] at this
        exact this
      refine ⟨da, .dK kd, s2 _ _ eda, trivial, fun od2 => ?_⟩
      have L2 : ∀ a o, a ≠ da → H2 a = some o → (upd H2 da (.frz od2 (.dK kd))) a = some o := fun a o n h => by rw [upd_ne n]; exact h
      refine ⟨.ref da, rfl, da, od2, rfl, .inl ⟨kd, upd_same, fun D2 nD2 => ?_⟩⟩
      have nDa : D2 ≠ da := fun z => by rw [z, upd_same] at nD2; cases nD2
      have nDH : H2 D2 = none := by rw [upd_ne nDa] at nD2; exact nD2
      refine lc_it walk_keys (fun i H' => H' da = some (.frz od2 (.dK kd)) ∧ (∀ a o, a ≠ da → H2 a = some o → H' a = some o) ∧ ∃ acc, H' D2 = some (.lst acc) ∧ Tps H' acc (((D.take i).map fun d => (bodyP (wdLaw kr R) [] d.2).1).map optD)) ⟨?_, ?_, [], upd_same, .nil⟩ (fun i H' _ hP => hP.1) (fun i y H' H3 hi hP hY => ?_) (fun H' hP => ?_)
      · rw [upd_ne nDa.symm]
        exact upd_same
      · intro a o n h
        rw [upd_ne (ne_of_none h nDH)]
        exact L2 a o n h
      · obtain ⟨h1, h2, acc, eD, ta⟩ := hP
        obtain ⟨rfl, k, v0, ek, rfl⟩ := hY
        have hk1 : (kd.map (·.1))[i]? = some k := by rw [List.getElem?_map, ek]; rfl
        rw [kdk, List.getElem?_map] at hk1
        obtain ⟨d, ed, rfl⟩ := Option.map_eq_some_iff.mp hk1
        have hv1 : (kd.map (·.2))[i]? = some v0 := by rw [List.getElem?_map, ek]; rfl
        obtain ⟨d', ed', td⟩ := kdt.get hv1
        rw [List.getElem?_map, ed] at ed'
        cases ed'
        have tk2 : Tk H H3 := fun a xs h => h2 a _ (fun z => by rw [z, eda] at h; cases h) (s2 _ _ h)
        have td := td.mono tk2
        obtain ⟨u, xs, rfl, eu, tx⟩ : ∃ u xs, v0 = .ref u ∧ H3 u = some (.tup xs) ∧ Tps H3 xs (d.2.map litD) := by
          cases td with
          | tup a1 a2 => exact ⟨_, _, rfl, a1, a2⟩
        have eW := h2 _ _ ndW.symm (s2 _ _ wo.hW)
        have eR := h2 _ _ ndR.symm (s2 _ _ wo.hR)
        have eU := h2 _ _ ndU.symm (s2 _ _ wo.hU)
        have ndD' : D2 ≠ da := nDa
        refine ⟨rfl, ?_⟩
        refine iteT (B := True) ?_
        refine ⟨.ref W, rfl, W, Rr, U, kr, ku, rlOf R, rfl, eW, eR, eU, wo.ne, wo.lkr, lRl, nku, ruE_of (wo.rk.mono tk2), fun p H4 s4 e4 n4 => ?_⟩
        refine ⟨.ref da, rfl, .str d.1, rfl, da, .ref u, rfl, .inl ⟨kd, Sum.inr d.1, .inr ⟨od2, s4 _ _ h1⟩, rfl, ?_⟩, ?_⟩
        · have nkd : nd kd := by
            show (kd.map (·.1)).Nodup
            rw [kdk, show D.map (fun d => (Sum.inr d.1 : Key)) = (D.map (·.1)).map Sum.inr by rw [List.map_map]; rfl]
            exact List.Pairwise.map _ (fun a b q z => q (inr_iff.mp z)) ndD
          exact ((mem_val nkd).mpr (List.mem_of_getElem? ek)).symm
        refine ⟨p, u, xs, d.2, _, wdLaw kr R, rfl, s4 _ _ eu, tx.mono (Tk.of s4), hD d (List.mem_of_getElem? ed), e4, widK_law hk R, fun pp b v H5 s5 epp tv eb hnn => ?_⟩
        have s35 := s4.trans s5
        have lacc := ta.length
        rw [List.length_map, List.length_map, List.length_take] at lacc
        refine ⟨pp, _, 0, v, rfl, rfl, SqT.of epp, rfl, ?_⟩
        refine ⟨acc, s35 _ _ eD, small7 (by omega), ?_, fun a o n h => ?_, acc ++ [v], upd_same, ?_⟩
        · rw [upd_ne nDa.symm]
          exact s35 _ _ h1
        · rw [upd_ne (ne_of_none h nDH)]
          exact s35 _ _ (h2 a o n h)
        · rw [take_next ed, List.map_append, List.map_append]
          exact ((ta.mono (Tk.of s35)).mono (Tk.lst (s35 _ _ eD))).append (.cons (tv.mono (Tk.lst (s35 _ _ eD))) .nil)
      · obtain ⟨h1, h2, acc, eD, ta⟩ := hP
        rw [lkd, List.take_length] at ta
        refine ⟨h1, ?_⟩
        have s3 : Same H2 (upd H' da (.dK kd)) := fun a o h => by
          by_cases z : a = da
          · rw [z, s2 _ _ eda] at h
            rw [z, upd_same, ← h]
          · rw [upd_ne z]
            exact h2 a o z h
        have eD3 : (upd H' da (.dK kd)) D2 = some (.lst acc) := by rw [upd_ne nDa]; exact eD
        have ta3 := ta.mono (H' := upd H' da (.dK kd)) (fun a xs h => by rw [upd_ne (fun z => by rw [z, h1] at h; cases h)]; exact h)
        generalize upd H' da (.dK kd) = H4 at s3 eD3 ta3 ⊢
        have s24 := s2.trans s3
        refine ⟨len1, fun p1 np1 => ?_⟩
        generalize hG : upd _ p1 _ = H5
        obtain ⟨s5, e5⟩ := gen_up hG np1
        clear hG
        refine ⟨.ref da, rfl, da, kd, rfl, s5 _ _ (s24 _ _ eda), ?_⟩
        refine ⟨p1, (kd.length : Int), [.non], rfl, rfl, e5, by omega, by omega, ?_, fun p2 np2 => ?_⟩
        · rw [Int.toNat_natCast, sizeLine_eq]
          show 1 * kd.length ≤ _
          omega
        generalize hG : upd H5 p2 _ = H6
        obtain ⟨s6, e6⟩ := gen_up hG np2
        clear hG
        rw [Int.toNat_natCast, lkd] at e6
        have erep : ∀ n : Nat, (List.replicate n [V.non]).flatten = List.replicate n V.non := fun n => by
          induction n with
          | zero => rfl
          | succ n ih => rw [List.replicate_succ, List.flatten_cons, ih, List.replicate_succ]; rfl
        have drep : ∀ n : Nat, Dls H6 (List.replicate n V.non) (List.replicate n PyData.none) := fun n => by
          induction n with
          | zero => exact .nil
          | succ n ih => rw [List.replicate_succ, List.replicate_succ]; exact .cons .non ih
        have dep : ∀ n : Nat, PyData.depthAll (List.replicate n PyData.none) ≤ 0 := fun n => by
          induction n with
          | zero => exact Nat.le_refl _
          | succ n ih =>
            rw [List.replicate_succ]
            show max 0 (PyData.depthAll (List.replicate n PyData.none)) ≤ 0
            omega
        rw [erep] at e6
        have s46 := s5.trans s6
        have dl := (ta3.mono (Tk.of s46)).dl
        refine ⟨.list _, .list (List.replicate D.length .none), .lst (s46 _ _ eD3) dl, .lst e6 (drep _), ?_, ?_⟩
        · have := dep D.length
          show PyData.depthAll (List.replicate D.length PyData.none) + 1 ≤ _
          omega
        · have en := eqv_nones (ds := D.map fun d => (bodyP (wdLaw kr R) [] d.2).1) (fun d hd => by
            obtain ⟨d0, _, e0⟩ := List.mem_map.mp hd
            obtain ⟨zs, e, _⟩ := bodyP_txt e0
            exact ⟨_, e⟩)
          rw [List.length_map] at en
          refine q _ _ (s24.trans s46) ?_
          show PyData.eqvAll _ _ = true ↔ _
          rw [en]
          constructor
          · exact fun z => ⟨hf, h3, fun d hd => z _ (List.mem_map.mpr ⟨d, hd, rfl⟩)⟩
          · intro z o ho
            obtain ⟨d, hd, rfl⟩ := List.mem_map.mp ho
            exact z.2.2 d hd
abbrev dDU (P : Program) (w : World) (K : PySem.W.Frag) (mg : Str → Option Value) (base : Heap) : Prop := Def P w K mg base "_law_is_due" 5 ["world", "facts", "denials"] spDU
end
end KU

namespace KU
open PySem PySem.Spec PyProof.Rows PySem.HandSPX L2 KA
theorem nice_keyD (k : Key) : nice (keyD k) ∧ (keyD k).depth ≤ 0 := by
  cases k with
  | inl i => exact ⟨nice_int i, Nat.le_refl _⟩
  | inr z => exact ⟨nice_str z, Nat.le_refl _⟩
theorem nice_tD (t : T) : nice (tD t) ∧ (tD t).depth ≤ 1 := by
  cases t with
  | any => exact ⟨nice_1 (nice_str _), by show max 0 0 + 1 ≤ 1; decide⟩
  | var x => exact ⟨nice_tup (niceAll_cons (nice_str _) (niceAll_cons (nice_str _) niceAll_nil)) (by show 2 ≤ 1000; decide), by show max 0 (max 0 0) + 1 ≤ 1; decide⟩
  | val k =>
    cases k with
    | inl i => exact ⟨nice_tup (niceAll_cons (nice_str _) (niceAll_cons (nice_int _) niceAll_nil)) (by show 2 ≤ 1000; decide), by show max 0 (max 0 0) + 1 ≤ 1; decide⟩
    | inr z => exact ⟨nice_tup (niceAll_cons (nice_str _) (niceAll_cons (nice_str _) niceAll_nil)) (by show 2 ≤ 1000; decide), by show max 0 (max 0 0) + 1 ≤ 1; decide⟩
theorem nice_ts {ts : List T} (h : ts.length ≤ 1000) : nice (.tuple (ts.map tD)) ∧ (PyData.tuple (ts.map tD)).depth ≤ 2 := by
  refine ⟨nice_tup (niceAll_of fun d m => ?_) (by rw [List.length_map]; exact h), ?_⟩
  · obtain ⟨t, _, rfl⟩ := List.mem_map.mp m
    exact (nice_tD t).1
  · have := depthAll_le (n := 1) (ds := ts.map tD) fun d m => by
      obtain ⟨t, _, rfl⟩ := List.mem_map.mp m
      exact (nice_tD t).2
    show PyData.depthAll (ts.map tD) + 1 ≤ 2
    omega
theorem nice_lit {l : L} (h : LitN l) : nice (litD l) ∧ (litD l).depth ≤ 3 := by
  cases l with
  | fact r ts =>
    have t := nice_ts (ts := ts) (Nat.le_trans h.1 (by decide))
    refine ⟨nice_tup (niceAll_cons (nice_str _) (niceAll_cons (nice_str _) (niceAll_cons t.1 niceAll_nil))) (by show 3 ≤ 1000; decide), ?_⟩
    show max 0 (max 0 (max (PyData.tuple (ts.map tD)).depth 0)) + 1 ≤ 3
    have := t.2
    omega
  | notl r ts =>
    have t := nice_ts (ts := ts) (Nat.le_trans h.1 (by decide))
    refine ⟨nice_tup (niceAll_cons (nice_str _) (niceAll_cons (nice_str _) (niceAll_cons t.1 niceAll_nil))) (by show 3 ≤ 1000; decide), ?_⟩
    show max 0 (max 0 (max (PyData.tuple (ts.map tD)).depth 0)) + 1 ≤ 3
    have := t.2
    omega
  | cmp o a b =>
    have ha := nice_tD a
    have hb := nice_tD b
    refine ⟨nice_tup (niceAll_cons (nice_str _) (niceAll_cons (nice_str _) (niceAll_cons ha.1 (niceAll_cons hb.1 niceAll_nil)))) (by show 4 ≤ 1000; decide), ?_⟩
    show max 0 (max 0 (max (tD a).depth (max (tD b).depth 0))) + 1 ≤ 3
    have := ha.2
    have := hb.2
    omega
  | isl x o a b =>
    have ha := nice_tD a
    have hb := nice_tD b
    refine ⟨nice_tup (niceAll_cons (nice_str _) (niceAll_cons (nice_str _) (niceAll_cons (nice_str _) (niceAll_cons ha.1 (niceAll_cons hb.1 niceAll_nil))))) (by show 5 ≤ 1000; decide), ?_⟩
    show max 0 (max 0 (max 0 (max (tD a).depth (max (tD b).depth 0)))) + 1 ≤ 3
    have := ha.2
    have := hb.2
    omega
  | cnt x r ts =>
    have t := nice_ts (ts := ts) (Nat.le_trans h.2.1 (by decide))
    refine ⟨nice_tup (niceAll_cons (nice_str _) (niceAll_cons (nice_str _) (niceAll_cons (nice_str _) (niceAll_cons t.1 niceAll_nil)))) (by show 4 ≤ 1000; decide), ?_⟩
    show max 0 (max 0 (max 0 (max (PyData.tuple (ts.map tD)).depth 0))) + 1 ≤ 3
    have := t.2
    omega
theorem nice_body {ls : List L} (h : BodyN ls) : nice (.tuple (ls.map litD)) ∧ (PyData.tuple (ls.map litD)).depth ≤ 4 := by
  refine ⟨nice_tup (niceAll_of fun d m => ?_) (by rw [List.length_map]; exact Nat.le_trans h.1 (by decide)), ?_⟩
  · obtain ⟨l, hl, rfl⟩ := List.mem_map.mp m
    exact (nice_lit (h.2 l hl)).1
  · have := depthAll_le (n := 3) (ds := ls.map litD) fun d m => by
      obtain ⟨l, hl, rfl⟩ := List.mem_map.mp m
      exact (nice_lit (h.2 l hl)).2
    show PyData.depthAll (ls.map litD) + 1 ≤ 4
    omega
theorem ok_ruI {r : Ru} (h : r.ts.length ≤ 7) (b : BodyN r.ls) : okI (ruI r) :=
  ⟨(nice_ts (Nat.le_trans h (by decide))).1, (nice_body b).1, Nat.le_trans (nice_ts (Nat.le_trans h (by decide))).2 (by decide), (nice_body b).2⟩
theorem lits9 {l : L} (h : LitN l) : (litTs l).length ≤ 9 := by
  cases l with
  | fact r ts => exact Nat.le_trans h.1 (by decide)
  | notl r ts => exact Nat.le_trans h.1 (by decide)
  | cmp o a b => exact Nat.zero_le _
  | isl x o a b => exact Nat.zero_le _
  | cnt x r ts => exact Nat.le_trans h.2.1 (by decide)
theorem okRu_of {nm rl : Str} {ts : List T} {ls : List L} (b : BodyN ls) : OkRu ⟨nm, rl, ts, ls⟩ := ⟨fun l hl => lits9 (b.2 l hl), Nat.le_trans b.1 (by decide)⟩
theorem nice_itD {i : It1} (h : okI i) : nice (itD i) ∧ (itD i).depth ≤ 6 := by
  cases i with
  | rel nm n => exact ⟨nice_tup (niceAll_cons (nice_str _) (niceAll_cons (nice_str _) (niceAll_cons (nice_int _) niceAll_nil))) (by show 3 ≤ 1000; decide), by show max 0 (max 0 (max 0 0)) + 1 ≤ 6; decide⟩
  | fact nm ds =>
    refine ⟨nice_tup (niceAll_cons (nice_str _) (niceAll_cons (nice_str _) (niceAll_cons (nice_tup (niceAll_of fun d m => nice_atom (h.1 d m)) h.2) niceAll_nil))) (by show 3 ≤ 1000; decide), ?_⟩
    have := depthAll_le (n := 0) (ds := ds) fun d m => Nat.le_of_eq (atom_depth0 (h.1 d m))
    show max 0 (max 0 (max (PyData.depthAll ds + 1) 0)) + 1 ≤ 6
    omega
  | rule nm rl ts bd =>
    refine ⟨nice_tup (niceAll_cons (nice_str _) (niceAll_cons (nice_str _) (niceAll_cons (nice_str _) (niceAll_cons h.1 (niceAll_cons h.2.1 niceAll_nil))))) (by show 5 ≤ 1000; decide), ?_⟩
    have h1 := h.2.2.1
    have h2 := h.2.2.2
    show max 0 (max 0 (max 0 (max ts.depth (max bd.depth 0)))) + 1 ≤ 6
    omega
  | den nm bd =>
    refine ⟨nice_tup (niceAll_cons (nice_str _) (niceAll_cons (nice_str _) (niceAll_cons h.1 niceAll_nil))) (by show 3 ≤ 1000; decide), ?_⟩
    have h1 := h.2
    show max 0 (max 0 (max bd.depth 0)) + 1 ≤ 6
    omega
def krW (ws : List (Str × Nat)) : List (Key × V) := ws.map fun e => ((Sum.inr e.1 : Key), V.int (e.2 : Nat))
def ws0 : List (Str × Nat) := [("p", 2), ("q", 1), ("r", 2)]
def wss : List (List (Str × Nat)) := [ws0, [("q", 1), ("r", 2)], [("p", 2), ("r", 2)], [("p", 2), ("q", 1)]]
structure WsOk (ws : List (Str × Nat)) : Prop where
  nd : (ws.map (·.1)).Nodup
  b : ∀ e ∈ ws, 1 ≤ e.2 ∧ e.2 ≤ 4
  len : ws.length ≤ 3
  pos : 0 < ws.length
theorem wss_ok {ws : List (Str × Nat)} (h : ws ∈ wss) : WsOk ws := by
  simp only [wss, List.mem_cons, List.not_mem_nil, or_false] at h
  rcases h with rfl | rfl | rfl | rfl
  · exact ⟨by decide +kernel, by decide +kernel, by decide, by decide⟩
  · exact ⟨by decide +kernel, by decide +kernel, by decide, by decide⟩
  · exact ⟨by decide +kernel, by decide +kernel, by decide, by decide⟩
  · exact ⟨by decide +kernel, by decide +kernel, by decide, by decide⟩
theorem krW_keys (ws : List (Str × Nat)) : (krW ws).map (·.1) = (ws.map (·.1)).map (Sum.inr : Str → Key) := by
  unfold krW
  rw [List.map_map, List.map_map]
  rfl
theorem krW_nd {ws : List (Str × Nat)} (h : WsOk ws) : nd (krW ws) := by
  show ((krW ws).map (·.1)).Nodup
  rw [krW_keys]
  exact List.Pairwise.map _ (fun a b q z => q (inr_iff.mp z)) h.nd
theorem krW_len (ws : List (Str × Nat)) : (krW ws).length = ws.length := List.length_map ..
theorem krW_N {ws : List (Str × Nat)} (h : WsOk ws) : KrN (krW ws) := ⟨krW_nd h, fun k v hm => by
  obtain ⟨e, _, z⟩ := List.mem_map.mp hm
  injection z with z1 z2
  exact ⟨e.1, e.2, z1.symm, z2.symm⟩⟩
theorem krW_E {ws : List (Str × Nat)} (h : WsOk ws) : WdE (krW ws) 3 := ⟨fun e he => by
  obtain ⟨x, hx, z⟩ := List.mem_map.mp he
  exact ⟨x.1, x.2, z.symm, (h.b x hx).1, (h.b x hx).2⟩, krW_nd h, by rw [krW_len]; exact h.len⟩
theorem krW_val {ws : List (Str × Nat)} (h : WsOk ws) {nm : Str} {v : V} : valV (krW ws) (Sum.inr nm : Key) = some v ↔ ∃ n, (nm, n) ∈ ws ∧ v = .int (n : Nat) := by
  rw [mem_val (krW_nd h)]
  constructor
  · intro hm
    obtain ⟨e, he, z⟩ := List.mem_map.mp hm
    injection z with z1 z2
    have z1 := inr_iff.mp z1
    subst z1
    exact ⟨e.2, he, z2.symm⟩
  · rintro ⟨n, hm, rfl⟩
    exact List.mem_map.mpr ⟨(nm, n), hm, rfl⟩
theorem drop_ws {z : Str} (h : z ∈ (["p", "q", "r"] : List Str)) : ∃ ws ∈ wss, dropK (krW ws0) (Sum.inr z : Key) = krW ws ∧ ∃ v, valV (krW ws0) (Sum.inr z : Key) = some v := by
  simp only [List.mem_cons, List.not_mem_nil, or_false] at h
  rcases h with rfl | rfl | rfl
  · exact ⟨[("q", 1), ("r", 2)], by simp [wss], rfl, _, rfl⟩
  · exact ⟨[("p", 2), ("r", 2)], by simp [wss], rfl, _, rfl⟩
  · exact ⟨[("p", 2), ("q", 1)], by simp [wss], rfl, _, rfl⟩
theorem mem_puts2 : ∀ {js l : List It1}, SortedI l → OkL l → OkL js → (∀ i ∈ js, ∀ j ∈ js, keyI i = keyI j → i = j) → ∀ x, x ∈ puts l js ↔ x ∈ js ∨ (x ∈ l ∧ ∀ j ∈ js, keyI x ≠ keyI j)
  | [], l, _, _, _, _, x => ⟨fun h => .inr ⟨h, fun j hj => by cases hj⟩, fun h => h.elim (fun z => by cases z) fun z => z.1⟩
  | j :: js, l, s, o, oj, n, x => by
    have o1 : okI j := oj j List.mem_cons_self
    have ih := mem_puts2 (js := js) (l := putI l j) (sorted_putI s o o1) (ok_putI o o1) (fun i hi => oj i (List.mem_cons_of_mem _ hi)) (fun a ha b hb => n a (List.mem_cons_of_mem _ ha) b (List.mem_cons_of_mem _ hb)) x
    have e : puts l (j :: js) = puts (putI l j) js := rfl
    rw [e, ih, mem_putI o o1, List.mem_cons]
    constructor
    · rintro (h | ⟨rfl | ⟨h1, h2⟩, h3⟩)
      · exact .inl (.inr h)
      · exact .inl (.inl rfl)
      · refine .inr ⟨h1, fun y hy => ?_⟩
        rcases List.mem_cons.mp hy with rfl | hy
        · exact h2
        · exact h3 y hy
    · rintro ((rfl | h) | ⟨h1, h2⟩)
      · by_cases c : ∃ y ∈ js, keyI x = keyI y
        · obtain ⟨y, hy, ey⟩ := c
          have := n x List.mem_cons_self y (List.mem_cons_of_mem _ hy) ey
          exact .inl (by rw [this]; exact hy)
        · exact .inr ⟨.inl rfl, fun y hy z => c ⟨y, hy, z⟩⟩
      · exact .inl h
      · exact .inr ⟨.inr ⟨h1, h2 j List.mem_cons_self⟩, fun y hy => h2 y (List.mem_cons_of_mem _ hy)⟩
def relI (ws : List (Str × Nat)) : List It1 := ws.map fun e => .rel e.1 (e.2 : Nat)
def facI (fl : List (Str × List Key)) : List It1 := fl.map fun e => .fact e.1 (e.2.map keyD)
def rulI (R : List Ru) : List It1 := R.map ruI
def denI (D : List (Str × List L)) : List It1 := D.map fun d => .den d.1 (.tuple (d.2.map litD))
def itemL (ws : List (Str × Nat)) (fl : List (Str × List Key)) (R : List Ru) (D : List (Str × List L)) : List It1 := relI ws ++ facI fl ++ rulI R ++ denI D
def factD (e : Str × List Key) : PyData := .tuple [.str e.1, .tuple (e.2.map keyD)]
/-- what stands while a world is drawn -/
structure WL (H0 H : Hp) (st L wv W Rr U fa : Addr) (ws : List (Str × Nat)) (ku : List (Key × V)) (R : List Ru) (fs : List V) (fl : List (Str × List Key)) : Prop where
  dr : Dr st L H0 H
  ewv : H wv = some (.dK (krW ws))
  hW : H W = some (.dK [(.inr "relations", .ref Rr), (.inr "rules", .ref U)])
  hR : H Rr = some (.dK (krW ws))
  hU : H U = some (.dK ku)
  efa : H fa = some (.lst fs)
  tfa : Tps H fs (fl.map factD)
  rk : RuK H ku R
  n1 : wv ≠ U
  n2 : W ≠ U
  n3 : Rr ≠ U
  n4 : fa ≠ st
  nU : H0 U = none
  nfa : H0 fa = none
section
variable {H0 H H' : Hp} {st L wv W Rr U fa : Addr} {ws : List (Str × Nat)} {ku : List (Key × V)} {R : List Ru} {fs : List V} {fl : List (Str × List Key)}
theorem good_dk {a : Addr} {x : List (Key × V)} (g : Good st L H) (e : H a = some (.dK x)) : a ≠ st := fun z => by
  obtain ⟨_, _, _, _, e', _⟩ := g
  rw [z, e'] at e
  cases e
theorem good_tup {a : Addr} {x : List V} (g : Good st L H) (e : H a = some (.tup x)) : a ≠ st := fun z => by
  obtain ⟨_, _, _, _, e', _⟩ := g
  rw [z, e'] at e
  cases e
theorem WL.to (w : WL H0 H st L wv W Rr U fa ws ku R fs fl) (d : Dr st L H H') : WL H0 H' st L wv W Rr U fa ws ku R fs fl :=
  have g := w.dr.good
  ⟨w.dr.trans d, d.at_ (good_dk g w.ewv) w.ewv, d.at_ (good_dk g w.hW) w.hW, d.at_ (good_dk g w.hR) w.hR, d.at_ (good_dk g w.hU) w.hU, d.at_ w.n4 w.efa, w.tfa.mono (d.tk g), w.rk.mono (d.tk g), w.n1, w.n2, w.n3, w.n4, w.nU, w.nfa⟩
theorem WL.same (w : WL H0 H st L wv W Rr U fa ws ku R fs fl) (s : Same H H') : WL H0 H' st L wv W Rr U fa ws ku R fs fl := w.to (Dr.same w.dr.good s)
theorem WL.fact (w : WL H0 H st L wv W Rr U fa ws ku R fs fl) (g0 : Good st L H0) {v : V} {e : Str × List Key} (t : Tp H v (factD e)) : WL H0 (upd H fa (.lst (fs ++ [v]))) st L wv W Rr U fa ws ku R (fs ++ [v]) (fl ++ [e]) := by
  have ne : ∀ {a : Addr} {x : List (Key × V)}, H a = some (.dK x) → a ≠ fa := fun h z => by rw [z, w.efa] at h; cases h
  have tk : Tk H (upd H fa (.lst (fs ++ [v]))) := Tk.lst w.efa
  refine ⟨w.dr.put g0 w.nfa, by rw [upd_ne (ne w.ewv)]; exact w.ewv, by rw [upd_ne (ne w.hW)]; exact w.hW, by rw [upd_ne (ne w.hR)]; exact w.hR, by rw [upd_ne (ne w.hU)]; exact w.hU, upd_same, ?_, w.rk.mono tk, w.n1, w.n2, w.n3, w.n4, w.nU, w.nfa⟩
  rw [List.map_append]
  exact (w.tfa.mono tk).append (.cons (t.mono tk) .nil)
theorem WL.rule (w : WL H0 H st L wv W Rr U fa ws ku R fs fl) (g0 : Good st L H0) {v : V} {r : Ru} (t : Tp H v (ruD r)) : WL H0 (upd H U (.dK (ku ++ [(Sum.inr r.nm, v)]))) st L wv W Rr U fa ws (ku ++ [(Sum.inr r.nm, v)]) (R ++ [r]) fs fl := by
  have tk : Tk H (upd H U (.dK (ku ++ [(Sum.inr r.nm, v)]))) := fun a xs h => by rw [upd_ne (fun z => by rw [z, w.hU] at h; cases h)]; exact h
  refine ⟨w.dr.put g0 w.nU, by rw [upd_ne w.n1]; exact w.ewv, by rw [upd_ne w.n2]; exact w.hW, by rw [upd_ne w.n3]; exact w.hR, upd_same, ?_, w.tfa.mono tk, ?_, w.n1, w.n2, w.n3, w.n4, w.nU, w.nfa⟩
  · rw [upd_ne (fun z => by have := w.efa; rw [z, w.hU] at this; cases this)]
    exact w.efa
  · refine ⟨by rw [List.map_append, List.map_append, w.rk.1]; rfl, ?_⟩
    rw [List.map_append, List.map_append]
    exact (w.rk.2.mono tk).append (.cons (t.mono tk) .nil)
theorem WL.put (w : WL H0 H st L wv W Rr U fa ws ku R fs fl) (g0 : Good st L H0) {da : Addr} {kd kd' : List (Key × V)} (nda : H0 da = none) (eda : H da = some (.dK kd)) (m1 : da ≠ wv) (m2 : da ≠ W) (m3 : da ≠ Rr) (m4 : da ≠ U) : WL H0 (upd H da (.dK kd')) st L wv W Rr U fa ws ku R fs fl := by
  have tk : Tk H (upd H da (.dK kd')) := fun a xs h => by rw [upd_ne (fun z => by rw [z, eda] at h; cases h)]; exact h
  refine ⟨w.dr.put g0 nda, by rw [upd_ne m1.symm]; exact w.ewv, by rw [upd_ne m2.symm]; exact w.hW, by rw [upd_ne m3.symm]; exact w.hR, by rw [upd_ne m4.symm]; exact w.hU, ?_, w.tfa.mono tk, w.rk.mono tk, w.n1, w.n2, w.n3, w.n4, w.nU, w.nfa⟩
  rw [upd_ne (fun z => by have := w.efa; rw [z, eda] at this; cases this)]
  exact w.efa
end
theorem wdE_merge : ∀ (ws : List (Str × Nat)) (wk : List (Key × V)) (m : Nat), WdE wk m → (∀ e ∈ ws, 1 ≤ e.2 ∧ e.2 ≤ 4) → WdE (mergeK wk (krW ws)) (m + ws.length)
  | [], wk, m, h, _ => h
  | e :: ws, wk, m, h, o => by
    have h1 := h.put e.1 (o e List.mem_cons_self).1 (o e List.mem_cons_self).2
    have := wdE_merge ws _ _ h1 fun x hx => o x (List.mem_cons_of_mem _ hx)
    rw [List.length_cons]
    exact this.more (by omega)
theorem wdE_all {ws : List (Str × Nat)} {R : List Ru} (hw : WsOk ws) (h : ∀ r ∈ R, 1 ≤ r.ts.length ∧ r.ts.length ≤ 3) : WdE (mergeK (rlK (rlOf R)) (krW ws)) (R.length + 3) ∧ 0 < (mergeK (rlK (rlOf R)) (krW ws)).length := by
  have a := wdE_rl (rlOf R) [] 0 ⟨(fun e he => by cases he), List.nodup_nil, Nat.le_refl _⟩ fun e he => by
    obtain ⟨r, hr, rfl⟩ := List.mem_map.mp he
    exact ⟨(h r hr).1, Nat.le_trans (h r hr).2 (by decide)⟩
  have l : (rlOf R).length = R.length := List.length_map ..
  rw [l] at a
  refine ⟨(wdE_merge ws _ _ a hw.b).more (by have := hw.len; omega), ?_⟩
  have p := hw.pos
  obtain ⟨e, he⟩ : ∃ e, e ∈ ws := by
    cases ws with
    | nil => cases p
    | cons e r => exact ⟨e, List.mem_cons_self⟩
  have v := val_merge (krW ws) (rlK (rlOf R)) (krW_nd hw) (Sum.inr e.1)
  rw [(krW_val hw).mpr ⟨e.2, he, rfl⟩] at v
  cases hz : mergeK (rlK (rlOf R)) (krW ws) with
  | nil => rw [hz] at v; cases v
  | cons a b => exact Nat.succ_pos _
def nmS (c : Str) (i : Nat) : Str := c ++ (toString (0 + (i : Int)) : String)
theorem nmS_inj {c : Str} (hc : c = "n" ∨ c = "d") : ∀ i < 5, ∀ j < 5, nmS c i = nmS c j → i = j := by
  rcases hc with rfl | rfl <;> decide +kernel
theorem nm_log : ∀ j : Nat, j < 5 → (0 + (j : Int)).natAbs.log2 < 1920 := by decide +kernel
theorem nm_len {c : Str} (hc : c = "n" ∨ c = "d") : ∀ j : Nat, j < 5 → c.length + (Str.ofString (toString (0 + (j : Int)))).length ≤ sizeLine := by
  rcases hc with rfl | rfl <;> decide +kernel
theorem mem_of_valV {kvs : List (Key × V)} {k : Key} {v : V} (h : valV kvs k = some v) : (k, v) ∈ kvs := by
  induction kvs with
  | nil => cases h
  | cons e r ih =>
    obtain ⟨k', v'⟩ := e
    by_cases c : k' = k
    · rw [valV_pos c] at h
      cases h
      rw [c]
      exact List.mem_cons_self
    · rw [valV_neg c] at h
      exact List.mem_cons_of_mem _ (ih h)
/-- what is drawn -/
structure Drawn (ws : List (Str × Nat)) (fl : List (Str × List Key)) (R : List Ru) (D : List (Str × List L)) : Prop where
  w : ws ∈ wss
  f : ∀ e ∈ fl, e.2.length ≤ 3
  fn : fl.length ≤ 6
  rn : (R.map Ru.nm).Nodup
  r : ∀ r ∈ R, 1 ≤ r.ts.length ∧ r.ts.length ≤ 3 ∧ BodyN r.ls
  rl : R.length ≤ 4
  dn : (D.map (·.1)).Nodup
  d : ∀ d ∈ D, BodyN d.2
  dl : D.length ≤ 2
section
variable {ws : List (Str × Nat)} {fl : List (Str × List Key)} {R : List Ru} {D : List (Str × List L)}
theorem mem_item {x : It1} : x ∈ itemL ws fl R D ↔ (∃ e ∈ ws, x = .rel e.1 (e.2 : Nat)) ∨ (∃ e ∈ fl, x = .fact e.1 (e.2.map keyD)) ∨ (∃ r ∈ R, x = ruI r) ∨ ∃ d ∈ D, x = .den d.1 (.tuple (d.2.map litD)) := by
  unfold itemL relI facI rulI denI
  rw [List.mem_append, List.mem_append, List.mem_append]
  constructor
  · rintro (((h | h) | h) | h)
    · obtain ⟨e, he, rfl⟩ := List.mem_map.mp h; exact .inl ⟨e, he, rfl⟩
    · obtain ⟨e, he, rfl⟩ := List.mem_map.mp h; exact .inr (.inl ⟨e, he, rfl⟩)
    · obtain ⟨e, he, rfl⟩ := List.mem_map.mp h; exact .inr (.inr (.inl ⟨e, he, rfl⟩))
    · obtain ⟨e, he, rfl⟩ := List.mem_map.mp h; exact .inr (.inr (.inr ⟨e, he, rfl⟩))
  · rintro (⟨e, he, rfl⟩ | ⟨e, he, rfl⟩ | ⟨e, he, rfl⟩ | ⟨e, he, rfl⟩)
    · exact .inl (.inl (.inl (List.mem_map.mpr ⟨e, he, rfl⟩)))
    · exact .inl (.inl (.inr (List.mem_map.mpr ⟨e, he, rfl⟩)))
    · exact .inl (.inr (List.mem_map.mpr ⟨e, he, rfl⟩))
    · exact .inr (List.mem_map.mpr ⟨e, he, rfl⟩)
theorem item_ok (h : Drawn ws fl R D) : OkL (itemL ws fl R D) := fun x hx => by
  rcases mem_item.mp hx with ⟨e, he, rfl⟩ | ⟨e, he, rfl⟩ | ⟨r, hr, rfl⟩ | ⟨d, hd, rfl⟩
  · exact trivial
  · refine ⟨fun a ha => ?_, by rw [List.length_map]; exact Nat.le_trans (h.f e he) (by decide)⟩
    obtain ⟨k, _, rfl⟩ := List.mem_map.mp ha
    cases k <;> exact trivial
  · obtain ⟨a, b, c⟩ := h.r r hr
    exact ok_ruI (by omega) c
  · have := nice_body (h.d d hd)
    exact ⟨this.1, this.2⟩
theorem item_len (h : Drawn ws fl R D) : (itemL ws fl R D).length ≤ 15 := by
  unfold itemL relI facI rulI denI
  rw [List.length_append, List.length_append, List.length_append, List.length_map, List.length_map, List.length_map, List.length_map]
  have := (wss_ok h.w).len
  have := h.fn
  have := h.rl
  have := h.dl
  omega
theorem item_key (h : Drawn ws fl R D) : ∀ i ∈ itemL ws fl R D, ∀ j ∈ itemL ws fl R D, keyI i = keyI j → i = j := by
  intro i hi j hj e
  rcases mem_item.mp hi with ⟨a, ha, rfl⟩ | ⟨a, ha, rfl⟩ | ⟨a, ha, rfl⟩ | ⟨a, ha, rfl⟩ <;> rcases mem_item.mp hj with ⟨b, hb, rfl⟩ | ⟨b, hb, rfl⟩ | ⟨b, hb, rfl⟩ | ⟨b, hb, rfl⟩
  all_goals first
    | (injection e with e1 _; exact absurd e1 (by decide))
    | skip
  · injection e with _ e
    injection e with e _
    rw [nm_inj (wss_ok h.w).nd ha hb e]
  · injection e with _ e
    injection e with e e2
    rw [e, e2]
  · injection e with _ e
    injection e with e _
    rw [same_nm h.rn ha hb e]
  · injection e with _ e
    injection e with e _
    rw [nm_inj h.dn ha hb e]
theorem mem_its (h : Drawn ws fl R D) (x : It1) : x ∈ puts [] (itemL ws fl R D) ↔ x ∈ itemL ws fl R D := by
  rw [mem_puts2 List.Pairwise.nil (fun i h => by cases h) (item_ok h) (item_key h)]
  exact ⟨fun z => z.elim id (fun z => (by cases z.1)), .inl⟩
theorem its_rel (h : Drawn ws fl R D) (nm : Str) (n : Int) : It1.rel nm n ∈ puts [] (itemL ws fl R D) ↔ valV (krW ws) (Sum.inr nm : Key) = some (.int n) := by
  rw [mem_its h, mem_item, krW_val (wss_ok h.w)]
  constructor
  · rintro (⟨e, he, z⟩ | ⟨e, he, z⟩ | ⟨e, he, z⟩ | ⟨e, he, z⟩)
    · cases z; exact ⟨e.2, he, rfl⟩
    · cases z
    · cases z
    · cases z
  · rintro ⟨m, hm, z⟩
    cases z
    exact .inl ⟨(nm, m), hm, rfl⟩
theorem its_fact (h : Drawn ws fl R D) (nm : Str) (ds : List PyData) : It1.fact nm ds ∈ puts [] (itemL ws fl R D) ↔ ∃ e ∈ fl, e.1 = nm ∧ ds = e.2.map keyD := by
  rw [mem_its h, mem_item]
  constructor
  · rintro (⟨e, he, z⟩ | ⟨e, he, z⟩ | ⟨e, he, z⟩ | ⟨e, he, z⟩)
    · cases z
    · cases z; exact ⟨e, he, rfl, rfl⟩
    · cases z
    · cases z
  · rintro ⟨e, he, rfl, rfl⟩
    exact .inr (.inl ⟨e, he, rfl⟩)
theorem its_rules (h : Drawn ws fl R D) : RulesOf (puts [] (itemL ws fl R D)) R := by
  refine ⟨fun r hr => (mem_its h _).mpr (mem_item.mpr (.inr (.inr (.inl ⟨r, hr, rfl⟩)))), fun nm rl ts bd hm => ?_⟩
  rcases mem_item.mp ((mem_its h _).mp hm) with ⟨e, he, z⟩ | ⟨e, he, z⟩ | ⟨e, he, z⟩ | ⟨e, he, z⟩
  · cases z
  · cases z
  · exact ⟨e, he, z.symm⟩
  · cases z
theorem its_dens (h : Drawn ws fl R D) : DensOf (puts [] (itemL ws fl R D)) D := by
  refine ⟨fun d hd => (mem_its h _).mpr (mem_item.mpr (.inr (.inr (.inr ⟨d, hd, rfl⟩)))), fun nm bd hm => ?_⟩
  rcases mem_item.mp ((mem_its h _).mp hm) with ⟨e, he, z⟩ | ⟨e, he, z⟩ | ⟨e, he, z⟩ | ⟨e, he, z⟩
  · cases z
  · cases z
  · cases z
  · cases z; exact ⟨e, he, rfl, rfl⟩
theorem its_tup (h : Drawn ws fl R D) : TupR (puts [] (itemL ws fl R D)) := by
  refine ⟨fun nm n hm => ?_, fun nm rl ts bd hm => ?_⟩
  · obtain ⟨m, _, z⟩ := (krW_val (wss_ok h.w)).mp ((its_rel h nm n).mp hm)
    cases z
    omega
  · obtain ⟨r, _, e⟩ := (its_rules h).2 _ _ _ _ hm
    unfold ruI at e
    injection e with _ _ e _
    exact ⟨_, e.symm⟩
theorem its_same (h : Drawn ws fl R D) : SoundS (puts [] (itemL ws fl R D)) R D ↔ DueS (krW ws) fl R D :=
  sound_due (krW_N (wss_ok h.w)) (its_rel h) (its_fact h) (its_rules h) (its_tup h) h.rn
end
end KU

namespace KU
open PySem PySem.Spec PyProof.Rows PySem.HandSPX L2 KA
section
variable {X : Cx} {k : Nat} {m : Str} {C : Addr} {ps : List Str} {sp : Sp} {o : Expr} {ta : TE} {pos apos : Pos}
theorem pe_mdef0 (D : MDef X.prog X.w X.K X.mg X.base C m k ps sp) (he : PE X o ta) (c : Cls X.K C) (hr : Room k X.A) {pl : Sem Bool}
    (ht : eval (.Call (.Attribute o m apos) [] [] pos) X.env = (do
      let ov ← eval o X.env
      standAt apos.atName
      let (f, first) ← holding [ov] (getMethod ov m pl)
      callWith pos f first (backTo pos (starEach [] X.env)) (backToKw pos (keywordEach [] X.env))) := by rfl) : PE X (.Call (.Attribute o m apos) [] [] pos) (tMeth C m sp [] E0 ta tNil) := by
  obtain ⟨f, fd, F, M, hb⟩ := D.ex
  exact pe_meth0 he c M F hr hb .nil pass0 ht
end
section
variable {P : Program} {w : World} {K : PySem.W.Frag} {mg : Str → Option Value} {base : Heap} {C C2 : Addr}
abbrev sLaw : Stmt := topS 57
abbrev nLaw : List Str := ["script", "state", "k", "widths_v", "world", "facts", "j", "name", "row", "denials", "items", "actual", "before", "i"]
theorem scLaw : FnScope nLaw ["script"] (defScope sLaw) := ⟨rfl, rfl, rfl, by decide +kernel, rfl, by decide +kernel, by decide +kernel⟩
def spLaw (K : PySem.W.Frag) : Sp := fun vs H Q _ => ∃ (a : Addr) (ns : List Int), vs = [.ref a] ∧ SqL K H a (ns.map V.int) ∧ ns.length ≤ 63 ∧ ∀ H', Q (.bl true) H'
theorem ok_law {f0 : Addr} {fd : FuncData} (F0 : Fun K "law" "law" sLaw f0 fd) (B : Bt mg) (Bx : Bt2 mg) (T : Cs K mg C) (MKS : MkSt P w K mg base C) (MAll : mAll P w K mg base C) (DN : dNext P w K mg base) (DLw : dLw P w K mg base) (DDR : dDR P w K mg base) (DLb : dLbB P w K mg base) (DWi : dWi P w K mg base) (DIS : dIS P w K mg base C) (DDU : dDU P w K mg base) (DSm : dSmE P w K mg base) : FnOk P w K mg base CX0 11 f0 fd ["script"] (spLaw K) := by
  refine F0.ok scLaw (fun vs H Q E h => ?_) (fun cdv A outer s0 H vs Q E hr h => ?_)
  · obtain ⟨a, ns, rfl, _⟩ := h
    rfl
  · obtain ⟨sc, ns, rfl, hS, hlen, q⟩ := h
    have hu := hu_of hr
    refine ⟨_, (pss_cons (ps_set (i := 1) scLaw.nd rfl (.inr rfl) (pe_lst (pa_cons (pe_callTy call_list_of (by rfl) B.lst (by decide +kernel) (pa_cons (pv 0) pa_nil)) (pa_cons pe_int (pa_cons pe_int (pa_cons pe_int pa_nil))))))
      (pss_cons (ps_for PassesOwn.never rfl (pi_range1 (by rfl) B.rng (pa_cons pe_int pa_nil)) (pg_name (i := 2) scLaw.nd rfl (Or.inl rfl))
        (pss_cons (ps_set (i := 3) scLaw.nd rfl (.inr rfl) (pe_disp (pps_cons pe_str pe_int (pps_cons pe_str pe_int (pps_cons pe_str pe_int pps_nil))) (by rfl) (by rfl) (fun z => by cases z) (by decide)))
        (C8.pss_cut (ps_if (pt_cmpR op_eq (pe_def DN (hr.mono (by decide)) (by rfl) (pa_cons (pv 1) (pa_cons pe_int pa_nil))) pe_int (nomark _))
          (pss_one (ps_expr (pe_dpop1 (pv 3) (pe_ix ix_list (pe_lst (pa_cons pe_str (pa_cons pe_str (pa_cons pe_str pa_nil)))) (pe_def DN (hr.mono (by decide)) (by rfl) (pa_cons (pv 1) (pa_cons pe_int pa_nil))) (fun _ _ => rfl)) ⟨rfl, rfl, rfl, rfl⟩)))
          pss_nil)
        (pss_cons (ps_set (i := 4) scLaw.nd rfl (.inr rfl) (pe_disp (pps_cons pe_str (pe_callTy call_dictD (by rfl) Bx.dict (by decide +kernel) (pa_cons (pv 3) pa_nil)) (pps_cons pe_str pe_dnewK pps_nil)) (by rfl) (by rfl) (fun z => by cases z) (by decide)))
        (pss_cons (ps_set (i := 5) scLaw.nd rfl (.inl rfl) (pe_lst pa_nil))
        (pss_cons (ps_for PassesOwn.never rfl (pi_range1 (by rfl) B.rng (pa_cons (pe_def DN (hr.mono (by decide)) (by rfl) (pa_cons (pv 1) (pa_cons pe_int pa_nil))) pa_nil)) (pg_name (i := 6) scLaw.nd rfl (Or.inl rfl))
          (pss_cons (ps_set (i := 7) scLaw.nd rfl (.inl rfl) (pe_ix ix_list (pe_lst (pa_cons pe_str (pa_cons pe_str (pa_cons pe_str (pa_cons pe_str (pa_cons pe_str pa_nil)))))) (pe_op op_fdiv (pe_def DN (hr.mono (by decide)) (by rfl) (pa_cons (pv 1) (pa_cons pe_int pa_nil))) pe_int) (fun _ _ => rfl)))
          (pss_cons (ps_set (i := 8) scLaw.nd rfl (.inl rfl) (pe_callTy call_tuple_of (by rfl) B.tup (by decide +kernel) (pa_cons (pe_lc (own := [("i", 13)]) (g := (gName 13)) (tt := tYes) (te := (tCall spLw [] E0 (tCons (tVar 1) tNil))) rfl scLaw.nd (pi_range1 (by rfl) B.rng (pa_cons (pe_op op_add (pe_dget2 hu (pe_disp (pps_cons pe_str pe_int (pps_cons pe_str pe_int pps_nil)) (by rfl) (by rfl) (fun z => by cases z) (by decide)) (pv 7) pe_int ⟨rfl, rfl, rfl, rfl⟩) (pe_callTy call_int1 (by rfl) B.int (by decide +kernel) (pa_cons (pe_cmpR op_eq (pe_def DN (hr.mono (by decide)) (by rfl) (pa_cons (pv 1) (pa_cons pe_int pa_nil))) pe_int (nomark _)) pa_nil))) pa_nil)) (blkOk_by (own := [("i", 13)]) (N := nLaw) (sc := defScope sLaw) (by decide +kernel)) (fun _ _ _ _ _ => (pg_name (i := 13) scLaw.nd rfl (Or.inl rfl))) (fun _ _ _ _ _ => pts_nil) (fun _ _ _ _ _ => (pe_def DLw (hr.mono (by decide)) (by rfl) (pa_cons (pv 1) pa_nil)))) pa_nil)))
          (pss_one (ps_if (PW.pt (pw_or (pt_cmp (pc_din hu (pv 7) (pv 3))) (pw_or1 (pt_cmpR op_eq (pe_def DN (hr.mono (by decide)) (by rfl) (pa_cons (pv 1) (pa_cons pe_int pa_nil))) pe_int (nomark _)))))
            (pss_one (ps_expr (pe_bm PySem.F.plainAttrs_list PySem.F.slot_list_append PySem.F.type_list_append mt_append (pv 5) (pa_cons (pe_tup (pa_cons (pv 7) (pa_cons (pv 8) pa_nil))) pa_nil))))
            pss_nil)))))
        (pss_cons (ps_for PassesOwn.never rfl (pi_range1 (by rfl) B.rng (pa_cons (pe_def DN (hr.mono (by decide)) (by rfl) (pa_cons (pv 1) (pa_cons pe_int pa_nil))) pa_nil)) (pg_name (i := 6) scLaw.nd rfl (Or.inl rfl))
          (pss_one (ps_dput hu (pe_dget hu (pv 4) pe_str (fun _ _ => rfl)) (pe_op op_add_str pe_str (pe_callTy call_str_int (by rfl) B.str (by decide +kernel) (pa_cons (pv 6) pa_nil))) (pe_def DDR (hr.mono (by decide)) (by rfl) (pa_cons (pv 1) (pa_cons (pv 3) pa_nil))) rfl)))
        (pss_cons (ps_set (i := 9) scLaw.nd rfl (.inr rfl) pe_dnewK)
        (pss_cons (ps_for PassesOwn.never rfl (pi_range1 (by rfl) B.rng (pa_cons (pe_def DN (hr.mono (by decide)) (by rfl) (pa_cons (pv 1) (pa_cons pe_int pa_nil))) pa_nil)) (pg_name (i := 6) scLaw.nd rfl (Or.inl rfl))
          (pss_one (ps_dput hu (pv 9) (pe_op op_add_str pe_str (pe_callTy call_str_int (by rfl) B.str (by decide +kernel) (pa_cons (pv 6) pa_nil))) (pe_def DLb (hr.mono (by decide)) (by rfl) (pa_cons (pv 1) (pa_cons (pe_def DWi (hr.mono (by decide)) (by rfl) (pa_cons (pv 4) pa_nil)) (pa_cons (pe_cmpR op_gt (pe_def DN (hr.mono (by decide)) (by rfl) (pa_cons (pv 1) (pa_cons pe_int pa_nil))) pe_int (nomark _)) (pa_cons pe_int pa_nil))))) rfl)))
        (C8.pss_cut (ps_set (i := 10) scLaw.nd rfl (.inl rfl) (pe_op op_cat (pe_lock (pe_lc (own := [("name", 7)]) (g := (gName 7)) (tt := tYes) (te := (tTup (tCons (tC (.str "relation")) (tCons (tVar 7) (tCons (tDGet (tVar 3) (tVar 7)) tNil))))) rfl scLaw.nd (pi_keys (pv 3)) (blkOk_by (own := [("name", 7)]) (N := nLaw) (sc := defScope sLaw) (by decide +kernel)) (fun _ _ _ _ _ => (pg_name (i := 7) scLaw.nd rfl (Or.inl rfl))) (fun _ _ _ _ _ => pts_nil) (fun _ _ _ _ _ => (pe_tup (pa_cons pe_str (pa_cons (pv 7) (pa_cons (pe_dget hu (pv 3) (pv 7) (fun _ _ => rfl)) pa_nil))))))) (pe_lc (own := [("name", 7), ("row", 8)]) (g := (gTup K 2 (gCons (gName 7) (gCons (gName 8) gNil)))) (tt := tYes) (te := (tTup (tCons (tC (.str "fact")) (tCons (tVar 7) (tCons (tVar 8) tNil))))) rfl scLaw.nd (pi_list (pv 5)) (blkOk_by (own := [("name", 7), ("row", 8)]) (N := nLaw) (sc := defScope sLaw) (by decide +kernel)) (fun _ _ _ _ _ => (pg_tup rfl (pgs_cons (pg_name (i := 7) scLaw.nd rfl (Or.inl rfl)) (pgs_cons (pg_name (i := 8) scLaw.nd rfl (Or.inl rfl)) pgs_nil)))) (fun _ _ _ _ _ => pts_nil) (fun _ _ _ _ _ => (pe_tup (pa_cons pe_str (pa_cons (pv 7) (pa_cons (pv 8) pa_nil))))))))
        (C8.pss_cut (ps_set (i := 10) scLaw.nd rfl (.inl rfl) (pe_op op_cat (pv 10) (pe_lock (pe_lc (own := [("name", 7)]) (g := (gName 7)) (tt := tYes) (te := (tOp (rCatT K) (tTup (tCons (tC (.str "rule")) (tCons (tVar 7) tNil))) (tDGet (tDGet (tVar 4) (tC (.str "rules"))) (tVar 7)))) rfl scLaw.nd (pi_keys (pe_dget hu (pv 4) pe_str (fun _ _ => rfl))) (blkOk_by (own := [("name", 7)]) (N := nLaw) (sc := defScope sLaw) (by decide +kernel)) (fun _ _ _ _ _ => (pg_name (i := 7) scLaw.nd rfl (Or.inl rfl))) (fun _ _ _ _ _ => pts_nil) (fun _ _ _ _ _ => (pe_op op_catT (pe_tup (pa_cons pe_str (pa_cons (pv 7) pa_nil))) (pe_dget hu (pe_dget hu (pv 4) pe_str (fun _ _ => rfl)) (pv 7) (fun _ _ => rfl))))))))
        (C8.pss_cut (ps_set (i := 11) scLaw.nd rfl (.inl rfl) (pe_mk1 MKS (hr.mono (by decide)) (by rfl) T.mgC (pa_cons (pe_op op_cat (pv 10) (pe_lock (pe_lc (own := [("name", 7)]) (g := (gName 7)) (tt := tYes) (te := (tTup (tCons (tC (.str "denial")) (tCons (tVar 7) (tCons (tDGet (tVar 9) (tVar 7)) tNil))))) rfl scLaw.nd (pi_keys (pv 9)) (blkOk_by (own := [("name", 7)]) (N := nLaw) (sc := defScope sLaw) (by decide +kernel)) (fun _ _ _ _ _ => (pg_name (i := 7) scLaw.nd rfl (Or.inl rfl))) (fun _ _ _ _ _ => pts_nil) (fun _ _ _ _ _ => (pe_tup (pa_cons pe_str (pa_cons (pv 7) (pa_cons (pe_dget hu (pv 9) (pv 7) (fun _ _ => rfl)) pa_nil)))))))) pa_nil)))
        (pss_cons (ps_set (i := 12) scLaw.nd rfl (.inl rfl) (pe_mdef0 MAll (pv 11) T.cl (hr.mono (by decide))))
        (pss_one (ps_if (PW.pt (pw_or (pt_not (pt_val (pe_def DSm (hr.mono (by decide)) (by rfl) (pa_cons (pe_def DIS (hr.mono (by decide)) (by rfl) (pa_cons (pv 11) pa_nil)) (pa_cons (pe_def DDU (hr.mono (by decide)) (by rfl) (pa_cons (pv 4) (pa_cons (pv 5) (pa_cons (pv 9) pa_nil)))) pa_nil))))) (pw_or1 (pt_not (pt_val (pe_def DSm (hr.mono (by decide)) (by rfl) (pa_cons (pe_mdef0 MAll (pv 11) T.cl (hr.mono (by decide))) (pa_cons (pv 12) pa_nil))))))))
          (pss_one (ps_ret pe_bl))
          pss_nil)))))))))))))))
      (pss_one (ps_ret pe_bl)))), ?_⟩
    have g00 := hS
    refine ⟨.ref sc, rfl, sc, _, rfl, .inl hS, fun L nL => ?_⟩
    generalize hG : upd _ L _ = H1
    obtain ⟨s1, e1⟩ := gen_up hG nL
    clear hG
    refine ⟨len4, fun st nst => ?_⟩
    generalize hG : upd _ st _ = H2
    obtain ⟨s2, e2⟩ := gen_up hG nst
    clear hG
    have g2 : Good st L H2 := ⟨ns, 0, 0, 1, e2, s2 _ _ e1, by decide, by decide⟩
    refine ⟨3, rfl, by decide, by decide, ?_⟩
    refine for_range (lo := 0) (n := (3 : Int).toNat) (fun i σ H' => Good st L H' ∧ ∃ x2 x3 x4 x5 x6 x7 x8 x9 x10 x11 x12, σ = [some (.ref sc), some (.ref st), x2, x3, x4, x5, x6, x7, x8, x9, x10, x11, x12, none]) ⟨g2, _, _, _, _, _, _, _, _, _, _, _, rfl⟩ (fun i σ H0 hi hP => ?_) (fun σ H' hP => q _)
    clear g2 e2 s2 e1 s1 nL nst hS g00
    obtain ⟨g0, x2, x3, x4, x5, x6, x7, x8, x9, x10, x11, x12, rfl⟩ := hP
    have nost : ∀ {a : Addr} {Hx : Hp}, Dr st L H0 Hx → Hx a = none → a ≠ st := fun d h z => d.good.not_none (by rw [← z]; exact h)
    -- widths
    intro wv nwv
    generalize hG : upd _ wv _ = H1
    obtain ⟨s1, e1⟩ := gen_up hG nwv
    clear hG
    refine ⟨e1, krW ws0, rfl, (by show 3 ≤ 15; decide), ?_⟩
    have emr : mergeK [] (krW ws0) = krW ws0 := rfl
    rw [emr]
    generalize hG : upd _ wv _ = H2
    have d2 : Dr st L H0 H2 := by
      subst hG
      exact (Dr.same g0 s1).put g0 nwv
    have e2 : H2 wv = some (.dK (krW ws0)) := by
      subst hG
      exact upd_same
    clear hG e1 s1
    refine ⟨fun σ H' => σ = [some (.ref sc), some (.ref st), some (.int (0 + (i : Int))), some (.ref wv), x4, x5, x6, x7, x8, x9, x10, x11, x12, none] ∧ Dr st L H0 H' ∧ ∃ ws ∈ wss, H' wv = some (.dK (krW ws)), ?_, ?_⟩
    · refine ⟨.ref st, rfl, st, L, 4, rfl, d2.good, by decide, by decide, fun v H3 d3 _ _ => ⟨rfl, _, rfl, ite2 (fun _ => ?_) (fun _ => ?_)⟩⟩
      · have nwst := good_dk d2.good e2
        have e3 := d3.at_ nwst e2
        have d03 := d2.trans d3
        refine ⟨.ref wv, rfl, wv, rfl, .inl ⟨_, .of e3⟩, (by show 3 ≤ sizeLine; decide), fun p np => ?_⟩
        have d4 := Dr.new (o := .lst ((["p", "q", "r"] : List Str).map V.str)) d03.good np
        refine ⟨.ref st, rfl, st, L, 3, rfl, d4.good, by decide, by decide, fun v3 H5 d5 v30 v31 => ?_⟩
        obtain ⟨z, hz, ez⟩ := pick_at (f := V.str) (ks := (["p", "q", "r"] : List Str)) v30 v31
        obtain ⟨ws, hw, ew, vv, evv⟩ := drop_ws hz
        have d45 := d4.trans d5
        refine ⟨p, _, v3, .str z, rfl, rfl, SqL.of (Dr.keep d03.good np d5), ez, krW ws0, Sum.inr z, vv, d45.at_ nwst e3, rfl, evv, ?_⟩
        rw [ew]
        exact ⟨rfl, (d03.trans d45).put g0 nwv, ws, hw, upd_same⟩
      · exact ⟨rfl, d2.trans d3, ws0, by simp [wss], d3.at_ (good_dk d2.good e2) e2⟩
    rintro σ H3 ⟨rfl, d3, ws, hw, e3⟩
    clear d2 e2
    have wok := wss_ok hw
    have lws := wok.len
    -- the world
    intro W nW
    generalize hG : upd _ W _ = H4
    obtain ⟨s4, e4⟩ := gen_up hG nW
    clear hG
    refine ⟨.ref wv, rfl, wv, krW ws, rfl, .of (s4 _ _ e3), fun Rr nR => ?_⟩
    generalize hG : upd _ Rr _ = H5
    obtain ⟨s5, e5⟩ := gen_up hG nR
    clear hG
    intro U nU
    generalize hG : upd _ U _ = H6
    obtain ⟨s6, e6⟩ := gen_up hG nU
    clear hG
    refine ⟨s6 _ _ (s5 _ _ e4), [(.inr "relations", .ref Rr), (.inr "rules", .ref U)], rfl, (by show 2 ≤ 15; decide), ?_⟩
    have emw : mergeK [] [((Sum.inr "relations" : Key), V.ref Rr), (Sum.inr "rules", .ref U)] = [(.inr "relations", .ref Rr), (.inr "rules", .ref U)] := rfl
    rw [emw]
    have nWH0 : H0 W = none := d3.free nW
    have nUH3 : H3 U = none := by
      cases c : H3 U with
      | none => rfl
      | some o => rw [s5 _ _ (s4 _ _ c)] at nU; cases nU
    have nUH0 : H0 U = none := d3.free nUH3
    have nUW : U ≠ W := fun z => by rw [z, s5 _ _ e4] at nU; cases nU
    have nUR : U ≠ Rr := fun z => by rw [z, e5] at nU; cases nU
    have nRW : Rr ≠ W := fun z => by rw [z, e4] at nR; cases nR
    have nwvW : wv ≠ W := fun z => by rw [← z, e3] at nW; cases nW
    have nwvU : wv ≠ U := fun z => by rw [← z, s5 _ _ (s4 _ _ e3)] at nU; cases nU
    have d6 : Dr st L H0 H6 := d3.trans (Dr.same d3.good ((s4.trans s5).trans s6))
    generalize hG : upd H6 W _ = H7
    have d7 : Dr st L H0 H7 := by
      subst hG
      exact d6.put g0 nWH0
    obtain ⟨e7, k7⟩ := gen_wr hG
    clear hG
    have e7R := k7 _ _ nRW (s6 _ _ e5)
    have e7U := k7 _ _ nUW e6
    have e7v := k7 _ _ nwvW (s6 _ _ (s5 _ _ (s4 _ _ e3)))
    -- the facts
    refine ⟨Nat.zero_le _, fun fa nfa => ?_⟩
    generalize hG : upd _ fa _ = H8
    obtain ⟨s8, e8⟩ := gen_up hG nfa
    clear hG
    have wl : WL H0 H8 st L wv W Rr U fa ws [] [] [] [] := ⟨d7.trans (Dr.same d7.good s8), s8 _ _ e7v, s8 _ _ e7, s8 _ _ e7R, s8 _ _ e7U, e8, .nil, ⟨rfl, .nil⟩, nwvU, nUW.symm, nUR.symm, nost d7 nfa, nUH0, d7.free nfa⟩
    clear d7 d6 e7 k7 e7R e7U e7v e8 s8 nfa e6 s6 e5 s5 e4 s4 nW nR nU nUH3
    refine ⟨.ref st, rfl, st, L, 7, rfl, wl.dr.good, by decide, by decide, fun m Hm dm m0 m7 => ⟨m, rfl, by omega, by omega, ?_⟩⟩
    refine for_range (lo := 0) (n := m.toNat) (fun j σ H' => (∃ y6 y7 y8, σ = [some (.ref sc), some (.ref st), some (.int (0 + (i : Int))), some (.ref wv), some (.ref W), some (.ref fa), y6, y7, y8, x9, x10, x11, x12, none]) ∧ ∃ fs fl, WL H0 H' st L wv W Rr U fa ws [] [] fs fl ∧ fl.length ≤ j ∧ ∀ e ∈ fl, e.2.length ≤ 3) ⟨⟨_, _, _, rfl⟩, [], [], wl.to dm, Nat.le_refl _, fun e he => by cases he⟩ (fun j σ H' hj hP => ?_) (fun σ Ha hP => ?_)
    · clear wl
      obtain ⟨⟨y6, y7, y8, rfl⟩, fs, fl, wl, lfl, hfl⟩ := hP
      refine ⟨(by show 5 ≤ sizeLine; decide), fun p1 np1 => ?_⟩
      have d1 := Dr.new (o := .lst ((["p", "q", "r", "u", "none"] : List Str).map V.str)) wl.dr.good np1
      refine ⟨.ref st, rfl, st, L, 40, rfl, d1.good, by decide, by decide, fun v2 Hb d2 v20 v21 => ⟨v2, 9, rfl, rfl, ⟨by decide, by decide⟩, ?_⟩⟩
      obtain ⟨nm, hnm, enm⟩ := pick_at (f := V.str) (ks := (["p", "q", "r", "u", "none"] : List Str)) (v := v2 / 9) (by omega) (by show v2 / 9 < ((5 : Nat) : Int); omega)
      refine ⟨p1, _, v2 / 9, .str nm, rfl, rfl, SqL.of (Dr.keep wl.dr.good np1 d2), enm, ?_⟩
      have wl := wl.to (d1.trans d2)
      -- the row
      intro pd npd
      generalize hG : upd _ pd _ = Hq
      obtain ⟨sq, eq⟩ := gen_up hG npd
      clear hG
      refine ⟨eq, [(.inr "p", .int 2), (.inr "r", .int 2)], rfl, (by show 2 ≤ 15; decide), ?_⟩
      generalize hG : upd Hq pd _ = Hq2
      have sq2 : Same Hb Hq2 := by
        subst hG
        exact same_put sq npd
      have eq2 : Hq2 pd = some (.dK [(.inr "p", .int 2), (.inr "r", .int 2)]) := by
        subst hG
        exact upd_same
      clear hG
      have wl := wl.same sq2
      refine ⟨pd, rfl, .inl ⟨_, .of eq2⟩, .str nm, rfl, valV [(.inr "p", .int 2), (.inr "r", .int 2)] (Sum.inr nm : Key), DGet.k (k := Sum.inr nm) eq2, ?_⟩
      obtain ⟨c, ec, c1, c2⟩ : ∃ c : Nat, (valV ([(.inr "p", .int 2), (.inr "r", .int 2)] : List (Key × V)) (Sum.inr nm : Key)).getD (.int 1) = .int (c : Int) ∧ 1 ≤ c ∧ c ≤ 2 := by
        by_cases h : (Sum.inr "p" : Key) = Sum.inr nm
        · exact ⟨2, by rw [valV_pos h]; rfl, by decide, by decide⟩
        · rw [valV_neg h]
          by_cases h2 : (Sum.inr "r" : Key) = Sum.inr nm
          · exact ⟨2, by rw [valV_pos h2]; rfl, by decide, by decide⟩
          · exact ⟨1, by rw [valV_neg h2]; rfl, by decide, by decide⟩
      rw [ec]
      refine ⟨.ref st, rfl, st, L, 20, rfl, wl.dr.good, by decide, by decide, fun v10 Hd dd10 _ _ => ⟨rfl, .inr ⟨_, rfl, ?_⟩⟩⟩
      refine ⟨(c : Int), _, rfl, rfl, ?_⟩
      obtain ⟨r, er, r1, r3⟩ : ∃ r : Nat, ((c : Int) + (if decide (V.int v10 = V.int 0) = true then 1 else 0)) = (r : Int) ∧ 1 ≤ r ∧ r ≤ 3 := by
        cases decide (V.int v10 = V.int 0) with
        | true => exact ⟨c + 1, by rw [if_pos rfl]; omega, by omega, by omega⟩
        | false => exact ⟨c, by rw [if_neg Bool.false_ne_true]; omega, by omega, by omega⟩
      have wl := wl.to dd10
      have gd := wl.dr.good
      refine ⟨(r : Int), congrArg (fun z => [V.int z]) er, by omega, by omega, fun D nD => ?_⟩
      have nDst := nost wl.dr nD
      refine lc_range (lo := 0) (n := ((r : Nat) : Int).toNat) (fun i H' => Dr st L Hd H' ∧ ∃ ks : List Key, H' D = some (.lst (ks.map kV)) ∧ ks.length = i) ⟨Dr.new gd nD, [], upd_same, rfl⟩ (fun i H' hi hP => ?_) (fun He hP => ?_)
      · obtain ⟨dd, ks, eD, lk⟩ := hP
        refine ⟨rfl, iteT (B := True) ?_⟩
        refine ⟨.ref st, rfl, st, L, rfl, dd.good, fun k H5 d5 kb => ?_⟩
        exact ⟨_, d5.at_ nDst eD, small1000 (by rw [List.length_map]; omega), (dd.trans d5).put gd nD, ks ++ [k], by rw [upd_same, List.map_append]; rfl, by rw [List.length_append, lk]; rfl⟩
      obtain ⟨dde, ks, eD, lk⟩ := hP
      have lk : ks.length = r := by rw [lk, Int.toNat_natCast]
      have wl := wl.to dde
      refine ⟨D, _, rfl, .inl ⟨SqL.of eD, fun tp ntp => ?_⟩⟩
      generalize hG : upd _ tp _ = Hf
      obtain ⟨sf, ef⟩ := gen_up hG ntp
      clear hG
      have wl := wl.same sf
      have trow : Tp Hf (.ref tp) (.tuple (ks.map keyD)) := .tup ef (keyD_tps ks)
      have fin : ∀ {Hg : Hp}, WL H0 Hg st L wv W Rr U fa ws [] [] fs fl → Tk Hf Hg → ∃ (t : V), True := fun _ _ => ⟨.non, trivial⟩
      clear fin
      have add : ∀ {Hg : Hp}, Dr st L Hf Hg → ∀ p, Hg p = none → ((∃ y6 y7 y8, ([some (.ref sc), some (.ref st), some (.int (0 + (i : Int))), some (.ref wv), some (.ref W), some (.ref fa), some (.int (0 + (j : Int))), some (.str nm), some (.ref tp), x9, x10, x11, x12, none] : L2.St) = [some (.ref sc), some (.ref st), some (.int (0 + (i : Int))), some (.ref wv), some (.ref W), some (.ref fa), y6, y7, y8, x9, x10, x11, x12, none]) ∧ ∃ fs fl, WL H0 (upd (upd Hg p (.tup [.str nm, .ref tp])) fa (.lst (fs ++ [.ref p]))) st L wv W Rr U fa ws [] [] fs fl ∧ fl.length ≤ j + 1 ∧ ∀ e ∈ fl, e.2.length ≤ 3) ∨ True := fun _ _ _ => .inr trivial
      clear add
      refine ⟨.str nm, rfl, .ref wv, rfl, wv, valV (krW ws) (Sum.inr nm : Key), rfl, DGet.k (k := Sum.inr nm) wl.ewv, (valV (krW ws) (Sum.inr nm : Key)).isSome, rfl, ?_⟩
      have add : ∀ {Hg : Hp}, WL H0 Hg st L wv W Rr U fa ws [] [] fs fl → Tp Hg (.ref tp) (.tuple (ks.map keyD)) → ∀ p, Hg p = none → WL H0 (upd (upd Hg p (.tup [.str nm, .ref tp])) fa (.lst (fs ++ [.ref p]))) st L wv W Rr U fa ws [] [] (fs ++ [.ref p]) (fl ++ [(nm, ks)]) := fun w t p np => (w.same (same_new np)).fact g0 (e := (nm, ks)) (tup2 np (.str _) t)
      have lfs := wl.tfa.length
      rw [List.length_map] at lfs
      have lfs2 : fs.length ≤ 1000 := by omega
      have add2 : ∀ {Hg : Hp}, WL H0 Hg st L wv W Rr U fa ws [] [] fs fl → Tp Hg (.ref tp) (.tuple (ks.map keyD)) → ∀ p, Hg p = none → ((∃ y6 y7 y8, ([some (.ref sc), some (.ref st), some (.int (0 + (i : Int))), some (.ref wv), some (.ref W), some (.ref fa), some (.int (0 + (j : Int))), some (.str nm), some (.ref tp), x9, x10, x11, x12, none] : L2.St) = [some (.ref sc), some (.ref st), some (.int (0 + (i : Int))), some (.ref wv), some (.ref W), some (.ref fa), y6, y7, y8, x9, x10, x11, x12, none]) ∧ ∃ fs' fl', WL H0 (upd (upd Hg p (.tup [.str nm, .ref tp])) fa (.lst (fs ++ [.ref p]))) st L wv W Rr U fa ws [] [] fs' fl' ∧ fl'.length ≤ j + 1 ∧ ∀ e ∈ fl', e.2.length ≤ 3) := fun w t p np => ⟨⟨_, _, _, rfl⟩, _, _, add w t p np, by rw [List.length_append]; show _ + 1 ≤ _; omega, fun e he => by
        rcases List.mem_append.mp he with he | he
        · exact hfl e he
        · rw [List.mem_singleton.mp he]
          show ks.length ≤ 3
          omega⟩
      cases (valV (krW ws) (Sum.inr nm : Key)).isSome with
      | true =>
        refine iteT' rfl (iteT' rfl ⟨.ref fa, rfl, .inl ⟨rfl, _, SqL.of wl.efa⟩, .str nm, rfl, .ref tp, rfl, len2, fun p np => ⟨fa, fs, _, rfl, rfl, (wl.same (same_new np)).efa, small1000 lfs2, add2 wl trow p np⟩⟩)
      | false =>
        refine iteF' rfl ⟨.ref st, rfl, st, L, 4, rfl, wl.dr.good, by decide, by decide, fun v Hg dg _ _ => ⟨rfl, _, rfl, ite2 (fun _ => ?_) (fun _ => ?_)⟩⟩
        · have wg := wl.to dg
          exact ⟨.ref fa, rfl, .inl ⟨rfl, _, SqL.of wg.efa⟩, .str nm, rfl, .ref tp, rfl, len2, fun p np => ⟨fa, fs, _, rfl, rfl, (wg.same (same_new np)).efa, small1000 lfs2, add2 wg (trow.mono (dg.tk wl.dr.good)) p np⟩⟩
        · exact ⟨⟨_, _, _, rfl⟩, fs, fl, wl.to dg, by omega, hfl⟩
    · clear wl
      obtain ⟨⟨y6, y7, y8, rfl⟩, fs, fl, wl, lfl, hfl⟩ := hP
      have lfl6 : fl.length ≤ 6 := by omega
      clear dm m0 m7 lfl
      -- the rules
      refine ⟨.ref st, rfl, st, L, 5, rfl, wl.dr.good, by decide, by decide, fun m Hm dm m0 m5 => ⟨m, rfl, by omega, by omega, ?_⟩⟩
      refine for_range (lo := 0) (n := m.toNat) (fun j σ H' => (∃ y6 y7 y8, σ = [some (.ref sc), some (.ref st), some (.int (0 + (i : Int))), some (.ref wv), some (.ref W), some (.ref fa), y6, y7, y8, x9, x10, x11, x12, none]) ∧ ∃ ku R, WL H0 H' st L wv W Rr U fa ws ku R fs fl ∧ R.map Ru.nm = (List.range j).map (nmS "n") ∧ ∀ r ∈ R, 1 ≤ r.ts.length ∧ r.ts.length ≤ 3 ∧ BodyN r.ls) ⟨⟨_, _, _, rfl⟩, [], [], wl.to dm, rfl, fun e he => by cases he⟩ (fun j σ H' hj hP => ?_) (fun σ Hb hP => ?_)
      · clear wl
        obtain ⟨⟨y6, y7, y8, rfl⟩, ku, R, wl, hnm, hR⟩ := hP
        have hj4 : j < 4 := by omega
        refine ⟨.ref st, rfl, .ref wv, rfl, st, L, wv, krW ws, rfl, wl.dr.good, wl.ewv, krW_E wok, by rw [krW_len]; exact wok.pos, fun p u ub rl xs xb ts ls Hc dc ep eu tx l1 l3 tb eub txb bn => ?_⟩
        have wc := wl.to dc
        refine ⟨.ref W, rfl, W, .ref U, rfl, DGet.k (k := Sum.inr "rules") wc.hW, ?_⟩
        refine ⟨.int (0 + (j : Int)), rfl, 0 + (j : Int), rfl, nm_log j (by omega), "n", _, rfl, rfl, nm_len (.inl rfl) j (by omega), ?_⟩
        have fresh : valV ku (Sum.inr (nmS "n" j) : Key) = none := by
          cases c : valV ku (Sum.inr (nmS "n" j) : Key) with
          | none => rfl
          | some v0 =>
            have hm := mem_of_valV c
            have hm2 : (Sum.inr (nmS "n" j) : Key) ∈ ku.map (·.1) := List.mem_map.mpr ⟨_, hm, rfl⟩
            rw [wl.rk.1] at hm2
            obtain ⟨r, hr, er⟩ := List.mem_map.mp hm2
            have h3 : r.nm ∈ R.map Ru.nm := List.mem_map.mpr ⟨r, hr, rfl⟩
            rw [hnm] at h3
            obtain ⟨j', hj', ej⟩ := List.mem_map.mp h3
            have lt := List.mem_range.mp hj'
            have := nmS_inj (.inl rfl) j' (by omega) j (by omega) (ej.trans (inr_iff.mp er))
            omega
        have lku := wl.rk.length
        have lR : R.length = j := by
          have := congrArg List.length hnm
          rw [List.length_map, List.length_map, List.length_range] at this
          exact this
        refine ⟨U, _, rfl, DPut.k (k := (Sum.inr (nmS "n" j) : Key)) wc.hU (small7 (by omega)), ?_⟩
        rw [putK_snoc fresh]
        have tr : Tp Hc (.ref p) (ruD ⟨nmS "n" j, rl, ts, ls⟩) := .tup ep (.cons (.str _) (.cons (.tup eu tx) (.cons (.tup eub txb) .nil)))
        refine ⟨⟨_, _, _, rfl⟩, _, _, wc.rule g0 tr, ?_, fun r hr => ?_⟩
        · rw [List.map_append, hnm, List.range_succ, List.map_append]
          rfl
        · rcases List.mem_append.mp hr with hr | hr
          · exact hR r hr
          · rw [List.mem_singleton.mp hr]
            exact ⟨l1, l3, bn⟩
      clear wl
      obtain ⟨⟨y6, y7, y8, rfl⟩, ku, R, wl, hnm, hR⟩ := hP
      have lR : R.length ≤ 4 := by
        have := congrArg List.length hnm
        rw [List.length_map, List.length_map, List.length_range] at this
        omega
      have nnR : (R.map Ru.nm).Nodup := by
        rw [hnm]
        exact List.Pairwise.map _ (fun a b q z => q z) (List.Pairwise.imp_of_mem (R := fun a b => a ≠ b) (fun {a b} ha hb q z => q (nmS_inj (.inl rfl) a (by have := List.mem_range.mp ha; omega) b (by have := List.mem_range.mp hb; omega) z)) List.nodup_range)
      clear dm m0 m5 hnm
      -- the denials
      intro da nda
      generalize hG : upd _ da _ = Hc
      obtain ⟨sc', eda⟩ := gen_up hG nda
      clear hG
      have ndaH0 : H0 da = none := wl.dr.free nda
      have q1 : da ≠ wv := fun z => by rw [z, wl.ewv] at nda; cases nda
      have q2 : da ≠ W := fun z => by rw [z, wl.hW] at nda; cases nda
      have q3 : da ≠ Rr := fun z => by rw [z, wl.hR] at nda; cases nda
      have q4 : da ≠ U := fun z => by rw [z, wl.hU] at nda; cases nda
      have wl := wl.same sc'
      have hku := wl.rk.length
      have nku : nd ku := by
        show (ku.map (·.1)).Nodup
        rw [wl.rk.1, show R.map (fun r => (Sum.inr r.nm : Key)) = (R.map Ru.nm).map Sum.inr by rw [List.map_map]; rfl]
        exact List.Pairwise.map _ (fun a b q z => q (inr_iff.mp z)) nnR
      have lRl : (rlOf R).length ≤ 10 := by unfold rlOf; rw [List.length_map]; omega
      obtain ⟨wdE, wd0⟩ := wdE_all wok (R := R) fun r hr => ⟨(hR r hr).1, (hR r hr).2.1⟩
      obtain ⟨kss, wdk⟩ := wdE.wdk wd0 (by omega)
      refine ⟨.ref st, rfl, st, L, 3, rfl, wl.dr.good, by decide, by decide, fun m Hm dm m0 m3 => ⟨m, rfl, by omega, by omega, ?_⟩⟩
      refine for_range (lo := 0) (n := m.toNat) (fun j σ H' => (∃ y6 y7 y8, σ = [some (.ref sc), some (.ref st), some (.int (0 + (i : Int))), some (.ref wv), some (.ref W), some (.ref fa), y6, y7, y8, some (.ref da), x10, x11, x12, none]) ∧ WL H0 H' st L wv W Rr U fa ws ku R fs fl ∧ ∃ (kd : List (Key × V)) (D : List (Str × List KU.L)), H' da = some (.dK kd) ∧ kd.map (·.1) = D.map (fun d => (Sum.inr d.1 : Key)) ∧ Tps H' (kd.map (·.2)) (D.map fun d => .tuple (d.2.map litD)) ∧ D.map (·.1) = (List.range j).map (nmS "d") ∧ ∀ d ∈ D, BodyN d.2) ⟨⟨_, _, _, rfl⟩, wl.to dm, [], [], dm.at_ (good_dk wl.dr.good eda) eda, rfl, .nil, rfl, fun e he => by cases he⟩ (fun j σ H' hj hP => ?_) (fun σ Hd hP => ?_)
      · clear wl
        obtain ⟨⟨y6, y7, y8, rfl⟩, wl, kd, D, eda, kdk, kdt, hnm, hD⟩ := hP
        have hj2 : j < 2 := by omega
        refine ⟨.ref st, rfl, .ref W, rfl, W, Rr, U, krW ws, ku, rlOf R, rfl, wl.hW, wl.hR, wl.hU, wl.n2, by rw [krW_len]; omega, lRl, nku, ruE_of wl.rk, fun y Hy sy ey ny => ?_⟩
        have wy := wl.same sy
        refine ⟨.ref st, rfl, st, L, 6, rfl, wy.dr.good, by decide, by decide, fun v Hv dv _ _ => ⟨_, 0, rfl, rfl, ?_⟩⟩
        have wv' := wy.to dv
        have eyv := dv.at_ (good_dk wy.dr.good ey) ey
        refine ⟨st, L, y, _, kss, _, rfl, wv'.dr.good, eyv, wdk, fun ub xb ls Hw dw eub txb bn => ?_⟩
        have ww := wv'.to dw
        have dall := ((Dr.same wl.dr.good sy).trans dv).trans dw
        have edw := dall.at_ (good_dk wl.dr.good eda) eda
        have kdw := kdt.mono (dall.tk wl.dr.good)
        refine ⟨.ref da, rfl, .int (0 + (j : Int)), rfl, 0 + (j : Int), rfl, nm_log j (by omega), "d", _, rfl, rfl, nm_len (.inr rfl) j (by omega), ?_⟩
        have lkd : kd.length = D.length := by
          have := congrArg List.length kdk
          rw [List.length_map, List.length_map] at this
          exact this
        have lD : D.length = j := by
          have := congrArg List.length hnm
          rw [List.length_map, List.length_map, List.length_range] at this
          exact this
        have fresh : valV kd (Sum.inr (nmS "d" j) : Key) = none := by
          cases c : valV kd (Sum.inr (nmS "d" j) : Key) with
          | none => rfl
          | some v0 =>
            have hm2 : (Sum.inr (nmS "d" j) : Key) ∈ kd.map (·.1) := List.mem_map.mpr ⟨_, mem_of_valV c, rfl⟩
            rw [kdk] at hm2
            obtain ⟨r, hr, er⟩ := List.mem_map.mp hm2
            have h3 : r.1 ∈ D.map (·.1) := List.mem_map.mpr ⟨r, hr, rfl⟩
            rw [hnm] at h3
            obtain ⟨j', hj', ej⟩ := List.mem_map.mp h3
            have lt := List.mem_range.mp hj'
            have := nmS_inj (.inr rfl) j' (by omega) j (by omega) (ej.trans (inr_iff.mp er))
            omega
        refine ⟨da, _, rfl, DPut.k (k := (Sum.inr (nmS "d" j) : Key)) edw (small7 (by omega)), ?_⟩
        rw [putK_snoc fresh]
        have tk : Tk Hw (upd Hw da (.dK (kd ++ [(Sum.inr (nmS "d" j), .ref ub)]))) := fun a xs h => by rw [upd_ne (fun z => by rw [z, edw] at h; cases h)]; exact h
        refine ⟨⟨_, _, _, rfl⟩, ww.put g0 ndaH0 edw q1 q2 q3 q4, _, D ++ [(nmS "d" j, ls)], upd_same, by rw [List.map_append, List.map_append, kdk]; rfl, ?_, ?_, fun d hd => ?_⟩
        · rw [List.map_append, List.map_append]
          exact (kdw.mono tk).append (.cons ((Tp.tup eub txb).mono tk) .nil)
        · rw [List.map_append, hnm, List.range_succ, List.map_append]
          rfl
        · rcases List.mem_append.mp hd with hd | hd
          · exact hD d hd
          · rw [List.mem_singleton.mp hd]
            exact bn
      clear wl
      obtain ⟨⟨y6, y7, y8, rfl⟩, wl, kd, D, eda, kdk, kdt, hnm, hD⟩ := hP
      have lD : D.length ≤ 2 := by
        have := congrArg List.length hnm
        rw [List.length_map, List.length_map, List.length_range] at this
        omega
      have nnD : (D.map (·.1)).Nodup := by
        rw [hnm]
        exact List.Pairwise.map _ (fun a b q z => q z) (List.Pairwise.imp_of_mem (R := fun a b => a ≠ b) (fun {a b} ha hb q z => q (nmS_inj (.inr rfl) a (by have := List.mem_range.mp ha; omega) b (by have := List.mem_range.mp hb; omega) z)) List.nodup_range)
      have drw : Drawn ws fl R D := ⟨hw, hfl, lfl6, nnR, hR, lR, nnD, hD, lD⟩
      have lkd : kd.length = D.length := by
        have := congrArg List.length kdk
        rw [List.length_map, List.length_map] at this
        exact this
      have lfs := wl.tfa.length
      rw [List.length_map] at lfs
      have gd := wl.dr.good
      clear dm m0 m3 hnm sc' nda
      -- the items of relations and facts
      refine ⟨fun σ' H' => ∃ (it : Addr) (ys : List V) (z7 z8 : Option V), σ' = [some (.ref sc), some (.ref st), some (.int (0 + (i : Int))), some (.ref wv), some (.ref W), some (.ref fa), y6, z7, z8, some (.ref da), some (.ref it), x11, x12, none] ∧ Same Hd H' ∧ H' it = some (.lst ys) ∧ Tps H' ys ((relI ws ++ facI fl).map itD), ?_, fun σ' H5 hm => ?_⟩
      · refine ⟨wv, .dK (krW ws), wl.ewv, trivial, fun od => ?_⟩
        have Lk : ∀ a o, a ≠ wv → Hd a = some o → (upd Hd wv (.frz od (.dK (krW ws)))) a = some o := fun a o n h => by rw [upd_ne n]; exact h
        refine ⟨.ref wv, rfl, wv, od, rfl, .inl ⟨krW ws, upd_same, fun D1 nD => ?_⟩⟩
        have nDw : D1 ≠ wv := fun z => by rw [z, upd_same] at nD; cases nD
        have nD2 : Hd D1 = none := by rw [upd_ne nDw] at nD; exact nD
        have lrel : (relI ws).length = ws.length := List.length_map ..
        refine lc_it walk_keys (fun i H' => H' wv = some (.frz od (.dK (krW ws))) ∧ (∀ a o, a ≠ wv → Hd a = some o → H' a = some o) ∧ ∃ acc, H' D1 = some (.lst acc) ∧ Tps H' acc (((relI ws).take i).map itD)) ⟨by rw [upd_ne nDw.symm]; exact upd_same, fun a o n h => by rw [upd_ne (ne_of_none h nD2)]; exact Lk a o n h, [], upd_same, .nil⟩ (fun i H' _ hP => hP.1) (fun i x H' H6 hi hP hY => ?_) (fun H' hP => ?_)
        · obtain ⟨h1, h2, acc, eD, ta⟩ := hP
          obtain ⟨rfl, k, v, ek, rfl⟩ := hY
          have la := ta.length
          rw [List.length_map, List.length_take, lrel] at la
          unfold krW at ek
          rw [List.getElem?_map] at ek
          obtain ⟨e, ee, e0⟩ := Option.map_eq_some_iff.mp ek
          cases e0
          have erel : (relI ws)[i]? = some (.rel e.1 (e.2 : Nat)) := by
            unfold relI
            rw [List.getElem?_map, ee]
            rfl
          have ev : valV (krW ws) (Sum.inr e.1 : Key) = some (.int (e.2 : Nat)) := (krW_val wok).mpr ⟨e.2, List.mem_of_getElem? ee, rfl⟩
          refine ⟨rfl, iteT (B := True) ?_⟩
          refine ⟨.str e.1, rfl, .ref wv, rfl, .str e.1, rfl, wv, .int (e.2 : Nat), rfl, .inl ⟨krW ws, Sum.inr e.1, .inr ⟨od, h1⟩, rfl, ev.symm⟩, len3, fun p np => ?_⟩
          have nDp : D1 ≠ p := ne_of_none eD np
          refine ⟨acc, by rw [upd_ne nDp]; exact eD, small1000 (by omega), ?_, fun a o n h => ?_, _, upd_same, ?_⟩
          · rw [upd_ne nDw.symm, upd_ne (ne_of_none h1 np)]
            exact h1
          · rw [upd_ne (ne_of_none h nD2), upd_ne (ne_of_none (h2 a o n h) np)]
            exact h2 a o n h
          · have s1 := Tk.of (same_new (o := .tup [.str "relation", .str e.1, .int (e.2 : Nat)]) np)
            have s2 : Tk (upd H6 p (.tup [.str "relation", .str e.1, .int (e.2 : Nat)])) (upd (upd H6 p (.tup [.str "relation", .str e.1, .int (e.2 : Nat)])) D1 (.lst (acc ++ [.ref p]))) := Tk.lst (by rw [upd_ne nDp]; exact eD)
            rw [take_next erel, List.map_append]
            exact ((ta.mono s1).mono s2).append (.cons ((tup3 np (.str "relation") (.str e.1) (.int (e.2 : Nat))).mono s2) .nil)
        · obtain ⟨h1, h2, acc, eD, ta⟩ := hP
          rw [krW_len, ← lrel, List.take_length] at ta
          have smc : Same Hd (upd H' wv (.dK (krW ws))) := fun a o h => by
            by_cases z : a = wv
            · rw [z, wl.ewv] at h
              rw [z, upd_same, ← h]
            · rw [upd_ne z]
              exact h2 a o z h
          refine ⟨h1, ?_⟩
          have eDc : (upd H' wv (.dK (krW ws))) D1 = some (.lst acc) := by rw [upd_ne nDw]; exact eD
          have tac := ta.mono (H' := upd H' wv (.dK (krW ws))) (fun a xs h => by rw [upd_ne (fun z => by rw [z, h1] at h; cases h)]; exact h)
          generalize upd H' wv (.dK (krW ws)) = Hc at smc eDc tac ⊢
          -- the facts
          refine ⟨.ref fa, rfl, fa, rfl, ⟨_, SqL.of (smc _ _ wl.efa)⟩, fun D2 nDD => ?_⟩
          have lfac : (facI fl).length = fl.length := List.length_map ..
          have tfc := wl.tfa.mono (Tk.of smc)
          refine lc_list (K := K) (a := fa) (xs := fs) (fun j H' => Same Hc H' ∧ ∃ acc, H' D2 = some (.lst acc) ∧ Tps H' acc (((facI fl).take j).map itD)) ⟨same_new nDD, [], upd_same, .nil⟩ (fun j H' _ hP => SqL.of (hP.1 _ _ (smc _ _ wl.efa))) (fun j y Hj hj hP => ?_) (fun H7 hP => ?_)
          · obtain ⟨sm, bcc, eB, tb⟩ := hP
            obtain ⟨d', ed', td⟩ := tfc.get hj
            rw [List.getElem?_map] at ed'
            obtain ⟨e, ee, rfl⟩ := Option.map_eq_some_iff.mp ed'
            have td := td.mono (Tk.of sm)
            obtain ⟨t, rw', rfl, et, trow⟩ : ∃ t rw', y = .ref t ∧ Hj t = some (.tup [.str e.1, rw']) ∧ Tp Hj rw' (.tuple (e.2.map keyD)) := by
              cases td with
              | tup a1 a2 => cases a2 with
                | cons b1 a2 => cases a2 with
                  | cons b2 a2 =>
                    cases a2
                    cases b1
                    exact ⟨_, _, rfl, a1, b2⟩
            have efac : (facI fl)[j]? = some (.fact e.1 (e.2.map keyD)) := by
              unfold facI
              rw [List.getElem?_map, ee]
              rfl
            have lb := tb.length
            rw [List.length_map, List.length_take] at lb
            refine ⟨t, _, rfl, SqT.of et, rfl, _, _, rfl, _, _, rfl, rfl, rfl, ?_⟩
            refine iteT (B := True) ?_
            refine ⟨.str e.1, rfl, rw', rfl, len3, fun p np => ?_⟩
            have nDp : D2 ≠ p := ne_of_none eB np
            have s1 := same_new (o := .tup [.str "fact", .str e.1, rw']) np
            refine ⟨bcc, s1 _ _ eB, small1000 (by omega), same_put (sm.trans s1) nDD, _, upd_same, ?_⟩
            have s2 : Tk (upd Hj p (.tup [.str "fact", .str e.1, rw'])) (upd (upd Hj p (.tup [.str "fact", .str e.1, rw'])) D2 (.lst (bcc ++ [.ref p]))) := Tk.lst (s1 _ _ eB)
            rw [take_next efac, List.map_append]
            exact ((tb.mono (Tk.of s1)).mono s2).append (.cons ((tup3 np (.str "fact") (.str e.1) trow).mono s2) .nil)
          · obtain ⟨sm, bcc, eB, tb⟩ := hP
            rw [lfs, ← lfac, List.take_length] at tb
            have la := tac.length
            rw [List.length_map, lrel] at la
            have lb := tb.length
            rw [List.length_map, lfac] at lb
            refine ⟨D1, D2, acc, bcc, rfl, rfl, sm _ _ eDc, eB, Nat.le_of_lt (small1000 (by omega)), fun c nc => ?_⟩
            refine ⟨c, acc ++ bcc, _, _, rfl, (smc.trans sm).trans (same_new nc), upd_same, ?_⟩
            rw [List.map_append]
            exact ((tac.mono (Tk.of sm)).append tb).mono (Tk.of (same_new nc))
      obtain ⟨it, ys, z7, z8, rfl, s5, ei, ti⟩ := hm
      have w5 := wl.same s5
      have lys := ti.length
      rw [List.length_map, List.length_append] at lys
      have l1 : (relI ws).length = ws.length := List.length_map ..
      have l2 : (facI fl).length = fl.length := List.length_map ..
      refine ⟨fun σ' H' => ∃ (it : Addr) (ys : List V) (z7 z8 : Option V), σ' = [some (.ref sc), some (.ref st), some (.int (0 + (i : Int))), some (.ref wv), some (.ref W), some (.ref fa), y6, z7, z8, some (.ref da), some (.ref it), x11, x12, none] ∧ Same Hd H' ∧ H' it = some (.lst ys) ∧ Tps H' ys ((relI ws ++ facI fl ++ rulI R).map itD), ?_, fun σ' H6 hm => ?_⟩
      · refine ⟨.ref it, rfl, U, .dK ku, w5.hU, trivial, fun od => ?_⟩
        have Lk : ∀ a o, a ≠ U → H5 a = some o → (upd H5 U (.frz od (.dK ku))) a = some o := fun a o n h => by rw [upd_ne n]; exact h
        have gU : ∀ {Hx : Hp}, Hx W = some (.dK [(.inr "relations", .ref Rr), (.inr "rules", .ref U)]) → DGet Hx W (.str "rules") (some (.ref U)) := fun o => .inl ⟨_, Sum.inr "rules", .inl o, rfl, rfl⟩
        refine ⟨.ref W, rfl, W, .ref U, rfl, gU (Lk _ _ w5.n2 w5.hW), U, od, rfl, .inl ⟨ku, upd_same, fun D1 nD => ?_⟩⟩
        have nDU : D1 ≠ U := fun z => by rw [z, upd_same] at nD; cases nD
        have nD2 : H5 D1 = none := by rw [upd_ne nDU] at nD; exact nD
        have lrul : (rulI R).length = R.length := List.length_map ..
        refine lc_it walk_keys (fun i H' => H' U = some (.frz od (.dK ku)) ∧ (∀ a o, a ≠ U → H5 a = some o → H' a = some o) ∧ ∃ acc, H' D1 = some (.lst acc) ∧ Tps H' acc (((rulI R).take i).map itD)) ⟨by rw [upd_ne nDU.symm]; exact upd_same, fun a o n h => by rw [upd_ne (ne_of_none h nD2)]; exact Lk a o n h, [], upd_same, .nil⟩ (fun i H' _ hP => hP.1) (fun i x H' H6 hi hP hY => ?_) (fun H' hP => ?_)
        · obtain ⟨h1, h2, acc, eD, ta⟩ := hP
          obtain ⟨rfl, k, v, ek, rfl⟩ := hY
          have la := ta.length
          rw [List.length_map, List.length_take, lrul] at la
          have tk6 : Tk H5 H6 := fun a xs h => h2 a _ (fun z => by rw [z, w5.hU] at h; cases h) h
          obtain ⟨r, er, rfl, tv⟩ := (w5.rk.mono tk6).get ek
          have ev : valV ku (Sum.inr r.nm : Key) = some v := (mem_val nku).mpr (List.mem_of_getElem? ek)
          obtain ⟨t, zs, rfl, et, tz⟩ : ∃ t zs, v = .ref t ∧ H6 t = some (.tup zs) ∧ Tps H6 zs [.str r.rl, .tuple (r.ts.map tD), .tuple (r.ls.map litD)] := by
            unfold ruD at tv
            cases tv with
            | tup a b => exact ⟨_, _, rfl, a, b⟩
          have lz : zs.length = 3 := tz.length
          have erul : (rulI R)[i]? = some (ruI r) := by
            unfold rulI
            rw [List.getElem?_map, er]
            rfl
          refine ⟨rfl, iteT (B := True) ?_⟩
          refine ⟨.str r.nm, rfl, len2, fun p np => ?_⟩
          have s1 := same_new (o := .tup [.str "rule", .str r.nm]) np
          refine ⟨.ref W, rfl, W, .ref U, rfl, gU (s1 _ _ (h2 _ _ w5.n2 w5.hW)), .str r.nm, rfl, U, .ref t, rfl, .inl ⟨_, Sum.inr r.nm, .inr ⟨od, s1 _ _ h1⟩, rfl, ev.symm⟩, p, t, _, zs, rfl, rfl, SqT.of upd_same, SqT.of (s1 _ _ et), (fun z => nomatch z), ?_, fun z => ?_, fun _ p2 np2 => ?_⟩
          · rw [lz, sizeLine_eq]
            exact (by decide : 2 + 3 ≤ 16777216)
          · rw [z] at lz
            cases lz
          · have s2 := s1.trans (same_new (o := .tup ([.str "rule", .str r.nm] ++ zs)) np2)
            have eD2 := s2 _ _ eD
            refine ⟨acc, eD2, small1000 (by omega), ?_, fun a o n h => ?_, _, upd_same, ?_⟩
            · rw [upd_ne nDU.symm]
              exact s2 _ _ h1
            · rw [upd_ne (ne_of_none h nD2)]
              exact s2 _ _ (h2 a o n h)
            · have s3 : Tk (upd (upd H6 p (.tup [.str "rule", .str r.nm])) p2 (.tup ([.str "rule", .str r.nm] ++ zs))) (upd (upd (upd H6 p (.tup [.str "rule", .str r.nm])) p2 (.tup ([.str "rule", .str r.nm] ++ zs))) D1 (.lst (acc ++ [.ref p2]))) := Tk.lst eD2
              have tn : Tp (upd (upd H6 p (.tup [.str "rule", .str r.nm])) p2 (.tup ([.str "rule", .str r.nm] ++ zs))) (.ref p2) (itD (ruI r)) := .tup upd_same ((Tps.cons (.str "rule") (Tps.cons (.str r.nm) Tps.nil)).append (tz.mono (Tk.of s2)))
              rw [take_next erul, List.map_append]
              exact ((ta.mono (Tk.of s2)).mono s3).append (.cons (tn.mono s3) .nil)
        · obtain ⟨h1, h2, acc, eD, ta⟩ := hP
          rw [hku, ← lrul, List.take_length] at ta
          have la := ta.length
          rw [List.length_map, lrul] at la
          have smc : Same H5 (upd H' U (.dK ku)) := fun a o h => by
            by_cases z : a = U
            · rw [z, w5.hU] at h
              rw [z, upd_same, ← h]
            · rw [upd_ne z]
              exact h2 a o z h
          refine ⟨h1, ?_⟩
          have eDc : (upd H' U (.dK ku)) D1 = some (.lst acc) := by rw [upd_ne nDU]; exact eD
          have tac := ta.mono (H' := upd H' U (.dK ku)) (fun a xs h => by rw [upd_ne (fun z => by rw [z, h1] at h; cases h)]; exact h)
          generalize upd H' U (.dK ku) = Hc at smc eDc tac ⊢
          refine ⟨it, D1, ys, acc, rfl, rfl, smc _ _ ei, eDc, Nat.le_of_lt (small1000 (by omega)), fun c nc => ?_⟩
          refine ⟨c, ys ++ acc, _, _, rfl, (s5.trans smc).trans (same_new nc), upd_same, ?_⟩
          rw [List.map_append]
          exact ((ti.mono (Tk.of smc)).append tac).mono (Tk.of (same_new nc))
      clear w5 lys ei ti s5 H5
      obtain ⟨it, ys, z7, z8, rfl, s6, ei, ti⟩ := hm
      have w6 := wl.same s6
      have lys := ti.length
      rw [List.length_map, List.length_append, List.length_append] at lys
      have l3 : (rulI R).length = R.length := List.length_map ..
      -- actual
      refine ⟨fun σ' H' => ∃ (s : Addr) (z7 z8 : Option V), σ' = [some (.ref sc), some (.ref st), some (.int (0 + (i : Int))), some (.ref wv), some (.ref W), some (.ref fa), y6, z7, z8, some (.ref da), some (.ref it), some (.ref s), x12, none] ∧ Same Hd H' ∧ StL C st s (puts [] (itemL ws fl R D)) H', ?_, fun σ' H7 hm => ?_⟩
      · have eda6 := s6 _ _ eda
        refine ⟨.ref it, rfl, da, .dK kd, eda6, trivial, fun od => ?_⟩
        have Lk : ∀ a o, a ≠ da → H6 a = some o → (upd H6 da (.frz od (.dK kd))) a = some o := fun a o n h => by rw [upd_ne n]; exact h
        refine ⟨.ref da, rfl, da, od, rfl, .inl ⟨kd, upd_same, fun D1 nD => ?_⟩⟩
        have nDa : D1 ≠ da := fun z => by rw [z, upd_same] at nD; cases nD
        have nD2 : H6 D1 = none := by rw [upd_ne nDa] at nD; exact nD
        have lden : (denI D).length = D.length := List.length_map ..
        have nkd : nd kd := by
          show (kd.map (·.1)).Nodup
          rw [kdk, show D.map (fun d => (Sum.inr d.1 : Key)) = (D.map (·.1)).map Sum.inr by rw [List.map_map]; rfl]
          exact List.Pairwise.map _ (fun a b q z => q (inr_iff.mp z)) nnD
        refine lc_it walk_keys (fun i H' => H' da = some (.frz od (.dK kd)) ∧ (∀ a o, a ≠ da → H6 a = some o → H' a = some o) ∧ ∃ acc, H' D1 = some (.lst acc) ∧ Tps H' acc (((denI D).take i).map itD)) ⟨by rw [upd_ne nDa.symm]; exact upd_same, fun a o n h => by rw [upd_ne (ne_of_none h nD2)]; exact Lk a o n h, [], upd_same, .nil⟩ (fun i H' _ hP => hP.1) (fun i x H' H7 hi hP hY => ?_) (fun H' hP => ?_)
        · obtain ⟨h1, h2, acc, eD, ta⟩ := hP
          obtain ⟨rfl, k, v, ek, rfl⟩ := hY
          have la := ta.length
          rw [List.length_map, List.length_take, lden] at la
          have tk7 : Tk Hd H7 := fun a xs h => h2 a _ (fun z => by rw [z, eda] at h; cases h) (s6 _ _ h)
          have hk1 : (kd.map (·.1))[i]? = some k := by rw [List.getElem?_map, ek]; rfl
          rw [kdk, List.getElem?_map] at hk1
          obtain ⟨d, ed, rfl⟩ := Option.map_eq_some_iff.mp hk1
          have hv1 : (kd.map (·.2))[i]? = some v := by rw [List.getElem?_map, ek]; rfl
          obtain ⟨d', ed', td⟩ := (kdt.mono tk7).get hv1
          rw [List.getElem?_map, ed] at ed'
          cases ed'
          have ev : valV kd (Sum.inr d.1 : Key) = some v := (mem_val nkd).mpr (List.mem_of_getElem? ek)
          have eden : (denI D)[i]? = some (.den d.1 (.tuple (d.2.map litD))) := by
            unfold denI
            rw [List.getElem?_map, ed]
            rfl
          refine ⟨rfl, iteT (B := True) ?_⟩
          refine ⟨.str d.1, rfl, .ref da, rfl, .str d.1, rfl, da, v, rfl, .inl ⟨kd, Sum.inr d.1, .inr ⟨od, h1⟩, rfl, ev.symm⟩, len3, fun p np => ?_⟩
          have s1 := same_new (o := .tup [.str "denial", .str d.1, v]) np
          refine ⟨acc, s1 _ _ eD, small1000 (by omega), ?_, fun a o n h => ?_, _, upd_same, ?_⟩
          · rw [upd_ne nDa.symm]
            exact s1 _ _ h1
          · rw [upd_ne (ne_of_none h nD2)]
            exact s1 _ _ (h2 a o n h)
          · have s2 : Tk (upd H7 p (.tup [.str "denial", .str d.1, v])) (upd (upd H7 p (.tup [.str "denial", .str d.1, v])) D1 (.lst (acc ++ [.ref p]))) := Tk.lst (s1 _ _ eD)
            rw [take_next eden, List.map_append]
            exact ((ta.mono (Tk.of s1)).mono s2).append (.cons ((tup3 np (.str "denial") (.str d.1) td).mono s2) .nil)
        · obtain ⟨h1, h2, acc, eD, ta⟩ := hP
          rw [lkd, ← lden, List.take_length] at ta
          have la := ta.length
          rw [List.length_map, lden] at la
          have smc : Same H6 (upd H' da (.dK kd)) := fun a o h => by
            by_cases z : a = da
            · rw [z, eda6] at h
              rw [z, upd_same, ← h]
            · rw [upd_ne z]
              exact h2 a o z h
          refine ⟨h1, ?_⟩
          have eDc : (upd H' da (.dK kd)) D1 = some (.lst acc) := by rw [upd_ne nDa]; exact eD
          have tac := ta.mono (H' := upd H' da (.dK kd)) (fun a xs h => by rw [upd_ne (fun z => by rw [z, h1] at h; cases h)]; exact h)
          generalize upd H' da (.dK kd) = Hc at smc eDc tac ⊢
          refine ⟨it, D1, ys, acc, rfl, rfl, smc _ _ ei, eDc, Nat.le_of_lt (small1000 (by omega)), fun c nc => ?_⟩
          generalize hG : upd Hc c _ = He
          obtain ⟨se, ee⟩ := gen_up hG nc
          clear hG
          have tall : Tps He (ys ++ acc) ((itemL ws fl R D).map itD) := by
            unfold itemL
            rw [List.map_append]
            exact ((ti.mono (Tk.of smc)).append tac).mono (Tk.of se)
          have sall := (s6.trans smc).trans se
          intro x dx nx ndx nex
          have sb : Same He (upd (upd He dx (.own x)) x (.ins C dx [])) := fun a o h => by
            rw [upd_ne (ne_of_none h nx), upd_ne (ne_of_none h ndx)]
            exact h
          have li := item_len drw
          refine ⟨x, dx, c, itemL ws fl R D, rfl, upd_same, .inr ⟨_, sb _ _ ee, tall.mono (Tk.of sb)⟩, item_ok drw, by omega, fun H7 F k c' S => ⟨rfl, ?_⟩⟩
          have s7 := kept_same nx ndx k
          have gst : He st ≠ none := (Dr.same gd sall).good.not_none
          exact ⟨x, _, _, rfl, sall.trans s7, F, _, S, by omega, fun z => gst (by rw [← z]; exact nx), fun z => gst (kept_new (c' st z))⟩
      clear w6 lys ei ti s6 H6
      obtain ⟨s, z7, z8, rfl, s7, S⟩ := hm
      have w7 := wl.same s7
      have eda7 := s7 _ _ eda
      have kdt7 := kdt.mono (Tk.of s7)
      have li := item_len drw
      have plen := puts_len (itemL ws fl R D) []
      rw [List.length_nil] at plen
      obtain ⟨F, N, Q1, Q2, Q3, Q4⟩ := id S
      obtain ⟨dx1, a1, a2, a3, a4, k1, k2, k3, k4, bb⟩ := id Q1
      have okl := bb.ok
      refine ⟨.ref s, rfl, s, dx1, _, rfl, bb.hs, fl_no _ _ _ _ (by decide +kernel) (by decide +kernel) (by decide +kernel) (by decide +kernel), s, _, F, N, rfl, Q1, by omega, by omega, fun L1 zs1 HB sB nL1 eL1 t1 => ?_⟩
      have QB := Q1.same sB
      refine ⟨.ref s, rfl, s, _, F, N, R, D, rfl, QB, by omega, its_tup drw, its_rules drw, nnR, fun r hr => okRu_of (hR r hr).2.2, fun r hr => by have := (hR r hr).2.1; omega, by omega, its_dens drw, nnD, fun d hd => ⟨fun l hl => lits9 ((hD d hd).2 l hl), Nat.le_trans (hD d hd).1 (by decide)⟩, fun b1 HC sC hb1 => ?_⟩
      have wC := w7.same (sB.trans sC)
      have sBC := sB.trans sC
      refine ⟨.ref W, rfl, .ref fa, rfl, .ref da, rfl, W, Rr, U, fa, da, krW ws, ku, kd, fs, fl, R, D, rfl, ⟨wC.hW, wC.hR, wC.hU, wC.n2, by rw [krW_len]; omega, by omega, wC.rk, nnR, fun r hr => okRu_of (hR r hr).2.2⟩, krW_N wok, fun r hr => ⟨by have := (hR r hr).2.1; omega, (hR r hr).2.2⟩, wC.n3, wC.efa, wC.tfa, sBC _ _ eda7, kdk, kdt7.mono (Tk.of sBC), nnD, hD, by omega, q2, q4, q3, fun b2 HD sD hb2 => ?_⟩
      have eb : b1 = b2 := by
        rw [Bool.eq_iff_iff, hb1, hb2]
        exact its_same drw
      subst eb
      refine .inl ⟨_, _, .bool b1, rfl, .bl _, .bl _, by simp [okN], Nat.zero_le _, true, rfl, iteF' rfl ?_⟩
      have sBD := sBC.trans sD
      have QD := Q1.same sBD
      obtain ⟨dx2, c1, c2, c3, c4, m1, m2, m3, m4, bb2⟩ := id QD
      refine ⟨.ref s, rfl, s, dx2, _, rfl, bb2.hs, fl_no _ _ _ _ (by decide +kernel) (by decide +kernel) (by decide +kernel) (by decide +kernel), s, _, F, N, rfl, QD, by omega, by omega, fun L2 zs2 HE sE nL2 eL2 t2 => ?_⟩
      refine ⟨.ref L1, rfl, .inr ⟨L2, L1, zs2, zs1, (puts [] (itemL ws fl R D)).map itD, rfl, eL2, sE _ _ ((sC.trans sD) _ _ eL1), t2, t1.mono (Tk.of ((sC.trans sD).trans sE)), okNs_of (fun dd m => ?_), Nat.le_trans (depthAll_le (n := 6) fun dd m => ?_) (by decide), by rw [List.length_map]; omega, true, rfl, iteF' rfl ?_⟩⟩
      · obtain ⟨x, hx, rfl⟩ := List.mem_map.mp m
        exact (nice_itD (okl x hx)).1
      · obtain ⟨x, hx, rfl⟩ := List.mem_map.mp m
        exact (nice_itD (okl x hx)).2
      · exact ⟨(Dr.same gd (s7.trans (sBD.trans sE))).good, _, _, _, _, _, _, _, _, _, _, _, rfl⟩
end
end KU

namespace KU
open PySem PySem.Spec PyProof.Rows PySem.HandSPX L2 KA
/-- a def of the text stands behind the top under its name -/
def DefAt (K : PySem.W.Frag) (x : Str) (st : Stmt) : Prop :=
  ∃ (f : Addr) (od an : Option Addr) (sl : Array (Option Value)) (oc kV dc pm cd ct : Value),
    PySem.W.nsIn K mainGlobals x = some (some (.ref f)) ∧ K.lookup f = some ⟨oc, od, .func (PySem.W.fnOf x x (defArgs st) (defBody st) (defScope st) .none kV dc pm an cd ct), sl⟩ ∧
    PySem.W.codeIn K cd x = true ∧ PySem.W.keepIn K (.ref f) = true
theorem defAt {K : PySem.W.Frag} {x : Str} {st : Stmt} {f : Addr} {od an : Option Addr} {sl : Array (Option Value)} {oc kV dc pm cd ct : Value} (a : PySem.W.nsIn K mainGlobals x = some (some (.ref f)))
    (l : K.lookup f = some ⟨oc, od, .func (PySem.W.fnOf x x (defArgs st) (defBody st) (defScope st) .none kV dc pm an cd ct), sl⟩) (c : PySem.W.codeIn K cd x = true) (k : PySem.W.keepIn K (.ref f) = true) : DefAt K x st :=
  ⟨f, od, an, sl, oc, kV, dc, pm, cd, ct, a, l, c, k⟩
/-- a method of the class -/
def MethAt (K : PySem.W.Frag) (C : Addr) (x q : Str) (st : Stmt) : Prop :=
  ∃ (f : Addr) (od an : Option Addr) (sl : Array (Option Value)) (oc kV dc pm cd ct : Value),
    PySem.W.findIn K (.ref C) x = some (some (.ref f)) ∧ PySem.W.isFn K (.ref f) = true ∧ K.lookup f = some ⟨oc, od, .func (PySem.W.fnOf x q (defArgs st) (defBody st) (defScope st) .none kV dc pm an cd ct), sl⟩ ∧
    PySem.W.codeIn K cd q = true ∧ PySem.W.keepIn K (.ref f) = true
theorem methAt {K : PySem.W.Frag} {C : Addr} {x q : Str} {st : Stmt} {f : Addr} {od an : Option Addr} {sl : Array (Option Value)} {oc kV dc pm cd ct : Value} (a : PySem.W.findIn K (.ref C) x = some (some (.ref f))) (i : PySem.W.isFn K (.ref f) = true)
    (l : K.lookup f = some ⟨oc, od, .func (PySem.W.fnOf x q (defArgs st) (defBody st) (defScope st) .none kV dc pm an cd ct), sl⟩) (c : PySem.W.codeIn K cd q = true) (k : PySem.W.keepIn K (.ref f) = true) : MethAt K C x q st :=
  ⟨f, od, an, sl, oc, kV, dc, pm, cd, ct, a, i, l, c, k⟩
/-- __init__, whose one default is an empty tuple -/
def InitAt (K : PySem.W.Frag) (C : Addr) : Prop :=
  ∃ (f Td Ed : Addr) (od an : Option Addr) (sl : Array (Option Value)) (oc kV dc pm cd ct : Value) (cT : Value) (dT : Option Addr) (nT : Nat) (slT : Array (Option Value)) (dE : Option Addr) (nE : Nat) (slE : Array (Option Value)),
    PySem.W.findIn K (.ref C) "__init__" = some (some (.ref f)) ∧ PySem.W.isFn K (.ref f) = true ∧ K.lookup f = some ⟨oc, od, .func (PySem.W.fnOf "__init__" "State.__init__" (defArgs sInit) (defBody sInit) (defScope sInit) (.ref Td) kV dc pm an cd ct), sl⟩ ∧
    PySem.W.codeIn K cd "State.__init__" = true ∧ PySem.W.keepIn K (.ref f) = true ∧ K.lookup Td = some ⟨cT, dT, .seq #[.ref Ed] nT, slT⟩ ∧ K.lookup Ed = some ⟨.type "tuple", dE, .seq #[] nE, slE⟩
theorem initAt {K : PySem.W.Frag} {C f Td Ed : Addr} {od an : Option Addr} {sl : Array (Option Value)} {oc kV dc pm cd ct : Value} {cT : Value} {dT : Option Addr} {nT : Nat} {slT : Array (Option Value)} {dE : Option Addr} {nE : Nat} {slE : Array (Option Value)}
    (a : PySem.W.findIn K (.ref C) "__init__" = some (some (.ref f))) (i : PySem.W.isFn K (.ref f) = true) (l : K.lookup f = some ⟨oc, od, .func (PySem.W.fnOf "__init__" "State.__init__" (defArgs sInit) (defBody sInit) (defScope sInit) (.ref Td) kV dc pm an cd ct), sl⟩)
    (c : PySem.W.codeIn K cd "State.__init__" = true) (k : PySem.W.keepIn K (.ref f) = true) (t : K.lookup Td = some ⟨cT, dT, .seq #[.ref Ed] nT, slT⟩) (e : K.lookup Ed = some ⟨.type "tuple", dE, .seq #[] nE, slE⟩) : InitAt K C :=
  ⟨f, Td, Ed, od, an, sl, oc, kV, dc, pm, cd, ct, cT, dT, nT, slT, dE, nE, slE, a, i, l, c, k, t, e⟩
section
variable {P : Program} {w : World} {K : PySem.W.Frag} {mg : Str → Option Value} {base h : Heap} {C : Addr}
theorem mk_def {x : Str} {st : Stmt} {ps : List Str} {sp : Sp} {k : Nat} (T : DefAt K x st) (X : K.In h) (G : h.Ns mainGlobals mg)
    (bind : ∀ (kV doc pm : Value) (an : Option Addr) (cdv ct : Value) (us : List Value), us.length = ps.length → bindArgs (PySem.W.fnOf x x (defArgs st) (defBody st) (defScope st) .none kV doc pm an cdv ct) ⟨us, []⟩ = pure (ps.zip us))
    (ok : ∀ (f : Addr) (fd : FuncData), Fun K x x st f fd → FnOk P w K mg base CX0 k f fd ps sp) : Def P w K mg base x k ps sp := by
  obtain ⟨f, od, an, sl, oc, kV, dc, pm, cd, ct, a, l, c, kp⟩ := T
  have F := fun_mk l c kp
  exact ⟨f, _, ok f _ F, PySem.W.mg_of X G a, kp, F.binds bind⟩
theorem mk_meth {x q : Str} {st : Stmt} {ps : List Str} {sp : Sp} {k : Nat} (T : MethAt K C x q st)
    (bind : ∀ (kV doc pm : Value) (an : Option Addr) (cdv ct : Value) (us : List Value), us.length = ps.length → bindArgs (PySem.W.fnOf x q (defArgs st) (defBody st) (defScope st) .none kV doc pm an cdv ct) ⟨us, []⟩ = pure (ps.zip us))
    (ok : ∀ (f : Addr) (fd : FuncData), Fun K x q st f fd → FnOk P w K mg base CX0 k f fd ps sp) : MDef P w K mg base C x k ps sp := by
  obtain ⟨f, od, an, sl, oc, kV, dc, pm, cd, ct, a, i, l, c, kp⟩ := T
  have F := fun_mk l c kp
  exact ⟨f, _, ok f _ F, ⟨a, i, kp⟩, F.binds bind⟩
theorem mk_init (T : InitAt K C) (mkC : PySem.W.makesIn K C = true) (kc : PySem.W.keepIn K (.ref C) = true) (TC : Cs K mg C) (MP : mPut P w K mg base C) : MkSt P w K mg base C := by
  obtain ⟨f, Td, Ed, od, an, sl, oc, kV, dc, pm, cd, ct, cT, dT, nT, slT, dE, nE, slE, a, i, l, c, k, t, e⟩ := T
  have hD : DflV K (.ref Td) [V.ref Ed] := .inr ⟨(fun z => by cases z), Td, _, [.ref Ed], nT, rfl, t, rfl, .cons rfl .nil⟩
  have F : FunD K "__init__" "State.__init__" (defArgs sInit) (defBody sInit) (defScope sInit) [V.ref Ed] [] f _ := ⟨⟨oc, od, .ref Td, kV, dc, pm, an, cd, ct, sl, rfl, l, c, hD, .inl rfl⟩, k⟩
  obtain ⟨ds, v1, b1⟩ := F.binds1 (ps := ["self", "items"]) 1 0 (fun z => by cases z) rfl (fun T2 kV2 doc2 pm2 an2 cdv2 ct2 us its h1 h2 => match us, its, h1, h2 with | [_], [_], _, _ => ⟨_, rfl, rfl⟩)
  obtain ⟨ds2, v2, b2⟩ := F.binds1 (ps := ["self", "items"]) 2 1 (fun z => by cases z) rfl (fun T2 kV2 doc2 pm2 an2 cdv2 ct2 us its h1 h2 => match us, its, h1, h2 with | [_, _], [_], _, _ => ⟨_, rfl, rfl⟩)
  cases v2
  exact ⟨f, _, Ed, ds, ⟨mkC, a, i, kc⟩, ok_init F TC MP, b2, b1, v1, ⟨_, #[], nE, e, rfl, rfl, Nat.zero_le _, .nil⟩⟩
end
/-- the class of refusals, as its line says it -/
def ClsAt (K : PySem.W.Frag) (C : Addr) : Prop := ∃ nm q N bs bm sn sub ab col dd k0 k1 k2 k3 k5, K.lookup C = some (excClassObj nm q C N bs bm true sn sub ab col dd k0 k1 k2 k3 k5 "ValueError.__new__") ∧ PySem.HandSPX.refsVE bm = true
theorem clsAt {K : PySem.W.Frag} {C R N : Addr} {nm q : Str} {bs : List Value} {sn : List Str} {sub : List Value} {ab : Bool} {col : Option Bool} {dd : Option Addr} {k0 k1 k2 k3 k5 : Option Value}
    (h : K.lookup C = some (excClassObj nm q C N bs [.ref R, .type "ValueError", .type "Exception", .type "BaseException", .type "object"] true sn sub ab col dd k0 k1 k2 k3 k5 "ValueError.__new__")) : ClsAt K C :=
  ⟨nm, q, N, bs, _, sn, sub, ab, col, dd, k0, k1, k2, k3, k5, h, by rfl⟩
/-- its __init__ -/
def IniAt (K : PySem.W.Frag) (fI : Addr) : Prop := ∃ (oc : Value) (od : Option Addr) (doc pm : Value) (an : Option Addr) (cdv ct : Value) (osl : Array (Option Value)) (p1 p2 q1 q2 q3 q4 : Pos),
    K.lookup fI = some ⟨oc, od, .func (PySem.W.fnOf "__init__" "Refused.__init__" (PySem.RefX.iA p1 p2) (PySem.RefX.iB q1 q2 q3 q4) PySem.RefX.iS .none .none doc pm an cdv ct), osl⟩ ∧ PySem.W.codeIn K cdv "Refused.__init__" = true
theorem iniAt {K : PySem.W.Frag} {fI : Addr} {oc : Value} {od : Option Addr} {doc pm : Value} {an : Option Addr} {cdv ct : Value} {osl : Array (Option Value)}
    (l : K.lookup fI = some ⟨oc, od, .func (PySem.W.fnOf "__init__" "Refused.__init__" (defArgs (inClass (topS 13) 0)) (defBody (inClass (topS 13) 0)) (defScope (inClass (topS 13) 0)) .none .none doc pm an cdv ct), osl⟩) (c : PySem.W.codeIn K cdv "Refused.__init__" = true) : IniAt K fI :=
  ⟨oc, od, doc, pm, an, cdv, ct, osl, _, _, _, _, _, _, l, c⟩
/-- an error of the class at S is what «except R» names -/
theorem exm_at {K : PySem.W.Frag} {S R : Addr} (h1 : PySem.W.subIn K (.ref R) (.type "BaseException") = some true) (h2 : PySem.W.isClsIn K R = true) (h3 : PySem.W.typeIn K (.ref R) = some (.type "type")) (h4 : PySem.W.subIn K (.ref S) (.ref R) = some true) :
    PySem.W.exmOne K (.ref S) (.ref R) = some true := by
  have e1 : (PySem.W.subIn K (.ref R) (.type "BaseException") == some true) = true := by rw [h1] <;> rfl
  have e2 : ((PySem.W.clsIn K R).isSome && PySem.W.typeIn K (.ref R) == some (.type "type")) = true := by
    have h2' : (PySem.W.clsIn K R).isSome = true := h2
    rw [h2', h3] <;> rfl
  show (if (PySem.W.subIn K (.ref R) (.type "BaseException") == some true) = true then (if ((PySem.W.clsIn K R).isSome && PySem.W.typeIn K (.ref R) == some (.type "type")) = true then PySem.W.subIn K (.ref S) (.ref R) else none) else none) = some true
  rw [if_pos e1, if_pos e2]
  exact h4
section
variable {P : Program} {w : World} {K : PySem.W.Frag} {mg : Str → Option Value} {base h : Heap} {C C2 R fI : Addr}
theorem mk_defX {x : Str} {st : Stmt} {ps : List Str} {sp : Sp} {k : Nat} (T : DefAt K x st) (X : K.In h) (G : h.Ns mainGlobals mg)
    (bind : ∀ (kV doc pm : Value) (an : Option Addr) (cdv ct : Value) (us : List Value), us.length = ps.length → bindArgs (PySem.W.fnOf x x (defArgs st) (defBody st) (defScope st) .none kV doc pm an cdv ct) ⟨us, []⟩ = pure (ps.zip us))
    (ok : ∀ (f : Addr) (fd : FuncData), Fun K x x st f fd → FnOk P w K mg base (L2.CX P w) k f fd ps sp) : DefX P w K mg base x k ps sp := by
  obtain ⟨f, od, an, sl, oc, kV, dc, pm, cd, ct, a, l, c, kp⟩ := T
  have F := fun_mk l c kp
  exact ⟨f, _, ok f _ F, PySem.W.mg_of X G a, kp, F.binds bind⟩
/-- what the top has written, and the built-in names that it has not -/
structure Top (K : PySem.W.Frag) (C C2 fI : Addr) : Prop where
  cC : PySem.W.nsIn K mainGlobals "State" = some (some (.ref C))
  rC : PySem.W.nsIn K mainGlobals "Refused" = some (some (.ref C2))
  riC : PySem.W.findIn K (.ref C2) "__init__" = some (some (.ref fI))
  d_next : DefAt K "_law_next" sNext
  d_sm : DefAt K "_law_same" sSM
  d_lw : DefAt K "_law_worth" sLw
  d_lv : DefAt K "_law_variable" sLv
  d_lt : DefAt K "_law_term" sLt
  d_ls : DefAt K "_law_settled" sLs
  d_ll : DefAt K "_law_literal" sLl
  d_bi : DefAt K "_law_binds" sBi
  d_lb : DefAt K "_law_body" sLb
  d_lo : DefAt K "_law_loose" sLo
  d_lp : DefAt K "_law_literal_problem" sLp
  d_bp : DefAt K "_law_body_problem" sBp
  d_eo : DefAt K "_law_each_once" sEo
  d_wi : DefAt K "_law_widths" sWi
  d_ro : DefAt K "_law_relations_of" sRO
  d_lr : DefAt K "_law_reach" sLR
  d_lm : DefAt K "_law_makes" sLM
  d_lg : DefAt K "_law_ring" sLG
  d_lgr : DefAt K "_law_growing" sLW
  d_rp : DefAt K "_law_rule_problem" sRP
  d_du : DefAt K "_law_is_due" sDU
  d_dr : DefAt K "_law_drawn_rule" sDR
  d_law : DefAt K "law" sLaw
  d_bd : DefAt K "binds" sBd
  d_mk : DefAt K "makes" sMk
  d_be : DefAt K "body_edges" sBe
  d_rc : DefAt K "reached" sRc
  d_ae : DefAt K "all_edges" sAE
  d_ld : DefAt K "leads" sLd
  d_cbk : DefAt K "comes_back" sCb
  d_hr : DefAt K "has_ring" sHr
  d_fg : DefAt K "first_growing" sFg
  d_wd : DefAt K "widths" sWd
  d_ct : DefAt K "check_terms" sCT
  d_cr : DefAt K "check_relation" sCR
  d_cl : DefAt K "check_literal" sCL
  d_ck : DefAt K "check_literals" sCK
  d_cb : DefAt K "check_body" sCB
  d_ca : DefAt K "check_alone" sCA
  d_ce : DefAt K "check_edges" sCE
  d_ff : DefAt K "facts_fit" sFF
  d_is : DefAt K "is_sound" sIS
  d_vk : DefAt K "value_key" sVK
  d_rk : DefAt K "row_key" sRK
  d_sr : DefAt K "same_row" sSR
  d_po : DefAt K "place_of" sPO
  d_sa : DefAt K "stands_at" sSA
  rcls : ClsAt K C2
  rfn : IniAt K fI
  rsa : PySem.W.findIn K (.ref C2) "__setattr__" = some (some (.builtin "object.__setattr__"))
  rga : PySem.W.findIn K (.ref C2) "__getattribute__" = some (some (.builtin "BaseException.__getattribute__"))
  rgg : PySem.W.findIn K (.ref C2) "__getattr__" = some none
  rno : PySem.W.findIn K (.ref C2) "problem" = some none
  rtC : PySem.W.typeIn K (.ref fI) = some (.type "function")
  rkC : PySem.W.keepIn K (.ref C2) = true
  rex : PySem.W.subIn K (.ref C2) (.type "BaseException") = some true
  rty : PySem.W.typeIn K (.ref C2) = some (.type "type")
  rhd : PySem.W.hasDictIn K C2 = true
  ric : PySem.W.isClsIn K C2 = true
  rsu : PySem.W.subIn K (.ref C2) (.ref C2) = some true
  mInit : InitAt K C
  mAll : MethAt K C "all_items" "State.all_items" sAll
  mPut : MethAt K C "_put" "State._put" sPut
  mPR : MethAt K C "_put_row" "State._put_row" sPR
  pg : PySem.W.plainGet K C Str.empty = true
  hd : PySem.W.hasDictIn K C = true
  pv : PySem.W.plainOver K C = true
  sat : PySem.W.findIn K (.ref C) "__setattr__" = some (some (.builtin "object.__setattr__"))
  mk_ : PySem.W.makesIn K C = true
  kc : PySem.W.keepIn K (.ref C) = true
  nR : PySem.W.findIn K (.ref C) "relations" = some none
  nF : PySem.W.findIn K (.ref C) "facts" = some none
  nU : PySem.W.findIn K (.ref C) "rules" = some none
  nD : PySem.W.findIn K (.ref C) "denials" = some none
  z_len : PySem.W.nsIn K mainGlobals "len" = some none
  z_int : PySem.W.nsIn K mainGlobals "int" = some none
  z_isinstance : PySem.W.nsIn K mainGlobals "isinstance" = some none
  z_bool : PySem.W.nsIn K mainGlobals "bool" = some none
  z_str : PySem.W.nsIn K mainGlobals "str" = some none
  z_tuple : PySem.W.nsIn K mainGlobals "tuple" = some none
  z_list : PySem.W.nsIn K mainGlobals "list" = some none
  z_range : PySem.W.nsIn K mainGlobals "range" = some none
  z_min : PySem.W.nsIn K mainGlobals "min" = some none
  z_any : PySem.W.nsIn K mainGlobals "any" = some none
  z_sorted : PySem.W.nsIn K mainGlobals "sorted" = some none
  z_max : PySem.W.nsIn K mainGlobals "max" = some none
  z_dict : PySem.W.nsIn K mainGlobals "dict" = some none
theorem all_mk {l : PySem.W.OpenLaw} {fa : Addr} (T : Top K C C2 fI) (X : K.In h) (G : h.Ns mainGlobals mg) (hfa : mg "law" = some (.ref fa)) :
    ∃ fd : FuncData, (∀ (s : Shared) (v : Value), BindsTo s fd ⟨[v], []⟩ [("script", v)]) ∧ ∀ base : Heap, K.In base → base.Ns mainGlobals mg → FnOk l.prog w K mg base CX0 11 fa fd ["script"] (spLaw K) := by
  obtain ⟨f, od, an, sl, oc, kV, dc, pm, cd, ct, a, lk, c, kp⟩ := T.d_law
  have e := hfa.symm.trans (PySem.W.mg_of X G a)
  cases e
  have F := fun_mk lk c kp
  refine ⟨PySem.W.fnOf "law" "law" (defArgs sLaw) (defBody sLaw) (defScope sLaw) .none kV dc pm an cd ct, fun s v => .of_eq rfl, fun base X G => ?_⟩
  have B : Bt mg := ⟨PySem.W.mg_none_of X G T.z_len, PySem.W.mg_none_of X G T.z_int, PySem.W.mg_none_of X G T.z_isinstance, PySem.W.mg_none_of X G T.z_bool, PySem.W.mg_none_of X G T.z_str, PySem.W.mg_none_of X G T.z_tuple, PySem.W.mg_none_of X G T.z_list, PySem.W.mg_none_of X G T.z_range, PySem.W.mg_none_of X G T.z_min⟩
  have Bx : Bt2 mg := ⟨PySem.W.mg_none_of X G T.z_any, PySem.W.mg_none_of X G T.z_sorted, PySem.W.mg_none_of X G T.z_max, PySem.W.mg_none_of X G T.z_dict⟩
  have CC : Cs K mg C := ⟨⟨T.pg, T.hd, T.pv, T.sat⟩, T.nR, T.nF, T.nU, T.nD, PySem.W.mg_of X G T.cC⟩
  have hso := PySem.W.mg_none_of X G T.z_sorted
  have hdi := PySem.W.mg_none_of X G T.z_dict
  have T0 : PySem.RefX.RefTxt K mg C2 fI :=
    { gC := PySem.W.mg_of X G T.rC, cls := T.rcls, sa := T.rsa, ga := T.rga, gg := T.rgg, noN := T.rno, iC := T.riC, tC := T.rtC, kC := T.rkC, exC := T.rex, tyC := T.rty, hdC := T.rhd, te := exm_at T.rex T.ric T.rty T.rsu, fn := T.rfn }
  have N : dNext l.prog w K mg base := mk_def T.d_next X G (fun _ _ _ _ _ _ us hl => match us, hl with | [_, _], _ => rfl) fun f fd F => ok_next F B
  have LW : dLw l.prog w K mg base := mk_def T.d_lw X G (fun _ _ _ _ _ _ us hl => match us, hl with | [_], _ => rfl) fun f fd F => ok_lw F N
  have LV : dLv l.prog w K mg base := mk_def T.d_lv X G (fun _ _ _ _ _ _ us hl => match us, hl with | [_], _ => rfl) fun f fd F => ok_lv F N
  have LT : dLt l.prog w K mg base := mk_def T.d_lt X G (fun _ _ _ _ _ _ us hl => match us, hl with | [_, _], _ => rfl) fun f fd F => ok_lt F B N LV LW
  have LS : dLs l.prog w K mg base := mk_def T.d_ls X G (fun _ _ _ _ _ _ us hl => match us, hl with | [_, _], _ => rfl) fun f fd F => ok_ls F
  have LLB : dLlB l.prog w K mg base := mk_def T.d_ll X G (fun _ _ _ _ _ _ us hl => match us, hl with | [_, _, _, _], _ => rfl) fun f fd F => fn_or (ok_ll F B hso N LV LT LS) (ok_llT F B hso N LV LT LS)
  have BI : dBi l.prog w K mg base := mk_def T.d_bi X G (fun _ _ _ _ _ _ us hl => match us, hl with | [_], _ => rfl) fun f fd F => ok_bi F
  have LBB : dLbB l.prog w K mg base := mk_def T.d_lb X G (fun _ _ _ _ _ _ us hl => match us, hl with | [_, _, _, _], _ => rfl) fun f fd F => ok_lbB F B N LLB BI
  have LO : dLo l.prog w K mg base := mk_def T.d_lo X G (fun _ _ _ _ _ _ us hl => match us, hl with | [_, _, _], _ => rfl) fun f fd F => ok_lo F
  have LP : dLp l.prog w K mg base := mk_def T.d_lp X G (fun _ _ _ _ _ _ us hl => match us, hl with | [_, _, _], _ => rfl) fun f fd F => ok_lp F B LO
  have EO : dEo l.prog w K mg base := mk_def T.d_eo X G (fun _ _ _ _ _ _ us hl => match us, hl with | [_], _ => rfl) fun f fd F => ok_eo F B
  have BP : dBp l.prog w K mg base := mk_def T.d_bp X G (fun _ _ _ _ _ _ us hl => match us, hl with | [_, _], _ => rfl) fun f fd F => ok_bp F LP BI EO
  have WI : dWi l.prog w K mg base := mk_def T.d_wi X G (fun _ _ _ _ _ _ us hl => match us, hl with | [_], _ => rfl) fun f fd F => ok_wi F B
  have RO : dRO l.prog w K mg base := mk_def T.d_ro X G (fun _ _ _ _ _ _ us hl => match us, hl with | [_], _ => rfl) fun f fd F => ok_ro F B
  have LR : dLR l.prog w K mg base := mk_def T.d_lr X G (fun _ _ _ _ _ _ us hl => match us, hl with | [_], _ => rfl) fun f fd F => ok_lr F B RO
  have LM : dLM l.prog w K mg base := mk_def T.d_lm X G (fun _ _ _ _ _ _ us hl => match us, hl with | [_], _ => rfl) fun f fd F => ok_lm F BI
  have LG : dLG l.prog w K mg base := mk_def T.d_lg X G (fun _ _ _ _ _ _ us hl => match us, hl with | [_], _ => rfl) fun f fd F => ok_lg F LR RO
  have LGR : dLW l.prog w K mg base := mk_def T.d_lgr X G (fun _ _ _ _ _ _ us hl => match us, hl with | [_], _ => rfl) fun f fd F => ok_lw2 F B Bx LR RO LM
  have RP : dRP l.prog w K mg base := mk_def T.d_rp X G (fun _ _ _ _ _ _ us hl => match us, hl with | [_, _, _, _, _], _ => rfl) fun f fd F => ok_rp F B Bx WI BP LO LG LGR
  have DR : dDR l.prog w K mg base := mk_def T.d_dr X G (fun _ _ _ _ _ _ us hl => match us, hl with | [_, _], _ => rfl) fun f fd F => ok_dr F B Bx N LBB BI LT LS
  have DU : dDU l.prog w K mg base := mk_def T.d_du X G (fun _ _ _ _ _ _ us hl => match us, hl with | [_, _, _], _ => rfl) fun f fd F => ok_du F B Bx RP BP WI
  have BD : dBd l.prog w K mg base := mk_def T.d_bd X G (fun _ _ _ _ _ _ us hl => match us, hl with | [_], _ => rfl) fun f fd F => ok_bd F
  have MK2 : dMks l.prog w K mg base := mk_def T.d_mk X G (fun _ _ _ _ _ _ us hl => match us, hl with | [_], _ => rfl) fun f fd F => ok_mk F BD
  have BE : dBe l.prog w K mg base := mk_def T.d_be X G (fun _ _ _ _ _ _ us hl => match us, hl with | [_], _ => rfl) fun f fd F => ok_be F
  have RC : dRc l.prog w K mg base := mk_def T.d_rc X G (fun _ _ _ _ _ _ us hl => match us, hl with | [_, _], _ => rfl) fun f fd F => ok_rc F
  have AE : dAE l.prog w K mg base := mk_def T.d_ae X G (fun _ _ _ _ _ _ us hl => match us, hl with | [_], _ => rfl) fun f fd F => ok_ae F BE
  have LD : dLd l.prog w K mg base := mk_def T.d_ld X G (fun _ _ _ _ _ _ us hl => match us, hl with | [_], _ => rfl) fun f fd F => ok_ld F AE RC
  have CBK : dCb l.prog w K mg base := mk_def T.d_cbk X G (fun _ _ _ _ _ _ us hl => match us, hl with | [_, _, _], _ => rfl) fun f fd F => ok_cb F
  have HR : dHr l.prog w K mg base := mk_def T.d_hr X G (fun _ _ _ _ _ _ us hl => match us, hl with | [_, _], _ => rfl) fun f fd F => ok_hr F Bx BE CBK
  have FG : dFg l.prog w K mg base := mk_def T.d_fg X G (fun _ _ _ _ _ _ us hl => match us, hl with | [_, _], _ => rfl) fun f fd F => ok_fg F Bx MK2 BE CBK
  have WD : dWd l.prog w K mg base C := mk_def T.d_wd X G (fun _ _ _ _ _ _ us hl => match us, hl with | [_], _ => rfl) fun f fd F => fn_or0 (ok_wd F CC B) (ok_wdF F CC B)
  have CT : dCT l.prog w K mg base C2 := mk_defX T.d_ct X G (fun _ _ _ _ _ _ us hl => match us, hl with | [_, _], _ => rfl) fun f fd F => ok_ct F T0
  have CTt : dCTt l.prog w K mg base C2 := mk_defX T.d_ct X G (fun _ _ _ _ _ _ us hl => match us, hl with | [_, _], _ => rfl) fun f fd F => ok_ctt F T0
  have CR : dCR l.prog w K mg base C2 := mk_defX T.d_cr X G (fun _ _ _ _ _ _ us hl => match us, hl with | [_, _, _], _ => rfl) fun f fd F => ok_cr F T0 B
  have CL : dCL l.prog w K mg base C2 := mk_defX T.d_cl X G (fun _ _ _ _ _ _ us hl => match us, hl with | [_, _, _], _ => rfl) fun f fd F => ok_cl F T0 CR CT
  have CK : dCK l.prog w K mg base C2 := mk_defX T.d_ck X G (fun _ _ _ _ _ _ us hl => match us, hl with | [_, _], _ => rfl) fun f fd F => ok_ck F B CL BD
  have CHB : dCB l.prog w K mg base C C2 := mk_defX T.d_cb X G (fun _ _ _ _ _ _ us hl => match us, hl with | [_, _], _ => rfl) fun f fd F => ok_chb F WD CK
  have CA : dCA l.prog w K mg base C C2 := mk_defX T.d_ca X G (fun _ _ _ _ _ _ us hl => match us, hl with | [_, _, _, _], _ => rfl) fun f fd F => ok_ca F B Bx CC T0 WD CK CTt
  have CE : dCE l.prog w K mg base C2 := mk_defX T.d_ce X G (fun _ _ _ _ _ _ us hl => match us, hl with | [_], _ => rfl) fun f fd F => ok_ce F T0 LD HR FG
  have FF : dFF l.prog w K mg base C := mk_def T.d_ff X G (fun _ _ _ _ _ _ us hl => match us, hl with | [_], _ => rfl) fun f fd F => ok_ff F B Bx CC
  have IS : dIS l.prog w K mg base C := mk_def T.d_is X G (fun _ _ _ _ _ _ us hl => match us, hl with | [_], _ => rfl) fun f fd F => ok_is F CC T0 FF CA CE CHB
  have VK : Def l.prog w K mg base "value_key" 1 ["value"] spVK := mk_def T.d_vk X G (fun _ _ _ _ _ _ us hl => match us, hl with | [_], _ => rfl) fun f fd F => ok_vk F B
  have RK : dRK l.prog w K mg base := mk_def T.d_rk X G (fun _ _ _ _ _ _ us hl => match us, hl with | [_], _ => rfl) fun f fd F => ok_rk F B VK
  have SR : dSR l.prog w K mg base := mk_def T.d_sr X G (fun _ _ _ _ _ _ us hl => match us, hl with | [_, _], _ => rfl) fun f fd F => ok_sr F RK
  have PO : dPO l.prog w K mg base := mk_def T.d_po X G (fun _ _ _ _ _ _ us hl => match us, hl with | [_, _], _ => rfl) fun f fd F => ok_po F B RK
  have SA : dSA l.prog w K mg base := mk_def T.d_sa X G (fun _ _ _ _ _ _ us hl => match us, hl with | [_, _, _], _ => rfl) fun f fd F => ok_sa F B SR
  have PR : KU.mPR l.prog w K mg base C := mk_meth T.mPR (fun _ _ _ _ _ _ us hl => match us, hl with | [_, _, _], _ => rfl) fun f fd F => ok_pr F CC PO SA
  have PU : KU.mPut l.prog w K mg base C := mk_meth T.mPut (fun _ _ _ _ _ _ us hl => match us, hl with | [_, _], _ => rfl) fun f fd F => ok_put F CC PR
  have MK : MkSt l.prog w K mg base C := mk_init T.mInit T.mk_ T.kc CC PU
  have AL : KU.mAll l.prog w K mg base C := mk_meth T.mAll (fun _ _ _ _ _ _ us hl => match us, hl with | [_], _ => rfl) fun f fd F => ok_all F CC hso
  have S0 : Def l.prog w K mg base "_law_same" 1 ["actual", "expected"] (spSE 0) := mk_def T.d_sm X G (fun _ _ _ _ _ _ us hl => match us, hl with | [_, _], _ => rfl) fun f fd F => ok_se F B 0 (.inl rfl)
  have Sn : ∀ n, Def l.prog w K mg base "_law_same" (n + 1) ["actual", "expected"] (spSE n) := fun n => by
    induction n with
    | zero => exact S0
    | succ n ih => exact mk_def T.d_sm X G (fun _ _ _ _ _ _ us hl => match us, hl with | [_, _], _ => rfl) fun f fd F => ok_se F B (n + 1) (.inr ⟨n, rfl, ih⟩)
  have SM : dSmE l.prog w K mg base := mk_def T.d_sm X G (fun _ _ _ _ _ _ us hl => match us, hl with | [_, _], _ => rfl) fun f fd F => by
    have a : FnOk l.prog w K mg base CX0 10 f fd ["actual", "expected"] (spSE 8) := (ok_se F B 8 (.inr ⟨7, rfl, Sn 7⟩)).mono (by decide)
    have b : FnOk l.prog w K mg base CX0 10 f fd ["actual", "expected"] (spSEl 8) := ok_sel F B 8 (Sn 8)
    exact ⟨fun vs H Q E h => h.elim (a.len vs H Q E) (b.len vs H Q E), fun A outer s H args us vs Q E hr e0 bt r h => h.elim (a.run A outer s H args us vs Q E hr e0 bt r) (b.run A outer s H args us vs Q E hr e0 bt r)⟩
  exact ok_law F B Bx CC MK AL N LW DR LBB WI IS DU SM
end
end KU
open PySem PySem.W PyProof.Rows
set_option maxHeartbeats 0 in
theorem PySem.Challenge.cw_rulestead_k23_sound_states_holds : PySem.Challenge.rw_rulestead_k23_sound_states.Holds := by
  w_on; o_law; k_head; (case hw => w_witness2)
  k_fill
  refine L2.walk_of (l := PySem.Challenge.rw_rulestead_k23_sound_states) (n := 63) (k := 11) (x := "script") (CX := fun _ => L2.CX0) (sp := fun w => KU.spLaw _) rfl (by decide) rfl ⟨rfl, by decide, by decide⟩ (fun w h Y => PySem.W.kIn_of Y) ?F (fun _ _ a ns hl _ hS => ⟨a, ns, rfl, hS, hl, fun _ => rfl⟩) (fun _ _ _ _ _ h => h)
  case F =>
    intro w mg fa h KX G hmg
    refine' KU.all_mk ?T KX G hmg
    case T =>
      constructor
      all_goals first
        | k_is
        | (refine' KU.defAt ?a ?l ?c ?k; (case a => k_is); (case l => k_is); (case c => k_is); (case k => k_is))
        | (refine' KU.methAt ?a ?i ?l ?c ?k; (case a => k_is); (case i => k_is); (case l => k_is); (case c => k_is); (case k => k_is))
        | (refine' KU.initAt ?a ?i ?l ?c ?k ?t ?e; (case a => k_is); (case i => k_is); (case l => k_is); (case c => k_is); (case k => k_is); (case t => k_is); (case e => k_is))
        | (refine' KU.clsAt ?h; (case h => k_is))
        | (refine' KU.iniAt ?l ?c; (case l => k_is); (case c => k_is))
        | kit_is
        | rfl
