import PyProof.Rows.All
import Wide.All
import OpenK.AllK
import Wide.FinOn
import HandS.Base
import HandS.Call
import HandS.List
import HandS.Comp
import HandS.Ends
import KE.DataEq
import KE.LtSeq
import HandS.ForMost
import HandS.IsInst
import HandS.Wide
import HandS.TupAny
import HandS.Codes
import HandS.Walk
import KE.GoesEnum
import HandS.SetKeys
import PyProof.DictMoreH
import HandS.Style
import HandS.More
import PyProof.DictUpdate
import PyProof.DictDisplay
import HandS.Zip
import PyProof.MeetsIn
import HandS.Steps
import PyProof.ReprLen
import PyProof.ReprRoads
import HandS.WordsDict
import PySem.Challenge.RW_rulestead_k20_ways_of_bodies
set_option Elab.async false
set_option linter.all false
set_option maxRecDepth 100000
set_option maxHeartbeats 8000000
/-! Tuples compared by < and >, where only the first pair that differs need be comparable. -/
namespace KA
open PySem PySem.SeqAt
open PySem.AutoSeq1 (wpAny_loadPart')
open PySem.MeetsSeq PySem.MeetsSeq2 PySem.MeetsSeq3

/-- u op v gives k, nothing changes -/
def Rc (op : CmpOp) (A : Around) (s : Shared) (u v : Value) (k : Bool) : Prop :=
  ∀ (prog : Program) (w : World) (E : Value → Shared → Prop) (Q : Value → Shared → Prop), Q (.bool k) s → wpAny (model prog w) A (richCompare op u v) Q E s
theorem lt_mixed (p q : Addr) (as bs : Array Value) (m m2 : Nat) (da db : Option Addr) (sa sb : Array (Option Value)) (e r : Nat → Bool) :
    Meets (Builtin.«tuple.__lt__» ⟨[.ref p, .ref q], []⟩)
      (fun A R s => s.heap.get? p = some { cls := .type "tuple", dict := da, data := .seq as m, slots := sa } ∧ s.heap.get? q = some { cls := .type "tuple", dict := db, data := .seq bs m2, slots := sb } ∧
        (∀ j (h1 : j < as.size) (h2 : j < bs.size), EqAt A.in1 s as[j] bs[j] (e j)) ∧
        (∀ j (h1 : j < as.size) (h2 : j < bs.size), (∀ i, i < j → e i = true) → e j = false → Rc .Lt A.in1 s as[j] bs[j] (r j)) ∧
        R (.ok (.ret (.bool (firstLt e r (decide (as.size < bs.size)) (List.range (min as.size bs.size)))))) s) :=
  .of_wp fun prog w A R s hyp => by
    obtain ⟨hp, gg, dr, tks, ox⟩ := s
    obtain ⟨gp, gq, heq, hrc, hR0⟩ := hyp
    have isT := AutoSeq1.sub_tuple_tuple
    have zl : (as.toList.zip bs.toList).length = min as.size bs.size := by simp
    wp_walk using wpAny_loadPart' gp, wpAny_loadPart' gq, wpAny_forIn_list _ (fun rem st s' => st.1 = none ∧ s' = ⟨hp, gg, dr, tks, ox⟩ ∧ ∃ i, (∀ x, x < i → e x = true) ∧ rem = (as.toList.zip bs.toList).drop i ∧
      R (.ok (.ret (.bool (firstLt e r (decide (as.size < bs.size)) ((List.range (min as.size bs.size)).drop i))))) ⟨hp, gg, dr, tks, ox⟩) _
    case turn =>
      rintro ⟨u, v⟩ rem st s' ⟨st1, rfl, i, same, hz, hR⟩
      have il : i < (as.toList.zip bs.toList).length := by
        rcases Nat.lt_or_ge i (as.toList.zip bs.toList).length with c | c
        · exact c
        · rw [List.drop_of_length_le c] at hz
          cases hz
      have im : i < min as.size bs.size := zl ▸ il
      have ia : i < as.size := Nat.lt_of_lt_of_le im (Nat.min_le_left _ _)
      have ib : i < bs.size := Nat.lt_of_lt_of_le im (Nat.min_le_right _ _)
      rw [List.drop_eq_getElem_cons il] at hz
      injection hz with huv hrem
      have eu : u = as[i] := by
        have t := congrArg Prod.fst huv
        simpa using t
      have ev : v = bs[i] := by
        have t := congrArg Prod.snd huv
        simpa using t
      subst eu ev
      have hcut : (List.range (min as.size bs.size)).drop i = i :: (List.range (min as.size bs.size)).drop (i + 1) := by
        simp [List.drop_eq_getElem_cons, im]
      rw [hcut] at hR
      refine wpAny_bind (heq i ia ib prog w _ _ ?_)
      cases ei : e i with
      | true =>
        rw [firstLt_yes ei] at hR
        wp_walk
        refine ⟨rfl, rfl, i + 1, fun x hx => ?_, hrem, hR⟩
        rcases Nat.lt_or_ge x i with c | c
        · exact same x c
        · rw [show x = i by omega]
          exact ei
      | false =>
        rw [firstLt_no ei] at hR
        have step := hrc i ia ib same ei prog w
        wp_walk using step
        exact ⟨_, rfl, by simpa using hR⟩
    case fin =>
      rintro ⟨c1, c2⟩ s' ⟨st1, rfl, i, same, hz, hR⟩
      simp only at st1
      subst st1
      have hge : min as.size bs.size ≤ i := by
        rcases Nat.lt_or_ge i (as.toList.zip bs.toList).length with c | c
        · rw [List.drop_eq_getElem_cons c] at hz
          cases hz
        · exact zl ▸ c
      rw [List.drop_of_length_le (by simpa using hge)] at hR
      wp_walk
      exact ⟨_, rfl, by simpa [Builtin.Tuple.tupleCompareSizes, firstLt] using hR⟩
    case h =>
      exact ⟨rfl, rfl, 0, fun x hx => absurd hx (Nat.not_lt_zero x), rfl, by simpa using hR0⟩
theorem gt_mixed (p q : Addr) (as bs : Array Value) (m m2 : Nat) (da db : Option Addr) (sa sb : Array (Option Value)) (e r : Nat → Bool) :
    Meets (Builtin.«tuple.__gt__» ⟨[.ref p, .ref q], []⟩)
      (fun A R s => s.heap.get? p = some { cls := .type "tuple", dict := da, data := .seq as m, slots := sa } ∧ s.heap.get? q = some { cls := .type "tuple", dict := db, data := .seq bs m2, slots := sb } ∧
        (∀ j (h1 : j < as.size) (h2 : j < bs.size), EqAt A.in1 s as[j] bs[j] (e j)) ∧
        (∀ j (h1 : j < as.size) (h2 : j < bs.size), (∀ i, i < j → e i = true) → e j = false → Rc .Gt A.in1 s as[j] bs[j] (r j)) ∧
        R (.ok (.ret (.bool (firstLt e r (decide (as.size > bs.size)) (List.range (min as.size bs.size)))))) s) :=
  .of_wp fun prog w A R s hyp => by
    obtain ⟨hp, gg, dr, tks, ox⟩ := s
    obtain ⟨gp, gq, heq, hrc, hR0⟩ := hyp
    have isT := AutoSeq1.sub_tuple_tuple
    have zl : (as.toList.zip bs.toList).length = min as.size bs.size := by simp
    wp_walk using wpAny_loadPart' gp, wpAny_loadPart' gq, wpAny_forIn_list _ (fun rem st s' => st.1 = none ∧ s' = ⟨hp, gg, dr, tks, ox⟩ ∧ ∃ i, (∀ x, x < i → e x = true) ∧ rem = (as.toList.zip bs.toList).drop i ∧
      R (.ok (.ret (.bool (firstLt e r (decide (as.size > bs.size)) ((List.range (min as.size bs.size)).drop i))))) ⟨hp, gg, dr, tks, ox⟩) _
    case turn =>
      rintro ⟨u, v⟩ rem st s' ⟨st1, rfl, i, same, hz, hR⟩
      have il : i < (as.toList.zip bs.toList).length := by
        rcases Nat.lt_or_ge i (as.toList.zip bs.toList).length with c | c
        · exact c
        · rw [List.drop_of_length_le c] at hz
          cases hz
      have im : i < min as.size bs.size := zl ▸ il
      have ia : i < as.size := Nat.lt_of_lt_of_le im (Nat.min_le_left _ _)
      have ib : i < bs.size := Nat.lt_of_lt_of_le im (Nat.min_le_right _ _)
      rw [List.drop_eq_getElem_cons il] at hz
      injection hz with huv hrem
      have eu : u = as[i] := by
        have t := congrArg Prod.fst huv
        simpa using t
      have ev : v = bs[i] := by
        have t := congrArg Prod.snd huv
        simpa using t
      subst eu ev
      have hcut : (List.range (min as.size bs.size)).drop i = i :: (List.range (min as.size bs.size)).drop (i + 1) := by
        simp [List.drop_eq_getElem_cons, im]
      rw [hcut] at hR
      refine wpAny_bind (heq i ia ib prog w _ _ ?_)
      cases ei : e i with
      | true =>
        rw [firstLt_yes ei] at hR
        wp_walk
        refine ⟨rfl, rfl, i + 1, fun x hx => ?_, hrem, hR⟩
        rcases Nat.lt_or_ge x i with c | c
        · exact same x c
        · rw [show x = i by omega]
          exact ei
      | false =>
        rw [firstLt_no ei] at hR
        have step := hrc i ia ib same ei prog w
        wp_walk using step
        exact ⟨_, rfl, by simpa using hR⟩
    case fin =>
      rintro ⟨c1, c2⟩ s' ⟨st1, rfl, i, same, hz, hR⟩
      simp only at st1
      subst st1
      have hge : min as.size bs.size ≤ i := by
        rcases Nat.lt_or_ge i (as.toList.zip bs.toList).length with c | c
        · rw [List.drop_eq_getElem_cons c] at hz
          cases hz
        · exact zl ▸ c
      rw [List.drop_of_length_le (by simpa using hge)] at hR
      wp_walk
      exact ⟨_, rfl, by simpa [Builtin.Tuple.tupleCompareSizes, firstLt] using hR⟩
    case h =>
      exact ⟨rfl, rfl, 0, fun x hx => absurd hx (Nat.not_lt_zero x), rfl, by simpa using hR0⟩
section
variable {A : Around} {s : Shared} {p q : Addr} {as bs : Array Value} {e r : Nat → Bool}
theorem rc_lt_tups (hp : s.heap.IsTuple p as) (hq : s.heap.IsTuple q bs) (hu : A.units < cLine) (he : ∀ j (h1 : j < as.size) (h2 : j < bs.size), EqAt A.in1 s as[j] bs[j] (e j))
    (hr : ∀ j (h1 : j < as.size) (h2 : j < bs.size), (∀ i, i < j → e i = true) → e j = false → Rc .Lt A.in1 s as[j] bs[j] (r j)) :
    Rc .Lt A s (.ref p) (.ref q) (firstLt e r (decide (as.size < bs.size)) (List.range (min as.size bs.size))) := fun prog w E Q k => by
  obtain ⟨⟨c1, d1, x1, z1⟩, o1, k1, n1, w1⟩ := id hp
  obtain ⟨⟨c2, d2, x2, z2⟩, o2, k2, n2, w2⟩ := id hq
  simp only at k1 w1 k2 w2
  subst k1 w1 k2 w2
  refine richCompare_meets_room (op := .Lt) ⟨_, o1, rfl⟩ ⟨_, o2, rfl⟩ F.slot_tuple_lt F.entry_tuple_lt (F.args_tuple_lt_2 _ _) (lt_mixed p q as bs n1 n2 d1 d2 z1 z2 e r) ?_ hu
  exact ⟨o1, o2, he, hr, ⟨(fun x => nomatch x), k⟩⟩
theorem rc_gt_tups (hp : s.heap.IsTuple p as) (hq : s.heap.IsTuple q bs) (hu : A.units < cLine) (he : ∀ j (h1 : j < as.size) (h2 : j < bs.size), EqAt A.in1 s as[j] bs[j] (e j))
    (hr : ∀ j (h1 : j < as.size) (h2 : j < bs.size), (∀ i, i < j → e i = true) → e j = false → Rc .Gt A.in1 s as[j] bs[j] (r j)) :
    Rc .Gt A s (.ref p) (.ref q) (firstLt e r (decide (as.size > bs.size)) (List.range (min as.size bs.size))) := fun prog w E Q k => by
  obtain ⟨⟨c1, d1, x1, z1⟩, o1, k1, n1, w1⟩ := id hp
  obtain ⟨⟨c2, d2, x2, z2⟩, o2, k2, n2, w2⟩ := id hq
  simp only at k1 w1 k2 w2
  subst k1 w1 k2 w2
  refine richCompare_meets_room (op := .Gt) ⟨_, o1, rfl⟩ ⟨_, o2, rfl⟩ F.slot_tuple_gt F.entry_tuple_gt (F.args_tuple_gt_2 _ _) (gt_mixed p q as bs n1 n2 d1 d2 z1 z2 e r) ?_ hu
  exact ⟨o1, o2, he, hr, ⟨(fun x => nomatch x), k⟩⟩
end
end KA

/-! < and > of data whose items may be of unlike kinds behind the first difference. -/
namespace KA
open PySem PySem.SeqAt
mutual
/-- x < y as Python says; none: not comparable -/
def dlt : PyData → PyData → Option Bool
  | .int a, .int b => some (decide (a < b))
  | .str a, .str b => some (decide (a.cps.toList < b.cps.toList))
  | .tuple xs, .tuple ys => dltAll xs ys
  | _, _ => none
def dltAll : List PyData → List PyData → Option Bool
  | [], [] => some false
  | [], _ :: _ => some true
  | _ :: _, [] => some false
  | x :: xs, y :: ys => if PyData.eqv x y = true then dltAll xs ys else dlt x y
end
mutual
def dgt : PyData → PyData → Option Bool
  | .int a, .int b => some (decide (a > b))
  | .str a, .str b => some (decide (b.cps.toList < a.cps.toList))
  | .tuple xs, .tuple ys => dgtAll xs ys
  | _, _ => none
def dgtAll : List PyData → List PyData → Option Bool
  | [], [] => some false
  | [], _ :: _ => some false
  | _ :: _, [] => some true
  | x :: xs, y :: ys => if PyData.eqv x y = true then dgtAll xs ys else dgt x y
end
/-- what the first unequal pair gives, by place -/
def rAt (f : PyData → PyData → Option Bool) (xs ys : List PyData) (j : Nat) : Bool :=
  match xs[j]?, ys[j]? with
  | some x, some y => (f x y).getD false
  | _, _ => false
theorem scan_succ (e r : Nat → Bool) (z : Bool) : ∀ l : List Nat, firstLt e r z (l.map (· + 1)) = firstLt (fun j => e (j + 1)) (fun j => r (j + 1)) z l
  | [] => rfl
  | j :: t => by
    rw [List.map_cons]
    show (if e (j + 1) = true then firstLt e r z (t.map (· + 1)) else r (j + 1)) = _
    rw [scan_succ e r z t]
    rfl
theorem scan_lt : ∀ (xs ys : List PyData) (k : Bool), dltAll xs ys = some k → firstLt (pairEq xs ys) (rAt dlt xs ys) (decide (xs.length < ys.length)) (List.range (min xs.length ys.length)) = k
  | [], [], k, h => by
    rw [dltAll] at h
    exact (Option.some.inj h)
  | [], y :: ys, k, h => by
    rw [dltAll] at h
    rw [← Option.some.inj h]
    simp [firstLt]
  | x :: xs, [], k, h => by
    rw [dltAll] at h
    rw [← Option.some.inj h]
    simp [firstLt]
  | x :: xs, y :: ys, k, h => by
    rw [dltAll] at h
    have em : min (x :: xs).length (y :: ys).length = min xs.length ys.length + 1 := by
      rw [List.length_cons, List.length_cons]
      omega
    rw [em, List.range_succ_eq_map]
    by_cases hxy : PyData.eqv x y = true
    · rw [if_pos hxy] at h
      rw [firstLt_yes (show pairEq (x :: xs) (y :: ys) 0 = true from hxy), scan_succ, ← scan_lt xs ys k h]
      simp only [List.length_cons, Nat.add_lt_add_iff_right]
      rfl
    · rw [if_neg hxy] at h
      have hf : PyData.eqv x y = false := by
        cases c : PyData.eqv x y
        · rfl
        · exact absurd c hxy
      rw [firstLt_no (show pairEq (x :: xs) (y :: ys) 0 = false from hf)]
      show (dlt x y).getD false = k
      rw [h]
      rfl
theorem scan_gt : ∀ (xs ys : List PyData) (k : Bool), dgtAll xs ys = some k → firstLt (pairEq xs ys) (rAt dgt xs ys) (decide (xs.length > ys.length)) (List.range (min xs.length ys.length)) = k
  | [], [], k, h => by
    rw [dgtAll] at h
    exact (Option.some.inj h)
  | [], y :: ys, k, h => by
    rw [dgtAll] at h
    rw [← Option.some.inj h]
    simp [firstLt]
  | x :: xs, [], k, h => by
    rw [dgtAll] at h
    rw [← Option.some.inj h]
    simp [firstLt]
  | x :: xs, y :: ys, k, h => by
    rw [dgtAll] at h
    have em : min (x :: xs).length (y :: ys).length = min xs.length ys.length + 1 := by
      rw [List.length_cons, List.length_cons]
      omega
    rw [em, List.range_succ_eq_map]
    by_cases hxy : PyData.eqv x y = true
    · rw [if_pos hxy] at h
      rw [firstLt_yes (show pairEq (x :: xs) (y :: ys) 0 = true from hxy), scan_succ, ← scan_gt xs ys k h]
      simp only [List.length_cons, gt_iff_lt, Nat.add_lt_add_iff_right]
      rfl
    · rw [if_neg hxy] at h
      have hf : PyData.eqv x y = false := by
        cases c : PyData.eqv x y
        · rfl
        · exact absurd c hxy
      rw [firstLt_no (show pairEq (x :: xs) (y :: ys) 0 = false from hf)]
      show (dgt x y).getD false = k
      rw [h]
      rfl
mutual
theorem rc_lt : ∀ (d e : PyData) (k : Bool) (A : Around) (s : Shared) (a b : Value) (as bs : List Addr), Reads s.heap a d as → Reads s.heap b e bs → d.plain = true → e.plain = true → dlt d e = some k →
    A.units + min d.depth e.depth < cLine → Rc .Lt A s a b k
  | .int x, e, k, A, s, a, b, as, bs, ra, rb, pd, pe, h, hu => by
    cases e with
    | int y =>
      cases ra
      cases rb
      intro prog w E Q hq
      rw [dlt] at h
      cases h
      exact P.lt_int hq
    | _ => exact absurd h (by simp [dlt])
  | .str x, e, k, A, s, a, b, as, bs, ra, rb, pd, pe, h, hu => by
    cases e with
    | str y =>
      cases ra
      cases rb
      intro prog w E Q hq
      rw [dlt] at h
      cases h
      exact P.lt_str hq
    | _ => exact absurd h (by simp [dlt])
  | .tuple xs, e, k, A, s, a, b, as, bs, ra, rb, pd, pe, h, hu => by
    cases e with
    | tuple ys =>
      rw [dlt] at h
      cases ra with
      | @tuple l o vs n _ as1 h1 h2 h3 h4 =>
        cases rb with
        | @tuple l2 o2 vs2 n2 _ bs1 k1 k2 k3 k4 =>
          have z1 : vs.size = xs.length := by simpa using ReadsAll.length _ _ _ h4
          have z2 : vs2.size = ys.length := by simpa using ReadsAll.length _ _ _ k4
          have px : PyData.plainAll xs = true := pd
          have py : PyData.plainAll ys = true := pe
          have q := rc_lt_tups (A := A) (s := s) (e := pairEq xs ys) (r := rAt dlt xs ys) ⟨_, h1, h2, _, h3⟩ ⟨_, k1, k2, _, k3⟩ (room_here hu) (fun j j1 j2 => by
            have t := eqAt_plainAll xs ys A.in1 s vs.toList vs2.toList _ _ h4 k4 px py (room_in hu) j (by simpa using j1) (by simpa using j2)
            simpa using t) (fun j j1 j2 hb hj => by
            have t := rc_ltAll xs ys k A.in1 s vs.toList vs2.toList _ _ h4 k4 px py h (room_in hu) j (by simpa using j1) (by simpa using j2) hb hj
            simpa using t)
          rw [z1, z2, scan_lt xs ys k h] at q
          exact q
    | _ => exact absurd h (by simp [dlt])
  | .none, e, k, _, _, _, _, _, _, _, _, _, _, h, _ => absurd h (by cases e <;> simp [dlt])
  | .bool _, e, k, _, _, _, _, _, _, _, _, _, _, h, _ => absurd h (by cases e <;> simp [dlt])
  | .list _, e, k, _, _, _, _, _, _, _, _, _, _, h, _ => absurd h (by cases e <;> simp [dlt])
  | .dict _, e, k, _, _, _, _, _, _, _, _, _, _, h, _ => absurd h (by cases e <;> simp [dlt])
theorem rc_ltAll : ∀ (xs ys : List PyData) (k : Bool) (A : Around) (s : Shared) (vs ws : List Value) (as bs : List Addr), ReadsAll s.heap vs xs as → ReadsAll s.heap ws ys bs → PyData.plainAll xs = true → PyData.plainAll ys = true →
    dltAll xs ys = some k → A.units + min (PyData.depthAll xs) (PyData.depthAll ys) < cLine → ∀ j (h1 : j < vs.length) (h2 : j < ws.length), (∀ i, i < j → pairEq xs ys i = true) → pairEq xs ys j = false →
    Rc .Lt A s vs[j] ws[j] (rAt dlt xs ys j)
  | [], _, _, _, _, _, _, _, _, ra, _, _, _, _, _, j, h1, _, _, _ => by
    cases ra
    exact absurd h1 (Nat.not_lt_zero _)
  | _ :: _, [], _, _, _, _, _, _, _, _, rb, _, _, _, _, j, _, h2, _, _ => by
    cases rb
    exact absurd h2 (Nat.not_lt_zero _)
  | x :: xs, y :: ys, k, A, s, _, _, _, _, ra, rb, pa, pb, h, hu, j, h1, h2, hb, hj => by
    have pa2 : x.plain = true ∧ PyData.plainAll xs = true := by simpa [PyData.plainAll] using pa
    have pb2 : y.plain = true ∧ PyData.plainAll ys = true := by simpa [PyData.plainAll] using pb
    rw [dltAll] at h
    cases ra with
    | cons r rs =>
      cases rb with
      | cons t ts =>
        cases j with
        | zero =>
          have hf : PyData.eqv x y = false := hj
          rw [if_neg (by rw [hf]; exact Bool.false_ne_true)] at h
          have q := rc_lt x y k A s _ _ _ _ r t pa2.1 pb2.1 h (room_head hu)
          have ek : rAt dlt (x :: xs) (y :: ys) 0 = k := by
            show (dlt x y).getD false = k
            rw [h]
            rfl
          rw [ek]
          exact q
        | succ j =>
          have ht : PyData.eqv x y = true := hb 0 (Nat.zero_lt_succ j)
          rw [if_pos ht] at h
          exact rc_ltAll xs ys k A s _ _ _ _ rs ts pa2.2 pb2.2 h (room_tail hu) j (Nat.lt_of_succ_lt_succ h1) (Nat.lt_of_succ_lt_succ h2) (fun i hi => hb (i + 1) (Nat.succ_lt_succ hi)) hj
end
mutual
theorem rc_gt : ∀ (d e : PyData) (k : Bool) (A : Around) (s : Shared) (a b : Value) (as bs : List Addr), Reads s.heap a d as → Reads s.heap b e bs → d.plain = true → e.plain = true → dgt d e = some k →
    A.units + min d.depth e.depth < cLine → Rc .Gt A s a b k
  | .int x, e, k, A, s, a, b, as, bs, ra, rb, pd, pe, h, hu => by
    cases e with
    | int y =>
      cases ra
      cases rb
      intro prog w E Q hq
      rw [dgt] at h
      cases h
      exact P.gt_int hq
    | _ => exact absurd h (by simp [dgt])
  | .str x, e, k, A, s, a, b, as, bs, ra, rb, pd, pe, h, hu => by
    cases e with
    | str y =>
      cases ra
      cases rb
      intro prog w E Q hq
      rw [dgt] at h
      cases h
      exact P.gt_str hq
    | _ => exact absurd h (by simp [dgt])
  | .tuple xs, e, k, A, s, a, b, as, bs, ra, rb, pd, pe, h, hu => by
    cases e with
    | tuple ys =>
      rw [dgt] at h
      cases ra with
      | @tuple l o vs n _ as1 h1 h2 h3 h4 =>
        cases rb with
        | @tuple l2 o2 vs2 n2 _ bs1 k1 k2 k3 k4 =>
          have z1 : vs.size = xs.length := by simpa using ReadsAll.length _ _ _ h4
          have z2 : vs2.size = ys.length := by simpa using ReadsAll.length _ _ _ k4
          have px : PyData.plainAll xs = true := pd
          have py : PyData.plainAll ys = true := pe
          have q := rc_gt_tups (A := A) (s := s) (e := pairEq xs ys) (r := rAt dgt xs ys) ⟨_, h1, h2, _, h3⟩ ⟨_, k1, k2, _, k3⟩ (room_here hu) (fun j j1 j2 => by
            have t := eqAt_plainAll xs ys A.in1 s vs.toList vs2.toList _ _ h4 k4 px py (room_in hu) j (by simpa using j1) (by simpa using j2)
            simpa using t) (fun j j1 j2 hb hj => by
            have t := rc_gtAll xs ys k A.in1 s vs.toList vs2.toList _ _ h4 k4 px py h (room_in hu) j (by simpa using j1) (by simpa using j2) hb hj
            simpa using t)
          rw [z1, z2, scan_gt xs ys k h] at q
          exact q
    | _ => exact absurd h (by simp [dgt])
  | .none, e, k, _, _, _, _, _, _, _, _, _, _, h, _ => absurd h (by cases e <;> simp [dgt])
  | .bool _, e, k, _, _, _, _, _, _, _, _, _, _, h, _ => absurd h (by cases e <;> simp [dgt])
  | .list _, e, k, _, _, _, _, _, _, _, _, _, _, h, _ => absurd h (by cases e <;> simp [dgt])
  | .dict _, e, k, _, _, _, _, _, _, _, _, _, _, h, _ => absurd h (by cases e <;> simp [dgt])
theorem rc_gtAll : ∀ (xs ys : List PyData) (k : Bool) (A : Around) (s : Shared) (vs ws : List Value) (as bs : List Addr), ReadsAll s.heap vs xs as → ReadsAll s.heap ws ys bs → PyData.plainAll xs = true → PyData.plainAll ys = true →
    dgtAll xs ys = some k → A.units + min (PyData.depthAll xs) (PyData.depthAll ys) < cLine → ∀ j (h1 : j < vs.length) (h2 : j < ws.length), (∀ i, i < j → pairEq xs ys i = true) → pairEq xs ys j = false →
    Rc .Gt A s vs[j] ws[j] (rAt dgt xs ys j)
  | [], _, _, _, _, _, _, _, _, ra, _, _, _, _, _, j, h1, _, _, _ => by
    cases ra
    exact absurd h1 (Nat.not_lt_zero _)
  | _ :: _, [], _, _, _, _, _, _, _, _, rb, _, _, _, _, j, _, h2, _, _ => by
    cases rb
    exact absurd h2 (Nat.not_lt_zero _)
  | x :: xs, y :: ys, k, A, s, _, _, _, _, ra, rb, pa, pb, h, hu, j, h1, h2, hb, hj => by
    have pa2 : x.plain = true ∧ PyData.plainAll xs = true := by simpa [PyData.plainAll] using pa
    have pb2 : y.plain = true ∧ PyData.plainAll ys = true := by simpa [PyData.plainAll] using pb
    rw [dgtAll] at h
    cases ra with
    | cons r rs =>
      cases rb with
      | cons t ts =>
        cases j with
        | zero =>
          have hf : PyData.eqv x y = false := hj
          rw [if_neg (by rw [hf]; exact Bool.false_ne_true)] at h
          have q := rc_gt x y k A s _ _ _ _ r t pa2.1 pb2.1 h (room_head hu)
          have ek : rAt dgt (x :: xs) (y :: ys) 0 = k := by
            show (dgt x y).getD false = k
            rw [h]
            rfl
          rw [ek]
          exact q
        | succ j =>
          have ht : PyData.eqv x y = true := hb 0 (Nat.zero_lt_succ j)
          rw [if_pos ht] at h
          exact rc_gtAll xs ys k A s _ _ _ _ rs ts pa2.2 pb2.2 h (room_tail hu) j (Nat.lt_of_succ_lt_succ h1) (Nat.lt_of_succ_lt_succ h2) (fun i hi => hb (i + 1) (Nat.succ_lt_succ hi)) hj
end
end KA

/-! Rules over the layer: data of tuples read by values, their comparisons, items of lists. -/
namespace KA
open PySem PySem.Spec PyProof.Rows L2
mutual
/-- a value that reads as data over the tuples that stand at H -/
inductive Tp (H : Hp) : V → PyData → Prop
  | non : Tp H .non .none
  | bl (b : Bool) : Tp H (.bl b) (.bool b)
  | int (i : Int) : Tp H (.int i) (.int i)
  | str (x : Str) : Tp H (.str x) (.str x)
  | tup {a : Addr} {xs : List V} {ds : List PyData} : H a = some (.tup xs) → Tps H xs ds → Tp H (.ref a) (.tuple ds)
inductive Tps (H : Hp) : List V → List PyData → Prop
  | nil : Tps H [] []
  | cons {v : V} {vs : List V} {d : PyData} {ds : List PyData} : Tp H v d → Tps H vs ds → Tps H (v :: vs) (d :: ds)
end
/-- the tuples stay -/
def Tk (H H' : Hp) : Prop := ∀ a xs, H a = some (.tup xs) → H' a = some (.tup xs)
theorem Tk.refl (H : Hp) : Tk H H := fun _ _ h => h
theorem Tk.trans {H H1 H2 : Hp} (a : Tk H H1) (b : Tk H1 H2) : Tk H H2 := fun x o h => b x o (a x o h)
theorem Tk.of {H H' : Hp} (s : Same H H') : Tk H H' := fun a _ h => s a _ h
theorem Tk.new {H : Hp} {p : Addr} {o : HO} (h : H p = none) : Tk H (upd H p o) := fun a xs e => by
  rw [upd_ne (ne_of_none e h)]
  exact e
theorem Tk.lst {H : Hp} {p : Addr} {ys : List V} {o : HO} (h : H p = some (.lst ys)) : Tk H (upd H p o) := fun a xs e => by
  rw [upd_ne (ne_of e h (fun z => by cases z))]
  exact e
mutual
theorem Tp.mono {H H' : Hp} (k : Tk H H') : ∀ {d : PyData} {v : V}, Tp H v d → Tp H' v d
  | .none, _, h => by cases h; exact .non
  | .bool _, _, h => by cases h; exact .bl _
  | .int _, _, h => by cases h; exact .int _
  | .str _, _, h => by cases h; exact .str _
  | .tuple _, _, h => by
    cases h with
    | tup e r => exact .tup (k _ _ e) (Tps.mono k r)
  | .list _, _, h => nomatch h
  | .dict _, _, h => nomatch h
theorem Tps.mono {H H' : Hp} (k : Tk H H') : ∀ {ds : List PyData} {vs : List V}, Tps H vs ds → Tps H' vs ds
  | [], _, h => by cases h; exact .nil
  | _ :: _, _, h => by
    cases h with
    | cons a r => exact .cons (Tp.mono k a) (Tps.mono k r)
end
mutual
theorem Tp.dp {K : PySem.W.Frag} {H : Hp} : ∀ {d : PyData} {v : V}, Tp H v d → Dp K H v d
  | .none, _, h => by cases h; exact .non
  | .bool _, _, h => by cases h; exact .bl _
  | .int _, _, h => by cases h; exact .int _
  | .str _, _, h => by cases h; exact .str _
  | .tuple _, _, h => by
    cases h with
    | tup e r => exact .tup (SqT.of e) (Tps.dp r)
  | .list _, _, h => nomatch h
  | .dict _, _, h => nomatch h
theorem Tps.dp {K : PySem.W.Frag} {H : Hp} : ∀ {ds : List PyData} {vs : List V}, Tps H vs ds → DpAll K H vs ds
  | [], _, h => by cases h; exact .nil
  | _ :: _, _, h => by
    cases h with
    | cons a r => exact .cons (Tp.dp a) (Tps.dp r)
end
mutual
theorem Tp.plain {H : Hp} : ∀ {d : PyData} {v : V}, Tp H v d → d.plain = true
  | .none, _, _ => rfl
  | .bool _, _, _ => rfl
  | .int _, _, _ => rfl
  | .str _, _, _ => rfl
  | .tuple _, _, h => by
    cases h with
    | tup e r => exact Tps.plain r
  | .list _, _, h => nomatch h
  | .dict _, _, h => nomatch h
theorem Tps.plain {H : Hp} : ∀ {ds : List PyData} {vs : List V}, Tps H vs ds → PyData.plainAll ds = true
  | [], _, _ => rfl
  | _ :: _, _, h => by
    cases h with
    | cons a r =>
      rw [PyData.plainAll, Tp.plain a, Tps.plain r]
      rfl
end
theorem Tps.length {H : Hp} : ∀ {ds : List PyData} {vs : List V}, Tps H vs ds → vs.length = ds.length
  | [], _, h => by cases h; rfl
  | _ :: _, _, h => by
    cases h with
    | cons a r => rw [List.length_cons, List.length_cons, Tps.length r]
theorem Tps.get {H : Hp} : ∀ {ds : List PyData} {vs : List V} {i : Nat} {v : V}, Tps H vs ds → vs[i]? = some v → ∃ d, ds[i]? = some d ∧ Tp H v d
  | [], _, _, _, h, e => by
    cases h
    simp at e
  | d :: _, _, 0, _, h, e => by
    cases h with
    | cons a r =>
      cases e
      exact ⟨d, rfl, a⟩
  | _ :: _, _, i + 1, _, h, e => by
    cases h with
    | cons a r => exact Tps.get (i := i) r e
theorem Tps.at_ {H : Hp} : ∀ {ds : List PyData} {vs : List V} {i : Nat} {d : PyData}, Tps H vs ds → ds[i]? = some d → ∃ v, vs[i]? = some v ∧ Tp H v d
  | [], _, _, _, h, e => by
    simp at e
  | d :: _, _, 0, _, h, e => by
    cases h with
    | cons a r =>
      cases e
      exact ⟨_, rfl, a⟩
  | _ :: _, _, i + 1, _, h, e => by
    cases h with
    | cons a r => exact Tps.at_ (i := i) r e
theorem Tps.append {H : Hp} : ∀ {ds es : List PyData} {vs ws : List V}, Tps H vs ds → Tps H ws es → Tps H (vs ++ ws) (ds ++ es)
  | [], _, _, _, h, h2 => by cases h; exact h2
  | _ :: _, _, _, _, h, h2 => by
    cases h with
    | cons a r => exact .cons a (Tps.append r h2)

section
variable {X : Cx}
/-- the room that a comparison of data wants -/
def small (d : PyData) : Prop := d.depth ≤ 64
theorem room_d {X : Cx} {d e : PyData} (hu : X.A.units + 64 < cLine) (sd : small d) : X.A.units + min d.depth e.depth < cLine :=
  Nat.lt_of_le_of_lt (Nat.add_le_add_left (Nat.le_trans (Nat.min_le_left _ _) sd) _) hu
def rEqP : R2 := fun x y H Q => ∃ d e, Tp H x d ∧ Tp H y e ∧ small d ∧ Q (.bl (PyData.eqv d e)) H
def rNeP : R2 := fun x y H Q => ∃ d e, Tp H x d ∧ Tp H y e ∧ small d ∧ Q (.bl (!PyData.eqv d e)) H
def rLtP : R2 := fun x y H Q => ∃ d e k, Tp H x d ∧ Tp H y e ∧ small d ∧ dlt d e = some k ∧ Q (.bl k) H
def rGtP : R2 := fun x y H Q => ∃ d e k, Tp H x d ∧ Tp H y e ∧ small d ∧ dgt d e = some k ∧ Q (.bl k) H
theorem op_eqP (hu : X.A.units + 64 < cLine) : OpR X (compareOp .Eq) rEqP := by
  intro pins s σ H x y v u Q I rx ry h
  obtain ⟨d, e, hd, he, sd, q⟩ := h
  obtain ⟨as, r1⟩ := Dp.reads I d x v hd.dp rx
  obtain ⟨bs, r2⟩ := Dp.reads I e y u he.dp ry
  exact SeqAt.eq_plain r1 r2 hd.plain he.plain (room_d hu sd) ⟨.bl _, H, I, rfl, q⟩
theorem op_neP (hu : X.A.units + 64 < cLine) : OpR X (compareOp .NotEq) rNeP := by
  intro pins s σ H x y v u Q I rx ry h
  obtain ⟨d, e, hd, he, sd, q⟩ := h
  obtain ⟨as, r1⟩ := Dp.reads I d x v hd.dp rx
  obtain ⟨bs, r2⟩ := Dp.reads I e y u he.dp ry
  exact SeqAt.ne_plain r1 r2 hd.plain he.plain (room_d hu sd) ⟨.bl _, H, I, rfl, q⟩
theorem op_ltP (hu : X.A.units + 64 < cLine) : OpR X (compareOp .Lt) rLtP := by
  intro pins s σ H x y v u Q I rx ry h
  obtain ⟨d, e, k, hd, he, sd, hk, q⟩ := h
  obtain ⟨as, r1⟩ := Dp.reads I d x v hd.dp rx
  obtain ⟨bs, r2⟩ := Dp.reads I e y u he.dp ry
  exact rc_lt d e k _ _ _ _ _ _ r1 r2 hd.plain he.plain hk (room_d hu sd) _ _ _ _ ⟨.bl _, H, I, rfl, q⟩
theorem op_gtP (hu : X.A.units + 64 < cLine) : OpR X (compareOp .Gt) rGtP := by
  intro pins s σ H x y v u Q I rx ry h
  obtain ⟨d, e, k, hd, he, sd, hk, q⟩ := h
  obtain ⟨as, r1⟩ := Dp.reads I d x v hd.dp rx
  obtain ⟨bs, r2⟩ := Dp.reads I e y u he.dp ry
  exact rc_gt d e k _ _ _ _ _ _ r1 r2 hd.plain he.plain hk (room_d hu sd) _ _ _ _ ⟨.bl _, H, I, rfl, q⟩
/-- xs[i] of a list, the place not below 0, as an operator's left side asks it -/
def rGetN : V → V → Hp → VK → Prop := fun x y H Q => ∃ p xs, ∃ i : Nat, ∃ v, x = .ref p ∧ y = .int i ∧ H p = some (.lst xs) ∧ xs[i]? = some v ∧ Q v H
theorem get_list : PGet X rGetN := by
  intro pins s σ H o i ov iv Q I ro ri h
  obtain ⟨p, xs, n, v, rfl, rfl, hp, hv, q⟩ := h
  cases ro
  obtain ⟨t, rfl⟩ := ri
  obtain ⟨its, r, pl, hz⟩ := I.list (SqL.of hp)
  obtain ⟨w, ew, rw'⟩ := r.get hv
  have hl := r.length
  have hn := line63
  have hi : n < xs.length := by
    rcases Nat.lt_or_ge n xs.length with c | c
    · exact c
    · rw [List.getElem?_eq_none c] at hv
      cases hv
  exact wpAny_getItem_list pl.isList (by omega) (by omega) (by simpa using ew) ⟨v, H, I, rw', q⟩
end
/-- what a value is, for isinstance -/
theorem Tp.tyx {K : PySem.W.Frag} {H : Hp} {v : V} {d : PyData} (h : Tp H v d) : ∃ n, TyX K H v (.type n) ∧
    n = (match d with | .none => "NoneType" | .bool _ => "bool" | .int _ => "int" | .str _ => "str" | .tuple _ => "tuple" | .list _ => "list" | .dict _ => "dict") := by
  cases h with
  | non => exact ⟨_, .base .non, rfl⟩
  | bl b => exact ⟨_, .base (.bl b), rfl⟩
  | int i => exact ⟨_, .base (.int i), rfl⟩
  | str x => exact ⟨_, .base (.str x), rfl⟩
  | tup e r => exact ⟨_, .base (.tup e), rfl⟩
end KA

/-! Bodies as plain data: terms, literals, what a row meets, the ways. -/
namespace KC
open PySem PySem.Spec PyProof.Rows L2 KA
inductive T where
  | any | val (k : Key) | var (x : Str)
  deriving DecidableEq
abbrev Env1 := List (Str × Key)
def look (e : Env1) (x : Str) : Option Key := (e.find? fun p => decide (p.1 = x)).map (·.2)
theorem look_nil (x : Str) : look [] x = none := rfl
theorem look_cons_eq {p : Str × Key} {e : Env1} {x : Str} (h : p.1 = x) : look (p :: e) x = some p.2 := by
  unfold look
  rw [List.find?_cons, decide_eq_true h]
  rfl
theorem look_cons_ne {p : Str × Key} {e : Env1} {x : Str} (h : p.1 ≠ x) : look (p :: e) x = look e x := by
  unfold look
  rw [List.find?_cons, decide_eq_false h]
theorem look_snoc : ∀ {e : Env1} {y : Str} {k : Key} {x : Str}, look (e ++ [(y, k)]) x = (match look e x with | some v => some v | none => if y = x then some k else none)
  | [], y, k, x => by
    rw [List.nil_append, look_nil]
    by_cases c : y = x
    · rw [look_cons_eq c, if_pos c]
    · rw [look_cons_ne c, if_neg c]
      rfl
  | p :: e, y, k, x => by
    rw [List.cons_append]
    by_cases c : p.1 = x
    · rw [look_cons_eq c, look_cons_eq c]
    · rw [look_cons_ne c, look_cons_ne c]
      exact look_snoc
/-- the value of a term -/
def worthE (t : T) (e : Env1) : Option Key :=
  match t with
  | .any => none
  | .val k => some k
  | .var x => look e x
/-- the terms meet the row: the values behind it -/
def metE : List T → List Key → Env1 → Option Env1
  | [], _, e => some e
  | _ :: _, [], _ => none
  | .any :: ts, _ :: r, e => metE ts r e
  | .val k :: ts, v :: r, e => if k = v then metE ts r e else none
  | .var x :: ts, v :: r, e => match look e x with
    | some u => if u = v then metE ts r e else none
    | none => metE ts r (e ++ [(x, v)])
inductive L where
  | fact (r : Str) (ts : List T)
  | notl (r : Str) (ts : List T)
  | cmp (op : Str) (a b : T)
  | isl (x : Str) (op : Str) (a b : T)
  | cnt (x : Str) (r : Str) (ts : List T)
abbrev Rws := List (Str × List (List Key))
def rowsOf (R : Rws) (r : Str) : List (List Key) := ((R.find? fun p => decide (p.1 = r)).map (·.2)).getD []
abbrev Way := Env1 × List (List Key)
def ltK : Key → Key → Bool
  | .inl a, .inl b => decide (a < b)
  | .inr a, .inr b => decide (a.cps.toList < b.cps.toList)
  | .inl _, .inr _ => true
  | .inr _, .inl _ => false
def cmpK (op : Str) (a b : Key) : Bool :=
  if op = "=" then decide (a = b) else if op = "<>" then !decide (a = b) else if op = "<" then ltK a b else if op = "<=" then (ltK a b || decide (a = b)) else if op = ">" then ltK b a else (ltK b a || decide (a = b))
def opK (op : Str) (a b : Int) : Int := if op = "+" then a + b else if op = "-" then a - b else a * b
def bindE (e : Env1) (x : Str) (v : Key) : Option Env1 :=
  match look e x with
  | some u => if u = v then some e else none
  | none => some (e ++ [(x, v)])
def isK (op : Str) (a b : Key) : Option Key :=
  match a, b with
  | .inl i, .inl j => some (.inl (opK op i j))
  | _, _ => none
/-- the ways behind a literal, of one way ahead of it -/
def goOn (rows lookups : Rws) (l : L) (w : Way) : List Way :=
  match l with
  | .fact r ts => (rowsOf rows r).filterMap fun row => (metE ts row w.1).map fun e => (e, w.2 ++ [row])
  | .notl r ts => if (rowsOf lookups r).all (fun row => (metE ts row w.1).isNone) then [w] else []
  | .cmp op a b => match worthE a w.1, worthE b w.1 with
    | some x, some y => if cmpK op x y then [w] else []
    | _, _ => []
  | .isl x op a b => match worthE a w.1, worthE b w.1 with
    | some u, some v => match isK op u v with
      | some z => (bindE w.1 x z).toList.map fun e => (e, w.2)
      | none => []
    | _, _ => []
  | .cnt x r ts => (bindE w.1 x (.inl ((((rowsOf lookups r).filter fun row => (metE ts row w.1).isSome).length : Nat) : Int))).toList.map fun e => (e, w.2)
def goAll (rows lookups : Rws) (l : L) (ws : List Way) : List Way := ws.flatMap (goOn rows lookups l)
def run (rows lookups : Rws) : List L → List Way → List Way
  | [], ws => ws
  | l :: r, ws => run rows lookups r (goAll rows lookups l ws)
/-! ### the program's splitting of terms -/
structure Sp1 where
  known : List Nat
  first : List (Str × Nat)
  pairs : List (Nat × Nat)
def lookN (f : List (Str × Nat)) (x : Str) : Option Nat := (f.find? fun p => decide (p.1 = x)).map (·.2)
/-- bound: what has a value ahead -/
def splitT (bound : Str → Bool) : List T → Nat → Sp1 → Sp1
  | [], _, s => s
  | .any :: ts, n, s => splitT bound ts (n + 1) s
  | .val _ :: ts, n, s => splitT bound ts (n + 1) { s with known := s.known ++ [n] }
  | .var x :: ts, n, s => if bound x then splitT bound ts (n + 1) { s with known := s.known ++ [n] } else
    match lookN s.first x with
    | some m => splitT bound ts (n + 1) { s with pairs := s.pairs ++ [(m, n)] }
    | none => splitT bound ts (n + 1) { s with first := s.first ++ [(x, n)] }
/-- the values that the row gives -/
def given (first : List (Str × Nat)) (row : List Key) : Env1 := first.map fun p => (p.1, row.getD p.2 (.inl 0))
def pairsOk (pairs : List (Nat × Nat)) (row : List Key) : Bool := pairs.all fun p => decide (row.getD p.1 (.inl 0) = row.getD p.2 (.inl 0))
def knownOk (known : List Nat) (ts : List T) (row : List Key) (e : Env1) : Bool := known.all fun n => decide ((worthE (ts.getD n .any) e) = some (row.getD n (.inl 0)))
theorem look_append {e f : Env1} {x : Str} : look (e ++ f) x = (match look e x with | some v => some v | none => look f x) := by
  unfold look
  rw [List.find?_append]
  cases h : List.find? (fun p => decide (p.1 = x)) e with
  | none => rfl
  | some p => rfl
theorem look_given (row : List Key) (x : Str) : ∀ (first : List (Str × Nat)), look (given first row) x = (lookN first x).map fun n => row.getD n (.inl 0)
  | [] => rfl
  | p :: f => by
    show look ((p.1, row.getD p.2 (.inl 0)) :: given f row) x = _
    by_cases c : p.1 = x
    · rw [look_cons_eq (p := (p.1, row.getD p.2 (.inl 0))) c]
      unfold lookN
      rw [List.find?_cons, decide_eq_true c]
      rfl
    · rw [look_cons_ne (p := (p.1, row.getD p.2 (.inl 0))) c, look_given row x f]
      unfold lookN
      rw [List.find?_cons, decide_eq_false c]
/-- the terms from place n on, the values found so far among e's and the row's -/
theorem split_met (ts : List T) (row : List Key) (e : Env1) (bound : Str → Bool) (hb : ∀ x, bound x = (look e x).isSome) (hl : ts.length = row.length) :
    ∀ (us : List T) (n : Nat) (s : Sp1), us = ts.drop n → metE us (row.drop n) (e ++ given s.first row) =
      (let s' := splitT bound us n s
       if (s'.known.drop s.known.length).all (fun m => decide (worthE (ts.getD m .any) e = some (row.getD m (.inl 0)))) && (s'.pairs.drop s.pairs.length).all (fun p => decide (row.getD p.1 (.inl 0) = row.getD p.2 (.inl 0)))
       then some (e ++ given s'.first row) else none) ∧
      (∃ k, (splitT bound us n s).known = s.known ++ k) ∧ (∃ q, (splitT bound us n s).pairs = s.pairs ++ q)
  | [], n, s, _ => by
    refine ⟨?_, ⟨[], by rw [splitT, List.append_nil]⟩, ⟨[], by rw [splitT, List.append_nil]⟩⟩
    rw [metE, splitT]
    simp
  | u :: us, n, s, hu => by
    have hn : n < ts.length := by
      rcases Nat.lt_or_ge n ts.length with c | c
      · exact c
      · rw [List.drop_of_length_le c] at hu
        cases hu
    have hr : n < row.length := by omega
    rw [List.drop_eq_getElem_cons hn] at hu
    injection hu with hu1 hu2
    have eu : ts.getD n .any = u := by
      rw [List.getD_eq_getElem?_getD, List.getElem?_eq_getElem hn, hu1]
      rfl
    have er : row.getD n (.inl 0) = row[n] := by
      rw [List.getD_eq_getElem?_getD, List.getElem?_eq_getElem hr]
      rfl
    rw [List.drop_eq_getElem_cons hr]
    cases u with
    | any =>
      have ih := split_met ts row e bound hb hl us (n + 1) s hu2
      rw [metE, splitT]
      exact ih
    | val k =>
      obtain ⟨ih, ⟨kk, ek⟩, ⟨qq, eq⟩⟩ := split_met ts row e bound hb hl us (n + 1) { s with known := s.known ++ [n] } hu2
      rw [metE, splitT]
      refine ⟨?_, ⟨n :: kk, by rw [ek]; simp⟩, ⟨qq, eq⟩⟩
      by_cases c : k = row[n]
      · rw [if_pos c, ih]
        simp only [ek, eq]
        have e1 : (s.known ++ [n] ++ kk).drop (s.known ++ [n]).length = kk := by rw [List.drop_left]
        have e2 : (s.known ++ [n] ++ kk).drop s.known.length = n :: kk := by rw [List.append_assoc, List.drop_left]; rfl
        rw [e1, e2, List.all_cons, eu, worthE, er, c]
        rw [decide_eq_true rfl, Bool.true_and]
      · rw [if_neg c]
        simp only [ek, eq]
        have e2 : (s.known ++ [n] ++ kk).drop s.known.length = n :: kk := by rw [List.append_assoc, List.drop_left]; rfl
        rw [e2, List.all_cons, eu, worthE, er]
        have c' : ¬ (some k : Option Key) = some row[n] := fun z => c (Option.some.inj z)
        rw [decide_eq_false c']
        simp
    | var x =>
      rw [metE, splitT, look_append, look_given, hb x]
      cases hx : look e x with
      | some v =>
        obtain ⟨ih, ⟨kk, ek⟩, ⟨qq, eq⟩⟩ := split_met ts row e bound hb hl us (n + 1) { s with known := s.known ++ [n] } hu2
        rw [if_pos (show (some v : Option Key).isSome = true from rfl)]
        refine ⟨?_, ⟨n :: kk, by rw [ek]; simp⟩, ⟨qq, eq⟩⟩
        by_cases c : v = row[n]
        · simp only [c, if_true]
          rw [ih]
          simp only [ek, eq]
          have e1 : (s.known ++ [n] ++ kk).drop (s.known ++ [n]).length = kk := by rw [List.drop_left]
          have e2 : (s.known ++ [n] ++ kk).drop s.known.length = n :: kk := by rw [List.append_assoc, List.drop_left]; rfl
          rw [e1, e2, List.all_cons, eu, worthE, er, hx, c]
          rw [decide_eq_true rfl, Bool.true_and]
        · simp only [c, if_false]
          simp only [ek, eq]
          have e2 : (s.known ++ [n] ++ kk).drop s.known.length = n :: kk := by rw [List.append_assoc, List.drop_left]; rfl
          rw [e2, List.all_cons, eu, worthE, er, hx]
          have c' : ¬ (some v : Option Key) = some row[n] := fun z => c (Option.some.inj z)
          rw [decide_eq_false c']
          simp
      | none =>
        rw [if_neg (show ¬ (none : Option Key).isSome = true from Bool.false_ne_true)]
        cases hm : lookN s.first x with
        | some m =>
          obtain ⟨ih, ⟨kk, ek⟩, ⟨qq, eq⟩⟩ := split_met ts row e bound hb hl us (n + 1) { s with pairs := s.pairs ++ [(m, n)] } hu2
          refine ⟨?_, ⟨kk, ek⟩, ⟨(m, n) :: qq, by simp only []; rw [eq]; simp⟩⟩
          by_cases c : row.getD m (.inl 0) = row[n]
          · simp only [Option.map_some, c, if_true]
            rw [ih]
            simp only [ek, eq]
            have e1 : (s.pairs ++ [(m, n)] ++ qq).drop (s.pairs ++ [(m, n)]).length = qq := by rw [List.drop_left]
            have e2 : (s.pairs ++ [(m, n)] ++ qq).drop s.pairs.length = (m, n) :: qq := by rw [List.append_assoc, List.drop_left]; rfl
            rw [e1, e2, List.all_cons]
            simp only [er, c, decide_true, Bool.true_and]
          · simp only [Option.map_some, c, if_false]
            simp only [ek, eq]
            have e2 : (s.pairs ++ [(m, n)] ++ qq).drop s.pairs.length = (m, n) :: qq := by rw [List.append_assoc, List.drop_left]; rfl
            rw [e2, List.all_cons]
            simp only [er, c, decide_false, Bool.false_and, Bool.and_false, Bool.false_eq_true, if_false]
        | none =>
          obtain ⟨ih, ek, eq⟩ := split_met ts row e bound hb hl us (n + 1) { s with first := s.first ++ [(x, n)] } hu2
          refine ⟨?_, ek, eq⟩
          simp only [Option.map_none]
          have eg : given (s.first ++ [(x, n)]) row = given s.first row ++ [(x, row[n])] := by
            unfold given
            rw [List.map_append, List.map_singleton, er]
          rw [eg] at ih
          rw [← List.append_assoc] at ih
          exact ih
/-- the whole: the program's matching is the meeting -/
theorem split_whole {ts : List T} {row : List Key} {e : Env1} {bound : Str → Bool} (hb : ∀ x, bound x = (look e x).isSome) (hl : ts.length = row.length) :
    metE ts row e = if knownOk (splitT bound ts 0 ⟨[], [], []⟩).known ts row e && pairsOk (splitT bound ts 0 ⟨[], [], []⟩).pairs row then some (e ++ given (splitT bound ts 0 ⟨[], [], []⟩).first row) else none := by
  obtain ⟨h, _, _⟩ := split_met ts row e bound hb hl ts 0 ⟨[], [], []⟩ rfl
  rw [List.drop_zero] at h
  have h0 : e ++ given [] row = e := List.append_nil e
  rw [h0] at h
  exact h
end KC

/-! Tuples compared by <= and >=, where only the first pair that differs need be comparable. -/
namespace KA
open PySem PySem.SeqAt
open PySem.AutoSeq1 (wpAny_loadPart')
open PySem.MeetsSeq PySem.MeetsSeq2 PySem.MeetsSeq3
theorem le_mixed (p q : Addr) (as bs : Array Value) (m m2 : Nat) (da db : Option Addr) (sa sb : Array (Option Value)) (e r : Nat → Bool) :
    Meets (Builtin.«tuple.__le__» ⟨[.ref p, .ref q], []⟩)
      (fun A R s => s.heap.get? p = some { cls := .type "tuple", dict := da, data := .seq as m, slots := sa } ∧ s.heap.get? q = some { cls := .type "tuple", dict := db, data := .seq bs m2, slots := sb } ∧
        (∀ j (h1 : j < as.size) (h2 : j < bs.size), EqAt A.in1 s as[j] bs[j] (e j)) ∧
        (∀ j (h1 : j < as.size) (h2 : j < bs.size), (∀ i, i < j → e i = true) → e j = false → Rc .LtE A.in1 s as[j] bs[j] (r j)) ∧
        R (.ok (.ret (.bool (firstLt e r (decide (as.size ≤ bs.size)) (List.range (min as.size bs.size)))))) s) :=
  .of_wp fun prog w A R s hyp => by
    obtain ⟨hp, gg, dr, tks, ox⟩ := s
    obtain ⟨gp, gq, heq, hrc, hR0⟩ := hyp
    have isT := AutoSeq1.sub_tuple_tuple
    have zl : (as.toList.zip bs.toList).length = min as.size bs.size := by simp
    wp_walk using wpAny_loadPart' gp, wpAny_loadPart' gq, wpAny_forIn_list _ (fun rem st s' => st.1 = none ∧ s' = ⟨hp, gg, dr, tks, ox⟩ ∧ ∃ i, (∀ x, x < i → e x = true) ∧ rem = (as.toList.zip bs.toList).drop i ∧
      R (.ok (.ret (.bool (firstLt e r (decide (as.size ≤ bs.size)) ((List.range (min as.size bs.size)).drop i))))) ⟨hp, gg, dr, tks, ox⟩) _
    case turn =>
      rintro ⟨u, v⟩ rem st s' ⟨st1, rfl, i, same, hz, hR⟩
      have il : i < (as.toList.zip bs.toList).length := by
        rcases Nat.lt_or_ge i (as.toList.zip bs.toList).length with c | c
        · exact c
        · rw [List.drop_of_length_le c] at hz
          cases hz
      have im : i < min as.size bs.size := zl ▸ il
      have ia : i < as.size := Nat.lt_of_lt_of_le im (Nat.min_le_left _ _)
      have ib : i < bs.size := Nat.lt_of_lt_of_le im (Nat.min_le_right _ _)
      rw [List.drop_eq_getElem_cons il] at hz
      injection hz with huv hrem
      have eu : u = as[i] := by
        have t := congrArg Prod.fst huv
        simpa using t
      have ev : v = bs[i] := by
        have t := congrArg Prod.snd huv
        simpa using t
      subst eu ev
      have hcut : (List.range (min as.size bs.size)).drop i = i :: (List.range (min as.size bs.size)).drop (i + 1) := by
        simp [List.drop_eq_getElem_cons, im]
      rw [hcut] at hR
      refine wpAny_bind (heq i ia ib prog w _ _ ?_)
      cases ei : e i with
      | true =>
        rw [firstLt_yes ei] at hR
        wp_walk
        refine ⟨rfl, rfl, i + 1, fun x hx => ?_, hrem, hR⟩
        rcases Nat.lt_or_ge x i with c | c
        · exact same x c
        · rw [show x = i by omega]
          exact ei
      | false =>
        rw [firstLt_no ei] at hR
        have step := hrc i ia ib same ei prog w
        wp_walk using step
        exact ⟨_, rfl, by simpa using hR⟩
    case fin =>
      rintro ⟨c1, c2⟩ s' ⟨st1, rfl, i, same, hz, hR⟩
      simp only at st1
      subst st1
      have hge : min as.size bs.size ≤ i := by
        rcases Nat.lt_or_ge i (as.toList.zip bs.toList).length with c | c
        · rw [List.drop_eq_getElem_cons c] at hz
          cases hz
        · exact zl ▸ c
      rw [List.drop_of_length_le (by simpa using hge)] at hR
      wp_walk
      exact ⟨_, rfl, by simpa [Builtin.Tuple.tupleCompareSizes, firstLt] using hR⟩
    case h =>
      exact ⟨rfl, rfl, 0, fun x hx => absurd hx (Nat.not_lt_zero x), rfl, by simpa using hR0⟩
theorem ge_mixed (p q : Addr) (as bs : Array Value) (m m2 : Nat) (da db : Option Addr) (sa sb : Array (Option Value)) (e r : Nat → Bool) :
    Meets (Builtin.«tuple.__ge__» ⟨[.ref p, .ref q], []⟩)
      (fun A R s => s.heap.get? p = some { cls := .type "tuple", dict := da, data := .seq as m, slots := sa } ∧ s.heap.get? q = some { cls := .type "tuple", dict := db, data := .seq bs m2, slots := sb } ∧
        (∀ j (h1 : j < as.size) (h2 : j < bs.size), EqAt A.in1 s as[j] bs[j] (e j)) ∧
        (∀ j (h1 : j < as.size) (h2 : j < bs.size), (∀ i, i < j → e i = true) → e j = false → Rc .GtE A.in1 s as[j] bs[j] (r j)) ∧
        R (.ok (.ret (.bool (firstLt e r (decide (as.size ≥ bs.size)) (List.range (min as.size bs.size)))))) s) :=
  .of_wp fun prog w A R s hyp => by
    obtain ⟨hp, gg, dr, tks, ox⟩ := s
    obtain ⟨gp, gq, heq, hrc, hR0⟩ := hyp
    have isT := AutoSeq1.sub_tuple_tuple
    have zl : (as.toList.zip bs.toList).length = min as.size bs.size := by simp
    wp_walk using wpAny_loadPart' gp, wpAny_loadPart' gq, wpAny_forIn_list _ (fun rem st s' => st.1 = none ∧ s' = ⟨hp, gg, dr, tks, ox⟩ ∧ ∃ i, (∀ x, x < i → e x = true) ∧ rem = (as.toList.zip bs.toList).drop i ∧
      R (.ok (.ret (.bool (firstLt e r (decide (as.size ≥ bs.size)) ((List.range (min as.size bs.size)).drop i))))) ⟨hp, gg, dr, tks, ox⟩) _
    case turn =>
      rintro ⟨u, v⟩ rem st s' ⟨st1, rfl, i, same, hz, hR⟩
      have il : i < (as.toList.zip bs.toList).length := by
        rcases Nat.lt_or_ge i (as.toList.zip bs.toList).length with c | c
        · exact c
        · rw [List.drop_of_length_le c] at hz
          cases hz
      have im : i < min as.size bs.size := zl ▸ il
      have ia : i < as.size := Nat.lt_of_lt_of_le im (Nat.min_le_left _ _)
      have ib : i < bs.size := Nat.lt_of_lt_of_le im (Nat.min_le_right _ _)
      rw [List.drop_eq_getElem_cons il] at hz
      injection hz with huv hrem
      have eu : u = as[i] := by
        have t := congrArg Prod.fst huv
        simpa using t
      have ev : v = bs[i] := by
        have t := congrArg Prod.snd huv
        simpa using t
      subst eu ev
      have hcut : (List.range (min as.size bs.size)).drop i = i :: (List.range (min as.size bs.size)).drop (i + 1) := by
        simp [List.drop_eq_getElem_cons, im]
      rw [hcut] at hR
      refine wpAny_bind (heq i ia ib prog w _ _ ?_)
      cases ei : e i with
      | true =>
        rw [firstLt_yes ei] at hR
        wp_walk
        refine ⟨rfl, rfl, i + 1, fun x hx => ?_, hrem, hR⟩
        rcases Nat.lt_or_ge x i with c | c
        · exact same x c
        · rw [show x = i by omega]
          exact ei
      | false =>
        rw [firstLt_no ei] at hR
        have step := hrc i ia ib same ei prog w
        wp_walk using step
        exact ⟨_, rfl, by simpa using hR⟩
    case fin =>
      rintro ⟨c1, c2⟩ s' ⟨st1, rfl, i, same, hz, hR⟩
      simp only at st1
      subst st1
      have hge : min as.size bs.size ≤ i := by
        rcases Nat.lt_or_ge i (as.toList.zip bs.toList).length with c | c
        · rw [List.drop_eq_getElem_cons c] at hz
          cases hz
        · exact zl ▸ c
      rw [List.drop_of_length_le (by simpa using hge)] at hR
      wp_walk
      exact ⟨_, rfl, by simpa [Builtin.Tuple.tupleCompareSizes, firstLt] using hR⟩
    case h =>
      exact ⟨rfl, rfl, 0, fun x hx => absurd hx (Nat.not_lt_zero x), rfl, by simpa using hR0⟩
section
variable {A : Around} {s : Shared} {p q : Addr} {as bs : Array Value} {e r : Nat → Bool}
theorem rc_le_tups (hp : s.heap.IsTuple p as) (hq : s.heap.IsTuple q bs) (hu : A.units < cLine) (he : ∀ j (h1 : j < as.size) (h2 : j < bs.size), EqAt A.in1 s as[j] bs[j] (e j))
    (hr : ∀ j (h1 : j < as.size) (h2 : j < bs.size), (∀ i, i < j → e i = true) → e j = false → Rc .LtE A.in1 s as[j] bs[j] (r j)) :
    Rc .LtE A s (.ref p) (.ref q) (firstLt e r (decide (as.size ≤ bs.size)) (List.range (min as.size bs.size))) := fun prog w E Q k => by
  obtain ⟨⟨c1, d1, x1, z1⟩, o1, k1, n1, w1⟩ := id hp
  obtain ⟨⟨c2, d2, x2, z2⟩, o2, k2, n2, w2⟩ := id hq
  simp only at k1 w1 k2 w2
  subst k1 w1 k2 w2
  refine richCompare_meets_room (op := .LtE) ⟨_, o1, rfl⟩ ⟨_, o2, rfl⟩ F.slot_tuple_le F.entry_tuple_le (F.args_tuple_le_2 _ _) (le_mixed p q as bs n1 n2 d1 d2 z1 z2 e r) ?_ hu
  exact ⟨o1, o2, he, hr, ⟨(fun x => nomatch x), k⟩⟩
theorem rc_ge_tups (hp : s.heap.IsTuple p as) (hq : s.heap.IsTuple q bs) (hu : A.units < cLine) (he : ∀ j (h1 : j < as.size) (h2 : j < bs.size), EqAt A.in1 s as[j] bs[j] (e j))
    (hr : ∀ j (h1 : j < as.size) (h2 : j < bs.size), (∀ i, i < j → e i = true) → e j = false → Rc .GtE A.in1 s as[j] bs[j] (r j)) :
    Rc .GtE A s (.ref p) (.ref q) (firstLt e r (decide (as.size ≥ bs.size)) (List.range (min as.size bs.size))) := fun prog w E Q k => by
  obtain ⟨⟨c1, d1, x1, z1⟩, o1, k1, n1, w1⟩ := id hp
  obtain ⟨⟨c2, d2, x2, z2⟩, o2, k2, n2, w2⟩ := id hq
  simp only at k1 w1 k2 w2
  subst k1 w1 k2 w2
  refine richCompare_meets_room (op := .GtE) ⟨_, o1, rfl⟩ ⟨_, o2, rfl⟩ F.slot_tuple_ge F.entry_tuple_ge (F.args_tuple_ge_2 _ _) (ge_mixed p q as bs n1 n2 d1 d2 z1 z2 e r) ?_ hu
  exact ⟨o1, o2, he, hr, ⟨(fun x => nomatch x), k⟩⟩
end
end KA

/-! <= and >= of data whose items may be of unlike kinds behind the first difference. -/
namespace KA
open PySem PySem.SeqAt
mutual
/-- x <= y as Python says; none: not comparable -/
def dle : PyData → PyData → Option Bool
  | .int a, .int b => some (decide (a ≤ b))
  | .str a, .str b => some (!decide (b.cps.toList < a.cps.toList))
  | .tuple xs, .tuple ys => dleAll xs ys
  | _, _ => none
def dleAll : List PyData → List PyData → Option Bool
  | [], [] => some true
  | [], _ :: _ => some true
  | _ :: _, [] => some false
  | x :: xs, y :: ys => if PyData.eqv x y = true then dleAll xs ys else dle x y
end
mutual
def dge : PyData → PyData → Option Bool
  | .int a, .int b => some (decide (a ≥ b))
  | .str a, .str b => some (!decide (a.cps.toList < b.cps.toList))
  | .tuple xs, .tuple ys => dgeAll xs ys
  | _, _ => none
def dgeAll : List PyData → List PyData → Option Bool
  | [], [] => some true
  | [], _ :: _ => some false
  | _ :: _, [] => some true
  | x :: xs, y :: ys => if PyData.eqv x y = true then dgeAll xs ys else dge x y
end
theorem scan_le : ∀ (xs ys : List PyData) (k : Bool), dleAll xs ys = some k → firstLt (pairEq xs ys) (rAt dle xs ys) (decide (xs.length ≤ ys.length)) (List.range (min xs.length ys.length)) = k
  | [], [], k, h => by
    rw [dleAll] at h
    exact (Option.some.inj h)
  | [], y :: ys, k, h => by
    rw [dleAll] at h
    rw [← Option.some.inj h]
    simp [firstLt]
  | x :: xs, [], k, h => by
    rw [dleAll] at h
    rw [← Option.some.inj h]
    simp [firstLt]
  | x :: xs, y :: ys, k, h => by
    rw [dleAll] at h
    have em : min (x :: xs).length (y :: ys).length = min xs.length ys.length + 1 := by
      rw [List.length_cons, List.length_cons]
      omega
    rw [em, List.range_succ_eq_map]
    by_cases hxy : PyData.eqv x y = true
    · rw [if_pos hxy] at h
      rw [firstLt_yes (show pairEq (x :: xs) (y :: ys) 0 = true from hxy), scan_succ, ← scan_le xs ys k h]
      simp only [List.length_cons, Nat.add_le_add_iff_right]
      rfl
    · rw [if_neg hxy] at h
      have hf : PyData.eqv x y = false := by
        cases c : PyData.eqv x y
        · rfl
        · exact absurd c hxy
      rw [firstLt_no (show pairEq (x :: xs) (y :: ys) 0 = false from hf)]
      show (dle x y).getD false = k
      rw [h]
      rfl
theorem scan_ge : ∀ (xs ys : List PyData) (k : Bool), dgeAll xs ys = some k → firstLt (pairEq xs ys) (rAt dge xs ys) (decide (xs.length ≥ ys.length)) (List.range (min xs.length ys.length)) = k
  | [], [], k, h => by
    rw [dgeAll] at h
    exact (Option.some.inj h)
  | [], y :: ys, k, h => by
    rw [dgeAll] at h
    rw [← Option.some.inj h]
    simp [firstLt]
  | x :: xs, [], k, h => by
    rw [dgeAll] at h
    rw [← Option.some.inj h]
    simp [firstLt]
  | x :: xs, y :: ys, k, h => by
    rw [dgeAll] at h
    have em : min (x :: xs).length (y :: ys).length = min xs.length ys.length + 1 := by
      rw [List.length_cons, List.length_cons]
      omega
    rw [em, List.range_succ_eq_map]
    by_cases hxy : PyData.eqv x y = true
    · rw [if_pos hxy] at h
      rw [firstLt_yes (show pairEq (x :: xs) (y :: ys) 0 = true from hxy), scan_succ, ← scan_ge xs ys k h]
      simp only [List.length_cons, ge_iff_le, Nat.add_le_add_iff_right]
      rfl
    · rw [if_neg hxy] at h
      have hf : PyData.eqv x y = false := by
        cases c : PyData.eqv x y
        · rfl
        · exact absurd c hxy
      rw [firstLt_no (show pairEq (x :: xs) (y :: ys) 0 = false from hf)]
      show (dge x y).getD false = k
      rw [h]
      rfl
mutual
theorem rc_le : ∀ (d e : PyData) (k : Bool) (A : Around) (s : Shared) (a b : Value) (as bs : List Addr), Reads s.heap a d as → Reads s.heap b e bs → d.plain = true → e.plain = true → dle d e = some k →
    A.units + min d.depth e.depth < cLine → Rc .LtE A s a b k
  | .int x, e, k, A, s, a, b, as, bs, ra, rb, pd, pe, h, hu => by
    cases e with
    | int y =>
      cases ra
      cases rb
      intro prog w E Q hq
      rw [dle] at h
      cases h
      exact P.le_int hq
    | _ => exact absurd h (by simp [dle])
  | .str x, e, k, A, s, a, b, as, bs, ra, rb, pd, pe, h, hu => by
    cases e with
    | str y =>
      cases ra
      cases rb
      intro prog w E Q hq
      rw [dle] at h
      cases h
      exact P.le_str (by simpa using hq)
    | _ => exact absurd h (by simp [dle])
  | .tuple xs, e, k, A, s, a, b, as, bs, ra, rb, pd, pe, h, hu => by
    cases e with
    | tuple ys =>
      rw [dle] at h
      cases ra with
      | @tuple l o vs n _ as1 h1 h2 h3 h4 =>
        cases rb with
        | @tuple l2 o2 vs2 n2 _ bs1 k1 k2 k3 k4 =>
          have z1 : vs.size = xs.length := by simpa using ReadsAll.length _ _ _ h4
          have z2 : vs2.size = ys.length := by simpa using ReadsAll.length _ _ _ k4
          have px : PyData.plainAll xs = true := pd
          have py : PyData.plainAll ys = true := pe
          have q := rc_le_tups (A := A) (s := s) (e := pairEq xs ys) (r := rAt dle xs ys) ⟨_, h1, h2, _, h3⟩ ⟨_, k1, k2, _, k3⟩ (room_here hu) (fun j j1 j2 => by
            have t := eqAt_plainAll xs ys A.in1 s vs.toList vs2.toList _ _ h4 k4 px py (room_in hu) j (by simpa using j1) (by simpa using j2)
            simpa using t) (fun j j1 j2 hb hj => by
            have t := rc_leAll xs ys k A.in1 s vs.toList vs2.toList _ _ h4 k4 px py h (room_in hu) j (by simpa using j1) (by simpa using j2) hb hj
            simpa using t)
          rw [z1, z2, scan_le xs ys k h] at q
          exact q
    | _ => exact absurd h (by simp [dle])
  | .none, e, k, _, _, _, _, _, _, _, _, _, _, h, _ => absurd h (by cases e <;> simp [dle])
  | .bool _, e, k, _, _, _, _, _, _, _, _, _, _, h, _ => absurd h (by cases e <;> simp [dle])
  | .list _, e, k, _, _, _, _, _, _, _, _, _, _, h, _ => absurd h (by cases e <;> simp [dle])
  | .dict _, e, k, _, _, _, _, _, _, _, _, _, _, h, _ => absurd h (by cases e <;> simp [dle])
theorem rc_leAll : ∀ (xs ys : List PyData) (k : Bool) (A : Around) (s : Shared) (vs ws : List Value) (as bs : List Addr), ReadsAll s.heap vs xs as → ReadsAll s.heap ws ys bs → PyData.plainAll xs = true → PyData.plainAll ys = true →
    dleAll xs ys = some k → A.units + min (PyData.depthAll xs) (PyData.depthAll ys) < cLine → ∀ j (h1 : j < vs.length) (h2 : j < ws.length), (∀ i, i < j → pairEq xs ys i = true) → pairEq xs ys j = false →
    Rc .LtE A s vs[j] ws[j] (rAt dle xs ys j)
  | [], _, _, _, _, _, _, _, _, ra, _, _, _, _, _, j, h1, _, _, _ => by
    cases ra
    exact absurd h1 (Nat.not_lt_zero _)
  | _ :: _, [], _, _, _, _, _, _, _, _, rb, _, _, _, _, j, _, h2, _, _ => by
    cases rb
    exact absurd h2 (Nat.not_lt_zero _)
  | x :: xs, y :: ys, k, A, s, _, _, _, _, ra, rb, pa, pb, h, hu, j, h1, h2, hb, hj => by
    have pa2 : x.plain = true ∧ PyData.plainAll xs = true := by simpa [PyData.plainAll] using pa
    have pb2 : y.plain = true ∧ PyData.plainAll ys = true := by simpa [PyData.plainAll] using pb
    rw [dleAll] at h
    cases ra with
    | cons r rs =>
      cases rb with
      | cons t ts =>
        cases j with
        | zero =>
          have hf : PyData.eqv x y = false := hj
          rw [if_neg (by rw [hf]; exact Bool.false_ne_true)] at h
          have q := rc_le x y k A s _ _ _ _ r t pa2.1 pb2.1 h (room_head hu)
          have ek : rAt dle (x :: xs) (y :: ys) 0 = k := by
            show (dle x y).getD false = k
            rw [h]
            rfl
          rw [ek]
          exact q
        | succ j =>
          have ht : PyData.eqv x y = true := hb 0 (Nat.zero_lt_succ j)
          rw [if_pos ht] at h
          exact rc_leAll xs ys k A s _ _ _ _ rs ts pa2.2 pb2.2 h (room_tail hu) j (Nat.lt_of_succ_lt_succ h1) (Nat.lt_of_succ_lt_succ h2) (fun i hi => hb (i + 1) (Nat.succ_lt_succ hi)) hj
end
mutual
theorem rc_ge : ∀ (d e : PyData) (k : Bool) (A : Around) (s : Shared) (a b : Value) (as bs : List Addr), Reads s.heap a d as → Reads s.heap b e bs → d.plain = true → e.plain = true → dge d e = some k →
    A.units + min d.depth e.depth < cLine → Rc .GtE A s a b k
  | .int x, e, k, A, s, a, b, as, bs, ra, rb, pd, pe, h, hu => by
    cases e with
    | int y =>
      cases ra
      cases rb
      intro prog w E Q hq
      rw [dge] at h
      cases h
      exact P.ge_int hq
    | _ => exact absurd h (by simp [dge])
  | .str x, e, k, A, s, a, b, as, bs, ra, rb, pd, pe, h, hu => by
    cases e with
    | str y =>
      cases ra
      cases rb
      intro prog w E Q hq
      rw [dge] at h
      cases h
      exact P.ge_str (by simpa using hq)
    | _ => exact absurd h (by simp [dge])
  | .tuple xs, e, k, A, s, a, b, as, bs, ra, rb, pd, pe, h, hu => by
    cases e with
    | tuple ys =>
      rw [dge] at h
      cases ra with
      | @tuple l o vs n _ as1 h1 h2 h3 h4 =>
        cases rb with
        | @tuple l2 o2 vs2 n2 _ bs1 k1 k2 k3 k4 =>
          have z1 : vs.size = xs.length := by simpa using ReadsAll.length _ _ _ h4
          have z2 : vs2.size = ys.length := by simpa using ReadsAll.length _ _ _ k4
          have px : PyData.plainAll xs = true := pd
          have py : PyData.plainAll ys = true := pe
          have q := rc_ge_tups (A := A) (s := s) (e := pairEq xs ys) (r := rAt dge xs ys) ⟨_, h1, h2, _, h3⟩ ⟨_, k1, k2, _, k3⟩ (room_here hu) (fun j j1 j2 => by
            have t := eqAt_plainAll xs ys A.in1 s vs.toList vs2.toList _ _ h4 k4 px py (room_in hu) j (by simpa using j1) (by simpa using j2)
            simpa using t) (fun j j1 j2 hb hj => by
            have t := rc_geAll xs ys k A.in1 s vs.toList vs2.toList _ _ h4 k4 px py h (room_in hu) j (by simpa using j1) (by simpa using j2) hb hj
            simpa using t)
          rw [z1, z2, scan_ge xs ys k h] at q
          exact q
    | _ => exact absurd h (by simp [dge])
  | .none, e, k, _, _, _, _, _, _, _, _, _, _, h, _ => absurd h (by cases e <;> simp [dge])
  | .bool _, e, k, _, _, _, _, _, _, _, _, _, _, h, _ => absurd h (by cases e <;> simp [dge])
  | .list _, e, k, _, _, _, _, _, _, _, _, _, _, h, _ => absurd h (by cases e <;> simp [dge])
  | .dict _, e, k, _, _, _, _, _, _, _, _, _, _, h, _ => absurd h (by cases e <;> simp [dge])
theorem rc_geAll : ∀ (xs ys : List PyData) (k : Bool) (A : Around) (s : Shared) (vs ws : List Value) (as bs : List Addr), ReadsAll s.heap vs xs as → ReadsAll s.heap ws ys bs → PyData.plainAll xs = true → PyData.plainAll ys = true →
    dgeAll xs ys = some k → A.units + min (PyData.depthAll xs) (PyData.depthAll ys) < cLine → ∀ j (h1 : j < vs.length) (h2 : j < ws.length), (∀ i, i < j → pairEq xs ys i = true) → pairEq xs ys j = false →
    Rc .GtE A s vs[j] ws[j] (rAt dge xs ys j)
  | [], _, _, _, _, _, _, _, _, ra, _, _, _, _, _, j, h1, _, _, _ => by
    cases ra
    exact absurd h1 (Nat.not_lt_zero _)
  | _ :: _, [], _, _, _, _, _, _, _, _, rb, _, _, _, _, j, _, h2, _, _ => by
    cases rb
    exact absurd h2 (Nat.not_lt_zero _)
  | x :: xs, y :: ys, k, A, s, _, _, _, _, ra, rb, pa, pb, h, hu, j, h1, h2, hb, hj => by
    have pa2 : x.plain = true ∧ PyData.plainAll xs = true := by simpa [PyData.plainAll] using pa
    have pb2 : y.plain = true ∧ PyData.plainAll ys = true := by simpa [PyData.plainAll] using pb
    rw [dgeAll] at h
    cases ra with
    | cons r rs =>
      cases rb with
      | cons t ts =>
        cases j with
        | zero =>
          have hf : PyData.eqv x y = false := hj
          rw [if_neg (by rw [hf]; exact Bool.false_ne_true)] at h
          have q := rc_ge x y k A s _ _ _ _ r t pa2.1 pb2.1 h (room_head hu)
          have ek : rAt dge (x :: xs) (y :: ys) 0 = k := by
            show (dge x y).getD false = k
            rw [h]
            rfl
          rw [ek]
          exact q
        | succ j =>
          have ht : PyData.eqv x y = true := hb 0 (Nat.zero_lt_succ j)
          rw [if_pos ht] at h
          exact rc_geAll xs ys k A s _ _ _ _ rs ts pa2.2 pb2.2 h (room_tail hu) j (Nat.lt_of_succ_lt_succ h1) (Nat.lt_of_succ_lt_succ h2) (fun i hi => hb (i + 1) (Nat.succ_lt_succ hi)) hj
end
end KA

/-! <= and >= as rules over the layer. -/
namespace KA
open PySem PySem.Spec PyProof.Rows L2
def rLeP : R2 := fun x y H Q => ∃ d e k, Tp H x d ∧ Tp H y e ∧ small d ∧ dle d e = some k ∧ Q (.bl k) H
def rGeP : R2 := fun x y H Q => ∃ d e k, Tp H x d ∧ Tp H y e ∧ small d ∧ dge d e = some k ∧ Q (.bl k) H
section
variable {X : Cx}
theorem op_leP (hu : X.A.units + 64 < cLine) : OpR X (compareOp .LtE) rLeP := by
  intro pins s σ H x y v u Q I rx ry h
  obtain ⟨d, e, k, hd, he, sd, hk, q⟩ := h
  obtain ⟨as, r1⟩ := Dp.reads I d x v hd.dp rx
  obtain ⟨bs, r2⟩ := Dp.reads I e y u he.dp ry
  exact rc_le d e k _ _ _ _ _ _ r1 r2 hd.plain he.plain hk (room_d hu sd) _ _ _ _ ⟨.bl _, H, I, rfl, q⟩
theorem op_geP (hu : X.A.units + 64 < cLine) : OpR X (compareOp .GtE) rGeP := by
  intro pins s σ H x y v u Q I rx ry h
  obtain ⟨d, e, k, hd, he, sd, hk, q⟩ := h
  obtain ⟨as, r1⟩ := Dp.reads I d x v hd.dp rx
  obtain ⟨bs, r2⟩ := Dp.reads I e y u he.dp ry
  exact rc_ge d e k _ _ _ _ _ _ r1 r2 hd.plain he.plain hk (room_d hu sd) _ _ _ _ ⟨.bl _, H, I, rfl, q⟩
end
end KA

namespace KC
open PySem PySem.Spec PyProof.Rows L2 KA
/-! ### the text -/
def topS (i : Nat) : Stmt := PySem.Challenge.pw_rulestead_k20_ways_of_bodies.main.body.getD i (.Pass ⟨0, 0, 0, 0⟩)
/-- the built-in names that are still the built-in ones -/
structure Bt (mg : Str → Option Value) : Prop where
  len : mg "len" = none
  int : mg "int" = none
  isi : mg "isinstance" = none
  bool : mg "bool" = none
  str : mg "str" = none
  tup : mg "tuple" = none
  lst : mg "list" = none
  rng : mg "range" = none
  min : mg "min" = none
/-! ### the drawing state -/
/-- all that is tracked but the state's own list stays -/
def Kp (st : Addr) (H H' : Hp) : Prop := ∀ a o, a ≠ st → H a = some o → H' a = some o
theorem Kp.refl (st : Addr) (H : Hp) : Kp st H H := fun _ _ _ h => h
theorem Kp.trans {st : Addr} {H H1 H2 : Hp} (a : Kp st H H1) (b : Kp st H1 H2) : Kp st H H2 := fun x o n h => b x o n (a x o n h)
theorem Kp.of {st : Addr} {H H' : Hp} (s : Same H H') : Kp st H H' := fun a o _ h => s a o h
theorem Kp.st {st : Addr} {H : Hp} {o : HO} : Kp st H (upd H st o) := fun a u n h => by
  rw [upd_ne n]
  exact h
theorem Kp.new {st p : Addr} {H : Hp} {o : HO} (h : H p = none) : Kp st H (upd H p o) := fun a u _ e => by
  rw [upd_ne (ne_of_none e h)]
  exact e
/-- the drawing state at st: the script's copy at L, the place, the rest of a great cell, the seed -/
def Good (st L : Addr) (H : Hp) : Prop := ∃ (ns : List Int) (i : Nat) (a b : Int), H st = some (.lst [.ref L, .int i, .int a, .int b]) ∧ H L = some (.lst (ns.map V.int)) ∧ 0 ≤ a ∧ 0 ≤ b
/-- from H on only drawing and new objects -/
structure Dr (st L : Addr) (H H' : Hp) : Prop where
  kp : Kp st H H'
  good : Good st L H'
theorem Dr.refl {st L : Addr} {H : Hp} (g : Good st L H) : Dr st L H H := ⟨Kp.refl st H, g⟩
theorem Dr.trans {st L : Addr} {H H1 H2 : Hp} (a : Dr st L H H1) (b : Dr st L H1 H2) : Dr st L H H2 := ⟨a.kp.trans b.kp, b.good⟩
theorem Good.tk {st L : Addr} {H H' : Hp} (g : Good st L H) (k : Kp st H H') : Tk H H' := fun a xs h => by
  obtain ⟨ns, i, c, b, e, _⟩ := g
  exact k a _ (ne_of h e (fun z => by cases z)) h
theorem Dr.tk {st L : Addr} {H H' : Hp} (d : Dr st L H H') (g : Good st L H) : Tk H H' := g.tk d.kp
/-- an object that H does not know is written -/
theorem Dr.put {st L D : Addr} {H H' : Hp} {o : HO} (d : Dr st L H H') (g : Good st L H) (n : H D = none) : Dr st L H (upd H' D o) := by
  refine ⟨fun a u h1 h2 => ?_, ?_⟩
  · rw [upd_ne (ne_of_none h2 n)]
    exact d.kp a u h1 h2
  · obtain ⟨ns0, i0, a0, b0, e0, l0, _⟩ := g
    obtain ⟨ns, i, a, b, e, l, r⟩ := d.good
    refine ⟨ns, i, a, b, ?_, ?_, r⟩
    · rw [upd_ne (ne_of_none e0 n)]
      exact e
    · rw [upd_ne (ne_of_none l0 n)]
      exact l
theorem Dr.new {st L p : Addr} {H : Hp} {o : HO} (g : Good st L H) (h : H p = none) : Dr st L H (upd H p o) := (Dr.refl g).put g h
theorem Dr.add {st L p : Addr} {H H' : Hp} {o : HO} (d : Dr st L H H') (h : H' p = none) : Dr st L H (upd H' p o) := d.trans (Dr.new d.good h)
theorem Dr.same {st L : Addr} {H H' : Hp} (g : Good st L H) (s : Same H H') : Dr st L H H' := by
  refine ⟨Kp.of s, ?_⟩
  obtain ⟨ns, i, a, b, e, l, r⟩ := g
  exact ⟨ns, i, a, b, s _ _ e, s _ _ l, r⟩
/-- what was there is there -/
theorem Dr.at_ {st L p : Addr} {H H' : Hp} {o : HO} (d : Dr st L H H') (n : p ≠ st) (h : H p = some o) : H' p = some o := d.kp p o n h
theorem Dr.tup {st L p : Addr} {H H' : Hp} {xs : List V} (d : Dr st L H H') (g : Good st L H) (h : H p = some (.tup xs)) : H' p = some (.tup xs) := d.tk g p xs h
/-- an address that is free behind is free ahead -/
theorem Dr.free {st L p : Addr} {H H' : Hp} (d : Dr st L H H') (h : H' p = none) : H p = none := by
  cases c : H p with
  | none => rfl
  | some o =>
    by_cases e : p = st
    · subst e
      obtain ⟨ns, i, a, b, e2, _⟩ := d.good
      rw [e2] at h
      cases h
    · rw [d.kp p o e c] at h
      cases h
theorem ref_ne_ints {L : Addr} {ns : List Int} {r : List V} : HO.lst (.ref L :: r) ≠ HO.lst (ns.map V.int) := by
  cases ns with
  | nil => intro e; cases e
  | cons x xs => intro e; cases e
section
variable {P : Program} {w : World} {K : PySem.W.Frag} {mg : Str → Option Value} {base : Heap}
theorem pM : (0 : Int) < 2147483647 := by decide
/-! ### _law_next -/
abbrev sNext : Stmt := topS 20
theorem scNext : FnScope ["state", "limit", "cell", "value"] ["state", "limit"] (defScope sNext) := ⟨rfl, rfl, rfl, by decide +kernel, rfl, by decide +kernel, by decide +kernel⟩
def spNext : Sp := fun vs H Q _ => ∃ (st L : Addr) (lim : Int), vs = [.ref st, .int lim] ∧ Good st L H ∧ 0 < lim ∧ lim < 2 ^ 200 ∧ ∀ (v : Int) H', Dr st L H H' → 0 ≤ v → v < lim → Q (.int v) H'
theorem ok_next {f : Addr} {fd : FuncData} {k : Nat} (F : Fun K "_law_next" "_law_next" sNext f fd) (B : Bt mg) : FnOk P w K mg base CX0 (k + 1) f fd ["state", "limit"] spNext := by
  refine F.ok scNext (fun vs H Q E h => ?_) (fun cdv A outer s H vs Q E hr h => ?_)
  · obtain ⟨st, L, lim, rfl, _⟩ := h
    rfl
  · obtain ⟨st, L, lim, rfl, g, l0, l1, q⟩ := h
    refine ⟨_, C8.pss_cut (ps_if (PW.pt (pw_and (pt_cmpR op_eq (pe_ix ix_list (pv 0) pe_int (fun _ _ => rfl)) pe_int (nomark _))
          (pw_and1 (pt_cmpR op_lt (pe_ix ix_list (pv 0) pe_int (fun _ _ => rfl)) (pe_callB call_len_seq (by rfl) B.len PySem.boot_len (pa_cons (pe_ix ix_list (pv 0) pe_int (fun _ _ => rfl)) pa_nil)) (nomark _)))))
        (pss_cons (ps_set (i := 2) scNext.nd rfl (.inl rfl) (pe_ix ix_list (pe_ix ix_list (pv 0) pe_int (fun _ _ => rfl)) (pe_ix ix_list (pv 0) pe_int (fun _ _ => rfl)) (fun _ _ => rfl)))
        (pss_cons (ps_augS (pv 0) pe_int get_list pe_int ip_add set_list)
        (pss_one (ps_if (pt_cmpR op_ge (pv 2) (pe_op op_pow pe_int pe_int) (nomark _))
          (pss_one (ps_asg (pv 2) (pg_sub (pv 0) pe_int set_list)))
          (pss_one (ps_asg (pe_op op_mod (pe_callTy call_int1 (by rfl) B.int (by decide +kernel) (pa_cons (pe_op op_add (pe_op op_add (pe_op op_mul (pe_ix ix_list (pv 0) pe_int (fun _ _ => rfl)) pe_int)
              (pe_op op_mod (pe_callTy call_int1 (by rfl) B.int (by decide +kernel) (pa_cons (pv 2) pa_nil)) pe_int)) pe_int) pa_nil)) pe_int) (pg_sub (pv 0) pe_int set_list)))))))
        pss_nil)
      (C8.pss_cut (ps_if (pt_cmpR op_gt (pe_ix ix_list (pv 0) pe_int (fun _ _ => rfl)) pe_int (nomark _))
        (pss_cons (ps_set (i := 3) scNext.nd rfl (.inl rfl) (pe_op op_mod (pe_callTy call_int1 (by rfl) B.int (by decide +kernel) (pa_cons (pe_ix ix_list (pv 0) pe_int (fun _ _ => rfl)) pa_nil)) (pv 1)))
        (pss_cons (ps_asg (pe_op op_fdivW (pe_ix ix_list (pv 0) pe_int (fun _ _ => rfl)) (pv 1)) (pg_sub (pv 0) pe_int set_list))
        (pss_one (ps_ret (pv 3)))))
        pss_nil)
      (pss_cons (ps_asg (pe_op op_mod (pe_callTy call_int1 (by rfl) B.int (by decide +kernel) (pa_cons (pe_op op_add (pe_op op_mul (pe_ix ix_list (pv 0) pe_int (fun _ _ => rfl)) pe_int) pe_int) pa_nil)) pe_int) (pg_sub (pv 0) pe_int set_list))
      (pss_one (ps_ret (pe_op op_mod (pe_callTy call_int1 (by rfl) B.int (by decide +kernel) (pa_cons (pe_op op_fdiv (pe_ix ix_list (pv 0) pe_int (fun _ _ => rfl)) pe_int) pa_nil)) (pv 1)))))), ?_⟩
    obtain ⟨ns, i, a, b, e, eL, a0, b0⟩ := g
    have nL : L ≠ st := fun z => by
      subst z
      rw [e] at eL
      exact ref_ne_ints (Option.some.inj eL)
    have put : ∀ {H1 : Hp} (i' : Nat) (a' b' : Int), Kp st H H1 → 0 ≤ a' → 0 ≤ b' → Dr st L H (upd H1 st (.lst [.ref L, .int i', .int a', .int b'])) := fun i' a' b' k ha hb =>
      ⟨k.trans Kp.st, ns, i', a', b', upd_same, by
        rw [upd_ne nL]
        exact k L _ nL eL, ha, hb⟩
    refine ⟨fun σ' H' => ∃ x2 x3 i' a' b', σ' = [some (.ref st), some (.int lim), x2, x3] ∧ Kp st H H' ∧ H' st = some (.lst [.ref L, .int ((i' : Nat) : Int), .int a', .int b']) ∧ 0 ≤ a' ∧ 0 ≤ b', ?_, ?_⟩
    · -- the first if
      refine ⟨.ref st, rfl, st, _, 2, .int a, rfl, rfl, SqL.of e, rfl, rfl, _, rfl, ite2 (fun z => ?_) (fun z => ?_)⟩
      · refine ⟨.ref st, rfl, st, _, 1, .int (i : Nat), rfl, rfl, SqL.of e, rfl, .ref st, rfl, st, _, 0, .ref L, rfl, rfl, SqL.of e, rfl, L, _, rfl, .inl (SqL.of eL), _, _, rfl, rfl, _, rfl, ite2 (fun hi => ?_) (fun hi => ?_)⟩
        · have hlt : i < ns.length := by
            have t := of_decide_eq_true hi
            rw [List.length_map] at t
            omega
          have gc : (ns.map V.int)[i]? = some (.int ns[i]) := by
            rw [List.getElem?_map, List.getElem?_eq_getElem hlt]
            rfl
          refine ⟨.ref st, rfl, st, _, 0, .ref L, rfl, rfl, SqL.of e, rfl, .ref st, rfl, st, _, 1, .int (i : Nat), rfl, rfl, SqL.of e, rfl, L, _, (i : Nat), .int ns[i], rfl, rfl, SqL.of eL, atI_nat gc, ?_⟩
          refine ⟨.ref st, rfl, st, _, 1, .int (i : Nat), rfl, rfl, e, rfl, _, _, rfl, rfl, st, _, 1, 1, rfl, rfl, e, rfl, ?_⟩
          have e1 : upd H st (.lst (([.ref L, .int (i : Nat), .int a, .int b] : List V).set 1 (.int ((i : Nat) + 1)))) st = some (.lst [.ref L, .int ((i + 1 : Nat) : Int), .int a, .int b]) := upd_same
          have k1 : Kp st H (upd H st (.lst (([.ref L, .int (i : Nat), .int a, .int b] : List V).set 1 (.int ((i : Nat) + 1))))) := Kp.st
          refine ⟨.int ns[i], rfl, 10, 18, rfl, rfl, ⟨by decide, by decide, by decide⟩, _, _, rfl, rfl, _, rfl, ite2 (fun hb => ?_) (fun hb => ?_)⟩
          · have hb2 : (10 : Int) ^ 18 ≤ ns[i] := of_decide_eq_true hb
            refine ⟨.int ns[i], rfl, .ref st, rfl, st, _, 2, 2, rfl, rfl, e1, rfl, ?_⟩
            exact ⟨some (.int ns[i]), none, i + 1, ns[i], b, rfl, k1.trans Kp.st, upd_same, by omega, b0⟩
          · refine ⟨.ref st, rfl, st, _, 3, .int b, rfl, rfl, SqL.of e1, rfl, b, 48271, rfl, rfl, .inr ⟨by decide, by decide⟩, .int ns[i], rfl, .inl ⟨_, rfl, _, _, rfl, rfl, pM, _, _, rfl, rfl, _, _, rfl, rfl, .inl ⟨_, rfl, _, _, rfl, rfl, pM, ?_⟩⟩⟩
            refine ⟨.ref st, rfl, st, _, 3, 3, rfl, rfl, e1, rfl, ?_⟩
            exact ⟨some (.int ns[i]), none, i + 1, a, _, rfl, k1.trans Kp.st, upd_same, a0, Int.emod_nonneg _ (by decide)⟩
        · exact ⟨none, none, i, a, b, rfl, Kp.refl st H, e, a0, b0⟩
      · exact iteF ⟨none, none, i, a, b, rfl, Kp.refl st H, e, a0, b0⟩
    · intro σ' H' hm
      obtain ⟨x2, x3, i', a', b', rfl, k', e', a0', b0'⟩ := hm
      refine ⟨fun σ2 H2 => ∃ x2 x3, σ2 = [some (.ref st), some (.int lim), x2, x3] ∧ H2 = H', ?_, ?_⟩
      · refine ⟨.ref st, rfl, st, _, 2, .int a', rfl, rfl, SqL.of e', rfl, _, _, rfl, rfl, _, rfl, ite2 (fun z => ?_) (fun z => ?_)⟩
        · have z2 : (0 : Int) < a' := of_decide_eq_true z
          refine ⟨.ref st, rfl, st, _, 2, .int a', rfl, rfl, SqL.of e', rfl, .inl ⟨_, rfl, .int lim, rfl, _, _, rfl, rfl, l0, ?_⟩⟩
          refine ⟨.ref st, rfl, st, _, 2, .int a', rfl, rfl, SqL.of e', rfl, .int lim, rfl, _, _, rfl, rfl, wide_div (b := 200) l0 (by omega) (by decide) (by decide), .ref st, rfl, st, _, 2, 2, rfl, rfl, e', rfl, ?_⟩
          refine ⟨.int (a' % lim), rfl, ?_⟩
          exact q _ _ (put i' (a' / lim) b' k' (Int.ediv_nonneg a0' (Int.le_of_lt l0)) b0') (Int.emod_nonneg _ (by omega)) (Int.emod_lt_of_pos _ l0)
        · exact ⟨x2, x3, rfl, rfl⟩
      · intro σ2 H2 hm2
        obtain ⟨y2, y3, rfl, rfl⟩ := hm2
        refine ⟨.ref st, rfl, st, _, 3, .int b', rfl, rfl, SqL.of e', rfl, _, _, rfl, rfl, .inr ⟨by decide, by decide⟩, _, _, rfl, rfl, .inl ⟨_, rfl, _, _, rfl, rfl, pM, ?_⟩⟩
        refine ⟨.ref st, rfl, st, _, 3, 3, rfl, rfl, e', rfl, ?_⟩
        refine ⟨.ref st, rfl, st, _, 3, .int ((b' * 69621 + 12345) % 2147483647), rfl, rfl, SqL.of upd_same, rfl, _, _, rfl, rfl, ⟨by decide, by decide⟩, .inl ⟨_, rfl, .int lim, rfl, _, _, rfl, rfl, l0, ?_⟩⟩
        exact q _ _ (put i' a' _ k' a0' (Int.emod_nonneg _ (by decide))) (Int.emod_nonneg _ (by omega)) (Int.emod_lt_of_pos _ l0)
end
end KC

namespace KC
open PySem PySem.Spec PyProof.Rows L2 KA
/-- a def of the text as its callers know it -/
structure Def (P : Program) (w : World) (K : PySem.W.Frag) (mg : Str → Option Value) (base : Heap) (x : Str) (k : Nat) (ps : List Str) (sp : Sp) : Prop where
  ex : ∃ (f : Addr) (fd : FuncData), FnOk P w K mg base CX0 k f fd ps sp ∧ mg x = some (.ref f) ∧ PySem.W.keepIn K (.ref f) = true ∧ Binds K fd ps []
section
variable {X : Cx} {k : Nat} {x : Str} {ps : List Str} {sp : Sp} {e : Expr} {es : List Expr} {t : TA} {p pos : Pos}
theorem pe_def (D : Def X.prog X.w X.K X.mg X.base x k ps sp) (hr : Room k X.A) (hg : Gl X x) (ha : PA X (e :: es) t) (hdb : (x == ("__debug__" : Str)) = false := by decide)
    (he : starEach (e :: es) X.env = (false, eval e X.env) :: starEach es X.env := by rfl) (hpl : (backTo pos (starEach es X.env)).any (·.1) = false := by rfl) : PE X (.Call (.Name x p) (e :: es) [] pos) (tCall sp [] E0 t) := by
  obtain ⟨f, fd, F, hm, hk, hb⟩ := D.ex
  exact pe_call F hr hg hm hk hb .nil pass0 ha hdb he hpl
theorem pe_def0 (D : Def X.prog X.w X.K X.mg X.base x k ps sp) (hr : Room k X.A) (hg : Gl X x) (hdb : (x == ("__debug__" : Str)) = false := by decide) : PE X (.Call (.Name x p) [] [] pos) (tCall sp [] E0 tNil) := by
  obtain ⟨f, fd, F, hm, hk, hb⟩ := D.ex
  exact pe_call0 F hr hg hm hk hb .nil pass0 hdb
end
section
variable {P : Program} {w : World} {K : PySem.W.Frag} {mg : Str → Option Value} {base : Heap}
abbrev dNext (P : Program) (w : World) (K : PySem.W.Frag) (mg : Str → Option Value) (base : Heap) : Prop := Def P w K mg base "_law_next" 1 ["state", "limit"] spNext
end
/-! ### value_key, compares, result_of -/
section
variable {P : Program} {w : World} {K : PySem.W.Frag} {mg : Str → Option Value} {base : Heap}
def vkK : Key → PyData
  | .inl i => .tuple [.int 0, .int i]
  | .inr z => .tuple [.int 1, .str z]
abbrev sVK : Stmt := topS 1
theorem scVK : FnScope ["value"] ["value"] (defScope sVK) := ⟨rfl, rfl, rfl, by decide +kernel, rfl, by decide +kernel, by decide +kernel⟩
def spVK : Sp := fun vs H Q _ => ∃ k : Key, vs = [kV k] ∧ ∀ (p : Addr) H', Same H H' → Tp H' (.ref p) (vkK k) → Q (.ref p) H'
theorem same_new {H : Hp} {p : Addr} {o : HO} (h : H p = none) : Same H (upd H p o) := fun a u e => by
  rw [upd_ne (ne_of_none e h)]
  exact e
theorem ok_vk {f : Addr} {fd : FuncData} (F : Fun K "value_key" "value_key" sVK f fd) (B : Bt mg) : FnOk P w K mg base CX0 1 f fd ["value"] spVK := by
  refine F.ok scVK (fun vs H Q E h => ?_) (fun cdv A outer s H vs Q E hr h => ?_)
  · obtain ⟨k, rfl, _⟩ := h
    rfl
  · obtain ⟨k, rfl, q⟩ := h
    refine ⟨_, pss_cons (ps_if (pt_val (pe_callB call_isi (by rfl) B.isi (by decide +kernel) (pa_cons (pv 0) (pa_cons (pe_bltn (v := .ty "str") (u := .type "str") (by rfl) B.str (by decide +kernel) rfl) pa_nil)))) (pss_one (ps_ret (pe_tup (pa_cons pe_int (pa_cons (pv 0) pa_nil))))) pss_nil)
      (pss_one (ps_ret (pe_tup (pa_cons pe_int (pa_cons (pv 0) pa_nil))))), ?_⟩
    cases k with
    | inl i =>
      refine ⟨.int i, rfl, .int i, .ty "str", _, _, false, rfl, .ty "str", .base (.int i), kit_ty (by decide +kernel), _, rfl, iteF ?_⟩
      exact ⟨.int i, rfl, (by show 2 ≤ sizeLine; decide), fun p np => q p _ (same_new np) (.tup upd_same (.cons (.int 0) (.cons (.int i) .nil)))⟩
    | inr z =>
      refine ⟨.str z, rfl, .str z, .ty "str", _, _, true, rfl, .ty "str", .base (.str z), kit_ty (by decide +kernel), _, rfl, iteT ?_⟩
      exact ⟨.str z, rfl, (by show 2 ≤ sizeLine; decide), fun p np => q p _ (same_new np) (.tup upd_same (.cons (.int 1) (.cons (.str z) .nil)))⟩
abbrev dVK (P : Program) (w : World) (K : PySem.W.Frag) (mg : Str → Option Value) (base : Heap) : Prop := Def P w K mg base "value_key" 1 ["value"] spVK
theorem vk_eq (a b : Key) : PyData.eqv (vkK a) (vkK b) = decide (a = b) := by
  have e : ∀ (p q : PyData) (i j : Int), PyData.eqv (.tuple [.int i, p]) (.tuple [.int j, q]) = ((i == j) && (PyData.eqv p q && true)) := fun p q i j => rfl
  cases a with
  | inl i =>
    cases b with
    | inl j =>
      show PyData.eqv (.tuple [.int 0, .int i]) (.tuple [.int 0, .int j]) = _
      rw [e, Bool.and_true]
      show ((0 : Int) == 0 && (i == j)) = _
      rw [beq_self_eq_true, Bool.true_and]
      by_cases c : i = j
      · rw [c, beq_self_eq_true, decide_eq_true rfl]
      · rw [beq_false_of_ne c, decide_eq_false (fun z => c (by injection z))]
    | inr y => rfl
  | inr x =>
    cases b with
    | inl j => rfl
    | inr y =>
      show PyData.eqv (.tuple [.int 1, .str x]) (.tuple [.int 1, .str y]) = _
      rw [e, Bool.and_true]
      show ((1 : Int) == 1 && (x == y)) = _
      rw [beq_self_eq_true, Bool.true_and]
      by_cases c : x = y
      · rw [c, beq_self_eq_true, decide_eq_true rfl]
      · rw [beq_false_of_ne c, decide_eq_false (fun z => c (by injection z))]
theorem vk_small (a : Key) : small (vkK a) := by
  cases a <;> (show 1 ≤ 64; decide)
theorem str_eq {x y : Str} (h : x.cps.toList = y.cps.toList) : x = y := by
  obtain ⟨⟨a⟩⟩ := x
  obtain ⟨⟨b⟩⟩ := y
  have e : a = b := h
  rw [e]
theorem inl_iff {i j : Int} : ((Sum.inl i : Key) = Sum.inl j) ↔ i = j := ⟨fun h => by injection h, fun h => by rw [h]⟩
theorem inr_iff {i j : Str} : ((Sum.inr i : Key) = Sum.inr j) ↔ i = j := ⟨fun h => by injection h, fun h => by rw [h]⟩
theorem vk_lt (a b : Key) : dlt (vkK a) (vkK b) = some (ltK a b) := by
  cases a with
  | inl i =>
    cases b with
    | inl j =>
      show dltAll [.int 0, .int i] [.int 0, .int j] = _
      rw [dltAll, if_pos (show PyData.eqv (.int 0) (.int 0) = true from rfl), dltAll]
      by_cases c : PyData.eqv (.int i) (.int j) = true
      · rw [if_pos c, dltAll]
        have : i = j := by simpa [PyData.eqv] using c
        rw [this]
        show some false = some (decide (j < j))
        rw [decide_eq_false (Int.lt_irrefl j)]
      · rw [if_neg c]
        rfl
    | inr y => rfl
  | inr x =>
    cases b with
    | inl j => rfl
    | inr y =>
      show dltAll [.int 1, .str x] [.int 1, .str y] = _
      rw [dltAll, if_pos (show PyData.eqv (.int 1) (.int 1) = true from rfl), dltAll]
      by_cases c : PyData.eqv (.str x) (.str y) = true
      · rw [if_pos c, dltAll]
        have : x = y := by simpa [PyData.eqv] using c
        rw [this]
        show some false = some (decide (y.cps.toList < y.cps.toList))
        rw [decide_eq_false (List.lt_irrefl _)]
      · rw [if_neg c]
        rfl
theorem vk_gt (a b : Key) : dgt (vkK a) (vkK b) = some (ltK b a) := by
  cases a with
  | inl i =>
    cases b with
    | inl j =>
      show dgtAll [.int 0, .int i] [.int 0, .int j] = _
      rw [dgtAll, if_pos (show PyData.eqv (.int 0) (.int 0) = true from rfl), dgtAll]
      by_cases c : PyData.eqv (.int i) (.int j) = true
      · rw [if_pos c, dgtAll]
        have : i = j := by simpa [PyData.eqv] using c
        rw [this]
        show some false = some (decide (j < j))
        rw [decide_eq_false (Int.lt_irrefl j)]
      · rw [if_neg c]
        rfl
    | inr y => rfl
  | inr x =>
    cases b with
    | inl j => rfl
    | inr y =>
      show dgtAll [.int 1, .str x] [.int 1, .str y] = _
      rw [dgtAll, if_pos (show PyData.eqv (.int 1) (.int 1) = true from rfl), dgtAll]
      by_cases c : PyData.eqv (.str x) (.str y) = true
      · rw [if_pos c, dgtAll]
        have : x = y := by simpa [PyData.eqv] using c
        rw [this]
        show some false = some (decide (y.cps.toList < y.cps.toList))
        rw [decide_eq_false (List.lt_irrefl _)]
      · rw [if_neg c]
        rfl
theorem vk_le (a b : Key) : dle (vkK a) (vkK b) = some (ltK a b || decide (a = b)) := by
  cases a with
  | inl i =>
    cases b with
    | inl j =>
      show dleAll [.int 0, .int i] [.int 0, .int j] = _
      rw [dleAll, if_pos (show PyData.eqv (.int 0) (.int 0) = true from rfl), dleAll]
      by_cases c : PyData.eqv (.int i) (.int j) = true
      · rw [if_pos c, dleAll]
        have : i = j := by simpa [PyData.eqv] using c
        rw [this, decide_eq_true rfl, Bool.or_true]
      · rw [if_neg c]
        show some (decide (i ≤ j)) = some (decide (i < j) || decide ((Sum.inl i : Key) = Sum.inl j))
        have n : i ≠ j := fun z => c (by rw [z]; simp [PyData.eqv])
        rw [decide_eq_false (fun z => n (inl_iff.mp z)), Bool.or_false]
        congr 1
        rw [decide_eq_decide]
        omega
    | inr y => rfl
  | inr x =>
    cases b with
    | inl j => rfl
    | inr y =>
      show dleAll [.int 1, .str x] [.int 1, .str y] = _
      rw [dleAll, if_pos (show PyData.eqv (.int 1) (.int 1) = true from rfl), dleAll]
      by_cases c : PyData.eqv (.str x) (.str y) = true
      · rw [if_pos c, dleAll]
        have : x = y := by simpa [PyData.eqv] using c
        rw [this, decide_eq_true rfl, Bool.or_true]
      · rw [if_neg c]
        show some (!decide (y.cps.toList < x.cps.toList)) = some (decide (x.cps.toList < y.cps.toList) || decide ((Sum.inr x : Key) = Sum.inr y))
        have n : x ≠ y := fun z => c (by rw [z]; simp [PyData.eqv])
        rw [decide_eq_false (fun z => n (inr_iff.mp z)), Bool.or_false]
        congr 1
        by_cases h : y.cps.toList < x.cps.toList
        · rw [decide_eq_true h, decide_eq_false (fun z => List.lt_asymm h z)]
          rfl
        · have h2 : x.cps.toList < y.cps.toList := by
            rcases Classical.em (x.cps.toList < y.cps.toList) with z | z
            · exact z
            · exact absurd (str_eq (List.le_antisymm (List.not_lt.mp h) (List.not_lt.mp z))) n
          rw [decide_eq_false h, decide_eq_true h2]
          rfl
theorem vk_ge (a b : Key) : dge (vkK a) (vkK b) = some (ltK b a || decide (a = b)) := by
  cases a with
  | inl i =>
    cases b with
    | inl j =>
      show dgeAll [.int 0, .int i] [.int 0, .int j] = _
      rw [dgeAll, if_pos (show PyData.eqv (.int 0) (.int 0) = true from rfl), dgeAll]
      by_cases c : PyData.eqv (.int i) (.int j) = true
      · rw [if_pos c, dgeAll]
        have : i = j := by simpa [PyData.eqv] using c
        rw [this, decide_eq_true rfl, Bool.or_true]
      · rw [if_neg c]
        show some (decide (i ≥ j)) = some (decide (j < i) || decide ((Sum.inl i : Key) = Sum.inl j))
        have n : i ≠ j := fun z => c (by rw [z]; simp [PyData.eqv])
        rw [decide_eq_false (fun z => n (inl_iff.mp z)), Bool.or_false]
        congr 1
        rw [decide_eq_decide]
        omega
    | inr y => rfl
  | inr x =>
    cases b with
    | inl j => rfl
    | inr y =>
      show dgeAll [.int 1, .str x] [.int 1, .str y] = _
      rw [dgeAll, if_pos (show PyData.eqv (.int 1) (.int 1) = true from rfl), dgeAll]
      by_cases c : PyData.eqv (.str x) (.str y) = true
      · rw [if_pos c, dgeAll]
        have : x = y := by simpa [PyData.eqv] using c
        rw [this, decide_eq_true rfl, Bool.or_true]
      · rw [if_neg c]
        show some (!decide (x.cps.toList < y.cps.toList)) = some (decide (y.cps.toList < x.cps.toList) || decide ((Sum.inr x : Key) = Sum.inr y))
        have n : x ≠ y := fun z => c (by rw [z]; simp [PyData.eqv])
        rw [decide_eq_false (fun z => n (inr_iff.mp z)), Bool.or_false]
        congr 1
        by_cases h : x.cps.toList < y.cps.toList
        · rw [decide_eq_true h, decide_eq_false (fun z => List.lt_asymm h z)]
          rfl
        · have h2 : y.cps.toList < x.cps.toList := by
            rcases Classical.em (y.cps.toList < x.cps.toList) with z | z
            · exact z
            · exact absurd (str_eq (List.le_antisymm (List.not_lt.mp z) (List.not_lt.mp h))) n
          rw [decide_eq_false h, decide_eq_true h2]
          rfl
abbrev sCP : Stmt := topS 6
theorem scCP : FnScope ["operator", "first", "second", "low", "high"] ["operator", "first", "second"] (defScope sCP) := ⟨rfl, rfl, rfl, by decide +kernel, rfl, by decide +kernel, by decide +kernel⟩
def spCP : Sp := fun vs H Q _ => ∃ (op : Str) (a b : Key), vs = [.str op, kV a, kV b] ∧ ∀ H', Same H H' → Q (.bl (cmpK op a b)) H'
theorem yes_if {A B : Prop} {x : V} (h : A) : if decide (x = x) = true then A else B := by
  rw [decide_eq_true rfl]
  exact iteT h
theorem no_if {A B : Prop} {x y : V} (n : x ≠ y) (h : B) : if decide (x = y) = true then A else B := by
  rw [decide_eq_false n]
  exact iteF h
theorem ok_cp {f : Addr} {fd : FuncData} (F : Fun K "compares" "compares" sCP f fd) (DV : dVK P w K mg base) : FnOk P w K mg base CX0 2 f fd ["operator", "first", "second"] spCP := by
  refine F.ok scCP (fun vs H Q E h => ?_) (fun cdv A outer s H vs Q E hr h => ?_)
  · obtain ⟨_, _, _, rfl, _⟩ := h
    rfl
  · obtain ⟨op, a, b, rfl, q⟩ := h
    have hu := hr.units
    refine ⟨_, pss_cons (ps_set (i := 3) scCP.nd rfl (.inl rfl) (pe_def DV hr (by rfl) (pa_cons (pv 1) pa_nil)))
      (pss_cons (ps_set (i := 4) scCP.nd rfl (.inl rfl) (pe_def DV hr (by rfl) (pa_cons (pv 2) pa_nil)))
      (pss_cons (ps_if (pt_cmpR op_eq (pv 0) pe_str (nomark _)) (pss_one (ps_ret (pe_cmpR (op_eqP hu) (pv 3) (pv 4) (nomark _)))) pss_nil)
      (pss_cons (ps_if (pt_cmpR op_eq (pv 0) pe_str (nomark _)) (pss_one (ps_ret (pe_cmpR (op_neP hu) (pv 3) (pv 4) (nomark _)))) pss_nil)
      (pss_cons (ps_if (pt_cmpR op_eq (pv 0) pe_str (nomark _)) (pss_one (ps_ret (pe_cmpR (op_ltP hu) (pv 3) (pv 4) (nomark _)))) pss_nil)
      (pss_cons (ps_if (pt_cmpR op_eq (pv 0) pe_str (nomark _)) (pss_one (ps_ret (pe_cmpR (op_leP hu) (pv 3) (pv 4) (nomark _)))) pss_nil)
      (pss_cons (ps_if (pt_cmpR op_eq (pv 0) pe_str (nomark _)) (pss_one (ps_ret (pe_cmpR (op_gtP hu) (pv 3) (pv 4) (nomark _)))) pss_nil)
      (pss_one (ps_ret (pe_cmpR (op_geP hu) (pv 3) (pv 4) (nomark _)))))))))), ?_⟩
    refine ⟨kV a, rfl, a, rfl, fun p H1 s1 t1 => ?_⟩
    refine ⟨kV b, rfl, b, rfl, fun r H2 s2 t2 => ?_⟩
    have t1' := t1.mono (Tk.of s2)
    have q' := q H2 (s1.trans s2)
    have st : ∀ {x y : Str}, x ≠ y → V.str x ≠ V.str y := fun n z => n (by injection z)
    by_cases c1 : op = "="
    · subst c1
      refine ⟨.str "=", rfl, rfl, _, rfl, yes_if ?_⟩
      refine ⟨.ref p, rfl, .ref r, rfl, _, _, t1', t2, vk_small a, ?_⟩
      rw [vk_eq]
      exact q'
    refine ⟨.str op, rfl, rfl, _, rfl, no_if (st c1) ?_⟩
    by_cases c2 : op = "<>"
    · subst c2
      refine ⟨.str "<>", rfl, rfl, _, rfl, yes_if ?_⟩
      refine ⟨.ref p, rfl, .ref r, rfl, _, _, t1', t2, vk_small a, ?_⟩
      rw [vk_eq]
      exact q'
    refine ⟨.str op, rfl, rfl, _, rfl, no_if (st c2) ?_⟩
    by_cases c3 : op = "<"
    · subst c3
      refine ⟨.str "<", rfl, rfl, _, rfl, yes_if ?_⟩
      exact ⟨.ref p, rfl, .ref r, rfl, _, _, _, t1', t2, vk_small a, vk_lt a b, q'⟩
    refine ⟨.str op, rfl, rfl, _, rfl, no_if (st c3) ?_⟩
    by_cases c4 : op = "<="
    · subst c4
      refine ⟨.str "<=", rfl, rfl, _, rfl, yes_if ?_⟩
      exact ⟨.ref p, rfl, .ref r, rfl, _, _, _, t1', t2, vk_small a, vk_le a b, q'⟩
    refine ⟨.str op, rfl, rfl, _, rfl, no_if (st c4) ?_⟩
    by_cases c5 : op = ">"
    · subst c5
      refine ⟨.str ">", rfl, rfl, _, rfl, yes_if ?_⟩
      exact ⟨.ref p, rfl, .ref r, rfl, _, _, _, t1', t2, vk_small a, vk_gt a b, q'⟩
    refine ⟨.str op, rfl, rfl, _, rfl, no_if (st c5) ?_⟩
    have e : cmpK op a b = (ltK b a || decide (a = b)) := by
      unfold cmpK
      rw [if_neg c1, if_neg c2, if_neg c3, if_neg c4, if_neg c5]
    rw [e] at q'
    exact ⟨.ref p, rfl, .ref r, rfl, _, _, _, t1', t2, vk_small a, vk_ge a b, q'⟩
end
end KC

namespace KC
open PySem PySem.Spec PyProof.Rows L2 KA
/-- a term as a tuple -/
def tD : T → PyData
  | .any => .tuple [.str "any"]
  | .val (.inl i) => .tuple [.str "value", .int i]
  | .val (.inr z) => .tuple [.str "value", .str z]
  | .var x => .tuple [.str "variable", .str x]
/-- a dict of values by name -/
structure EnvOf (kvs : List (Key × V)) (e : Env1) : Prop where
  nd : (kvs.map (·.1)).Nodup
  at_ : ∀ x, valV kvs (Sum.inr x) = (look e x).map kV
  ks : ∀ k v, (k, v) ∈ kvs → ∃ x : Str, k = Sum.inr x
theorem tD_val {H : Hp} {v : V} {k : Key} (t : Tp H v (tD (.val k))) : ∃ p, v = .ref p ∧ H p = some (.tup [.str "value", kV k]) := by
  cases k with
  | inl i =>
    cases t with
    | tup e r => cases r with
      | cons h1 r => cases r with
        | cons h2 r =>
          cases r
          cases h1
          cases h2
          exact ⟨_, rfl, e⟩
  | inr z =>
    cases t with
    | tup e r => cases r with
      | cons h1 r => cases r with
        | cons h2 r =>
          cases r
          cases h1
          cases h2
          exact ⟨_, rfl, e⟩
theorem tD_var {H : Hp} {v : V} {x : Str} (t : Tp H v (tD (.var x))) : ∃ p, v = .ref p ∧ H p = some (.tup [.str "variable", .str x]) := by
  cases t with
  | tup e r => cases r with
    | cons h1 r => cases r with
      | cons h2 r =>
        cases r
        cases h1
        cases h2
        exact ⟨_, rfl, e⟩
theorem tD_any {H : Hp} {v : V} (t : Tp H v (tD .any)) : ∃ p, v = .ref p ∧ H p = some (.tup [.str "any"]) := by
  cases t with
  | tup e r => cases r with
    | cons h1 r =>
      cases r
      cases h1
      exact ⟨_, rfl, e⟩
section
variable {P : Program} {w : World} {K : PySem.W.Frag} {mg : Str → Option Value} {base : Heap}
/-! ### result_of -/
abbrev sRO : Stmt := topS 7
theorem scRO : FnScope ["operator", "first", "second"] ["operator", "first", "second"] (defScope sRO) := ⟨rfl, rfl, rfl, by decide +kernel, rfl, by decide +kernel, by decide +kernel⟩
def spRO : Sp := fun vs H Q _ => ∃ (op : Str) (a b : Key), vs = [.str op, kV a, kV b] ∧ (∀ i j, a = Sum.inl i → b = Sum.inl j → CMulW i j) ∧ Q (match isK op a b with | some z => kV z | none => .non) H
theorem isi_s (k : Key) (H : Hp) : ∃ b, (∃ s u, ClsV (.ty "str") u ∧ TyX K H (kV k) s ∧ PySem.W.kitOne K s u = some b) ∧ (b = true ↔ ∃ z, k = Sum.inr z) := by
  cases k with
  | inl i => exact ⟨false, ⟨_, _, .ty "str", .base (.int i), kit_ty (by decide +kernel)⟩, ⟨fun h => (by cases h), fun ⟨_, h⟩ => (by cases h)⟩⟩
  | inr z => exact ⟨true, ⟨_, _, .ty "str", .base (.str z), kit_ty (by decide +kernel)⟩, ⟨fun _ => ⟨z, rfl⟩, fun _ => rfl⟩⟩
theorem ok_ro {f : Addr} {fd : FuncData} (F : Fun K "result_of" "result_of" sRO f fd) (B : Bt mg) : FnOk P w K mg base CX0 1 f fd ["operator", "first", "second"] spRO := by
  refine F.ok scRO (fun vs H Q E h => ?_) (fun cdv A outer s H vs Q E hr h => ?_)
  · obtain ⟨_, _, _, rfl, _⟩ := h
    rfl
  · obtain ⟨op, a, b, rfl, hw, q⟩ := h
    refine ⟨_, pss_cons (ps_if (PW.pt (pw_or (pt_val (pe_callB call_isi (by rfl) B.isi (by decide +kernel) (pa_cons (pv 1) (pa_cons (pe_bltn (v := .ty "str") (u := .type "str") (by rfl) B.str (by decide +kernel) rfl) pa_nil))))
          (pw_or1 (pt_val (pe_callB call_isi (by rfl) B.isi (by decide +kernel) (pa_cons (pv 2) (pa_cons (pe_bltn (v := .ty "str") (u := .type "str") (by rfl) B.str (by decide +kernel) rfl) pa_nil))))))) (pss_one (ps_ret pe_non)) pss_nil)
      (pss_cons (ps_if (pt_cmpR op_eq (pv 0) pe_str (nomark _)) (pss_one (ps_ret (pe_op op_add (pv 1) (pv 2)))) pss_nil)
      (pss_cons (ps_if (pt_cmpR op_eq (pv 0) pe_str (nomark _)) (pss_one (ps_ret (pe_op op_sub (pv 1) (pv 2)))) pss_nil)
      (pss_one (ps_ret (pe_op op_mulW (pv 1) (pv 2)))))), ?_⟩
    have st : ∀ {x y : Str}, x ≠ y → V.str x ≠ V.str y := fun n z => n (by injection z)
    cases a with
    | inr z =>
      refine ⟨.str z, rfl, .str z, .ty "str", _, _, true, rfl, .ty "str", .base (.str z), kit_ty (by decide +kernel), true, rfl, iteT (iteT ?_)⟩
      have q : Q .non H := q
      exact q
    | inl i =>
      refine ⟨.int i, rfl, .int i, .ty "str", _, _, false, rfl, .ty "str", .base (.int i), kit_ty (by decide +kernel), false, rfl, iteF ?_⟩
      cases b with
      | inr z =>
        refine ⟨.str z, rfl, .str z, .ty "str", _, _, true, rfl, .ty "str", .base (.str z), kit_ty (by decide +kernel), true, rfl, iteT ?_⟩
        have q : Q .non H := q
        exact q
      | inl j =>
        refine ⟨.int j, rfl, .int j, .ty "str", _, _, false, rfl, .ty "str", .base (.int j), kit_ty (by decide +kernel), false, rfl, iteF ?_⟩
        have q : Q (.int (opK op i j)) H := q
        by_cases c1 : op = "+"
        · subst c1
          exact ⟨.str "+", rfl, rfl, _, rfl, yes_if ⟨.int i, rfl, .int j, rfl, i, j, rfl, rfl, q⟩⟩
        refine ⟨.str op, rfl, rfl, _, rfl, no_if (st c1) ?_⟩
        by_cases c2 : op = "-"
        · subst c2
          exact ⟨.str "-", rfl, rfl, _, rfl, yes_if ⟨.int i, rfl, .int j, rfl, i, j, rfl, rfl, q⟩⟩
        refine ⟨.str op, rfl, rfl, _, rfl, no_if (st c2) ?_⟩
        have e : opK op i j = i * j := by
          unfold opK
          rw [if_neg c1, if_neg c2]
        rw [e] at q
        exact ⟨.int i, rfl, .int j, rfl, i, j, rfl, rfl, hw i j rfl rfl, q⟩
/-! ### worth -/
abbrev sWo : Stmt := topS 3
theorem scWo : FnScope ["term", "values"] ["term", "values"] (defScope sWo) := ⟨rfl, rfl, rfl, by decide +kernel, rfl, by decide +kernel, by decide +kernel⟩
def spWo : Sp := fun vs H Q _ => ∃ (v : V) (a : Addr) (t : T) (kvs : List (Key × V)) (e : Env1) (k : Key), vs = [v, .ref a] ∧ Tp H v (tD t) ∧ Rd H a (.dK kvs) ∧ EnvOf kvs e ∧ worthE t e = some k ∧ Q (kV k) H
theorem ok_wo {f : Addr} {fd : FuncData} (F : Fun K "worth" "worth" sWo f fd) : FnOk P w K mg base CX0 1 f fd ["term", "values"] spWo := by
  refine F.ok scWo (fun vs H Q E h => ?_) (fun cdv A outer s H vs Q E hr h => ?_)
  · obtain ⟨_, _, _, _, _, _, rfl, _⟩ := h
    rfl
  · obtain ⟨v, a, t, kvs, e, k, rfl, tv, rd, en, hw, q⟩ := h
    have hu := hu_of hr
    refine ⟨_, pss_cons (ps_if (pt_cmpR op_eq (pe_ix ix_tup (pv 0) pe_int (fun _ _ => rfl)) pe_str (nomark _)) (pss_one (ps_ret (pe_ix ix_tup (pv 0) pe_int (fun _ _ => rfl)))) pss_nil)
      (pss_one (ps_ret (pe_dget hu (pv 1) (pe_ix ix_tup (pv 0) pe_int (fun _ _ => rfl)) (fun _ _ => rfl)))), ?_⟩
    cases t with
    | any => cases hw
    | val j =>
      have hw : some j = some k := hw
      injection hw with hw
      subst hw
      obtain ⟨p, rfl, ep⟩ := tD_val tv
      refine ⟨.ref p, rfl, p, _, 0, .str "value", rfl, rfl, SqT.of ep, rfl, rfl, _, rfl, yes_if ?_⟩
      exact ⟨.ref p, rfl, p, _, 1, kV j, rfl, rfl, SqT.of ep, rfl, q⟩
    | var x =>
      have hw : look e x = some k := hw
      obtain ⟨p, rfl, ep⟩ := tD_var tv
      refine ⟨.ref p, rfl, p, _, 0, .str "variable", rfl, rfl, SqT.of ep, rfl, rfl, _, rfl, no_if (by decide +kernel) ?_⟩
      refine ⟨.ref a, rfl, .ref p, rfl, p, _, 1, .str x, rfl, rfl, SqT.of ep, rfl, a, kV k, rfl, .inl ⟨kvs, Sum.inr x, rd, rfl, ?_⟩, q⟩
      rw [en.at_ x, hw]
      rfl
end
end KC

namespace KC
open PySem PySem.Spec PyProof.Rows L2 KA
theorem kvs_tp {H : Hp} : ∀ (ks : List Key), Tps H (ks.map kV) (ks.map fun k => match k with | .inl i => PyData.int i | .inr z => PyData.str z)
  | [] => .nil
  | .inl i :: r => .cons (.int i) (kvs_tp r)
  | .inr z :: r => .cons (.str z) (kvs_tp r)
theorem term_get {H : Hp} {xs : List V} {ts : List T} {i : Nat} {x : V} (t : Tps H xs (ts.map tD)) (hx : xs[i]? = some x) : ∃ j, ts[i]? = some j ∧ Tp H x (tD j) := by
  obtain ⟨dd, ed, td⟩ := t.get hx
  rw [List.getElem?_map] at ed
  cases ej : ts[i]? with
  | none => rw [ej] at ed; cases ed
  | some j =>
    rw [ej] at ed
    have ed : tD j = dd := Option.some.inj ed
    exact ⟨j, rfl, by rw [ed]; exact td⟩
theorem take_next {α : Type} {ns : List α} {i : Nat} {x : α} (e : ns[i]? = some x) : ns.take (i + 1) = ns.take i ++ [x] := by
  rw [List.take_add_one, e]
  rfl
theorem Rd.same {H H' : Hp} {a : Addr} {u : HO} (h : Rd H a u) (s : Same H H') : Rd H' a u := by
  rcases h with h | ⟨o, h⟩
  · exact .inl (s _ _ h)
  · exact .inr ⟨o, s _ _ h⟩
section
variable {P : Program} {w : World} {K : PySem.W.Frag} {mg : Str → Option Value} {base : Heap}
abbrev dWo (P : Program) (w : World) (K : PySem.W.Frag) (mg : Str → Option Value) (base : Heap) : Prop := Def P w K mg base "worth" 1 ["term", "values"] spWo
/-! ### head_row -/
abbrev sHR : Stmt := topS 18
abbrev nHR : List Str := ["terms", "values", "term"]
theorem scHR : FnScope nHR ["terms", "values"] (defScope sHR) := ⟨rfl, rfl, rfl, by decide +kernel, rfl, by decide +kernel, by decide +kernel⟩
def spHR : Sp := fun vs H Q _ => ∃ (u a : Addr) (xs : List V) (ts : List T) (kvs : List (Key × V)) (e : Env1) (ks : List Key), vs = [.ref u, .ref a] ∧ H u = some (.tup xs) ∧ Tps H xs (ts.map tD) ∧ Rd H a (.dK kvs) ∧ EnvOf kvs e ∧ ts.map (fun t => worthE t e) = ks.map some ∧ ts.length ≤ 1000 ∧
  ∀ (p : Addr) H', Same H H' → H' p = some (.tup (ks.map kV)) → Q (.ref p) H'
theorem ok_hr {f : Addr} {fd : FuncData} (F : Fun K "head_row" "head_row" sHR f fd) (B : Bt mg) (DW : dWo P w K mg base) : FnOk P w K mg base CX0 2 f fd ["terms", "values"] spHR := by
  refine F.ok scHR (fun vs H Q E h => ?_) (fun cdv A outer s H vs Q E hr h => ?_)
  · obtain ⟨_, _, _, _, _, _, _, rfl, _⟩ := h
    rfl
  · obtain ⟨u, a, xs, ts, kvs, e, ks, rfl, eu, tx, rd, en, hk, lt, q⟩ := h
    refine ⟨_, pss_one (ps_ret (pe_callTy call_tuple_of (by rfl) B.tup (by decide +kernel) (pa_cons (pe_lc (own := [("term", 2)]) (g := gName 2) (tt := tYes) rfl scHR.nd (pi_tup (pv 0))
      (blkOk_by (own := [("term", 2)]) (N := nHR) (sc := defScope sHR) (by decide +kernel)) (fun _ _ _ _ _ => pg_name (i := 2) scHR.nd rfl (Or.inl rfl)) (fun _ _ _ _ _ => pts_nil)
      (fun _ _ _ _ _ => pe_def DW hr (by rfl) (pa_cons (pv 2) (pa_cons (pv 1) pa_nil)))) pa_nil))), ?_⟩
    have lx : xs.length = ts.length := by rw [tx.length, List.length_map]
    have lk : ts.length = ks.length := by
      have := congrArg List.length hk
      rwa [List.length_map, List.length_map] at this
    refine ⟨.ref u, rfl, u, rfl, ⟨xs, SqT.of eu⟩, fun D nD => ?_⟩
    refine lc_it walk_tup (fun i H' => (∀ b o, H b = some o → H' b = some o) ∧ H' D = some (.lst ((ks.take i).map kV))) ⟨same_new nD, upd_same⟩ (fun i H' _ hP => SqT.of (hP.1 _ _ eu)) (fun i x H' H2 hi hP hY => ?_) (fun H2 hP => ?_)
    · obtain ⟨rfl, hx⟩ := hY
      obtain ⟨sm, eD⟩ := hP
      obtain ⟨t, et, tt⟩ := term_get tx hx
      have hik : i < ks.length := by omega
      have ek := List.getElem?_eq_getElem hik
      have hw : worthE t e = some ks[i] := by
        have e1 : (ts.map fun t => worthE t e)[i]? = (ks.map some)[i]? := by rw [hk]
        rw [List.getElem?_map, List.getElem?_map, et, ek] at e1
        exact Option.some.inj e1
      refine ⟨rfl, ?_⟩
      refine iteT (B := True) ?_
      have sm : Same H H2 := sm
      refine ⟨x, rfl, .ref a, rfl, x, a, t, kvs, e, ks[i], rfl, tt.mono (Tk.of sm), Rd.same rd sm, en, hw, ?_⟩
      refine ⟨_, eD, small1000 (by rw [List.length_map, List.length_take]; omega), fun b o h => ?_, ?_⟩
      · rw [upd_ne (ne_of_none h nD)]
        exact sm b o h
      · rw [upd_same, take_next ek, List.map_append]
        rfl
    · obtain ⟨sm, eD⟩ := hP
      rw [lx, lk, List.take_length] at eD
      refine ⟨D, _, rfl, .inl ⟨SqL.of eD, fun p np => ?_⟩⟩
      exact q p _ (Same.trans sm (same_new np)) upd_same
end
end KC

/-! enumerate over a tuple. -/
namespace KC
open PySem PySem.Spec PyProof.Rows L2 KA
set_option maxHeartbeats 1000000 in
theorem meets_enum_newB1 {v : Value} {o : Obj} {H : Heap → Prop} (B : Begins v o H) :
    Meets (Builtin.«enumerate.__new__» ⟨[.type "enumerate", v], []⟩) (fun _ R s => H s.heap ∧
      R (.ok (.ret (.ref (s.heap.push o).objs.size))) { s with heap := (s.heap.push o).push { cls := .type "enumerate", data := .fields #[.none, .bool false, .ref s.heap.objs.size, rawInt 0, .none, .none] } }) :=
  .of_wp fun prog w A R s h => by
    obtain ⟨hp, g, d, tk, os⟩ := s; obtain ⟨h1, h⟩ := h
    have hsub := sub_enumerate
    have q1 : ∀ {A' : Around} {E : Value → Shared → Prop} {Q : Value → Shared → Prop}, Q (.ref hp.objs.size) ⟨hp.push o, g, d, tk, os⟩ → wpAny (model prog w) A' (pyIter v) Q E ⟨hp, g, d, tk, os⟩ :=
      fun q => B.iter prog w _ _ ⟨hp, g, d, tk, os⟩ _ h1 q
    wp_walk using q1
    refine wpAny_stack_any fun st => wpAny_pure ?_
    split
    · rename_i c _ _ _ _ _
      cases (c == Value.type "enumerate")
      · wp_walk using q1
        exact ⟨_, rfl, h⟩
      · wp_walk using q1
        exact ⟨_, rfl, h⟩
    · wp_walk using q1
      exact ⟨_, rfl, h⟩
section
variable {prog : Program} {w : World} {A : Around} {E : Value → Shared → Prop} {s : Shared}
theorem call_enum_tup {l : Addr} {items : Array Value} {Q : Value → Shared → Prop} (h1 : s.heap.IsTuple l items)
    (h : ∀ h', IsEnum h' (s.heap.objs.size + 1) s.heap.objs.size 0 .none → h'.IsTupleIter s.heap.objs.size l 0 → h'.objs.size = s.heap.objs.size + 2 →
      (∀ b o, s.heap.get? b = some o → h'.get? b = some o) → Q (.ref (s.heap.objs.size + 1)) { s with heap := h' }) :
    wpAny (model prog w) A (call (.type "enumerate") [.ref l]) Q E s := by
  refine callType_new F.called_enumerate (by decide) (F.typeCall_enumerate_1 _) (F.newCall_enumerate_1 _) (fun obj => F.args_object_init_2 obj _) F.entry_enumerate_new
    (meets_enum_newB1 (begins_tuple l items)) ⟨h1, ?_⟩
  have hz : (s.heap.push { cls := .type "tuple_iterator", data := .fields #[.ref l, .int 0 0] }).objs.size = s.heap.objs.size + 1 := Heap.size_push ..
  show _ ∧ _
  rw [hz]
  have he : IsEnum ((s.heap.push { cls := .type "tuple_iterator", data := .fields #[.ref l, .int 0 0] }).push
      { cls := .type "enumerate", data := .fields #[.none, .bool false, .ref s.heap.objs.size, rawInt 0, .none, .none] }) (s.heap.objs.size + 1) s.heap.objs.size 0 .none := by
    have := Heap.get?_push_size (s.heap.push { cls := .type "tuple_iterator", data := .fields #[.ref l, .int 0 0] })
      (o := { cls := .type "enumerate", data := .fields #[.none, .bool false, .ref s.heap.objs.size, rawInt 0, .none, .none] }) rfl
    rw [hz] at this; exact this
  refine ⟨⟨_, he, rfl⟩, h _ he ⟨_, Heap.get?_push_of_some _ (Heap.get?_push_size _ rfl), rfl, rfl⟩ (by rw [Heap.size_push, hz]) fun b o x => Heap.get?_push_of_some _ (Heap.get?_push_of_some _ x)⟩
end
/-- the tuple at a, each item in a new pair -/
def IteT (K : PySem.W.Frag) (a : Addr) : It :=
  ⟨fun i H => ∃ (xs : List V) (x : V), SqT K H a xs ∧ xs[i]? = some x, fun i H v H' => ∃ T x, v = .ref T ∧ H T = none ∧ H' = upd H T (.tup [.int (i : Nat), x]) ∧ ∀ xs, SqT K H a xs → xs[i]? = some x, fun i H => ∃ xs : List V, SqT K H a xs ∧ xs.length ≤ i⟩
theorem turn_enumT {P : Program} {w : World} {K : PySem.W.Frag} {elts : List Expr} {kk : Nat} {tpos : Pos} (a e it : Addr) :
    Turn P w K (.Tuple elts kk tpos) (IteT K a) [e, it] e (fun i h => (∃ old, IsEnum h e it ((i : Nat) : Int) old) ∧ h.IsTupleIter it a i ∧ e ≠ it ∧ a ≠ it ∧ e ≠ a) where
  mem := by simp
  obj := fun i h st b hb => by
    obtain ⟨⟨old, he⟩, ⟨o, ho, hc, hd⟩, _⟩ := st
    have e' : b = e ∨ b = it := by simpa using hb
    rcases e' with z | z
    · rw [z]; exact ⟨_, he, fun v q => nomatch q⟩
    · rw [z]; exact ⟨o, ho, fun v q => by rw [hd] at q; cases q⟩
  keep := fun i h h' st k => let ⟨⟨old, he⟩, hi, hne⟩ := st; ⟨⟨old, k e (by simp) _ he⟩, hi.at fun o q => k it (by simp) o q, hne⟩
  item := by
    intro X hP hw hK hc i pins s σ H E I hf st hg
    subst hP hw hK
    obtain ⟨⟨old, he⟩, hit, hne, hat, hea⟩ := st
    obtain ⟨xs, x, hq, hx⟩ := hg
    obtain ⟨its, rv, p, hz⟩ := I.tuple hq
    obtain ⟨u, hu, ru⟩ := rv.get hx
    have hel : e < s.heap.objs.size := Heap.lt_size he
    have hil : it < s.heap.objs.size := by obtain ⟨_, q, _⟩ := hit; exact Heap.lt_size q
    have hu2 : its.toArray[i]? = some u := by simpa using hu
    have hlt : i < its.toArray.size := by
      rcases Nat.lt_or_ge i its.toArray.size with c | c
      · exact c
      · rw [Array.getElem?_eq_none c] at hu2
        cases hu2
    refine wpAny_pyNext_enum_itemD (Draws.tuple (A := X.A.in1) (I.ok.hd hc) it a hat its.toArray) he ⟨hit, p⟩ hlt hne (by simp [hne, hea]) fun y h' tk hy ho st' hT hsz hk => ?_
    have ey : y = u := Option.some.inj (hy.symm.trans hu2)
    subst ey
    refine ⟨_, rfl, wpAny_letOwnedTupleGo_enum (s := { s with heap := h', toks := tk + 1 }) ho fun h'' he' sb => ?_⟩
    have hT2 : h''.get? s.heap.objs.size = some { cls := .type "tuple", data := .seq #[.int i tk, y] } := (sb.2 _ (Nat.ne_of_gt hel)).trans hT
    have new : ObjOk X.prog X.w (upd H s.heap.objs.size (.tup [.int (i : Nat), x])) h'' s.heap.objs.size (.tup [.int (i : Nat), x]) :=
      ⟨by show 2 ≤ sizeLine; decide, [.int i tk, y], .cons ⟨_, rfl⟩ (.cons ru .nil), ⟨_, hT2, rfl, _, rfl⟩⟩
    have I1 : Inv X pins σ (upd H s.heap.objs.size (.tup [.int (i : Nat), x])) { s with heap := h'', toks := tk + 1 } :=
      I.turnedNew (ch := [e, it]) (fun b ob hb q => (sb.2 b (fun z => hb (by simp [z]))).trans (hk b ob (fun z => hb (by simp [z])) (fun z => hb (by simp [z])) q)) hf (Nat.le_refl _) new
    refine ⟨.ref s.heap.objs.size, _, I1, rfl, ⟨_, x, rfl, I.hok.fresh (Nat.le_refl _), rfl, fun ys hy => by rw [I.tuple_inj hy hq]; exact hx⟩, ⟨⟨y, ?_⟩, st'.1.at fun o q => (sb.2 it (Ne.symm hne)).trans q, hne, hat, hea⟩, fun b hb => ?_⟩
    · have e1 : ((i + 1 : Nat) : Int) = (i : Int) + 1 := by omega
      rw [e1]; exact he'
    · have hb' : b < s.heap.objs.size := by
        have e' : b = e ∨ b = it := by simpa using hb
        rcases e' with z | z
        · rw [z]; exact hel
        · rw [z]; exact hil
      rw [upd_ne (Nat.ne_of_lt hb')]
      exact (hf b hb).1
  done := by
    intro X hP hw hK hc i pins s σ H E I hf st hg
    subst hP hw hK
    obtain ⟨⟨old, he⟩, hit, hne, hat, hea⟩ := st
    obtain ⟨xs, hq, hx⟩ := hg
    obtain ⟨its, rv, p, hz⟩ := I.tuple hq
    obtain ⟨f0, f1, f2, f3, f4, f5⟩ := hf it (by simp)
    have hl := rv.length
    have hT : s.TypeIs (.ref e) "enumerate" := ⟨_, he, rfl⟩
    unfold pyNext
    refine wpAny_bind (wpAny_attempt (wpAny_callSpecial?_slot (name := Str.ofString "__next__") hT F.slot_enumerate_next
      (wpAny_call_entry F.slot_enumerate_next hT F.entry_enumerate_next ?_ (F.args_enumerate_next_1 _))))
    show wpAny _ _ (field (.ref e) 2 >>= _) _ _ _
    refine wpAny_bind (wpAny_field he rfl (x := .ref it) rfl ?_)
    refine wpAny_bind (wpAny_nextOf_tuple_end (I.ok.hd hc) hit p (by simp; omega) fun h' x he' hx' => ?_)
    obtain ⟨o, ho, hc⟩ := hx'
    refine wpAny_bind (wpAny_isInstance (T := "StopIteration") (b := true) ⟨o, ho, hc⟩ isSubtype_stop ?_)
    exact wpAny_pure ⟨rfl, I.turned (t' := s.toks) (fun b o hb q => he' b o hb q) f0 f1 f3 f4 f5⟩
  self := fun A i s Q E st h => let ⟨⟨_, he⟩, _⟩ := st; wpAny_pyIter_enum he h
def iEnumT (K : PySem.W.Frag) (ta : TA) : TI := fun σ H R => ta σ H fun vs H1 => ∃ a xs, vs = [.ref a] ∧ SqT K H1 a xs ∧ R (IteT K a) H1
theorem pi_enumT {X : Cx} {e : Expr} {ta : TA} {p pos tpos : Pos} {elts : List Expr} {kk : Nat} (hg : Gl X "enumerate") (hm : X.mg "enumerate" = none) (ha : PA X [e] ta) (hs : starEach [e] X.env = [(false, eval e X.env)] := by rfl) :
    PI X (.Tuple elts kk tpos) (.Call (.Name "enumerate" p) [e] [] pos) (iEnumT X.K ta) := by
  refine ⟨fun pins s σ H R I h => ?_⟩
  refine Call_ (ld_blt I hg hm boot_enumerate (PyProof.Rows.callWith_type1 (thn (ha.run pos pins s σ H _ I h) fun us s1 ⟨vs, H1, I1, r1, q1⟩ => ?_) hs rfl))
  obtain ⟨a, xs, ex, hq, q⟩ := q1
  subst ex
  cases r1 with
  | cons r rr =>
    cases rr
    cases r
    obtain ⟨its, rv, p', hz⟩ := I1.tuple hq
    have hal : a < s1.heap.objs.size := by obtain ⟨_, q, _⟩ := id p'; exact Heap.lt_size q
    refine call_enum_tup (show s1.heap.IsTuple a its.toArray from p') fun h' he hit hsz hk => wpAny_pyIter_enum he ?_
    have I2 : Inv X pins σ H1 { s1 with heap := h' } := I1.kept (t' := s1.toks) hk
    refine ⟨s1.heap.objs.size + 1, [s1.heap.objs.size + 1, s1.heap.objs.size], _, _, H1, rfl, I2, turn_enumT a (s1.heap.objs.size + 1) s1.heap.objs.size, ⟨⟨.none, he⟩, hit, Nat.succ_ne_self _, Nat.ne_of_lt hal, Nat.ne_of_gt (Nat.lt_succ_of_lt hal)⟩, fun b hb => ?_, q⟩
    have e' : b = s1.heap.objs.size + 1 ∨ b = s1.heap.objs.size := by simpa using hb
    have hle : s1.heap.objs.size ≤ b := by
      rcases e' with z | z
      · rw [z]; exact Nat.le_add_right _ _
      · rw [z]; exact Nat.le_refl _
    exact I1.fpOk hle (I1.hok.fresh hle)
/-- a loop over enumerate of a tuple that stays -/
theorem for_enumT {K : PySem.W.Frag} {a : Addr} {xs : List V} {g : TG} {tb : TS} {D : Ends} {σ : L2.St} {H : Hp} (Pv : Nat → L2.St → Hp → Prop) (h0 : Pv 0 σ H) (hq : ∀ i σ H, i ≤ xs.length → Pv i σ H → SqT K H a xs)
    (hs : ∀ (i : Nat) (x : V) (T : Addr) (σ : L2.St) (H : Hp), xs[i]? = some x → Pv i σ H → H T = none → g (.ref T) σ (upd H T (.tup [.int (i : Nat), x])) fun σ2 H2 => tb { D with nx := Pv (i + 1), ct := Pv (i + 1), bk := D.nx } σ2 H2) (hd : ∀ σ H, Pv xs.length σ H → D.nx σ H) :
    ∃ W : Nat → Nat → L2.St → Hp → Prop, (∃ m, W 0 m σ H) ∧ ∀ i m σ H, W i m σ H →
      ((IteT K a).stop i H ∧ D.nx σ H) ∨ ((IteT K a).go i H ∧ ∃ N : L2.St → Hp → Prop, (∀ σ' H', N σ' H' → ∃ m', m' < m ∧ W (i + 1) m' σ' H') ∧ ∀ v H', (IteT K a).yld i H v H' → g v σ H' fun σ2 H2 => tb { D with nx := N, ct := N, bk := D.nx } σ2 H2) := by
  refine ⟨fun i m σ H => m = xs.length - i ∧ i ≤ xs.length ∧ Pv i σ H, ⟨xs.length, rfl, Nat.zero_le _, h0⟩, ?_⟩
  rintro i m σ H ⟨rfl, hi, p⟩
  have qx := hq i σ H hi p
  by_cases hlt : i < xs.length
  · have hx : xs[i]? = some xs[i] := List.getElem?_eq_getElem hlt
    refine .inr ⟨⟨xs, _, qx, hx⟩, Pv (i + 1), fun σ' H' p' => ⟨xs.length - (i + 1), by omega, rfl, hlt, p'⟩, fun v H' y => ?_⟩
    obtain ⟨T, x', rfl, hT, rfl, f1⟩ := y
    exact hs i x' T σ H (f1 xs qx) p hT
  · have e : i = xs.length := by omega
    subst e
    exact .inl ⟨⟨xs, qx, Nat.le_refl _⟩, hd σ H p⟩
end KC

/-! setdefault of a dict keyed by tuples. -/
namespace KC
open PySem PySem.Spec PyProof.Rows L2 KA
def tDSetdT (td ty tx : TE) : TE := fun σ H Q => td σ H fun x H1 => ∃ a, x = .ref a ∧ IsD H1 a ∧ ty σ H1 fun y H2 => tx σ H2 fun z H3 => ∃ (kvs : List (List Key × V)) (k : List Key) (b : Addr), H3 a = some (.dT kvs) ∧ y = .ref b ∧ H3 b = some (.tup (k.map kV)) ∧ kvs.length < sizeLine ∧
  (∀ v, valV kvs k = some v → Q v H3) ∧ (valV kvs k = none → Q z (upd H3 a (.dT (putK kvs k z))))
section
variable {X : Cx} {o e f : Expr} {td ty tx : TE} {apos cpos : Pos}
theorem pe_dsetdT (hu : X.A.units + 1 < cLine) (ho : PE X o td) (he : PE X e ty) (hf : PE X f tx) (m : M2 X o "setdefault" apos e f cpos) : PE X (.Call (.Attribute o "setdefault" apos) [e, f] [] cpos) (tDSetdT td ty tx) := by
  refine ⟨fun pins s σ H Q I h => ?_⟩
  refine wpAny_Call_method m.base m.few m.line PySem.F.plainAttrs_dict PySem.F.slot_dict_setdefault PySem.F.type_dict_setdefault (thn (ho.run pins s σ H _ I h) fun u s1 ⟨x, H1, I1, rx, a, ex, d, q1⟩ => ?_)
  subst ex
  obtain rfl : u = Value.ref a := rx
  obtain ⟨t1, t2, _⟩ := isD_at I1 d
  refine ⟨t1, t2, ?_⟩
  rw [m.trees]
  refine Calls.callWith_builtin rfl (Calls.evalArgs_plain (Calls.spliced_cons (thn (he.run pins s1 σ H1 _ I1 q1) fun iv s2 ⟨y, H2, I2, ry, q2⟩ =>
    Calls.spliced_cons (thn (hf.run pins s2 σ H2 _ I2 q2) fun fv s3 ⟨z, H3, I3, rz, kvs, k, b, ea, ey, eb, hl, q3, q4⟩ => Calls.spliced_nil ?_))))
  subst ey
  obtain rfl : iv = Value.ref b := ry
  obtain ⟨zz, hd, xs, rel, dd⟩ := dt_of I3.hok ea
  have hz : xs.length ≤ sizeLine := by rw [← Paired.length rel]; exact zz
  refine call_setdefault_heap (hsz := hz) (tupleKind_room_in1 hu) (key_of I3.hok eb) hd dd (fun p hp => ?_) fun hn h' dd' hs => ?_
  · have r := rel.val k
    rw [hp] at r
    obtain ⟨v0, ev, rv⟩ : ∃ v0, valV kvs k = some v0 ∧ RelV v0 p.2 := by
      cases ev : valV kvs k with
      | none =>
        rw [ev] at r
        exact (show False from r).elim
      | some v0 =>
        rw [ev] at r
        exact ⟨v0, rfl, r⟩
    exact ⟨v0, _, I3.tok _, rv, q3 v0 ev⟩
  · have r := rel.val k
    rw [hn] at r
    have e : valV kvs k = none := by
      cases ev : valV kvs k with
      | none => rfl
      | some v0 =>
        rw [ev] at r
        exact (show False from r).elim
    have hl : (putK kvs k z).length ≤ sizeLine := by have := length_putK kvs k z; omega
    obtain ⟨q, es, ep, hq, h2, h3, h4, _, h5⟩ := dd'
    have new : ObjOk X.prog X.w (upd H3 a (.dT (putK kvs k z))) h' a (.dT (putK kvs k z)) :=
      ⟨hl, hd, _, (rel.put k eb rz).keeps fun c ys ec => (by rw [upd_ne (ne_of ec ea (fun z => nomatch z))]; exact ec), q, es, ep, hq, h2, h3, h4, h5⟩
    exact ⟨z, _, d_write I3 (by rw [ea]; exact True.intro) hs ⟨q, hq⟩ new, rz, q4 e⟩
end
/-! ### split_terms -/
theorem splitT_var (bound : Str → Bool) (x : Str) (ts : List T) (n : Nat) (s : Sp1) : splitT bound (.var x :: ts) n s = if bound x then splitT bound ts (n + 1) { s with known := s.known ++ [n] } else
    match lookN s.first x with
    | some m => splitT bound ts (n + 1) { s with pairs := s.pairs ++ [(m, n)] }
    | none => splitT bound ts (n + 1) { s with first := s.first ++ [(x, n)] } := by
  rw [splitT]
  all_goals rfl
theorem splitT_append (bound : Str → Bool) : ∀ (xs : List T) (t : T) (n : Nat) (s : Sp1), splitT bound (xs ++ [t]) n s = splitT bound [t] (n + xs.length) (splitT bound xs n s)
  | [], t, n, s => rfl
  | .any :: xs, t, n, s => by
    show splitT bound (xs ++ [t]) (n + 1) s = splitT bound [t] (n + (xs.length + 1)) (splitT bound xs (n + 1) s)
    rw [splitT_append bound xs t (n + 1) s, show n + 1 + xs.length = n + (xs.length + 1) from by omega]
  | .val k :: xs, t, n, s => by
    show splitT bound (xs ++ [t]) (n + 1) _ = splitT bound [t] (n + (xs.length + 1)) (splitT bound xs (n + 1) _)
    rw [splitT_append bound xs t (n + 1) _, show n + 1 + xs.length = n + (xs.length + 1) from by omega]
  | .var x :: xs, t, n, s => by
    show splitT bound (.var x :: (xs ++ [t])) n s = splitT bound [t] (n + (xs.length + 1)) (splitT bound (.var x :: xs) n s)
    rw [show n + (xs.length + 1) = n + 1 + xs.length from by omega, splitT_var, splitT_var]
    by_cases c : bound x = true
    · rw [if_pos c, if_pos c, splitT_append bound xs t (n + 1) _]
    · rw [if_neg c, if_neg c]
      cases lookN s.first x with
      | some m => exact splitT_append bound xs t (n + 1) _
      | none => exact splitT_append bound xs t (n + 1) _
def frK (first : List (Str × Nat)) : List (Key × V) := first.map fun p => ((Sum.inr p.1 : Key), V.int ((p.2 : Nat) : Int))
def pairD (p : Nat × Nat) : PyData := .tuple [.int (p.1 : Nat), .int (p.2 : Nat)]
theorem frK_val (x : Str) : ∀ first : List (Str × Nat), valV (frK first) (Sum.inr x) = (lookN first x).map fun n => V.int (n : Nat)
  | [] => rfl
  | p :: f => by
    show valV (((Sum.inr p.1 : Key), V.int ((p.2 : Nat) : Int)) :: frK f) (Sum.inr x) = _
    by_cases c : p.1 = x
    · rw [valV_pos (by rw [c])]
      unfold lookN
      rw [List.find?_cons, decide_eq_true c]
      rfl
    · rw [valV_neg (fun z => c (by injection z)), frK_val x f]
      unfold lookN
      rw [List.find?_cons, decide_eq_false c]
theorem frK_put {x : Str} {n : Nat} {first : List (Str × Nat)} (h : lookN first x = none) : putK (frK first) (Sum.inr x) (.int (n : Nat)) = frK (first ++ [(x, n)]) := by
  rw [putK_new _ (by rw [frK_val, h]; rfl)]
  unfold frK
  rw [List.map_append]
  rfl
/-- sizes of a split -/
theorem split_le (bound : Str → Bool) : ∀ (ts : List T) (n : Nat) (s : Sp1), (splitT bound ts n s).known.length ≤ s.known.length + ts.length ∧ (splitT bound ts n s).first.length ≤ s.first.length + ts.length ∧ (splitT bound ts n s).pairs.length ≤ s.pairs.length + ts.length
  | [], n, s => ⟨Nat.le_refl _, Nat.le_refl _, Nat.le_refl _⟩
  | .any :: ts, n, s => by
    obtain ⟨a, b, c⟩ := split_le bound ts (n + 1) s
    exact ⟨Nat.le_trans a (by simp), Nat.le_trans b (by simp), Nat.le_trans c (by simp)⟩
  | .val k :: ts, n, s => by
    obtain ⟨a, b, c⟩ := split_le bound ts (n + 1) { s with known := s.known ++ [n] }
    simp only [List.length_append, List.length_cons, List.length_nil] at a b c
    refine ⟨Nat.le_trans a ?_, Nat.le_trans b ?_, Nat.le_trans c ?_⟩ <;> simp <;> omega
  | .var x :: ts, n, s => by
    unfold splitT
    by_cases c : bound x = true
    · rw [if_pos c]
      obtain ⟨a, b, c⟩ := split_le bound ts (n + 1) { s with known := s.known ++ [n] }
      simp only [List.length_append, List.length_cons, List.length_nil] at a b c
      refine ⟨Nat.le_trans a ?_, Nat.le_trans b ?_, Nat.le_trans c ?_⟩ <;> simp <;> omega
    · rw [if_neg c]
      cases lookN s.first x with
      | some m =>
        obtain ⟨a, b, c⟩ := split_le bound ts (n + 1) { s with pairs := s.pairs ++ [(m, n)] }
        simp only [List.length_append, List.length_cons, List.length_nil] at a b c
        refine ⟨Nat.le_trans a ?_, Nat.le_trans b ?_, Nat.le_trans c ?_⟩ <;> simp <;> omega
      | none =>
        obtain ⟨a, b, c⟩ := split_le bound ts (n + 1) { s with first := s.first ++ [(x, n)] }
        simp only [List.length_append, List.length_cons, List.length_nil] at a b c
        refine ⟨Nat.le_trans a ?_, Nat.le_trans b ?_, Nat.le_trans c ?_⟩ <;> simp <;> omega
end KC

namespace KC
open PySem PySem.Spec PyProof.Rows L2 KA
def SplitAt (H : Hp) (p : Addr) (s : Sp1) : Prop := ∃ k f q ys, H p = some (.tup [.ref k, .ref f, .ref q]) ∧ H k = some (.lst (s.known.map fun n => V.int ((n : Nat) : Int))) ∧ H f = some (.dK (frK s.first)) ∧ H q = some (.lst ys) ∧ Tps H ys (s.pairs.map pairD)
/-- while it is being made -/
structure SpInv (H0 H : Hp) (k f q : Addr) (s : Sp1) : Prop where
  sm : Same H0 H
  ek : H k = some (.lst (s.known.map fun n => V.int ((n : Nat) : Int)))
  ef : H f = some (.dK (frK s.first))
  eq : ∃ ys, H q = some (.lst ys) ∧ Tps H ys (s.pairs.map pairD)
  nk : H0 k = none
  nf : H0 f = none
  nq : H0 q = none
  kq : k ≠ q
theorem SpInv.same {H0 H H' : Hp} {k f q : Addr} {s : Sp1} (h : SpInv H0 H k f q s) (sm : Same H H') : SpInv H0 H' k f q s := by
  obtain ⟨ys, e, t⟩ := h.eq
  exact ⟨h.sm.trans sm, sm _ _ h.ek, sm _ _ h.ef, ⟨ys, sm _ _ e, t.mono (Tk.of sm)⟩, h.nk, h.nf, h.nq, h.kq⟩
theorem same_put {H0 H : Hp} {a : Addr} {o : HO} (s : Same H0 H) (n : H0 a = none) : Same H0 (upd H a o) := fun b u h => by
  rw [upd_ne (ne_of_none h n)]
  exact s b u h
def tName : T → Str
  | .any => "any"
  | .val _ => "value"
  | .var _ => "variable"
theorem pairs_get {H : Hp} {v : V} {t : T} (tt : Tp H v (tD t)) : ∃ p r, v = .ref p ∧ H p = some (.tup r) ∧ atI r 0 = some (.str (tName t)) ∧ (∀ x, t = .var x → atI r 1 = some (.str x)) ∧ (∀ k, t = .val k → atI r 1 = some (kV k)) := by
  cases t with
  | any =>
    obtain ⟨p, rfl, e⟩ := tD_any tt
    exact ⟨p, _, rfl, e, rfl, fun x h => (by cases h), fun x h => (by cases h)⟩
  | val k =>
    obtain ⟨p, rfl, e⟩ := tD_val tt
    exact ⟨p, _, rfl, e, rfl, fun x h => (by cases h), fun x h => (by cases h; rfl)⟩
  | var x =>
    obtain ⟨p, rfl, e⟩ := tD_var tt
    exact ⟨p, _, rfl, e, rfl, fun x h => (by cases h; rfl), fun x h => (by cases h)⟩
section
variable {P : Program} {w : World} {K : PySem.W.Frag} {mg : Str → Option Value} {base : Heap}
abbrev sSp : Stmt := topS 4
abbrev nSp : List Str := ["terms", "values", "known", "first", "pairs", "at", "term"]
theorem scSp : FnScope nSp ["terms", "values"] (defScope sSp) := ⟨rfl, rfl, rfl, by decide +kernel, rfl, by decide +kernel, by decide +kernel⟩
abbrev bnd (e : Env1) : Str → Bool := fun x => (look e x).isSome
abbrev spl (e : Env1) (ts : List T) : Sp1 := splitT (bnd e) ts 0 ⟨[], [], []⟩
def spSp : Sp := fun vs H Q _ => ∃ (u a : Addr) (xs : List V) (ts : List T) (kvs : List (Key × V)) (e : Env1), vs = [.ref u, .ref a] ∧ H u = some (.tup xs) ∧ Tps H xs (ts.map tD) ∧ Rd H a (.dK kvs) ∧ EnvOf kvs e ∧ ts.length ≤ 900 ∧
  ∀ (p : Addr) H', Same H H' → SplitAt H' p (spl e ts) → Q (.ref p) H'
theorem take_snoc {α : Type} {ns : List α} {i : Nat} {x : α} (e : ns[i]? = some x) : ns.take (i + 1) = ns.take i ++ [x] := take_next e
theorem ok_sp {f0 : Addr} {fd : FuncData} (F : Fun K "split_terms" "split_terms" sSp f0 fd) (hE : mg "enumerate" = none) : FnOk P w K mg base CX0 1 f0 fd ["terms", "values"] spSp := by
  refine F.ok scSp (fun vs H Q E h => ?_) (fun cdv A outer s H vs Q E hr h => ?_)
  · obtain ⟨_, _, _, _, _, _, rfl, _⟩ := h
    rfl
  · obtain ⟨u, a, xs, ts, kvs, e, rfl, eu, tx, rd, en, lt, q⟩ := h
    have hu := hu_of hr
    refine ⟨_, pss_cons (ps_par3 (i := 2) (j := 3) (l := 4) (by rfl) scSp.nd rfl rfl rfl (by decide) (by decide) (by decide) rfl rfl rfl (pa_cons (pe_lst pa_nil) (pa_cons pe_dnewK (pa_cons (pe_lst pa_nil) pa_nil))) (by rfl))
      (pss_cons (ps_for PassesOwn.never rfl (pi_enumT (by rfl) hE (pa_cons (pv 0) pa_nil)) (pg_tup rfl (pgs_cons (pg_name (i := 5) scSp.nd rfl (.inl rfl)) (pgs_cons (pg_name (i := 6) scSp.nd rfl (.inl rfl)) pgs_nil)))
        (pss_cons (ps_if (pt_cmpR op_eq (pe_ix ix_tup (pv 6) pe_int (fun _ _ => rfl)) pe_str (nomark _)) (pss_one ps_continue) pss_nil)
        (pss_one (ps_if (PW.pt (pw_or (pt_cmpR op_eq (pe_ix ix_tup (pv 6) pe_int (fun _ _ => rfl)) pe_str (nomark _)) (pw_or1 (pt_cmp (pc_din hu (pe_ix ix_tup (pv 6) pe_int (fun _ _ => rfl)) (pv 1))))))
          (pss_one (ps_expr (pe_bm PySem.F.plainAttrs_list PySem.F.slot_list_append PySem.F.type_list_append mt_append (pv 2) (pa_cons (pv 5) pa_nil))))
          (pss_one (ps_if (pt_cmp (pc_din hu (pe_ix ix_tup (pv 6) pe_int (fun _ _ => rfl)) (pv 3)))
            (pss_one (ps_expr (pe_bm PySem.F.plainAttrs_list PySem.F.slot_list_append PySem.F.type_list_append mt_append (pv 4) (pa_cons (pe_tup (pa_cons (pe_dget hu (pv 3) (pe_ix ix_tup (pv 6) pe_int (fun _ _ => rfl)) (fun _ _ => rfl)) (pa_cons (pv 5) pa_nil))) pa_nil))))
            (pss_one (ps_dput hu (pv 3) (pe_ix ix_tup (pv 6) pe_int (fun _ _ => rfl)) (pv 5) rfl))))))))
      (pss_one (ps_ret (pe_tup (pa_cons (pv 2) (pa_cons (pv 3) (pa_cons (pv 4) pa_nil))))))), ?_⟩
    refine ⟨(by show 0 ≤ sizeLine; decide), fun k nk => ?_⟩
    intro f nf
    refine ⟨(by show 0 ≤ sizeLine; decide), fun g ng => ?_⟩
    refine ⟨_, _, _, rfl, ?_⟩
    have s1 : Same H (upd H k (.lst [])) := same_new nk
    have s2 := same_new (o := .dK []) nf
    have s3 := same_new (o := .lst []) ng
    have e1 : (upd H k (.lst [])) k = some (.lst []) := upd_same
    have e2 : (upd (upd H k (.lst [])) f (.dK [])) f = some (.dK []) := upd_same
    have e3 : (upd (upd (upd H k (.lst [])) f (.dK [])) g (.lst [])) g = some (.lst []) := upd_same
    have back : ∀ {H0 H1 : Hp} {c : Addr}, Same H0 H1 → H1 c = none → H0 c = none := fun {H0 H1 c} sm n => by
      cases z : H0 c with
      | none => rfl
      | some o => rw [sm _ _ z] at n; cases n
    have I0 : SpInv H (upd (upd (upd H k (.lst [])) f (.dK [])) g (.lst [])) k f g ⟨[], [], []⟩ :=
      ⟨(s1.trans s2).trans s3, s3 _ _ (s2 _ _ e1), s3 _ _ e2, ⟨[], e3, .nil⟩, nk, back s1 nf, back (s1.trans s2) ng, fun z => by
        rw [← z, s2 _ _ e1] at ng
        cases ng⟩
    revert I0
    generalize (upd (upd (upd H k (.lst [])) f (.dK [])) g (.lst [])) = H4
    intro I0
    have lx : xs.length = ts.length := by rw [tx.length, List.length_map]
    refine ⟨.ref u, rfl, u, xs, rfl, SqT.of (I0.sm _ _ eu), ?_⟩
    refine for_enumT (K := K) (a := u) (xs := xs) (fun i σ H' => (∃ x5 x6, σ = [some (.ref u), some (.ref a), some (.ref k), some (.ref f), some (.ref g), x5, x6]) ∧ SpInv H H' k f g (splitT (bnd e) (ts.take i) 0 ⟨[], [], []⟩)) ⟨⟨none, none, rfl⟩, I0⟩ (fun i σ H' _ hP => SqT.of (hP.2.sm _ _ eu)) (fun i x T σ H' hx hP nT => ?_) (fun σ H' hP => ?_)
    · obtain ⟨⟨x5, x6, rfl⟩, I⟩ := hP
      refine ⟨T, _, rfl, SqT.of upd_same, rfl, _, _, rfl, _, _, rfl, rfl, ?_⟩
      have I := I.same (same_new (o := .tup [.int (i : Nat), x]) nT)
      revert I
      generalize upd H' T (.tup [.int (i : Nat), x]) = H2
      intro I
      obtain ⟨t, et, tt⟩ := term_get tx hx
      have tt := tt.mono (Tk.of I.sm)
      have hi : i < ts.length := (List.getElem?_eq_some_iff.mp et).1
      have etk : splitT (bnd e) (ts.take (i + 1)) 0 ⟨[], [], []⟩ = splitT (bnd e) [t] i (splitT (bnd e) (ts.take i) 0 ⟨[], [], []⟩) := by
        rw [take_snoc et, splitT_append, List.length_take, Nat.zero_add, Nat.min_eq_left (Nat.le_of_lt hi)]
      obtain ⟨b1, b2, b3⟩ := split_le (bnd e) (ts.take i) 0 ⟨[], [], []⟩
      rw [List.length_take] at b1 b2 b3
      simp only [List.length_nil] at b1 b2 b3
      rw [etk]
      revert b1 b2 b3 I
      generalize splitT (bnd e) (ts.take i) 0 ⟨[], [], []⟩ = sp
      intro I b1 b2 b3
      obtain ⟨pt, r, rfl, ep, er0, er1, er2⟩ := pairs_get tt
      cases t with
      | any =>
        refine ⟨.ref pt, rfl, pt, r, 0, .str "any", rfl, rfl, SqT.of ep, er0, rfl, _, rfl, yes_if ?_⟩
        exact ⟨⟨_, _, rfl⟩, I⟩
      | val v =>
        refine ⟨.ref pt, rfl, pt, r, 0, .str "value", rfl, rfl, SqT.of ep, er0, rfl, _, rfl, no_if (by decide +kernel) ?_⟩
        refine ⟨.ref pt, rfl, pt, r, 0, .str "value", rfl, rfl, SqT.of ep, er0, rfl, _, rfl, ?_⟩
        rw [decide_eq_true rfl]
        refine iteT (iteT ?_)
        refine ⟨.ref k, rfl, .inl ⟨rfl, _, SqL.of I.ek⟩, .int i, rfl, k, _, _, rfl, rfl, I.ek, small1000 (by rw [List.length_map]; omega), ?_⟩
        refine ⟨⟨_, _, rfl⟩, same_put I.sm I.nk, ?_, ?_, ?_, I.nk, I.nf, I.nq, I.kq⟩
        · rw [upd_same]
          show some (HO.lst _) = some (HO.lst ((sp.known ++ [i]).map _))
          rw [List.map_append]
          rfl
        · rw [upd_ne (ne_of I.ef I.ek (by intro z; cases z))]
          exact I.ef
        · obtain ⟨ys, ey, ty⟩ := I.eq
          exact ⟨ys, by rw [upd_ne I.kq.symm]; exact ey, ty.mono (Tk.lst I.ek)⟩
      | var y =>
        have er := er1 y rfl
        refine ⟨.ref pt, rfl, pt, r, 0, .str "variable", rfl, rfl, SqT.of ep, er0, rfl, _, rfl, no_if (by decide +kernel) ?_⟩
        refine ⟨.ref pt, rfl, pt, r, 0, .str "variable", rfl, rfl, SqT.of ep, er0, rfl, _, rfl, ?_⟩
        rw [decide_eq_false (by decide +kernel)]
        refine iteF ?_
        refine ⟨.ref pt, rfl, pt, r, 1, .str y, rfl, rfl, SqT.of ep, er, .ref a, rfl, a, (look e y).map kV, rfl, .inl ⟨kvs, Sum.inr y, Rd.same rd I.sm, rfl, (en.at_ y).symm⟩, _, rfl, ?_⟩
        rw [Option.isSome_map]
        rw [splitT_var]
        cases hb : (look e y).isSome with
        | true =>
          rw [if_pos hb]
          refine iteT ?_
          refine ⟨.ref k, rfl, .inl ⟨rfl, _, SqL.of I.ek⟩, .int i, rfl, k, _, _, rfl, rfl, I.ek, small1000 (by rw [List.length_map]; omega), ?_⟩
          refine ⟨⟨_, _, rfl⟩, same_put I.sm I.nk, ?_, ?_, ?_, I.nk, I.nf, I.nq, I.kq⟩
          · rw [upd_same]
            show some (HO.lst _) = some (HO.lst ((sp.known ++ [i]).map _))
            rw [List.map_append]
            rfl
          · rw [upd_ne (ne_of I.ef I.ek (by intro z; cases z))]
            exact I.ef
          · obtain ⟨ys, ey, ty⟩ := I.eq
            exact ⟨ys, by rw [upd_ne I.kq.symm]; exact ey, ty.mono (Tk.lst I.ek)⟩
        | false =>
          have hb' : ¬ (bnd e y = true) := by
            show ¬ ((look e y).isSome = true)
            rw [hb]
            exact Bool.false_ne_true
          rw [if_neg hb']
          refine iteF ?_
          refine ⟨.ref pt, rfl, pt, r, 1, .str y, rfl, rfl, SqT.of ep, er, .ref f, rfl, f, (lookN sp.first y).map fun n => V.int (n : Nat), rfl, .inl ⟨_, Sum.inr y, .inl I.ef, rfl, (frK_val y _).symm⟩, _, rfl, ?_⟩
          rw [Option.isSome_map]
          cases hm : lookN sp.first y with
          | some m =>
            refine iteT ?_
            obtain ⟨ys, ey, ty⟩ := I.eq
            refine ⟨.ref g, rfl, .inl ⟨rfl, _, SqL.of ey⟩, .ref f, rfl, .ref pt, rfl, pt, r, 1, .str y, rfl, rfl, SqT.of ep, er, f, .int (m : Nat), rfl, .inl ⟨_, Sum.inr y, .inl I.ef, rfl, (by rw [frK_val, hm]; rfl)⟩, .int i, rfl, (by show 2 ≤ sizeLine; decide), fun t2 n2 => ?_⟩
            have ly : ys.length = sp.pairs.length := by rw [ty.length, List.length_map]
            have J := I.same (same_new (o := .tup [.int (m : Nat), .int (i : Nat)]) n2)
            have e2 : (upd H2 t2 (.tup [.int (m : Nat), .int (i : Nat)])) t2 = some (.tup [.int (m : Nat), .int (i : Nat)]) := upd_same
            have ey2 := same_new (o := .tup [.int (m : Nat), .int (i : Nat)]) n2 _ _ ey
            have ty2 := ty.mono (Tk.of (same_new (o := .tup [.int (m : Nat), .int (i : Nat)]) n2))
            revert J e2 ey2 ty2
            generalize upd H2 t2 (.tup [.int (m : Nat), .int (i : Nat)]) = H5
            intro J e2 ey2 ty2
            refine ⟨g, _, _, rfl, rfl, ey2, small1000 (by omega), ?_⟩
            refine ⟨⟨_, _, rfl⟩, same_put J.sm J.nq, ?_, ?_, ?_, J.nk, J.nf, J.nq, J.kq⟩
            · rw [upd_ne J.kq]
              exact J.ek
            · rw [upd_ne (ne_of J.ef ey2 (by intro z; cases z))]
              exact J.ef
            · refine ⟨_, upd_same, ?_⟩
              show Tps _ _ ((sp.pairs ++ [(m, i)]).map pairD)
              rw [List.map_append]
              refine (ty2.mono (Tk.lst ey2)).append ?_
              exact .cons (.tup (Tk.lst ey2 _ _ e2) (.cons (.int _) (.cons (.int _) .nil))) .nil
          | none =>
            refine iteF ?_
            have lf : (frK sp.first).length = sp.first.length := by unfold frK; rw [List.length_map]
            refine ⟨.int i, rfl, .ref f, rfl, .ref pt, rfl, pt, r, 1, .str y, rfl, rfl, SqT.of ep, er, f, _, rfl, .inl ⟨_, Sum.inr y, I.ef, rfl, small1000 (by omega), rfl⟩, ?_⟩
            refine ⟨⟨_, _, rfl⟩, same_put I.sm I.nf, ?_, ?_, ?_, I.nk, I.nf, I.nq, I.kq⟩
            · rw [upd_ne (ne_of I.ek I.ef (by intro z; cases z))]
              exact I.ek
            · rw [upd_same, frK_put hm]
              rfl
            · obtain ⟨ys, ey, ty⟩ := I.eq
              refine ⟨ys, by rw [upd_ne (ne_of ey I.ef (by intro z; cases z))]; exact ey, ty.mono fun b zs hb => ?_⟩
              rw [upd_ne (ne_of hb I.ef (by intro z; cases z))]
              exact hb
    · obtain ⟨⟨x5, x6, rfl⟩, I⟩ := hP
      rw [lx, List.take_length] at I
      refine ⟨.ref k, rfl, .ref f, rfl, .ref g, rfl, (by show 3 ≤ sizeLine; decide), fun p2 n2 => ?_⟩
      have J := I.same (same_new (o := .tup [.ref k, .ref f, .ref g]) n2)
      obtain ⟨ys, ey, ty⟩ := J.eq
      exact q p2 _ J.sm ⟨k, f, g, ys, upd_same, J.ek, J.ef, ey, ty⟩
end
end KC

namespace KC
open PySem PySem.Spec PyProof.Rows L2 KA
/-- a comprehension of values known ahead, that lays new things at most -/
theorem lc_vals {J : It} {n : Nat} {G : Hp → Prop} {Y : Nat → Hp → V → Hp → Prop} (w : Walk J n G Y) {g : TG} {tt : TT} {te : TE} {vs : List Nat} {σ : L2.St} {H1 : Hp} {D : Addr} {Qd : Hp → Prop} (ys : List V) (hl : ys.length = n) (hn : n ≤ 1000) (nD : H1 D = none)
    (hG : ∀ H, Same H1 H → G H)
    (hs : ∀ i x H2 H3 (Q : V → Hp → Prop) (R : Hp → Prop), i < n → Same H1 H2 → Y i H2 x H3 → (∀ y H5, Same H2 H5 → ys[i]? = some y → Q y H5) → g x (wipe σ vs) H3 fun σ2 H4 => wipe σ2 vs = wipe σ vs ∧ tt σ2 H4 fun b H5 => if b = true then te σ2 H5 Q else R H5)
    (hd : ∀ H, Same H1 H → H D = some (.lst ys) → Qd H) :
    ∃ W : Nat → Nat → Hp → Prop, (∃ m, W 0 m (upd H1 D (.lst []))) ∧ ∀ i m H, W i m H →
      (J.stop i H ∧ Qd H) ∨ (J.go i H ∧ ∃ Nx : Hp → Prop, (∀ H', Nx H' → ∃ m', m' < m ∧ W (i + 1) m' H') ∧ ∀ x H', J.yld i H x H' → g x (wipe σ vs) H' fun σ2 H2 => wipe σ2 vs = wipe σ vs ∧ tt σ2 H2 fun b H3 =>
        if b = true then te σ2 H3 fun y H4 => ∃ acc, H4 D = some (.lst acc) ∧ acc.length < sizeLine ∧ Nx (upd H4 D (.lst (acc ++ [y]))) else Nx H3) := by
  refine lc_it w (fun i H => Same H1 H ∧ H D = some (.lst (ys.take i))) ⟨same_new nD, upd_same⟩ (fun i H _ hP => hG H hP.1) (fun i x H H' hi hP hY => ?_) (fun H hP => ?_)
  · obtain ⟨sm, eD⟩ := hP
    refine hs i x H H' _ _ hi sm hY fun y H5 s5 ey => ?_
    refine ⟨_, s5 _ _ eD, small1000 (by rw [List.length_take]; omega), same_put (sm.trans s5) nD, ?_⟩
    rw [upd_same, take_next ey]
  · obtain ⟨sm, eD⟩ := hP
    rw [← hl, List.take_length] at eD
    exact hd H sm eD
/-! ### rows -/
def keyD : Key → PyData
  | .inl i => .int i
  | .inr z => .str z
def rowD (r : List Key) : PyData := .tuple (r.map keyD)
theorem keyD_tp {H : Hp} (k : Key) : Tp H (kV k) (keyD k) := by
  cases k with
  | inl i => exact .int i
  | inr z => exact .str z
theorem tp_keyD {H : Hp} {v : V} {k : Key} (t : Tp H v (keyD k)) : v = kV k := by
  cases k with
  | inl i => cases t; rfl
  | inr z => cases t; rfl
theorem tps_keyD {H : Hp} : ∀ {r : List Key} {xs : List V}, Tps H xs (r.map keyD) → xs = r.map kV
  | [], _, h => by cases h; rfl
  | k :: r, _, h => by
    cases h with
    | cons a b => rw [tp_keyD a, tps_keyD b]; rfl
theorem keyD_tps {H : Hp} : ∀ (r : List Key), Tps H (r.map kV) (r.map keyD)
  | [] => .nil
  | k :: r => .cons (keyD_tp k) (keyD_tps r)
theorem row_inv {H : Hp} {v : V} {r : List Key} (t : Tp H v (rowD r)) : ∃ p, v = .ref p ∧ H p = some (.tup (r.map kV)) := by
  cases t with
  | tup e ts =>
    rw [tps_keyD ts] at e
    exact ⟨_, rfl, e⟩
theorem row_tp {H : Hp} {p : Addr} {r : List Key} (e : H p = some (.tup (r.map kV))) : Tp H (.ref p) (rowD r) := .tup e (keyD_tps r)
theorem row_get {H : Hp} {xs : List V} {rs : List (List Key)} {i : Nat} {x : V} (t : Tps H xs (rs.map rowD)) (hx : xs[i]? = some x) : ∃ j, rs[i]? = some j ∧ Tp H x (rowD j) := by
  obtain ⟨dd, ed, td⟩ := t.get hx
  rw [List.getElem?_map] at ed
  cases ej : rs[i]? with
  | none => rw [ej] at ed; cases ed
  | some j =>
    rw [ej] at ed
    have ed : rowD j = dd := Option.some.inj ed
    exact ⟨j, rfl, by rw [ed]; exact td⟩
theorem kV_inj {a b : Key} : kV a = kV b ↔ a = b := by
  constructor
  · intro h
    cases a with
    | inl i => cases b with
      | inl j => injection h with h; rw [h]
      | inr y => cases h
    | inr x => cases b with
      | inl j => cases h
      | inr y => injection h with h; rw [h]
  · intro h
    rw [h]
theorem kV_dec (a b : Key) : decide (kV a = kV b) = decide (a = b) := by
  by_cases c : a = b
  · rw [c, decide_eq_true rfl, decide_eq_true rfl]
  · rw [decide_eq_false c, decide_eq_false (fun z => c (kV_inj.mp z))]
/-- the places of a split lie within the terms -/
structure SpIn (s : Sp1) (n : Nat) : Prop where
  known : ∀ m ∈ s.known, m < n
  first : ∀ p ∈ s.first, p.2 < n
  pairs : ∀ p ∈ s.pairs, p.1 < n ∧ p.2 < n
theorem lookN_mem {f : List (Str × Nat)} {x : Str} {m : Nat} (h : lookN f x = some m) : ∃ p ∈ f, p.1 = x ∧ p.2 = m := by
  unfold lookN at h
  cases c : f.find? (fun p => decide (p.1 = x)) with
  | none => rw [c] at h; cases h
  | some p =>
    rw [c] at h
    have h2 := List.find?_some c
    exact ⟨p, List.mem_of_find?_eq_some c, of_decide_eq_true (p := p.1 = x) h2, Option.some.inj h⟩
theorem split_in (bound : Str → Bool) (N : Nat) : ∀ (ts : List T) (n : Nat) (s : Sp1), n + ts.length ≤ N → SpIn s N → SpIn (splitT bound ts n s) N
  | [], n, s, _, h => h
  | .any :: ts, n, s, hl, h => split_in bound N ts (n + 1) s (by simp at hl; omega) h
  | .val k :: ts, n, s, hl, h => by
    refine split_in bound N ts (n + 1) { s with known := s.known ++ [n] } (by simp at hl; omega) ⟨fun m hm => ?_, h.first, h.pairs⟩
    rcases List.mem_append.mp hm with hm | hm
    · exact h.known m hm
    · rw [List.mem_singleton.mp hm]
      simp at hl
      omega
  | .var x :: ts, n, s, hl, h => by
    have hn : n < N := by simp at hl; omega
    have hl' : n + 1 + ts.length ≤ N := by simp at hl; omega
    rw [splitT_var]
    by_cases c : bound x = true
    · rw [if_pos c]
      refine split_in bound N ts (n + 1) { s with known := s.known ++ [n] } hl' ⟨fun m hm => ?_, h.first, h.pairs⟩
      rcases List.mem_append.mp hm with hm | hm
      · exact h.known m hm
      · rw [List.mem_singleton.mp hm]
        exact hn
    · rw [if_neg c]
      cases e : lookN s.first x with
      | some m =>
        refine split_in bound N ts (n + 1) { s with pairs := s.pairs ++ [(m, n)] } hl' ⟨h.known, h.first, fun p hp => ?_⟩
        rcases List.mem_append.mp hp with hp | hp
        · exact h.pairs p hp
        · rw [List.mem_singleton.mp hp]
          obtain ⟨q, hq, _, e2⟩ := lookN_mem e
          exact ⟨by rw [← e2]; exact h.first q hq, hn⟩
      | none =>
        refine split_in bound N ts (n + 1) { s with first := s.first ++ [(x, n)] } hl' ⟨h.known, fun p hp => ?_, h.pairs⟩
        rcases List.mem_append.mp hp with hp | hp
        · exact h.first p hp
        · rw [List.mem_singleton.mp hp]
          exact hn
theorem spl_in (e : Env1) (ts : List T) : SpIn (spl e ts) ts.length := split_in _ _ ts 0 _ (by omega) ⟨fun m h => (by cases h), fun m h => (by cases h), fun m h => (by cases h)⟩
/-! ### the groups -/
def rowK (known : List Nat) (row : List Key) : List Key := known.map fun m => row.getD m (.inl 0)
def filt (s : Sp1) (rows : List (List Key)) (k : List Key) : List (List Key) := rows.filter fun row => pairsOk s.pairs row && decide (rowK s.known row = k)
def GrpOk (F : Addr → Prop) (H : Hp) (kvs : List (List Key × V)) (s : Sp1) (rows : List (List Key)) : Prop := ∀ k, match valV kvs k with
  | none => filt s rows k = []
  | some v => ∃ l zs, v = .ref l ∧ F l ∧ H l = some (.lst zs) ∧ Tps H zs ((filt s rows k).map rowD)
def mflds (kn f g : Addr) : List (Str × V) := [("known", .ref kn), ("first", .ref f), ("groups", .ref g)]
structure MatAt (F : Addr → Prop) (C : Addr) (H : Hp) (a : Addr) (ts : List T) (rows : List (List Key)) (e : Env1) : Prop where
  ex : ∃ dx kn f g ys kvs, H a = some (.ins C dx (mflds kn f g)) ∧ H kn = some (.lst ys) ∧ Tps H ys (((spl e ts).known.map fun n => ts.getD n .any).map tD) ∧
    H f = some (.dK (frK (spl e ts).first)) ∧ H g = some (.dT kvs) ∧ GrpOk F H kvs (spl e ts) rows
theorem GrpOk.same {F : Addr → Prop} {H H' : Hp} {kvs : List (List Key × V)} {s : Sp1} {rows : List (List Key)} (h : GrpOk F H kvs s rows) (sm : Same H H') : GrpOk F H' kvs s rows := fun k => by
  have q := h k
  cases e : valV kvs k with
  | none =>
    rw [e] at q
    exact q
  | some v =>
    rw [e] at q
    obtain ⟨l, zs, e1, e0, e2, t⟩ := q
    exact ⟨l, zs, e1, e0, sm _ _ e2, t.mono (Tk.of sm)⟩
theorem MatAt.same {F : Addr → Prop} {C : Addr} {H H' : Hp} {a : Addr} {ts : List T} {rows : List (List Key)} {e : Env1} (h : MatAt F C H a ts rows e) (sm : Same H H') : MatAt F C H' a ts rows e := by
  obtain ⟨dx, kn, f, g, ys, kvs, h1, h2, h3, h4, h5, h6⟩ := h
  exact ⟨dx, kn, f, g, ys, kvs, sm _ _ h1, sm _ _ h2, h3.mono (Tk.of sm), sm _ _ h4, sm _ _ h5, h6.same sm⟩
/-- the class Matcher as the top has made it -/
structure Cs (K : PySem.W.Frag) (mg : Str → Option Value) (C : Addr) : Prop where
  cl : Cls K C
  nK : NoAttr K C "known"
  nF : NoAttr K C "first"
  nG : NoAttr K C "groups"
  mgC : mg "Matcher" = some (.ref C)
/-- all that was there, but the thing at s, stays -/
def Kept (s : Addr) (H H' : Hp) : Prop := ∀ a o, H a = some o → a ≠ s → H' a = some o
end KC

namespace KC
open PySem PySem.Spec PyProof.Rows L2 KA
theorem scal_kV (a b : Key) : scal (kV a) (kV b) = true := by
  cases a <;> cases b <;> rfl
theorem putF3 (kn f g : Addr) : putF "groups" (.ref g) (putF "first" (.ref f) (putF "known" (.ref kn) [])) = mflds kn f g := by
  have e1 : ¬ (("known" : Str) = "first") := by decide +kernel
  have e2 : ¬ (("known" : Str) = "groups") := by decide +kernel
  have e3 : ¬ (("first" : Str) = "groups") := by decide +kernel
  have p0 : ∀ (f : Str) (v : V), putF f v [] = [(f, v)] := fun _ _ => rfl
  have p1 : ∀ (f g : Str) (v x : V) (l : List (Str × V)), ¬ g = f → putF f v ((g, x) :: l) = (g, x) :: putF f v l := fun f g v x l n => if_neg n
  rw [p0, p1 _ _ _ _ _ e1, p0, p1 _ _ _ _ _ e2, p1 _ _ _ _ _ e3, p0]
  rfl
theorem fl_kn (kn f g : Addr) : (mflds kn f g).lookup ("known" : Str) = some (.ref kn) := by rfl
theorem fl_fi (kn f g : Addr) : (mflds kn f g).lookup ("first" : Str) = some (.ref f) := by rfl
theorem fl_gr (kn f g : Addr) : (mflds kn f g).lookup ("groups" : Str) = some (.ref g) := by rfl
theorem pair_get {H : Hp} {ys : List V} {ps : List (Nat × Nat)} {i : Nat} {x : V} (t : Tps H ys (ps.map pairD)) (hx : ys[i]? = some x) : ∃ pr p, ps[i]? = some pr ∧ x = .ref p ∧ H p = some (.tup [.int (pr.1 : Nat), .int (pr.2 : Nat)]) := by
  obtain ⟨dd, ed, td⟩ := t.get hx
  rw [List.getElem?_map] at ed
  cases ej : ps[i]? with
  | none => rw [ej] at ed; cases ed
  | some pr =>
    rw [ej] at ed
    have ed : pairD pr = dd := Option.some.inj ed
    subst ed
    cases td with
    | tup e r => cases r with
      | cons h1 r => cases r with
        | cons h2 r =>
          cases r
          cases h1
          cases h2
          exact ⟨pr, _, rfl, rfl, e⟩
theorem row_at {row : List Key} {m : Nat} (h : m < row.length) : (row.map kV)[m]? = some (kV (row.getD m (.inl 0))) := by
  rw [List.getElem?_map, List.getD_eq_getElem?_getD, List.getElem?_eq_getElem h]
  rfl
/-- the groups while they are being made -/
structure GrpX (H6 H : Hp) (kvs : List (List Key × V)) (s : Sp1) (rows : List (List Key)) : Prop where
  at_ : ∀ k, match valV kvs k with
    | none => filt s rows k = []
    | some v => ∃ l zs, v = .ref l ∧ H6 l = none ∧ H l = some (.lst zs) ∧ Tps H zs ((filt s rows k).map rowD)
  inj : ∀ k k' v, valV kvs k = some v → valV kvs k' = some v → k = k'
theorem GrpX.ok {H6 H : Hp} {kvs : List (List Key × V)} {s : Sp1} {rows : List (List Key)} (g : GrpX H6 H kvs s rows) : GrpOk (fun l => H l ≠ none) H kvs s rows := fun k => by
  have q := g.at_ k
  cases e : valV kvs k with
  | none =>
    rw [e] at q
    exact q
  | some v =>
    rw [e] at q
    obtain ⟨l, zs, e1, _, e2, t⟩ := q
    exact ⟨l, zs, e1, (fun z => by rw [e2] at z; cases z), e2, t⟩
theorem filt_snoc (s : Sp1) (rows : List (List Key)) (row : List Key) (k : List Key) : filt s (rows ++ [row]) k = filt s rows k ++ (if (pairsOk s.pairs row && decide (rowK s.known row = k)) = true then [row] else []) := by
  unfold filt
  rw [List.filter_append]
  congr 1
  cases c : (pairsOk s.pairs row && decide (rowK s.known row = k)) with
  | true => simp [List.filter, c]
  | false => simp [List.filter, c]
section
variable {P : Program} {w : World} {K : PySem.W.Frag} {mg : Str → Option Value} {base : Heap} {C : Addr}
abbrev dSp (P : Program) (w : World) (K : PySem.W.Frag) (mg : Str → Option Value) (base : Heap) : Prop := Def P w K mg base "split_terms" 1 ["terms", "values"] spSp
abbrev sMi : Stmt := inClass (topS 5) 0
abbrev nMi : List Str := ["self", "terms", "rows", "values", "known", "first", "pairs", "row", "at", "one", "other"]
theorem scMi : FnScope nMi ["self", "terms", "rows", "values"] (defScope sMi) := ⟨rfl, rfl, rfl, by decide +kernel, rfl, by decide +kernel, by decide +kernel⟩
def spMi (C : Addr) : Sp := fun vs H Q _ => ∃ (s dx u r a : Addr) (xs rs : List V) (ts : List T) (rows : List (List Key)) (kvs : List (Key × V)) (e : Env1), vs = [.ref s, .ref u, .ref r, .ref a] ∧ H s = some (.ins C dx []) ∧ H u = some (.tup xs) ∧ Tps H xs (ts.map tD) ∧ H r = some (.lst rs) ∧ Tps H rs (rows.map rowD) ∧ (∀ row ∈ rows, row.length = ts.length) ∧
  Rd H a (.dK kvs) ∧ EnvOf kvs e ∧ ts.length ≤ 900 ∧ rows.length ≤ 900 ∧ ∀ H', Kept s H H' → MatAt (fun l => H' l ≠ none) C H' s ts rows e → Q .non H'
theorem ok_mi {f0 : Addr} {fd : FuncData} (F0 : Fun K "__init__" "Matcher.__init__" sMi f0 fd) (T : Cs K mg C) (B : Bt mg) (hall : mg "all" = none) (DS : dSp P w K mg base) : FnOk P w K mg base CX0 2 f0 fd ["self", "terms", "rows", "values"] (spMi C) := by
  refine F0.ok scMi (fun vs H Q E h => ?_) (fun cdv A outer s H vs Q E hr h => ?_)
  · obtain ⟨_, _, _, _, _, _, _, _, _, _, _, rfl, _⟩ := h
    rfl
  · obtain ⟨s, dx, u, r, a, xs, rs, ts, rows, kvs, e, rfl, hs, eu, tx, er, tr, lr, rd, en, lt, lrow, q⟩ := h
    have hu : _ + 1 < cLine := Nat.lt_of_le_of_lt (Nat.add_le_add_left (by decide : 1 ≤ 64) _) hr.units
    refine ⟨_, pss_cons (ps_asg (pe_def DS hr (by rfl) (pa_cons (pv 1) (pa_cons (pv 3) pa_nil))) (pg_tup rfl (pgs_cons (pg_name (i := 4) scMi.nd rfl (.inl rfl)) (pgs_cons (pg_name (i := 5) scMi.nd rfl (.inl rfl)) (pgs_cons (pg_name (i := 6) scMi.nd rfl (.inl rfl)) pgs_nil)))))
      (pss_cons (ps_fld (pv 0) (pe_lc (own := [("at", 8)]) (g := gName 8) (tt := tYes) (te := tOp (rIxT K) (tVar 1) (tVar 8)) rfl scMi.nd (pi_list (pv 4)) (blkOk_by (own := [("at", 8)]) (N := nMi) (sc := defScope sMi) (by decide +kernel))
        (fun _ _ _ _ _ => pg_name (i := 8) scMi.nd rfl (Or.inl rfl)) (fun _ _ _ _ _ => pts_nil) (fun _ _ _ _ _ => pe_ix ix_tup (pv 1) (pv 8) (fun _ _ => rfl))) rfl)
      (pss_cons (ps_fld (pv 0) (pv 5) rfl)
      (pss_cons (ps_fld (pv 0) pe_dnewT rfl)
      (pss_one (ps_for PassesOwn.never rfl (pi_list (pv 2)) (pg_name (i := 7) scMi.nd rfl (.inr rfl))
        (pss_one (ps_if (pt_val (pe_callB (cr_all rfl) (by rfl) hall (by decide +kernel) (pa_cons (pe_lc (own := [("one", 9), ("other", 10)]) (g := gTup K 2 (gCons (gName 9) (gCons (gName 10) gNil))) (tt := tYes) (te := tOp rEq (tOp (rIxT K) (tVar 7) (tVar 9)) (tOp (rIxT K) (tVar 7) (tVar 10))) rfl scMi.nd (pi_list (pv 6)) (blkOk_by (own := [("one", 9), ("other", 10)]) (N := nMi) (sc := defScope sMi) (by decide +kernel))
            (fun _ _ _ _ _ => pg_tup rfl (pgs_cons (pg_name (i := 9) scMi.nd rfl (Or.inl rfl)) (pgs_cons (pg_name (i := 10) scMi.nd rfl (Or.inl rfl)) pgs_nil))) (fun _ _ _ _ _ => pts_nil)
            (fun _ _ _ _ _ => pe_cmpR op_eq (pe_ix ix_tup (pv 7) (pv 9) (fun _ _ => rfl)) (pe_ix ix_tup (pv 7) (pv 10) (fun _ _ => rfl)) (nomark _))) pa_nil)))
          (pss_one (ps_expr (pe_bm PySem.F.plainAttrs_list PySem.F.slot_list_append PySem.F.type_list_append mt_append
            (pe_dsetdT hu (pe_fld (pv 0) rfl) (pe_callTy call_tuple_of (by rfl) B.tup (by decide +kernel) (pa_cons (pe_lc (own := [("at", 8)]) (g := gName 8) (tt := tYes) (te := tOp (rIxT K) (tVar 7) (tVar 8)) rfl scMi.nd (pi_list (pv 4)) (blkOk_by (own := [("at", 8)]) (N := nMi) (sc := defScope sMi) (by decide +kernel))
              (fun _ _ _ _ _ => pg_name (i := 8) scMi.nd rfl (Or.inl rfl)) (fun _ _ _ _ _ => pts_nil) (fun _ _ _ _ _ => pe_ix ix_tup (pv 7) (pv 8) (fun _ _ => rfl))) pa_nil)) (pe_lst pa_nil) ⟨rfl, rfl, rfl, rfl⟩) (pa_cons (pv 7) pa_nil))))
          pss_nil))))))), ?_⟩
    refine ⟨.ref u, rfl, .ref a, rfl, u, a, xs, ts, kvs, e, rfl, eu, tx, rd, en, lt, fun p H1 s1 sp1 => ?_⟩
    obtain ⟨k, f, g, ys, ep, ek, ef, eg, ty⟩ := sp1
    refine ⟨p, _, rfl, SqT.of ep, rfl, _, _, rfl, _, _, rfl, _, _, rfl, rfl, ?_⟩
    have SI := spl_in e ts
    have SL := split_le (bnd e) ts 0 ⟨[], [], []⟩
    obtain ⟨SL1, SL2, SL3⟩ := SL
    have SL1 : (spl e ts).known.length ≤ ts.length := by simpa using SL1
    have SL3 : (spl e ts).pairs.length ≤ ts.length := by simpa using SL3
    have lx : xs.length = ts.length := by rw [tx.length, List.length_map]
    have hst : ∀ {b : Addr} {o : HO}, H1 b = some o → (∀ fs, o ≠ .ins C dx fs) → b ≠ s := fun hb n z => by
      rw [z, s1 _ _ hs] at hb
      cases hb
      exact n _ rfl
    -- the known terms
    refine ⟨.ref k, rfl, k, rfl, ⟨_, SqL.of ek⟩, fun D nD => ?_⟩
    have tpick : ∀ m ∈ (spl e ts).known, ∃ v, xs[m]? = some v ∧ Tp H v (tD (ts.getD m .any)) := fun m hm => by
      have hm2 := SI.known m hm
      obtain ⟨v, ev, tv⟩ := tx.at_ (i := m) (d := tD (ts.getD m .any)) (by rw [List.getElem?_map, List.getD_eq_getElem?_getD, List.getElem?_eq_getElem hm2]; rfl)
      exact ⟨v, ev, tv⟩
    refine lc_vals walk_list ((spl e ts).known.map fun m => xs.getD m .non) (by rw [List.length_map, List.length_map]) (by rw [List.length_map]; omega) nD (fun H2 sm => SqL.of (sm _ _ ek)) (fun i x H2 H3 Q2 R hi sm hY qq => ?_) (fun H2 sm2 eD => ?_)
    · obtain ⟨rfl, hx⟩ := hY
      rw [List.getElem?_map] at hx
      cases em : (spl e ts).known[i]? with
      | none => rw [em] at hx; cases hx
      | some m =>
        rw [em] at hx
        have hx : V.int (m : Nat) = x := Option.some.inj hx
        subst hx
        obtain ⟨v, ev, tv⟩ := tpick m (List.mem_of_getElem? em)
        refine ⟨rfl, iteT (B := R H3) ?_⟩
        refine ⟨.ref u, rfl, .int (m : Nat), rfl, u, xs, (m : Nat), v, rfl, rfl, SqT.of (sm _ _ (s1 _ _ eu)), atI_nat ev, qq v _ (Same.refl _) ?_⟩
        rw [List.getElem?_map, em]
        show some (xs.getD m .non) = some v
        rw [List.getD_eq_getElem?_getD, ev]
        rfl
    have tyD : Tps H2 ((spl e ts).known.map fun m => xs.getD m .non) (((spl e ts).known.map fun n => ts.getD n .any).map tD) := by
      have gen : ∀ l : List Nat, (∀ m ∈ l, m ∈ (spl e ts).known) → Tps H2 (l.map fun m => xs.getD m .non) ((l.map fun n => ts.getD n .any).map tD) := fun l => by
        induction l with
        | nil => exact fun _ => .nil
        | cons m r ih =>
          intro hm
          obtain ⟨v, ev, tv⟩ := tpick m (hm m List.mem_cons_self)
          refine .cons ?_ (ih fun z hz => hm z (List.mem_cons_of_mem _ hz))
          show Tp H2 (xs.getD m .non) (tD (ts.getD m .any))
          rw [List.getD_eq_getElem?_getD, ev]
          exact tv.mono (Tk.of (s1.trans sm2))
      exact gen _ fun _ h => h
    -- the three stores
    have hs2 := sm2 _ _ (s1 _ _ hs)
    refine ⟨.ref s, rfl, s, C, dx, _, rfl, hs2, T.cl, T.nK, (by show 0 < 1000; decide), ?_⟩
    refine ⟨.ref f, rfl, .ref s, rfl, s, C, dx, _, rfl, upd_same, T.cl, T.nF, (by show 1 < 1000; decide), ?_⟩
    intro g' ng'
    have hgs : g' ≠ s := fun z => by
      rw [z, upd_same] at ng'
      cases ng'
    rw [upd_ne hgs, upd_ne hgs] at ng'
    refine ⟨.ref s, rfl, s, C, dx, putF "first" (.ref f) (putF "known" (.ref D) []), rfl, ?_, T.cl, T.nG, (by show 2 < 1000; decide), ?_⟩
    · rw [upd_ne hgs.symm, upd_same]
    have k6 : ∀ b o, H2 b = some o → b ≠ s → (upd (upd (upd (upd H2 s (.ins C dx (putF "known" (.ref D) []))) s (.ins C dx (putF "first" (.ref f) (putF "known" (.ref D) [])))) g' (.dT [])) s (.ins C dx (putF "groups" (.ref g') (putF "first" (.ref f) (putF "known" (.ref D) []))))) b = some o := fun b o hb nb => by
      rw [upd_ne nb, upd_ne (ne_of_none hb ng'), upd_ne nb, upd_ne nb]
      exact hb
    have g6 : (upd (upd (upd (upd H2 s (.ins C dx (putF "known" (.ref D) []))) s (.ins C dx (putF "first" (.ref f) (putF "known" (.ref D) [])))) g' (.dT [])) s (.ins C dx (putF "groups" (.ref g') (putF "first" (.ref f) (putF "known" (.ref D) []))))) g' = some (.dT []) := by
      rw [upd_ne hgs, upd_same]
    have hs6 : (upd (upd (upd (upd H2 s (.ins C dx (putF "known" (.ref D) []))) s (.ins C dx (putF "first" (.ref f) (putF "known" (.ref D) [])))) g' (.dT [])) s (.ins C dx (putF "groups" (.ref g') (putF "first" (.ref f) (putF "known" (.ref D) []))))) s = some (.ins C dx (mflds D f g')) := by
      rw [upd_same, putF3]
    revert k6 g6 hs6
    generalize (upd (upd (upd (upd H2 s (.ins C dx (putF "known" (.ref D) []))) s (.ins C dx (putF "first" (.ref f) (putF "known" (.ref D) [])))) g' (.dT [])) s (.ins C dx (putF "groups" (.ref g') (putF "first" (.ref f) (putF "known" (.ref D) []))))) = H6
    intro k6 g6 hs6
    have k16 : ∀ b o, H1 b = some o → b ≠ s → H6 b = some o := fun b o hb nb => k6 b o (sm2 _ _ hb) nb
    have k06 : ∀ b o, H b = some o → b ≠ s → H6 b = some o := fun b o hb nb => k16 b o (s1 _ _ hb) nb
    have er6 := k06 _ _ er (fun z => by rw [z, hs] at er; cases er)
    have tr6 : Tps H6 rs (rows.map rowD) := tr.mono fun b ys hb => k06 b _ hb (fun z => by rw [z, hs] at hb; cases hb)
    have ek6 := k16 _ _ ek (hst ek (fun _ z => by cases z))
    have ef6 := k16 _ _ ef (hst ef (fun _ z => by cases z))
    have eg6 := k16 _ _ eg (hst eg (fun _ z => by cases z))
    have ty6 : Tps H6 ys ((spl e ts).pairs.map pairD) := ty.mono fun b zs hb => k16 b _ hb (hst hb (fun _ z => by cases z))
    have eD6 := k6 _ _ eD (fun z => by rw [z, hs2] at eD; cases eD)
    have tyD6 := tyD.mono (H' := H6) fun b zs hb => k6 b _ hb (fun z => by rw [z, hs2] at hb; cases hb)
    have lrs : rs.length = rows.length := by rw [tr.length, List.length_map]
    refine ⟨.ref r, rfl, r, rfl, ⟨rs, SqL.of er6⟩, ?_⟩
    refine for_list (K := K) (a := r) (xs := rs) (fun i σ H' => (∃ x7 x8 x9 x10, σ = [some (.ref s), some (.ref u), some (.ref r), some (.ref a), some (.ref k), some (.ref f), some (.ref g), x7, x8, x9, x10]) ∧ (∀ b o, H6 b = some o → b ≠ g' → H' b = some o) ∧ ∃ kvs, H' g' = some (.dT kvs) ∧ kvs.length ≤ i ∧ GrpX H6 H' kvs (spl e ts) (rows.take i)) ⟨⟨none, none, none, none, rfl⟩, fun _ _ h _ => h, [], g6, Nat.zero_le _, ⟨fun k => rfl, fun k k' v h => by cases h⟩⟩ (fun i σ H' _ hP => SqL.of (hP.2.1 _ _ er6 (fun z => by rw [z, g6] at er6; cases er6))) (fun i x σ H' hx hP => ?_) (fun σ H' hP => ?_)
    · obtain ⟨⟨x7, x8, x9, x10, rfl⟩, kk, kv, egr, lk, G⟩ := hP
      obtain ⟨row, erow, trow⟩ := row_get tr6 hx
      obtain ⟨pr, rfl, epr⟩ := row_inv trow
      have hrow : row ∈ rows := List.mem_of_getElem? erow
      have hlr := lr row hrow
      have hi : i < rows.length := (List.getElem?_eq_some_iff.mp erow).1
      have ng6 : ∀ {b : Addr} {o : HO}, H6 b = some o → (∀ kvs, o ≠ .dT kvs) → b ≠ g' := fun hb n z => by
        rw [z, g6] at hb
        cases hb
        exact n _ rfl
      have epr' := kk _ _ epr (ng6 epr (fun _ z => by cases z))
      have eg' := kk _ _ eg6 (ng6 eg6 (fun _ z => by cases z))
      have ek' := kk _ _ ek6 (ng6 ek6 (fun _ z => by cases z))
      have hs' := kk _ _ hs6 hgs.symm
      have kkT : Tk H6 H' := fun b zs hb => kk b _ hb (ng6 hb (fun _ z => by cases z))
      have ty' := ty6.mono kkT
      have lys : ys.length = (spl e ts).pairs.length := by rw [ty.length, List.length_map]
      -- the test
      refine ⟨.ref g, rfl, g, rfl, ⟨ys, SqL.of eg'⟩, fun D2 nD2 => ?_⟩
      refine lc_vals walk_list (((spl e ts).pairs.map fun q => decide (row.getD q.1 (.inl 0) = row.getD q.2 (.inl 0))).map V.bl) (by rw [List.length_map, List.length_map, lys]) (by omega) nD2 (fun H2 sm => SqL.of (sm _ _ eg')) (fun j y H2 H3 Q2 R hj sm hY qq => ?_) (fun H5 sm5 eD5 => ?_)
      · obtain ⟨rfl, hy⟩ := hY
        obtain ⟨pq, t2, epq, rfl, et2⟩ := pair_get ty' hy
        obtain ⟨b1, b2⟩ := SI.pairs pq (List.mem_of_getElem? epq)
        refine ⟨t2, _, rfl, SqT.of (sm _ _ et2), rfl, _, _, rfl, _, _, rfl, rfl, rfl, iteT (B := R H3) ?_⟩
        refine ⟨.ref pr, rfl, .int (pq.1 : Nat), rfl, pr, _, (pq.1 : Nat), _, rfl, rfl, SqT.of (sm _ _ epr'), atI_nat (row_at (by omega)), .ref pr, rfl, .int (pq.2 : Nat), rfl, pr, _, (pq.2 : Nat), _, rfl, rfl, SqT.of (sm _ _ epr'), atI_nat (row_at (by omega)), scal_kV _ _, qq _ _ (Same.refl _) ?_⟩
        rw [kV_dec, List.getElem?_map, List.getElem?_map, epq]
        rfl
      · refine ⟨D2, _, rfl, SqL.of eD5, _, rfl, ?_⟩
        have eall : (((spl e ts).pairs.map fun q => decide (row.getD q.1 (.inl 0) = row.getD q.2 (.inl 0))).all id) = pairsOk (spl e ts).pairs row := by
          unfold pairsOk
          rw [List.all_map]
          rfl
        rw [eall]
        have erow' : (rows.take (i + 1)) = rows.take i ++ [row] := take_next erow
        cases hpo : pairsOk (spl e ts).pairs row with
        | false =>
          refine iteF ?_
          refine ⟨⟨_, _, _, _, rfl⟩, fun b o hb nb => sm5 _ _ (kk b o hb nb), kv, sm5 _ _ egr, by omega, ⟨fun k0 => ?_, G.inj⟩⟩
          rw [erow', filt_snoc, hpo, Bool.false_and, if_neg Bool.false_ne_true, List.append_nil]
          have q0 := G.at_ k0
          cases ev : valV kv k0 with
          | none =>
            rw [ev] at q0
            exact q0
          | some v =>
            rw [ev] at q0
            obtain ⟨l, zs, w1, w2, w3, w4⟩ := q0
            exact ⟨l, zs, w1, w2, sm5 _ _ w3, w4.mono (Tk.of sm5)⟩
        | true =>
          refine iteT ?_
          refine ⟨.ref s, rfl, s, C, dx, _, _, rfl, sm5 _ _ hs', T.cl, T.nG, fl_gr _ _ _, g', rfl, .inr ⟨kv, .inl (sm5 _ _ egr)⟩, ?_⟩
          have sm5' := sm5
          refine ⟨.ref k, rfl, k, rfl, ⟨_, SqL.of (sm5 _ _ ek')⟩, fun D3 nD3 => ?_⟩
          refine lc_vals walk_list ((rowK (spl e ts).known row).map kV) (by unfold rowK; rw [List.length_map, List.length_map, List.length_map]) (by rw [List.length_map]; omega) nD3 (fun H2 sm => SqL.of (sm _ _ (sm5 _ _ ek'))) (fun j y H2 H3 Q2 R hj sm hY qq => ?_) (fun H7 sm7 eD7 => ?_)
          · obtain ⟨rfl, hy⟩ := hY
            rw [List.getElem?_map] at hy
            cases em : (spl e ts).known[j]? with
            | none => rw [em] at hy; cases hy
            | some m =>
              rw [em] at hy
              have hy : V.int (m : Nat) = y := Option.some.inj hy
              subst hy
              have b1 := SI.known m (List.mem_of_getElem? em)
              refine ⟨rfl, iteT (B := R H3) ?_⟩
              refine ⟨.ref pr, rfl, .int (m : Nat), rfl, pr, _, (m : Nat), _, rfl, rfl, SqT.of (sm _ _ (sm5 _ _ epr')), atI_nat (row_at (by omega)), qq _ _ (Same.refl _) ?_⟩
              unfold rowK
              rw [List.getElem?_map, List.getElem?_map, em]
              rfl
          · refine ⟨D3, _, rfl, .inl ⟨SqL.of eD7, fun tp ntp => ?_⟩⟩
            refine ⟨(by show 0 ≤ sizeLine; decide), fun L nL => ?_⟩
            have s57 : Same H' (upd (upd H7 tp (.tup ((rowK (spl e ts).known row).map kV))) L (.lst [])) := ((sm5.trans sm7).trans (same_new ntp)).trans (same_new nL)
            have etp : (upd (upd H7 tp (.tup ((rowK (spl e ts).known row).map kV))) L (.lst [])) tp = some (.tup ((rowK (spl e ts).known row).map kV)) := same_new nL _ _ upd_same
            have eL : (upd (upd H7 tp (.tup ((rowK (spl e ts).known row).map kV))) L (.lst [])) L = some (.lst []) := upd_same
            have nL' : H' L = none := by
              cases z : H' L with
              | none => rfl
              | some o =>
                rw [((sm5.trans sm7).trans (same_new ntp)) _ _ z] at nL
                cases nL
            revert s57 etp eL
            generalize (upd (upd H7 tp (.tup ((rowK (spl e ts).known row).map kV))) L (.lst [])) = H8
            intro s57 etp eL
            have k8 : ∀ b o, H6 b = some o → b ≠ g' → H8 b = some o := fun b o hb nb => s57 _ _ (kk b o hb nb)
            have nL6 : H6 L = none := by
              cases z : H6 L with
              | none => rfl
              | some o =>
                by_cases zz : L = g'
                · rw [zz, egr] at nL'
                  cases nL'
                · rw [kk _ _ z zz] at nL'
                  cases nL'
            have egr8 := s57 _ _ egr
            have lfil : ∀ k0, (filt (spl e ts) (rows.take i) k0).length ≤ 900 := fun k0 => Nat.le_trans (List.length_filter_le _ _) (by rw [List.length_take]; omega)
            have fil0 : ∀ k0, k0 ≠ rowK (spl e ts).known row → filt (spl e ts) (rows.take (i + 1)) k0 = filt (spl e ts) (rows.take i) k0 := fun k0 n => by
              rw [erow', filt_snoc, hpo, Bool.true_and, decide_eq_false (fun z => n z.symm), if_neg Bool.false_ne_true, List.append_nil]
            have fil1 : filt (spl e ts) (rows.take (i + 1)) (rowK (spl e ts).known row) = filt (spl e ts) (rows.take i) (rowK (spl e ts).known row) ++ [row] := by
              rw [erow', filt_snoc, hpo, Bool.true_and, decide_eq_true rfl, if_pos rfl]
            have epr8 := s57 _ _ epr'
            refine ⟨kv, rowK (spl e ts).known row, tp, egr8, rfl, etp, small1000 (by omega), fun v hv => ?_, fun hv => ?_⟩
            · have q0 := G.at_ (rowK (spl e ts).known row)
              rw [hv] at q0
              obtain ⟨l, zs, rfl, w2, w3, w4⟩ := q0
              have w3' := s57 _ _ w3
              have lz : zs.length ≤ 900 := by
                rw [w4.length, List.length_map]
                exact lfil _
              refine ⟨.inl ⟨rfl, _, SqL.of w3'⟩, .ref pr, rfl, l, _, _, rfl, rfl, w3', small1000 (by omega), ?_⟩
              have tk9 : Tk H8 (upd H8 l (.lst (zs ++ [.ref pr]))) := Tk.lst w3'
              refine ⟨⟨_, _, _, _, rfl⟩, fun b o hb nb => ?_, kv, ?_, by omega, ⟨fun k0 => ?_, G.inj⟩⟩
              · rw [upd_ne (ne_of_none hb w2)]
                exact k8 b o hb nb
              · rw [upd_ne (ne_of egr8 w3' (by intro z; cases z))]
                exact egr8
              · have q0 := G.at_ k0
                cases ev : valV kv k0 with
                | none =>
                  rw [ev] at q0
                  have n0 : k0 ≠ rowK (spl e ts).known row := fun z => by rw [z, hv] at ev; cases ev
                  show filt _ _ k0 = []
                  rw [fil0 k0 n0]
                  exact q0
                | some v =>
                  rw [ev] at q0
                  obtain ⟨l0, zs0, rfl, v2, v3, v4⟩ := q0
                  by_cases z : l0 = l
                  · subst z
                    have z2 := G.inj _ _ _ ev hv
                    subst z2
                    rw [w3] at v3
                    cases v3
                    refine ⟨l0, _, rfl, v2, upd_same, ?_⟩
                    rw [fil1, List.map_append]
                    exact ((w4.mono (Tk.of s57)).mono tk9).append (.cons (row_tp (tk9 _ _ epr8)) .nil)
                  · have n0 : k0 ≠ rowK (spl e ts).known row := fun zz => by
                      subst zz
                      rw [hv] at ev
                      have := Option.some.inj ev
                      injection this with this
                      exact z this.symm
                    refine ⟨l0, zs0, rfl, v2, by rw [upd_ne z]; exact s57 _ _ v3, ?_⟩
                    rw [fil0 k0 n0]
                    exact (v4.mono (Tk.of s57)).mono tk9
            · have q0 := G.at_ (rowK (spl e ts).known row)
              rw [hv] at q0
              have q0 : filt (spl e ts) (rows.take i) (rowK (spl e ts).known row) = [] := q0
              have nLg : L ≠ g' := fun z => by rw [z, egr8] at eL; cases eL
              have eL9 : (upd H8 g' (.dT (putK kv (rowK (spl e ts).known row) (.ref L)))) L = some (.lst []) := by
                rw [upd_ne nLg]
                exact eL
              have tk9 : Tk H8 (upd H8 g' (.dT (putK kv (rowK (spl e ts).known row) (.ref L)))) := fun b zs hb => by
                rw [upd_ne (ne_of hb egr8 (by intro z; cases z))]
                exact hb
              refine ⟨.inl ⟨rfl, _, SqL.of eL9⟩, .ref pr, rfl, L, _, _, rfl, rfl, eL9, small1000 (by decide), ?_⟩
              have tk10 := tk9.trans (Tk.lst (o := .lst ([] ++ [.ref pr])) eL9)
              refine ⟨⟨_, _, _, _, rfl⟩, fun b o hb nb => ?_, putK kv (rowK (spl e ts).known row) (.ref L), ?_, Nat.le_trans (length_putK _ _ _) (by omega), ⟨fun k0 => ?_, fun k0 k1 v h0 h1 => ?_⟩⟩
              · rw [upd_ne (ne_of_none hb nL6), upd_ne nb]
                exact k8 b o hb nb
              · rw [upd_ne nLg.symm, upd_same]
              · rw [valV_put]
                by_cases z : k0 = rowK (spl e ts).known row
                · rw [if_pos z, z]
                  refine ⟨L, _, rfl, nL6, upd_same, ?_⟩
                  rw [fil1, q0]
                  exact .cons (row_tp (tk10 _ _ epr8)) .nil
                · rw [if_neg z]
                  have q1 := G.at_ k0
                  cases ev : valV kv k0 with
                  | none =>
                    rw [ev] at q1
                    show filt _ _ k0 = []
                    rw [fil0 k0 z]
                    exact q1
                  | some v =>
                    rw [ev] at q1
                    obtain ⟨l0, zs0, rfl, v2, v3, v4⟩ := q1
                    have n1 : l0 ≠ L := fun zz => by rw [zz, nL'] at v3; cases v3
                    have n2 : l0 ≠ g' := fun zz => by rw [zz, egr] at v3; cases v3
                    refine ⟨l0, zs0, rfl, v2, by rw [upd_ne n1, upd_ne n2]; exact s57 _ _ v3, ?_⟩
                    rw [fil0 k0 z]
                    exact (v4.mono (Tk.of s57)).mono tk10
              · rw [valV_put] at h0 h1
                have old : ∀ k2, valV kv k2 = some (V.ref L) → False := fun k2 h2 => by
                  have q1 := G.at_ k2
                  rw [h2] at q1
                  obtain ⟨l0, zs0, w1, v2, v3, v4⟩ := q1
                  injection w1 with w1
                  rw [← w1, nL'] at v3
                  cases v3
                by_cases z0 : k0 = rowK (spl e ts).known row
                · by_cases z1 : k1 = rowK (spl e ts).known row
                  · rw [z0, z1]
                  · rw [if_pos z0] at h0
                    rw [if_neg z1] at h1
                    cases h0
                    exact (old _ h1).elim
                · rw [if_neg z0] at h0
                  by_cases z1 : k1 = rowK (spl e ts).known row
                  · rw [if_pos z1] at h1
                    cases h1
                    exact (old _ h0).elim
                  · rw [if_neg z1] at h1
                    exact G.inj _ _ _ h0 h1
    · obtain ⟨_, kk, kv, egr, lk, G⟩ := hP
      rw [lrs, List.take_length] at G
      have kk2 : Tk H6 H' := fun b zs hb => kk b _ hb (fun z => by rw [z, g6] at hb; cases hb)
      refine q H' (fun b o hb nb => kk b o (k06 b o hb nb) (fun z => ?_)) ⟨dx, D, f, g', _, kv, kk _ _ hs6 hgs.symm, kk _ _ eD6 (fun z => by rw [z, g6] at eD6; cases eD6), tyD6.mono kk2, kk _ _ ef6 (fun z => by rw [z, g6] at ef6; cases ef6), egr, G.ok⟩
      rw [z] at hb
      rw [sm2 _ _ (s1 _ _ hb)] at ng'
      cases ng'
end
end KC

namespace KC
open PySem PySem.Spec PyProof.Rows L2 KA
/-- a method as its callers know it -/
structure MDef (P : Program) (w : World) (K : PySem.W.Frag) (mg : Str → Option Value) (base : Heap) (C : Addr) (m : Str) (k : Nat) (ps : List Str) (sp : Sp) : Prop where
  ex : ∃ (f : Addr) (fd : FuncData), FnOk P w K mg base CX0 k f fd ps sp ∧ Meth K C m f ∧ Binds K fd ps []
section
variable {X : Cx} {k : Nat} {m : Str} {C : Addr} {ps : List Str} {sp : Sp} {o e : Expr} {es : List Expr} {ta : TE} {t : TA} {pos apos : Pos}
theorem pe_mdef (D : MDef X.prog X.w X.K X.mg X.base C m k ps sp) (he : PE X o ta) (c : Cls X.K C) (hr : Room k X.A) (ha : PA X (e :: es) t) {pl : Sem Bool}
    (hst : starEach (e :: es) X.env = (false, eval e X.env) :: starEach es X.env := by rfl) (hpl : (backTo pos (starEach es X.env)).any (·.1) = false := by rfl)
    (ht : eval (.Call (.Attribute o m apos) (e :: es) [] pos) X.env = (do
      let ov ← eval o X.env
      standAt apos.atName
      let (f, first) ← holding [ov] (getMethod ov m pl)
      callWith pos f first (backTo pos (starEach (e :: es) X.env)) (backToKw pos (keywordEach [] X.env))) := by rfl) : PE X (.Call (.Attribute o m apos) (e :: es) [] pos) (tMeth C m sp [] E0 ta t) := by
  obtain ⟨f, fd, F, M, hb⟩ := D.ex
  exact pe_meth he c M F hr hb .nil pass0 ha hst hpl ht
end
/-! ### known terms have values -/
theorem split_known (bound : Str → Bool) (ts : List T) : ∀ (us : List T) (n : Nat) (s : Sp1), us = ts.drop n → (∀ m ∈ s.known, (∃ k, ts.getD m .any = .val k) ∨ ∃ x, ts.getD m .any = .var x ∧ bound x = true) →
    ∀ m ∈ (splitT bound us n s).known, (∃ k, ts.getD m .any = .val k) ∨ ∃ x, ts.getD m .any = .var x ∧ bound x = true
  | [], n, s, _, h => h
  | u :: us, n, s, hu, h => by
    have hn : n < ts.length := by
      rcases Nat.lt_or_ge n ts.length with c | c
      · exact c
      · rw [List.drop_of_length_le c] at hu
        cases hu
    rw [List.drop_eq_getElem_cons hn] at hu
    injection hu with hu1 hu2
    have eu : ts.getD n .any = u := by
      rw [List.getD_eq_getElem?_getD, List.getElem?_eq_getElem hn, hu1]
      rfl
    cases u with
    | any => exact split_known bound ts us (n + 1) s hu2 h
    | val k =>
      refine split_known bound ts us (n + 1) { s with known := s.known ++ [n] } hu2 fun m hm => ?_
      rcases List.mem_append.mp hm with hm | hm
      · exact h m hm
      · rw [List.mem_singleton.mp hm, eu]
        exact .inl ⟨k, rfl⟩
    | var x =>
      rw [splitT_var]
      by_cases c : bound x = true
      · rw [if_pos c]
        refine split_known bound ts us (n + 1) { s with known := s.known ++ [n] } hu2 fun m hm => ?_
        rcases List.mem_append.mp hm with hm | hm
        · exact h m hm
        · rw [List.mem_singleton.mp hm, eu]
          exact .inr ⟨x, rfl, c⟩
      · rw [if_neg c]
        cases lookN s.first x with
        | some m => exact split_known bound ts us (n + 1) { s with pairs := s.pairs ++ [(m, n)] } hu2 h
        | none => exact split_known bound ts us (n + 1) { s with first := s.first ++ [(x, n)] } hu2 h
def worthD (t : T) (e : Env1) : Key := (worthE t e).getD (.inl 0)
theorem known_worth (e : Env1) (ts : List T) : ∀ m ∈ (spl e ts).known, worthE (ts.getD m .any) e = some (worthD (ts.getD m .any) e) := fun m hm => by
  have h := split_known (bnd e) ts ts 0 ⟨[], [], []⟩ rfl (fun m h => by cases h) m hm
  unfold worthD
  rcases h with ⟨k, h⟩ | ⟨x, h, hb⟩
  · rw [h]
    rfl
  · rw [h]
    have hb : (look e x).isSome = true := hb
    obtain ⟨v, ev⟩ := Option.isSome_iff_exists.mp hb
    show look e x = some ((look e x).getD (.inl 0))
    rw [ev]
    rfl
/-- the rows of the group are the rows that the terms meet -/
theorem filt_met {ts : List T} {e : Env1} {rows : List (List Key)} (hl : ∀ row ∈ rows, row.length = ts.length) :
    filt (spl e ts) rows ((spl e ts).known.map fun m => worthD (ts.getD m .any) e) = rows.filter fun row => (metE ts row e).isSome := by
  unfold filt
  refine List.filter_congr fun row hrow => ?_
  rw [split_whole (bound := bnd e) (fun x => rfl) (hl row hrow).symm]
  have ek : knownOk (spl e ts).known ts row e = decide (rowK (spl e ts).known row = (spl e ts).known.map fun m => worthD (ts.getD m .any) e) := by
    unfold knownOk rowK
    have gen : ∀ l : List Nat, (∀ m ∈ l, worthE (ts.getD m .any) e = some (worthD (ts.getD m .any) e)) → (l.all fun n => decide ((worthE (ts.getD n .any) e) = some (row.getD n (.inl 0)))) = decide ((l.map fun m => row.getD m (.inl 0)) = l.map fun m => worthD (ts.getD m .any) e) := fun l => by
      induction l with
      | nil => exact fun _ => rfl
      | cons m r ih =>
        intro h
        rw [List.all_cons, ih fun z hz => h z (List.mem_cons_of_mem _ hz), h m List.mem_cons_self, List.map_cons, List.map_cons, Bool.eq_iff_iff, Bool.and_eq_true, decide_eq_true_iff, decide_eq_true_iff, decide_eq_true_iff, List.cons.injEq, Option.some.injEq]
        exact ⟨fun ⟨a, b⟩ => ⟨a.symm, b⟩, fun ⟨a, b⟩ => ⟨a.symm, b⟩⟩
    exact gen _ (known_worth e ts)
  rw [← ek]
  show (pairsOk (spl e ts).pairs row && knownOk (spl e ts).known ts row e) = (if (knownOk (spl e ts).known ts row e && pairsOk (spl e ts).pairs row) = true then some (e ++ given (spl e ts).first row) else none).isSome
  rw [Bool.and_comm]
  cases (knownOk (spl e ts).known ts row e && pairsOk (spl e ts).pairs row) <;> rfl
theorem met_some {ts : List T} {e e' : Env1} {row : List Key} (hl : row.length = ts.length) (h : metE ts row e = some e') : e' = e ++ given (spl e ts).first row := by
  rw [split_whole (bound := bnd e) (fun x => rfl) hl.symm] at h
  split at h
  · exact (Option.some.inj h).symm
  · cases h
def SameDom (e e0 : Env1) : Prop := ∀ x, (look e x).isSome = (look e0 x).isSome
theorem SameDom.spl {e e0 : Env1} (h : SameDom e e0) (ts : List T) : spl e ts = spl e0 ts := by
  have : bnd e = bnd e0 := funext h
  unfold KC.spl
  rw [this]
section
variable {P : Program} {w : World} {K : PySem.W.Frag} {mg : Str → Option Value} {base : Heap} {C : Addr}
abbrev sMet : Stmt := inClass (topS 5) 1
abbrev nMet : List Str := ["self", "values", "term"]
theorem scMet : FnScope nMet ["self", "values"] (defScope sMet) := ⟨rfl, rfl, rfl, by decide +kernel, rfl, by decide +kernel, by decide +kernel⟩
def spMet (C : Addr) : Sp := fun vs H Q _ => ∃ (s a : Addr) (F : Addr → Prop) (ts : List T) (rows : List (List Key)) (kvs : List (Key × V)) (e0 e : Env1), vs = [.ref s, .ref a] ∧ MatAt F C H s ts rows e0 ∧ Rd H a (.dK kvs) ∧ EnvOf kvs e ∧ SameDom e e0 ∧ (∀ row ∈ rows, row.length = ts.length) ∧ ts.length ≤ 900 ∧
  ∀ l zs H', Same H H' → (H l = none ∨ F l) → H' l = some (.lst zs) → Tps H' zs ((rows.filter fun row => (metE ts row e).isSome).map rowD) → Q (.ref l) H'
theorem ok_met {f0 : Addr} {fd : FuncData} (F0 : Fun K "met" "Matcher.met" sMet f0 fd) (T : Cs K mg C) (B : Bt mg) (DW : dWo P w K mg base) : FnOk P w K mg base CX0 2 f0 fd ["self", "values"] (spMet C) := by
  refine F0.ok scMet (fun vs H Q E h => ?_) (fun cdv A outer s H vs Q E hr h => ?_)
  · obtain ⟨_, _, _, _, _, _, _, _, rfl, _⟩ := h
    rfl
  · obtain ⟨s, a, F, ts, rows, kvs, e0, e, rfl, M, rd, en, dom, lr, lt, q⟩ := h
    have hu := hu_of hr
    refine ⟨_, pss_one (ps_ret (pe_dget2 hu (pe_fld (pv 0) rfl) (pe_callTy call_tuple_of (by rfl) B.tup (by decide +kernel) (pa_cons (pe_lc (own := [("term", 2)]) (g := gName 2) (tt := tYes) (te := tCall spWo [] E0 (tCons (tVar 2) (tCons (tVar 1) tNil))) rfl scMet.nd (pi_list (pe_fld (pv 0) rfl))
      (blkOk_by (own := [("term", 2)]) (N := nMet) (sc := defScope sMet) (by decide +kernel)) (fun _ _ _ _ _ => pg_name (i := 2) scMet.nd rfl (Or.inl rfl)) (fun _ _ _ _ _ => pts_nil)
      (fun _ _ _ _ _ => pe_def DW hr (by rfl) (pa_cons (pv 2) (pa_cons (pv 1) pa_nil)))) pa_nil)) (pe_lst pa_nil) ⟨rfl, rfl, rfl, rfl⟩)), ?_⟩
    obtain ⟨dx, kn, f, g, ys, kv, h1, h2, h3, h4, h5, h6⟩ := M
    rw [← dom.spl ts] at h3 h4 h6
    refine ⟨.ref s, rfl, s, C, dx, _, _, rfl, h1, T.cl, T.nG, fl_gr _ _ _, g, rfl, .inr ⟨kv, .inl h5⟩, ?_⟩
    refine ⟨.ref s, rfl, s, C, dx, _, _, rfl, h1, T.cl, T.nK, fl_kn _ _ _, kn, rfl, ⟨ys, SqL.of h2⟩, fun D nD => ?_⟩
    have SL := split_le (bnd e) ts 0 ⟨[], [], []⟩
    have SL1 : (spl e ts).known.length ≤ ts.length := by simpa using SL.1
    have ly : ys.length = (spl e ts).known.length := by rw [h3.length, List.length_map, List.length_map]
    refine lc_vals walk_list (((spl e ts).known.map fun m => worthD (ts.getD m .any) e).map kV) (by rw [List.length_map, List.length_map, ly]) (by omega) nD (fun H2 sm => SqL.of (sm _ _ h2)) (fun i x H2 H3 Q2 R hi sm hY qq => ?_) (fun H2 sm2 eD => ?_)
    · obtain ⟨rfl, hx⟩ := hY
      obtain ⟨t, et, tt⟩ := term_get h3 hx
      rw [List.getElem?_map] at et
      cases em : (spl e ts).known[i]? with
      | none => rw [em] at et; cases et
      | some m =>
        rw [em] at et
        have et : ts.getD m .any = t := Option.some.inj et
        subst et
        refine ⟨rfl, iteT (B := R H3) ?_⟩
        refine ⟨x, rfl, .ref a, rfl, x, a, ts.getD m .any, kvs, e, worthD (ts.getD m .any) e, rfl, tt.mono (Tk.of sm), Rd.same rd sm, en, known_worth e ts m (List.mem_of_getElem? em), qq _ _ (Same.refl _) ?_⟩
        rw [List.getElem?_map, List.getElem?_map, em]
        rfl
    · refine ⟨D, _, rfl, .inl ⟨SqL.of eD, fun tp ntp => ?_⟩⟩
      refine ⟨(by show 0 ≤ sizeLine; decide), fun L nL => ?_⟩
      have s2 : Same H (upd (upd H2 tp (.tup (((spl e ts).known.map fun m => worthD (ts.getD m .any) e).map kV))) L (.lst [])) := (sm2.trans (same_new ntp)).trans (same_new nL)
      refine ⟨_, DGet.t (s2 _ _ h5) (same_new nL _ _ upd_same), ?_⟩
      have q0 := h6 ((spl e ts).known.map fun m => worthD (ts.getD m .any) e)
      rw [filt_met lr] at q0
      cases ev : valV kv ((spl e ts).known.map fun m => worthD (ts.getD m .any) e) with
      | none =>
        rw [ev] at q0
        have q0 : rows.filter (fun row => (metE ts row e).isSome) = [] := q0
        refine q L [] _ s2 (.inl ((sm2.trans (same_new ntp)).free nL)) upd_same ?_
        rw [q0]
        exact .nil
      | some v =>
        rw [ev] at q0
        obtain ⟨l, zs, rfl, w1, w2, w3⟩ := q0
        exact q l zs _ s2 (.inr w1) (s2 _ _ w2) (w3.mono (Tk.of s2))
end
end KC

namespace KC
open PySem PySem.Spec PyProof.Rows L2 KA
/-- what is first met is unbound, and each once -/
structure FrOk (bound : Str → Bool) (first : List (Str × Nat)) : Prop where
  nd : (first.map (·.1)).Nodup
  un : ∀ p ∈ first, bound p.1 = false
theorem lookN_none {f : List (Str × Nat)} {x : Str} : lookN f x = none ↔ x ∉ f.map (·.1) := by
  unfold lookN
  rw [Option.map_eq_none_iff, List.find?_eq_none]
  constructor
  · intro h hm
    obtain ⟨p, hp, e⟩ := List.mem_map.mp hm
    exact h p hp (decide_eq_true e)
  · intro h p hp e
    exact h (List.mem_map.mpr ⟨p, hp, of_decide_eq_true e⟩)
theorem split_first (bound : Str → Bool) : ∀ (ts : List T) (n : Nat) (s : Sp1), FrOk bound s.first → FrOk bound (splitT bound ts n s).first
  | [], _, _, h => h
  | .any :: ts, n, s, h => split_first bound ts (n + 1) s h
  | .val k :: ts, n, s, h => split_first bound ts (n + 1) { s with known := s.known ++ [n] } h
  | .var x :: ts, n, s, h => by
    rw [splitT_var]
    by_cases c : bound x = true
    · rw [if_pos c]
      exact split_first bound ts (n + 1) { s with known := s.known ++ [n] } h
    · rw [if_neg c]
      cases e : lookN s.first x with
      | some m => exact split_first bound ts (n + 1) { s with pairs := s.pairs ++ [(m, n)] } h
      | none =>
        refine split_first bound ts (n + 1) { s with first := s.first ++ [(x, n)] } ⟨?_, fun p hp => ?_⟩
        · show ((s.first ++ [(x, n)]).map (·.1)).Nodup
          rw [List.map_append]
          refine List.nodup_append.mpr ⟨h.nd, List.nodup_cons.mpr ⟨by simp, List.nodup_nil⟩, fun a ha b hb => ?_⟩
          have hb : b = x := List.mem_singleton.mp hb
          rw [hb]
          exact fun z => lookN_none.mp e (by rw [← z]; exact ha)
        · rcases List.mem_append.mp hp with hp | hp
          · exact h.un p hp
          · rw [List.mem_singleton.mp hp]
            exact Bool.not_eq_true _ ▸ c
theorem spl_first (e : Env1) (ts : List T) : FrOk (bnd e) (spl e ts).first := split_first _ ts 0 _ ⟨List.nodup_nil, fun p h => by cases h⟩
theorem EnvOf.put {kvs : List (Key × V)} {e : Env1} {x : Str} {k : Key} (h : EnvOf kvs e) (n : look e x = none) : EnvOf (putK kvs (Sum.inr x) (kV k)) (e ++ [(x, k)]) := by
  have hv : valV kvs (Sum.inr x) = none := by rw [h.at_, n]; rfl
  refine ⟨nd_putK _ h.nd hv, fun y => ?_, fun k0 v0 hm => ?_⟩
  · rw [valV_put, look_snoc, h.at_]
    by_cases c : y = x
    · rw [if_pos (by rw [c]), c, n]
      simp
    · rw [if_neg (fun z => c (by injection z))]
      cases look e y with
      | some v => rfl
      | none => simp [show ¬ x = y from fun z => c z.symm]
  · rw [putK_new _ hv] at hm
    rcases List.mem_append.mp hm with hm | hm
    · exact h.ks k0 v0 hm
    · have := List.mem_singleton.mp hm
      exact ⟨x, congrArg Prod.fst this⟩
theorem EnvOf.nil : EnvOf [] [] := ⟨List.nodup_nil, fun x => rfl, fun k v h => by cases h⟩
theorem frK_get {first : List (Str × Nat)} {i : Nat} {k : Key} {v : V} (h : (frK first)[i]? = some (k, v)) : ∃ x n, first[i]? = some (x, n) ∧ k = Sum.inr x ∧ v = .int (n : Nat) := by
  unfold frK at h
  rw [List.getElem?_map] at h
  cases e : first[i]? with
  | none => rw [e] at h; cases h
  | some p =>
    rw [e] at h
    have h := Option.some.inj h
    exact ⟨p.1, p.2, rfl, (congrArg Prod.fst h).symm, (congrArg Prod.snd h).symm⟩
theorem fr_take {bound : Str → Bool} {first : List (Str × Nat)} {i : Nat} {x : Str} {n : Nat} (h : FrOk bound first) (e : first[i]? = some (x, n)) : lookN (first.take i) x = none ∧ lookN first x = some n := by
  have hi := (List.getElem?_eq_some_iff.mp e).1
  constructor
  · refine lookN_none.mpr fun hm => ?_
    obtain ⟨p, hp, e1⟩ := List.mem_map.mp hm
    obtain ⟨j, hj, e2⟩ := List.getElem_of_mem hp
    rw [List.length_take] at hj
    rw [List.getElem_take] at e2
    have q := (List.pairwise_iff_getElem.mp h.nd) j i (by rw [List.length_map]; omega) (by rw [List.length_map]; exact hi) (by omega)
    rw [List.getElem_map, List.getElem_map, e2, e1] at q
    have e3 : first[i] = (x, n) := (List.getElem?_eq_some_iff.mp e).2
    rw [e3] at q
    exact q rfl
  · have hm : (x, n) ∈ first := List.mem_of_getElem? e
    cases c : lookN first x with
    | none => exact absurd (List.mem_map.mpr ⟨_, hm, rfl⟩) (lookN_none.mp c)
    | some m =>
      obtain ⟨p, hp, e1, e2⟩ := lookN_mem c
      have : p = (x, n) := by
        obtain ⟨a, ha, ea⟩ := List.getElem_of_mem hp
        obtain ⟨b, hb, eb⟩ := List.getElem_of_mem hm
        have hab : a = b := by
          rcases Nat.lt_trichotomy a b with c1 | c1 | c1
          · have q := (List.pairwise_iff_getElem.mp h.nd) a b (by rw [List.length_map]; exact ha) (by rw [List.length_map]; exact hb) c1
            rw [List.getElem_map, List.getElem_map, ea, eb, e1] at q
            exact (q rfl).elim
          · exact c1
          · have q := (List.pairwise_iff_getElem.mp h.nd) b a (by rw [List.length_map]; exact hb) (by rw [List.length_map]; exact ha) c1
            rw [List.getElem_map, List.getElem_map, ea, eb, e1] at q
            exact (q rfl).elim
        subst hab
        exact ea.symm.trans eb
      rw [this] at e2
      rw [← e2]
section
variable {P : Program} {w : World} {K : PySem.W.Frag} {mg : Str → Option Value} {base : Heap} {C : Addr}
abbrev sWr : Stmt := inClass (topS 5) 2
abbrev nWr : List Str := ["self", "values", "row", "grown", "name"]
theorem scWr : FnScope nWr ["self", "values", "row"] (defScope sWr) := ⟨rfl, rfl, rfl, by decide +kernel, rfl, by decide +kernel, by decide +kernel⟩
def spWr (C : Addr) : Sp := fun vs H Q _ => ∃ (s a p : Addr) (F : Addr → Prop) (ts : List T) (rows : List (List Key)) (row : List Key) (kvs : List (Key × V)) (e0 e : Env1), vs = [.ref s, .ref a, .ref p] ∧ MatAt F C H s ts rows e0 ∧ Rd H a (.dK kvs) ∧ EnvOf kvs e ∧ SameDom e e0 ∧ H p = some (.tup (row.map kV)) ∧ row.length = ts.length ∧ kvs.length + ts.length ≤ 900 ∧
  ∀ d kvs' H', Same H H' → H' d = some (.dK kvs') → EnvOf kvs' (e ++ given (spl e ts).first row) → kvs'.length ≤ kvs.length + ts.length → Q (.ref d) H'
theorem ok_wr {f0 : Addr} {fd : FuncData} (F0 : Fun K "with_row" "Matcher.with_row" sWr f0 fd) (T : Cs K mg C) (hdi : mg "dict" = none) : FnOk P w K mg base CX0 1 f0 fd ["self", "values", "row"] (spWr C) := by
  refine F0.ok scWr (fun vs H Q E h => ?_) (fun cdv A outer s H vs Q E hr h => ?_)
  · obtain ⟨_, _, _, _, _, _, _, _, _, _, rfl, _⟩ := h
    rfl
  · obtain ⟨s, a, p, F, ts, rows, row, kvs, e0, e, rfl, M, rd, en, dom, ep, lr, lt, q⟩ := h
    have hu := hu_of hr
    refine ⟨_, pss_cons (ps_set (i := 3) scWr.nd rfl (.inl rfl) (pe_callTy call_dictD (by rfl) hdi (by decide +kernel) (pa_cons (pv 1) pa_nil)))
      (pss_cons (ps_lock (ps_for PassesOwn.never rfl (pi_keys (pe_fld (pv 0) rfl)) (pg_name (i := 4) scWr.nd rfl (.inl rfl)) (pss_one (ps_dput hu (pv 3) (pv 4) (pe_ix ix_tup (pv 2) (pe_dget hu (pe_fld (pv 0) rfl) (pv 4) (fun _ _ => rfl)) (fun _ _ => rfl)) rfl))))
      (pss_one (ps_ret (pv 3)))), ?_⟩
    obtain ⟨dx, kn, f, g, ys, kv, h1, h2, h3, h4, h5, h6⟩ := M
    rw [← dom.spl ts] at h3 h4 h6
    have SI := spl_in e ts
    have SF := spl_first e ts
    have SL := split_le (bnd e) ts 0 ⟨[], [], []⟩
    have SL1 : (spl e ts).first.length ≤ ts.length := by simpa using SL.2.1
    refine ⟨.ref a, rfl, a, kvs, rfl, rd, fun D nD => ?_⟩
    have s1 : Same H (upd H D (.dK kvs)) := same_new nD
    have eD : (upd H D (.dK kvs)) D = some (.dK kvs) := upd_same
    revert s1 eD
    generalize (upd H D (.dK kvs)) = H1
    intro s1 eD
    have nDf : D ≠ f := fun z => by rw [z, h4] at nD; cases nD
    refine ⟨f, .dK (frK (spl e ts).first), s1 _ _ h4, trivial, fun od => ?_⟩
    have hsf : s ≠ f := fun z => by rw [z, h4] at h1; cases h1
    have hpf : p ≠ f := fun z => by rw [z, h4] at ep; cases ep
    have hsD : s ≠ D := ne_of_none h1 nD
    have hpD : p ≠ D := ne_of_none ep nD
    refine ⟨.ref s, rfl, s, C, dx, _, _, rfl, by rw [upd_ne hsf]; exact s1 _ _ h1, T.cl, T.nF, fl_fi _ _ _, f, od, rfl, .inl ⟨frK (spl e ts).first, upd_same, ?_⟩⟩
    have lf : (frK (spl e ts).first).length = (spl e ts).first.length := by unfold frK; rw [List.length_map]
    refine for_it walk_keys (fun i σ H' => (∃ x4, σ = [some (.ref s), some (.ref a), some (.ref p), some (.ref D), x4]) ∧ H' f = some (.frz od (.dK (frK (spl e ts).first))) ∧ (∀ b o, H1 b = some o → b ≠ f → b ≠ D → H' b = some o) ∧ ∃ kv', H' D = some (.dK kv') ∧ EnvOf kv' (e ++ given ((spl e ts).first.take i) row) ∧ kv'.length ≤ kvs.length + i)
      ⟨⟨none, rfl⟩, upd_same, fun b o hb n1 _ => by rw [upd_ne n1]; exact hb, kvs, by rw [upd_ne nDf]; exact eD, by rw [List.take_zero]; show EnvOf kvs (e ++ []); rw [List.append_nil]; exact en, Nat.le_refl _⟩ (fun i σ H' _ hP => hP.2.1) (fun i x σ H' H2 hi hP hY => ?_) (fun σ H' hP => ?_)
    · obtain ⟨⟨x4, rfl⟩, ef, kk, kv', eD', en', lk⟩ := hP
      obtain ⟨rfl, k0, v0, ek0, rfl⟩ := hY
      obtain ⟨x, n, ex, rfl, rfl⟩ := frK_get ek0
      obtain ⟨t1, t2⟩ := fr_take SF ex
      have hn : n < row.length := by
        have := SI.first _ (List.mem_of_getElem? ex)
        omega
      have hs2 := kk _ _ (s1 _ _ h1) hsf hsD
      have hp2 := kk _ _ (s1 _ _ ep) hpf hpD
      have lo : look (e ++ given ((spl e ts).first.take i) row) x = none := by
        have hb : bnd e x = false := SF.un _ (List.mem_of_getElem? ex)
        rw [look_append, look_given, t1]
        cases c : look e x with
        | none => rfl
        | some v =>
          have hb : (look e x).isSome = false := hb
          rw [c] at hb
          cases hb
      rw [lf] at hi
      refine ⟨.ref p, rfl, .ref s, rfl, s, C, dx, _, _, rfl, hs2, T.cl, T.nF, fl_fi _ _ _, .str x, rfl, f, .int (n : Nat), rfl, .inl ⟨frK (spl e ts).first, Sum.inr x, .inr ⟨od, ef⟩, rfl, (by rw [frK_val, t2]; rfl)⟩, p, _, (n : Nat), _, rfl, rfl, SqT.of hp2, atI_nat (row_at hn), .ref D, rfl, .str x, rfl, D, _, rfl, .inl ⟨kv', Sum.inr x, eD', rfl, small1000 (by omega), rfl⟩, ?_⟩
      refine ⟨⟨_, rfl⟩, by rw [upd_ne nDf.symm]; exact ef, fun b o hb n1 n2 => by rw [upd_ne n2]; exact kk b o hb n1 n2, _, upd_same, ?_, ?_⟩
      · rw [take_next ex]
        unfold given
        rw [List.map_append, ← List.append_assoc]
        exact en'.put lo
      · have := length_putK kv' (Sum.inr x) (kV (row.getD n (.inl 0)))
        omega
    · obtain ⟨⟨x4, rfl⟩, ef, kk, kv', eD', en', lk⟩ := hP
      rw [lf, List.take_length] at en'
      refine ⟨ef, .ref D, rfl, ?_⟩
      refine q D kv' _ (fun b o hb => ?_) (by rw [upd_ne nDf]; exact eD') en' (by omega)
      by_cases z : b = f
      · rw [z, h4] at hb
        rw [z, upd_same, ← hb]
      · rw [upd_ne z]
        exact kk b o (s1 _ _ hb) z (ne_of_none hb nD)
end
end KC

namespace KC
open PySem PySem.Spec PyProof.Rows L2 KA
/-! ### comprehensions of two clauses -/
theorem lc2_it {J : It} {n : Nat} {G : Hp → Prop} {Y : Nat → Hp → V → Hp → Prop} (w : Walk J n G Y) {wi1 : TI} {g g1 : TG} {tt tt1 : TT} {te : TE} {vs vs1 : List Nat} {σ : L2.St} {H1 : Hp} {D : Addr} {Qd : Hp → Prop} (Pv : Nat → Hp → Prop) (h0 : Pv 0 (upd H1 D (.lst []))) (hG : ∀ i H, i ≤ n → Pv i H → G H)
    (hs : ∀ i x H H' (Nx : Hp → Prop), i < n → Pv i H → Y i H x H' → (∀ H'', Pv (i + 1) H'' → Nx H'') → g x (wipe σ vs) H' fun σ2 H2 => wipe σ2 vs = wipe σ vs ∧ tt σ2 H2 fun b H3 =>
      if b = true then wi1 σ2 H3 fun J1 H4 => ∃ W1 : Nat → Nat → Hp → Prop, (∃ m, W1 0 m H4) ∧ ∀ j k H, W1 j k H →
        (J1.stop j H ∧ Nx H) ∨ (J1.go j H ∧ ∃ Nx1 : Hp → Prop, (∀ H', Nx1 H' → ∃ k', k' < k ∧ W1 (j + 1) k' H') ∧ ∀ x H', J1.yld j H x H' → g1 x (wipe σ2 vs1) H' fun σ3 H5 => wipe σ3 vs1 = wipe σ2 vs1 ∧ tt1 σ3 H5 fun b H6 =>
          if b = true then te σ3 H6 fun y H7 => ∃ acc, H7 D = some (.lst acc) ∧ acc.length < sizeLine ∧ Nx1 (upd H7 D (.lst (acc ++ [y]))) else Nx1 H6) else Nx H3)
    (hd : ∀ H, Pv n H → Qd H) :
    ∃ W : Nat → Nat → Hp → Prop, (∃ m, W 0 m (upd H1 D (.lst []))) ∧ ∀ i m H, W i m H →
      (J.stop i H ∧ Qd H) ∨ (J.go i H ∧ ∃ Nx : Hp → Prop, (∀ H', Nx H' → ∃ m', m' < m ∧ W (i + 1) m' H') ∧ ∀ x H', J.yld i H x H' → g x (wipe σ vs) H' fun σ2 H2 => wipe σ2 vs = wipe σ vs ∧ tt σ2 H2 fun b H3 =>
        if b = true then wi1 σ2 H3 fun J1 H4 => ∃ W1 : Nat → Nat → Hp → Prop, (∃ m, W1 0 m H4) ∧ ∀ j k H, W1 j k H →
          (J1.stop j H ∧ Nx H) ∨ (J1.go j H ∧ ∃ Nx1 : Hp → Prop, (∀ H', Nx1 H' → ∃ k', k' < k ∧ W1 (j + 1) k' H') ∧ ∀ x H', J1.yld j H x H' → g1 x (wipe σ2 vs1) H' fun σ3 H5 => wipe σ3 vs1 = wipe σ2 vs1 ∧ tt1 σ3 H5 fun b H6 =>
            if b = true then te σ3 H6 fun y H7 => ∃ acc, H7 D = some (.lst acc) ∧ acc.length < sizeLine ∧ Nx1 (upd H7 D (.lst (acc ++ [y]))) else Nx1 H6) else Nx H3) := by
  refine ⟨fun i m H => m = n - i ∧ i ≤ n ∧ Pv i H, ⟨n, by simp, Nat.zero_le _, h0⟩, ?_⟩
  rintro i m H ⟨rfl, hi, p⟩
  have q := hG i H hi p
  by_cases hlt : i < n
  · refine .inr ⟨w.goes i H hlt q, fun H' => ∃ m', m' < n - i ∧ (m' = n - (i + 1) ∧ i + 1 ≤ n ∧ Pv (i + 1) H'), fun H' p' => p', fun x H' y => ?_⟩
    exact hs i x H H' _ hlt p (w.yields i H x H' hlt q y) fun H'' p' => ⟨n - (i + 1), by omega, rfl, hlt, p'⟩
  · have e : i = n := by omega
    subst e
    exact .inl ⟨w.stops H q, hd H p⟩
theorem lc_in {J1 : It} {n1 : Nat} {G1 : Hp → Prop} {Y1 : Nat → Hp → V → Hp → Prop} (w1 : Walk J1 n1 G1 Y1) {g1 : TG} {tt1 : TT} {te : TE} {vs1 : List Nat} {σ2 : L2.St} {H4 : Hp} {D : Addr} {Nx : Hp → Prop} (Pv1 : Nat → Hp → Prop) (h0 : Pv1 0 H4) (hG : ∀ j H, j ≤ n1 → Pv1 j H → G1 H)
    (hs : ∀ j x H H', j < n1 → Pv1 j H → Y1 j H x H' → g1 x (wipe σ2 vs1) H' fun σ3 H5 => wipe σ3 vs1 = wipe σ2 vs1 ∧ tt1 σ3 H5 fun b H6 =>
      if b = true then te σ3 H6 fun y H7 => ∃ acc, H7 D = some (.lst acc) ∧ acc.length < sizeLine ∧ Pv1 (j + 1) (upd H7 D (.lst (acc ++ [y]))) else Pv1 (j + 1) H6)
    (hd : ∀ H, Pv1 n1 H → Nx H) :
    ∃ W1 : Nat → Nat → Hp → Prop, (∃ m, W1 0 m H4) ∧ ∀ j k H, W1 j k H →
      (J1.stop j H ∧ Nx H) ∨ (J1.go j H ∧ ∃ Nx1 : Hp → Prop, (∀ H', Nx1 H' → ∃ k', k' < k ∧ W1 (j + 1) k' H') ∧ ∀ x H', J1.yld j H x H' → g1 x (wipe σ2 vs1) H' fun σ3 H5 => wipe σ3 vs1 = wipe σ2 vs1 ∧ tt1 σ3 H5 fun b H6 =>
        if b = true then te σ3 H6 fun y H7 => ∃ acc, H7 D = some (.lst acc) ∧ acc.length < sizeLine ∧ Nx1 (upd H7 D (.lst (acc ++ [y]))) else Nx1 H6) := by
  refine ⟨fun i m H => m = n1 - i ∧ i ≤ n1 ∧ Pv1 i H, ⟨n1, by simp, Nat.zero_le _, h0⟩, ?_⟩
  rintro i m H ⟨rfl, hi, p⟩
  have q := hG i H hi p
  by_cases hlt : i < n1
  · exact .inr ⟨w1.goes i H hlt q, Pv1 (i + 1), fun H' p' => ⟨n1 - (i + 1), by omega, rfl, hlt, p'⟩, fun x H' y => hs i x H H' hlt p (w1.yields i H x H' hlt q y)⟩
  · have e : i = n1 := by omega
    subst e
    exact .inl ⟨w1.stops H q, hd H p⟩
/-! ### ways -/
/-- all but lists stays -/
def Keep (H H' : Hp) : Prop := ∀ a o, H a = some o → (∀ xs, o ≠ .lst xs) → H' a = some o
theorem Keep.refl (H : Hp) : Keep H H := fun _ _ h _ => h
theorem Keep.trans {H H1 H2 : Hp} (a : Keep H H1) (b : Keep H1 H2) : Keep H H2 := fun x o h n => b x o (a x o h n) n
theorem Keep.of {H H' : Hp} (s : Same H H') : Keep H H' := fun a o h _ => s a o h
theorem Keep.lst {H : Hp} {D : Addr} {ys : List V} {o : HO} (h : H D = some (.lst ys)) : Keep H (upd H D o) := fun a u e n => by
  rw [upd_ne (fun z => by rw [z, h] at e; cases e; exact n _ rfl)]
  exact e
theorem Keep.tk {H H' : Hp} (k : Keep H H') : Tk H H' := fun a xs h => k a _ h (fun _ z => by cases z)
structure WayX (H : Hp) (p d t : Addr) (kvs : List (Key × V)) (xs : List V) (w : Way) (n : Nat) : Prop where
  hp : H p = some (.tup [.ref d, .ref t])
  hd : H d = some (.dK kvs)
  en : EnvOf kvs w.1
  ld : kvs.length ≤ n
  ht : H t = some (.tup xs)
  tx : Tps H xs (w.2.map rowD)
  lt : w.2.length ≤ n
def WayAt (H : Hp) (v : V) (w : Way) (n : Nat) : Prop := ∃ p d t kvs xs, v = .ref p ∧ WayX H p d t kvs xs w n
theorem WayX.keep {H H' : Hp} {p d t : Addr} {kvs : List (Key × V)} {xs : List V} {w : Way} {n : Nat} (h : WayX H p d t kvs xs w n) (k : Keep H H') : WayX H' p d t kvs xs w n :=
  ⟨k _ _ h.hp (fun _ z => by cases z), k _ _ h.hd (fun _ z => by cases z), h.en, h.ld, k _ _ h.ht (fun _ z => by cases z), h.tx.mono k.tk, h.lt⟩
theorem WayX.up {H : Hp} {p d t : Addr} {kvs : List (Key × V)} {xs : List V} {w : Way} {n n' : Nat} (h : WayX H p d t kvs xs w n) (k : n ≤ n') : WayX H p d t kvs xs w n' :=
  ⟨h.hp, h.hd, h.en, Nat.le_trans h.ld k, h.ht, h.tx, Nat.le_trans h.lt k⟩
theorem WayAt.keep {H H' : Hp} {v : V} {w : Way} {n : Nat} (h : WayAt H v w n) (k : Keep H H') : WayAt H' v w n := by
  obtain ⟨p, d, t, kvs, xs, e, x⟩ := h
  exact ⟨p, d, t, kvs, xs, e, x.keep k⟩
theorem WayAt.up {H : Hp} {v : V} {w : Way} {n n' : Nat} (h : WayAt H v w n) (k : n ≤ n') : WayAt H v w n' := by
  obtain ⟨p, d, t, kvs, xs, e, x⟩ := h
  exact ⟨p, d, t, kvs, xs, e, x.up k⟩
inductive WaysL (H : Hp) (n : Nat) : List V → List Way → Prop
  | nil : WaysL H n [] []
  | cons {v : V} {w : Way} {vs : List V} {ws : List Way} : WayAt H v w n → WaysL H n vs ws → WaysL H n (v :: vs) (w :: ws)
theorem WaysL.keep {H H' : Hp} {n : Nat} {vs : List V} {ws : List Way} (h : WaysL H n vs ws) (k : Keep H H') : WaysL H' n vs ws := by
  induction h with
  | nil => exact .nil
  | cons a _ ih => exact .cons (a.keep k) ih
theorem WaysL.up {H : Hp} {n n' : Nat} {vs : List V} {ws : List Way} (h : WaysL H n vs ws) (k : n ≤ n') : WaysL H n' vs ws := by
  induction h with
  | nil => exact .nil
  | cons a _ ih => exact .cons (a.up k) ih
theorem WaysL.length {H : Hp} {n : Nat} {vs : List V} {ws : List Way} (h : WaysL H n vs ws) : vs.length = ws.length := by
  induction h with
  | nil => rfl
  | cons _ _ ih => rw [List.length_cons, List.length_cons, ih]
theorem WaysL.append {H : Hp} {n : Nat} {vs us : List V} {ws ts : List Way} (h : WaysL H n vs ws) (k : WaysL H n us ts) : WaysL H n (vs ++ us) (ws ++ ts) := by
  induction h with
  | nil => exact k
  | cons a _ ih => exact .cons a ih
theorem WaysL.get {H : Hp} {n : Nat} : ∀ {vs : List V} {ws : List Way} {i : Nat} {v : V}, WaysL H n vs ws → vs[i]? = some v → ∃ w, ws[i]? = some w ∧ WayAt H v w n
  | _, _, _, _, .nil, e => by simp at e
  | _, _, 0, _, .cons a _, e => by
    cases e
    exact ⟨_, rfl, a⟩
  | _, _, i + 1, _, .cons _ r, e => WaysL.get (i := i) r e
/-- all ways have values for the same names -/
def DomOk (ws : List Way) : Prop := ∀ w ∈ ws, ∀ w' ∈ ws, SameDom w.1 w'.1
def litD : L → PyData
  | .fact r ts => .tuple [.str "fact", .str r, .tuple (ts.map tD)]
  | .notl r ts => .tuple [.str "not", .str r, .tuple (ts.map tD)]
  | .cmp op a b => .tuple [.str "compare", .str op, tD a, tD b]
  | .isl x op a b => .tuple [.str "is", .str x, .str op, tD a, tD b]
  | .cnt x r ts => .tuple [.str "count", .str x, .str r, .tuple (ts.map tD)]
def goF (rows : List (List Key)) (ts : List T) (w : Way) : List Way := rows.filterMap fun row => (metE ts row w.1).map fun e => (e, w.2 ++ [row])
theorem goF_eq {rows : List (List Key)} {ts : List T} {w : Way} (hl : ∀ row ∈ rows, row.length = ts.length) :
    goF rows ts w = (rows.filter fun row => (metE ts row w.1).isSome).map fun row => (w.1 ++ given (spl w.1 ts).first row, w.2 ++ [row]) := by
  unfold goF
  induction rows with
  | nil => rfl
  | cons row r ih =>
    have ih := ih fun x hx => hl x (List.mem_cons_of_mem _ hx)
    cases c : metE ts row w.1 with
    | none =>
      rw [List.filterMap_cons, c, List.filter_cons_of_neg (by rw [c]; exact Bool.false_ne_true)]
      exact ih
    | some e =>
      rw [List.filterMap_cons, c, List.filter_cons_of_pos (by rw [c]; rfl), List.map_cons, ← ih, met_some (hl row List.mem_cons_self) c]
      rfl
/-- Matcher(..) as its callers know it -/
structure MkM (P : Program) (w : World) (K : PySem.W.Frag) (mg : Str → Option Value) (base : Heap) (C : Addr) : Prop where
  ex : ∃ (f : Addr) (fd : FuncData), Mk K C f ∧ FnOk P w K mg base CX0 2 f fd ["self", "terms", "rows", "values"] (spMi C) ∧ Binds K fd ["self", "terms", "rows", "values"] []
section
variable {X : Cx} {C : Addr} {p pos : Pos} {e : Expr} {es : List Expr} {t : TA}
theorem pe_mkM (M : MkM X.prog X.w X.K X.mg X.base C) (hr : Room 3 X.A) (hg : Gl X "Matcher") (hm : X.mg "Matcher" = some (.ref C)) (ha : PA X (e :: es) t)
    (he : starEach (e :: es) X.env = (false, eval e X.env) :: starEach es X.env := by rfl) (hpl : (backTo pos (starEach es X.env)).any (·.1) = false := by rfl) :
    PE X (.Call (.Name "Matcher" p) (e :: es) [] pos) (tMake C (spMi C) [] E0 t) := by
  obtain ⟨f, fd, m, F, b0⟩ := M.ex
  exact pe_make m F hr hg hm b0 .nil pass0 ha (by decide) he hpl
end
/-- what Matcher(..) leaves: the new instance, all else as it was -/
theorem made_same {C : Addr} {H H' : Hp} {x dx : Addr} (nx : H x = none) (ndx : H dx = none) (k : Kept x (upd (upd H dx (.own x)) x (.ins C dx [])) H') : Same H H' := fun a o h => by
  refine k a o ?_ (ne_of_none h nx)
  rw [upd_ne (ne_of_none h nx), upd_ne (ne_of_none h ndx)]
  exact h
end KC

namespace KC
open PySem PySem.Spec PyProof.Rows L2 KA
section
variable {P : Program} {w : World} {K : PySem.W.Frag} {mg : Str → Option Value} {base : Heap} {C : Addr}
abbrev mMet (P : Program) (w : World) (K : PySem.W.Frag) (mg : Str → Option Value) (base : Heap) (C : Addr) : Prop := MDef P w K mg base C "met" 2 ["self", "values"] (spMet C)
abbrev mWr (P : Program) (w : World) (K : PySem.W.Frag) (mg : Str → Option Value) (base : Heap) (C : Addr) : Prop := MDef P w K mg base C "with_row" 1 ["self", "values", "row"] (spWr C)
theorem fl_no {kn f g : Addr} {x : Str} (n1 : ¬ x = "known") (n2 : ¬ x = "first") (n3 : ¬ x = "groups") : (mflds kn f g).lookup x = none := by
  have b : ∀ {y : Str}, ¬ x = y → (x == y) = false := fun n => beq_false_of_ne n
  unfold mflds
  rw [List.lookup_cons, b n1, List.lookup_cons, b n2, List.lookup_cons, b n3]
  rfl
abbrev sFw : Stmt := topS 8
abbrev nFw : List Str := ["literal", "found", "rows", "matcher", "values", "taken", "row"]
theorem scFw : FnScope nFw ["literal", "found", "rows"] (defScope sFw) := ⟨rfl, rfl, rfl, by decide +kernel, rfl, by decide +kernel, by decide +kernel⟩
def spFw : Sp := fun vs H Q _ => ∃ (v : V) (fl r : Addr) (nm : Str) (ts : List T) (ys rs : List V) (ws : List Way) (rows : List (List Key)) (n : Nat), vs = [v, .ref fl, .ref r] ∧ Tp H v (litD (.fact nm ts)) ∧ H fl = some (.lst ys) ∧ WaysL H n ys ws ∧ ws ≠ [] ∧ DomOk ws ∧ H r = some (.lst rs) ∧ Tps H rs (rows.map rowD) ∧ (∀ row ∈ rows, row.length = ts.length) ∧ n + ts.length + 1 ≤ 900 ∧ rows.length ≤ 900 ∧ ws.length * rows.length ≤ 900 ∧
  ∀ L zs H', Same H H' → H' L = some (.lst zs) → WaysL H' (n + ts.length + 1) zs (ws.flatMap (goF rows ts)) → Q (.ref L) H'
theorem lit3_inv {H : Hp} {v : V} {a b : Str} {ts : List T} (t : Tp H v (.tuple [.str a, .str b, .tuple (ts.map tD)])) : ∃ p u xs, v = .ref p ∧ H p = some (.tup [.str a, .str b, .ref u]) ∧ H u = some (.tup xs) ∧ Tps H xs (ts.map tD) := by
  cases t with
  | tup e r => cases r with
    | cons h1 r => cases r with
      | cons h2 r => cases r with
        | cons h3 r =>
          cases r
          cases h1
          cases h2
          cases h3 with
          | tup e3 r3 => exact ⟨_, _, _, rfl, e, e3, r3⟩
theorem ok_fw {f0 : Addr} {fd : FuncData} (F0 : Fun K "fact_ways" "fact_ways" sFw f0 fd) (T : Cs K mg C) (B : Bt mg) (MM : MkM P w K mg base C) (MT : mMet P w K mg base C) (MW : mWr P w K mg base C) : FnOk P w K mg base CX0 4 f0 fd ["literal", "found", "rows"] spFw := by
  refine F0.ok scFw (fun vs H Q E h => ?_) (fun cdv A outer s H vs Q E hr h => ?_)
  · obtain ⟨_, _, _, _, _, _, _, _, _, _, rfl, _⟩ := h
    rfl
  · obtain ⟨v, fl, r, nm, ts, ys, rs, ws, rows, n, rfl, tv, ef, wl, ne, dom, er, tr, lr, ln, lro, lpr, q⟩ := h
    have hu := hu_of hr
    have r2 : Room 2 _ := hr.mono (by decide)
    have r1 : Room 1 _ := hr.mono (by decide)
    refine ⟨_, pss_cons (ps_set (i := 3) scFw.nd rfl (.inr rfl) (pe_mkM MM hr (by rfl) T.mgC (pa_cons (pe_ix ix_tup (pv 0) pe_int (fun _ _ => rfl)) (pa_cons (pv 2) (pa_cons (pe_ix ix_tup (pe_ix ix_list (pv 1) pe_int (fun _ _ => rfl)) pe_int (fun _ _ => rfl)) pa_nil)))))
      (pss_one (ps_ret (pe_lc2 (own := [("values", 4), ("taken", 5), ("row", 6)]) (vs1 := [6]) (g := gTup K 2 (gCons (gName 4) (gCons (gName 5) gNil))) (g1 := gName 6) (tt := tYes) (tt1 := tYes) (wi1 := iList K (tMeth C "met" (spMet C) [] E0 (tVar 3) (tCons (tVar 4) tNil)))
        (te := tTup (tCons (tMeth C "with_row" (spWr C) [] E0 (tVar 3) (tCons (tVar 4) (tCons (tVar 6) tNil))) (tCons (tOp (rCatA K) (tVar 5) (tTup (tCons (tVar 6) tNil))) tNil))) rfl scFw.nd (pi_list (pv 1)) (blkOk_by (own := [("values", 4), ("taken", 5), ("row", 6)]) (N := nFw) (sc := defScope sFw) (by decide +kernel)) (by decide)
        (fun _ _ _ _ _ => pg_tup rfl (pgs_cons (pg_name (i := 4) scFw.nd rfl (Or.inl rfl)) (pgs_cons (pg_name (i := 5) scFw.nd rfl (Or.inl rfl)) pgs_nil))) (fun _ _ _ _ _ => pts_nil)
        (fun _ _ _ _ _ => pi_list (pe_mdef MT (pv 3) T.cl r2 (pa_cons (pv 4) pa_nil))) (fun _ _ _ _ _ => pg_name (i := 6) scFw.nd rfl (Or.inl rfl)) (fun _ _ _ _ _ => pts_nil)
        (fun _ _ _ _ _ => pe_tup (pa_cons (pe_mdef MW (pv 3) T.cl r1 (pa_cons (pv 4) (pa_cons (pv 6) pa_nil))) (pa_cons (pe_op op_catA (pv 5) (pe_tup (pa_cons (pv 6) pa_nil))) pa_nil)))))), ?_⟩
    obtain ⟨pl, u, xs, rfl, epl, eu, tx⟩ := lit3_inv tv
    have lys := wl.length
    -- the first way
    obtain ⟨v0, ev0⟩ : ∃ v0, ys[0]? = some v0 := by
      cases ys with
      | nil =>
        rw [List.length_nil] at lys
        exact absurd (List.length_eq_zero_iff.mp lys.symm) ne
      | cons a b => exact ⟨a, rfl⟩
    obtain ⟨w0, ew0, p0, d0, t0, kv0, xs0, rfl, X0⟩ := wl.get ev0
    have m0 : w0 ∈ ws := List.mem_of_getElem? ew0
    refine ⟨.ref pl, rfl, pl, _, 2, .ref u, rfl, rfl, SqT.of epl, rfl, .ref r, rfl, .ref fl, rfl, fl, ys, 0, .ref p0, rfl, rfl, SqL.of ef, atI_nat ev0, p0, _, 0, .ref d0, rfl, rfl, SqT.of X0.hp, rfl, ?_⟩
    intro x dx nx ndx nex
    have keepK : ∀ {b : Addr} {o : HO}, H b = some o → (upd (upd H dx (.own x)) x (.ins C dx [])) b = some o := fun h => by
      rw [upd_ne (ne_of_none h nx), upd_ne (ne_of_none h ndx)]
      exact h
    have kT : Tk H (upd (upd H dx (.own x)) x (.ins C dx [])) := fun b zs h => keepK h
    refine ⟨x, dx, u, r, d0, xs, rs, ts, rows, kv0, w0.1, rfl, upd_same, keepK eu, tx.mono kT, keepK er, tr.mono kT, lr, .inl (keepK X0.hd), X0.en, by omega, lro, fun H1 k1 M1 => ⟨rfl, ?_⟩⟩
    have s1 : Same H H1 := made_same nx ndx k1
    revert s1 M1
    clear k1 keepK kT
    intro M1 s1
    refine ⟨.ref fl, rfl, fl, rfl, ⟨ys, SqL.of (s1 _ _ ef)⟩, fun D nD => ?_⟩
    have sD : Same H1 (upd H1 D (.lst [])) := same_new nD
    refine lc2_it walk_list (fun i H' => Same H1 H' ∧ ∃ zs, H' D = some (.lst zs) ∧ WaysL H' (n + ts.length + 1) zs ((ws.take i).flatMap (goF rows ts))) ⟨sD, [], upd_same, .nil⟩ (fun i H' _ hP => SqL.of (hP.1 _ _ (s1 _ _ ef))) (fun i y H2 H3 Nx hi hP hY hN => ?_) (fun H' hP => ?_)
    · obtain ⟨rfl, hy⟩ := hY
      obtain ⟨s2, zs, eD, wz⟩ := hP
      obtain ⟨wy, ewy, p, d, t, kvs, xw, rfl, XY⟩ := wl.get hy
      have my : wy ∈ ws := List.mem_of_getElem? ewy
      have XY := XY.keep (Keep.of (s1.trans s2))
      refine ⟨p, _, rfl, SqT.of XY.hp, rfl, _, _, rfl, _, _, rfl, rfl, rfl, iteT (B := Nx H3) ?_⟩
      obtain ⟨dxm, kn, f, g, yk, kvg, hM, hrest⟩ := id (M1.same s2)
      refine ⟨.ref x, rfl, x, dxm, _, rfl, hM, fl_no (by decide +kernel) (by decide +kernel) (by decide +kernel), .ref d, rfl, ?_⟩
      refine ⟨x, d, _, ts, rows, kvs, w0.1, wy.1, rfl, M1.same s2, .inl XY.hd, XY.en, dom _ my _ m0, lr, by omega, fun l zl H4 s4 ol el tl => ?_⟩
      have hDl : l ≠ D := fun z => by
        rcases ol with o | o
        · rw [z, eD] at o
          cases o
        · rw [z] at o
          exact o nD
      refine ⟨l, rfl, ⟨zl, SqL.of el⟩, ?_⟩
      have lzl := tl.length
      rw [List.length_map] at lzl
      have lfl : (rows.filter fun row => (metE ts row wy.1).isSome).length ≤ rows.length := List.length_filter_le _ _
      have szs : zs.length + (rows.filter fun row => (metE ts row wy.1).isSome).length ≤ 900 := by
        have h1 : zs.length ≤ i * rows.length := by
          rw [wz.length]
          have gen : ∀ l : List Way, (l.flatMap (goF rows ts)).length ≤ l.length * rows.length := fun l => by
            induction l with
            | nil => simp
            | cons a b ih =>
              rw [List.flatMap_cons, List.length_append, List.length_cons, Nat.succ_mul]
              have : (goF rows ts a).length ≤ rows.length := List.length_filterMap_le _ _
              omega
          have := gen (ws.take i)
          rw [List.length_take, Nat.min_eq_left (by omega)] at this
          exact this
        have h2 : i * rows.length + rows.length ≤ ws.length * rows.length := by
          rw [← Nat.succ_mul]
          exact Nat.mul_le_mul_right _ (by omega)
        omega
      refine lc_in walk_list (fun j H' => Same H1 H' ∧ Keep H4 H' ∧ H' l = some (.lst zl) ∧ ∃ zs2, H' D = some (.lst zs2) ∧ WaysL H' (n + ts.length + 1) zs2 ((ws.take i).flatMap (goF rows ts) ++ ((rows.filter fun row => (metE ts row wy.1).isSome).take j).map fun row => (wy.1 ++ given (spl wy.1 ts).first row, wy.2 ++ [row])) ∧ zs2.length = zs.length + j)
        ⟨s2.trans s4, Keep.refl _, el, zs, s4 _ _ eD, by rw [List.take_zero, List.map_nil, List.append_nil]; exact wz.keep (Keep.of s4), rfl⟩ (fun j H' _ hP => SqL.of hP.2.2.1) (fun j yr H5 H6 hj hP hY => ?_) (fun H' hP => ?_)
      · obtain ⟨rfl, hyr⟩ := hY
        obtain ⟨s5, k5, el5, zs2, eD5, wz5, lz5⟩ := hP
        have tl5 := tl.mono k5.tk
        obtain ⟨row, erow, trow⟩ := row_get tl5 hyr
        obtain ⟨pr, rfl, epr⟩ := row_inv trow
        have hrow : row ∈ rows := (List.mem_filter.mp (List.mem_of_getElem? erow)).1
        have X5 := (XY.keep (Keep.of s4)).keep k5
        have hM5 := k5 _ _ (s4 _ _ hM) (fun _ z => by cases z)
        refine ⟨rfl, iteT (B := True) ?_⟩
        refine ⟨.ref x, rfl, x, dxm, _, rfl, hM5, fl_no (by decide +kernel) (by decide +kernel) (by decide +kernel), .ref d, rfl, .ref pr, rfl, ?_⟩
        refine ⟨x, d, pr, _, ts, rows, row, kvs, w0.1, wy.1, rfl, M1.same s5, .inl X5.hd, X5.en, dom _ my _ m0, epr, lr row hrow, by have := X5.ld; omega, fun d2 kv2 H7 s7 ed2 en2 lk2 => ?_⟩
        have X7 := X5.keep (Keep.of s7)
        have epr7 := s7 _ _ epr
        have wz7 := wz5.keep (Keep.of s7)
        have eD7 := s7 _ _ eD5
        have el7 := s7 _ _ el5
        have fin : ∀ (t2 : Addr) (HH : Hp), Same H7 HH → HH t2 = some (.tup (xw ++ [.ref pr])) → ∀ p2, HH p2 = none → ∃ acc, (upd HH p2 (.tup [.ref d2, .ref t2])) D = some (.lst acc) ∧ acc.length < sizeLine ∧
            (Same H1 (upd (upd HH p2 (.tup [.ref d2, .ref t2])) D (.lst (acc ++ [.ref p2]))) ∧ Keep H4 (upd (upd HH p2 (.tup [.ref d2, .ref t2])) D (.lst (acc ++ [.ref p2]))) ∧ (upd (upd HH p2 (.tup [.ref d2, .ref t2])) D (.lst (acc ++ [.ref p2]))) l = some (.lst zl) ∧
              ∃ zs2, (upd (upd HH p2 (.tup [.ref d2, .ref t2])) D (.lst (acc ++ [.ref p2]))) D = some (.lst zs2) ∧ WaysL (upd (upd HH p2 (.tup [.ref d2, .ref t2])) D (.lst (acc ++ [.ref p2]))) (n + ts.length + 1) zs2 ((ws.take i).flatMap (goF rows ts) ++ ((rows.filter fun row => (metE ts row wy.1).isSome).take (j + 1)).map fun row => (wy.1 ++ given (spl wy.1 ts).first row, wy.2 ++ [row])) ∧ zs2.length = zs.length + (j + 1)) := by
          intro t2 HH sH et2 p2 np2
          have sp2 : Same HH (upd HH p2 (.tup [.ref d2, .ref t2])) := same_new np2
          have ep2 : (upd HH p2 (.tup [.ref d2, .ref t2])) p2 = some (.tup [.ref d2, .ref t2]) := upd_same
          revert sp2 ep2
          generalize upd HH p2 (.tup [.ref d2, .ref t2]) = HG
          intro sp2 ep2
          have sG := sH.trans sp2
          have eDG := sG _ _ eD7
          have hj' : j < (rows.filter fun row => (metE ts row wy.1).isSome).length := (List.getElem?_eq_some_iff.mp erow).1
          have kD : Keep HG (upd HG D (.lst (zs2 ++ [.ref p2]))) := Keep.lst eDG
          refine ⟨zs2, eDG, small1000 (by omega), same_put (s5.trans (s7.trans sG)) nD, ((k5.trans (Keep.of s7)).trans (Keep.of sG)).trans kD, by rw [upd_ne hDl]; exact sG _ _ el7, _, upd_same, ?_, by rw [List.length_append, lz5]; simp; omega⟩
          rw [take_next erow, List.map_append, ← List.append_assoc]
          refine ((wz7.keep (Keep.of sG)).keep kD).append (.cons ⟨p2, d2, t2, kv2, xw ++ [.ref pr], rfl, ?_⟩ .nil)
          have lw := X7.lt
          have ld := X5.ld
          refine ⟨kD _ _ ep2 (fun _ z => by cases z), kD _ _ (sG _ _ ed2) (fun _ z => by cases z), en2, by omega, kD _ _ (sp2 _ _ et2) (fun _ z => by cases z), ?_, by simp; omega⟩
          show Tps _ _ ((wy.2 ++ [row]).map rowD)
          rw [List.map_append]
          exact ((X7.tx.mono (Tk.of sG)).mono kD.tk).append (.cons (row_tp (kD _ _ (sG _ _ epr7) (fun _ z => by cases z))) .nil)
        have lxw : xw.length = wy.2.length := by rw [X7.tx.length, List.length_map]
        have lw := X7.lt
        refine ⟨.ref t, rfl, .ref pr, rfl, (by show 1 ≤ sizeLine; decide), fun t1 nt1 => ?_⟩
        have s8 : Same H7 (upd H7 t1 (.tup [.ref pr])) := same_new nt1
        have et1 : (upd H7 t1 (.tup [.ref pr])) t1 = some (.tup [.ref pr]) := upd_same
        revert s8 et1
        generalize upd H7 t1 (.tup [.ref pr]) = H8
        intro s8 et1
        refine ⟨t, t1, xw, [.ref pr], rfl, rfl, SqT.of (s8 _ _ X7.ht), SqT.of et1, Nat.le_of_lt (small1000 (by simp; omega)), fun exw => ?_, (fun _ z => (by cases z)), fun nxw _ t2 nt2 => ?_⟩
        · refine ⟨(by show 2 ≤ sizeLine; decide), fin t1 H8 s8 ?_⟩
          rw [exw]
          exact et1
        · refine ⟨(by show 2 ≤ sizeLine; decide), fin t2 _ (s8.trans (same_new nt2)) upd_same⟩
      · obtain ⟨s5, k5, el5, zs2, eD5, wz5, lz5⟩ := hP
        refine hN H' ⟨s5, zs2, eD5, ?_⟩
        rw [take_next ewy, List.flatMap_append, List.flatMap_singleton, goF_eq lr]
        have ee : ((rows.filter fun row => (metE ts row wy.1).isSome).take zl.length) = rows.filter fun row => (metE ts row wy.1).isSome := List.take_of_length_le (by omega)
        rw [ee] at wz5
        exact wz5
    · obtain ⟨s2, zs, eD, wz⟩ := hP
      rw [lys, List.take_length] at wz
      exact q D zs H' (s1.trans s2) eD wz
end
end KC

namespace KC
open PySem PySem.Spec PyProof.Rows L2 KA
/-- the rows of one relation in a dict of rows -/
def RowsAt (H : Hp) (a : Addr) (r : Str) (rows : List (List Key)) : Prop := ∃ kvs l rs, Rd H a (.dK kvs) ∧ valV kvs (Sum.inr r) = some (.ref l) ∧ H l = some (.lst rs) ∧ Tps H rs (rows.map rowD)
theorem RowsAt.same {H H' : Hp} {a : Addr} {r : Str} {rows : List (List Key)} (h : RowsAt H a r rows) (s : Same H H') : RowsAt H' a r rows := by
  obtain ⟨kvs, l, rs, h1, h2, h3, h4⟩ := h
  exact ⟨kvs, l, rs, Rd.same h1 s, h2, s _ _ h3, h4.mono (Tk.of s)⟩
/-- a comprehension that keeps some of a list's values -/
theorem lc_keep {J : It} {n : Nat} {G : Hp → Prop} {Y : Nat → Hp → V → Hp → Prop} (w : Walk J n G Y) {g : TG} {tt : TT} {te : TE} {vs : List Nat} {σ : L2.St} {H1 : Hp} {D : Addr} {Qd : Hp → Prop} (ys : List V) (ks : List Bool) (hl : ys.length = n) (hk : ks.length = n) (hn : n ≤ 1000) (nD : H1 D = none)
    (hG : ∀ H, Same H1 H → G H)
    (hs : ∀ i x H2 H3 (Q : V → Hp → Prop) (R : Hp → Prop), i < n → Same H1 H2 → Y i H2 x H3 → (∀ y H5, Same H2 H5 → ks[i]? = some true → ys[i]? = some y → Q y H5) → (∀ H5, Same H2 H5 → ks[i]? = some false → R H5) → g x (wipe σ vs) H3 fun σ2 H4 => wipe σ2 vs = wipe σ vs ∧ tt σ2 H4 fun b H5 => if b = true then te σ2 H5 Q else R H5)
    (hd : ∀ H, Same H1 H → H D = some (.lst (((ys.zip ks).filter (·.2)).map (·.1))) → Qd H) :
    ∃ W : Nat → Nat → Hp → Prop, (∃ m, W 0 m (upd H1 D (.lst []))) ∧ ∀ i m H, W i m H →
      (J.stop i H ∧ Qd H) ∨ (J.go i H ∧ ∃ Nx : Hp → Prop, (∀ H', Nx H' → ∃ m', m' < m ∧ W (i + 1) m' H') ∧ ∀ x H', J.yld i H x H' → g x (wipe σ vs) H' fun σ2 H2 => wipe σ2 vs = wipe σ vs ∧ tt σ2 H2 fun b H3 =>
        if b = true then te σ2 H3 fun y H4 => ∃ acc, H4 D = some (.lst acc) ∧ acc.length < sizeLine ∧ Nx (upd H4 D (.lst (acc ++ [y]))) else Nx H3) := by
  refine lc_it w (fun i H => Same H1 H ∧ H D = some (.lst ((((ys.zip ks).take i).filter (·.2)).map (·.1)))) ⟨same_new nD, upd_same⟩ (fun i H _ hP => hG H hP.1) (fun i x H H' hi hP hY => ?_) (fun H hP => ?_)
  · obtain ⟨sm, eD⟩ := hP
    have z : ∀ {y : V} {b : Bool}, ys[i]? = some y → ks[i]? = some b → (ys.zip ks)[i]? = some (y, b) := fun h1 h2 => by
      rw [List.getElem?_zip_eq_some]
      exact ⟨h1, h2⟩
    have hy : i < ys.length := by omega
    refine hs i x H H' _ _ hi sm hY (fun y H5 s5 ek ey => ?_) (fun H5 s5 ek => ?_)
    · refine ⟨_, s5 _ _ eD, small1000 ?_, same_put (sm.trans s5) nD, ?_⟩
      · rw [List.length_map]
        exact Nat.le_trans (List.length_filter_le _ _) (by rw [List.length_take]; omega)
      · rw [upd_same, take_next (z ey ek), List.filter_append, List.map_append]
        rfl
    · refine ⟨sm.trans s5, ?_⟩
      rw [take_next (z (List.getElem?_eq_getElem hy) ek), List.filter_append, List.map_append]
      show _ = some (HO.lst (_ ++ []))
      rw [List.append_nil]
      exact s5 _ _ eD
  · obtain ⟨sm, eD⟩ := hP
    rw [List.take_of_length_le (by rw [List.length_zip]; omega)] at eD
    exact hd H sm eD
theorem WaysL.filter {H : Hp} {n : Nat} (f : Way → Bool) {vs : List V} {ws : List Way} (h : WaysL H n vs ws) : WaysL H n (((vs.zip (ws.map f)).filter (·.2)).map (·.1)) (ws.filter f) := by
  induction h with
  | nil => exact .nil
  | @cons v w vs ws a _ ih =>
    rw [List.map_cons, List.zip_cons_cons]
    cases c : f w with
    | true =>
      rw [List.filter_cons_of_pos c, List.filter_cons_of_pos (by rfl)]
      exact .cons a ih
    | false =>
      rw [List.filter_cons_of_neg (by exact Bool.false_ne_true), List.filter_cons_of_neg (by rw [c]; exact Bool.false_ne_true)]
      exact ih
theorem way0 {H : Hp} {n : Nat} {ys : List V} {ws : List Way} (wl : WaysL H n ys ws) (ne : ws ≠ []) : ∃ w p d t kvs xs, ys[0]? = some (V.ref p) ∧ w ∈ ws ∧ WayX H p d t kvs xs w n := by
  cases wl with
  | nil => exact absurd rfl ne
  | cons a r =>
    obtain ⟨p, d, t, kvs, xs, rfl, x⟩ := a
    exact ⟨_, p, d, t, kvs, xs, rfl, List.mem_cons_self, x⟩
section
variable {P : Program} {w : World} {K : PySem.W.Frag} {mg : Str → Option Value} {base : Heap} {C : Addr}
/-! ### not_ways -/
abbrev sNw : Stmt := topS 9
abbrev nNw : List Str := ["literal", "found", "lookups", "_", "relation", "terms", "matcher", "way"]
theorem scNw : FnScope nNw ["literal", "found", "lookups"] (defScope sNw) := ⟨rfl, rfl, rfl, by decide +kernel, rfl, by decide +kernel, by decide +kernel⟩
def goN (rows : List (List Key)) (ts : List T) (w : Way) : Bool := rows.all fun row => (metE ts row w.1).isNone
def spNw : Sp := fun vs H Q _ => ∃ (v : V) (fl lk : Addr) (nm : Str) (ts : List T) (ys : List V) (ws : List Way) (rows : List (List Key)) (n : Nat), vs = [v, .ref fl, .ref lk] ∧ Tp H v (litD (.notl nm ts)) ∧ H fl = some (.lst ys) ∧ WaysL H n ys ws ∧ ws ≠ [] ∧ DomOk ws ∧ RowsAt H lk nm rows ∧ (∀ row ∈ rows, row.length = ts.length) ∧ n + ts.length + 1 ≤ 900 ∧ rows.length ≤ 900 ∧ ws.length ≤ 900 ∧
  ∀ L zs H', Same H H' → H' L = some (.lst zs) → WaysL H' n zs (ws.filter (goN rows ts)) → Q (.ref L) H'
theorem ok_nw {f0 : Addr} {fd : FuncData} (F0 : Fun K "not_ways" "not_ways" sNw f0 fd) (T : Cs K mg C) (B : Bt mg) (MM : MkM P w K mg base C) (MT : mMet P w K mg base C) : FnOk P w K mg base CX0 4 f0 fd ["literal", "found", "lookups"] spNw := by
  refine F0.ok scNw (fun vs H Q E h => ?_) (fun cdv A outer s H vs Q E hr h => ?_)
  · obtain ⟨_, _, _, _, _, _, _, _, _, rfl, _⟩ := h
    rfl
  · obtain ⟨v, fl, lk, nm, ts, ys, ws, rows, n, rfl, tv, ef, wl, ne, dom, ra, lr, ln, lro, lw, q⟩ := h
    have hu := hu_of hr
    have r2 : Room 2 _ := hr.mono (by decide)
    refine ⟨_, pss_cons (ps_asg (pv 0) (pg_tup rfl (pgs_cons (pg_name (i := 3) scNw.nd rfl (.inl rfl)) (pgs_cons (pg_name (i := 4) scNw.nd rfl (.inl rfl)) (pgs_cons (pg_name (i := 5) scNw.nd rfl (.inl rfl)) pgs_nil)))))
      (pss_cons (ps_set (i := 6) scNw.nd rfl (.inr rfl) (pe_mkM MM hr (by rfl) T.mgC (pa_cons (pv 5) (pa_cons (pe_dget hu (pv 2) (pv 4) (fun _ _ => rfl)) (pa_cons (pe_ix ix_tup (pe_ix ix_list (pv 1) pe_int (fun _ _ => rfl)) pe_int (fun _ _ => rfl)) pa_nil)))))
      (pss_one (ps_ret (pe_lc (own := [("way", 7)]) (g := gName 7) (tt := tNot (fun σ H Q => (tMeth C "met" (spMet C) [] E0 (tVar 6) (tCons (tOp (rIxT K) (tVar 7) (tC (.int 0))) tNil)) σ H fun x H' => ∃ k, TruV K x H' k ∧ Q k H')) (te := tVar 7) rfl scNw.nd (pi_list (pv 1)) (blkOk_by (own := [("way", 7)]) (N := nNw) (sc := defScope sNw) (by decide +kernel))
        (fun _ _ _ _ _ => pg_name (i := 7) scNw.nd rfl (Or.inl rfl)) (fun _ _ _ _ _ => pts_one (pt_not (pt_truth (pe_mdef MT (pv 6) T.cl r2 (pa_cons (pe_ix ix_tup (pv 7) pe_int (fun _ _ => rfl)) pa_nil)) (fun _ => rfl)))) (fun _ _ _ _ _ => pv 7))))), ?_⟩
    obtain ⟨pl, u, xs, rfl, epl, eu, tx⟩ := lit3_inv tv
    obtain ⟨kvl, l, rs, rdl, hv, er, tr⟩ := ra
    have lys := wl.length
    obtain ⟨w0, p0, d0, t0, kv0, xs0, ev0, m0, X0⟩ := way0 wl ne
    refine ⟨.ref pl, rfl, pl, _, rfl, SqT.of epl, rfl, _, _, rfl, _, _, rfl, _, _, rfl, rfl, ?_⟩
    refine ⟨.ref u, rfl, .ref lk, rfl, .str nm, rfl, lk, .ref l, rfl, .inl ⟨kvl, Sum.inr nm, rdl, rfl, hv.symm⟩, .ref fl, rfl, fl, ys, 0, .ref p0, rfl, rfl, SqL.of ef, atI_nat ev0, p0, _, 0, .ref d0, rfl, rfl, SqT.of X0.hp, rfl, ?_⟩
    intro x dx nx ndx nex
    have keepK : ∀ {b : Addr} {o : HO}, H b = some o → (upd (upd H dx (.own x)) x (.ins C dx [])) b = some o := fun h => by
      rw [upd_ne (ne_of_none h nx), upd_ne (ne_of_none h ndx)]
      exact h
    have kT : Tk H (upd (upd H dx (.own x)) x (.ins C dx [])) := fun b zs h => keepK h
    refine ⟨x, dx, u, l, d0, xs, rs, ts, rows, kv0, w0.1, rfl, upd_same, keepK eu, tx.mono kT, keepK er, tr.mono kT, lr, .inl (keepK X0.hd), X0.en, by omega, lro, fun H1 k1 M1 => ⟨rfl, ?_⟩⟩
    have s1 : Same H H1 := made_same nx ndx k1
    revert s1 M1
    clear k1 keepK kT
    intro M1 s1
    refine ⟨.ref fl, rfl, fl, rfl, ⟨ys, SqL.of (s1 _ _ ef)⟩, fun D nD => ?_⟩
    refine lc_keep walk_list ys (ws.map (goN rows ts)) rfl (by rw [List.length_map, lys]) (by omega) nD (fun H2 sm => SqL.of (sm _ _ (s1 _ _ ef))) (fun i y H2 H3 Q2 R hi sm hY qt qf => ?_) (fun H' sm eD => ?_)
    · obtain ⟨rfl, hy⟩ := hY
      obtain ⟨wy, ewy, p, d, t, kvs, xw, rfl, XY⟩ := wl.get hy
      have my : wy ∈ ws := List.mem_of_getElem? ewy
      have XY := XY.keep (Keep.of (s1.trans sm))
      have MY := M1.same sm
      obtain ⟨dxm, kn, f, g, yk, kvg, hM, hrest⟩ := id MY
      have ek : ∀ b, goN rows ts wy = b → (ws.map (goN rows ts))[i]? = some b := fun b e => by
        rw [List.getElem?_map, ewy]
        exact congrArg some e
      refine ⟨rfl, .ref x, rfl, x, dxm, _, rfl, hM, fl_no (by decide +kernel) (by decide +kernel) (by decide +kernel), .ref p, rfl, p, _, 0, .ref d, rfl, rfl, SqT.of XY.hp, rfl, ?_⟩
      refine ⟨x, d, _, ts, rows, kvs, w0.1, wy.1, rfl, MY, .inl XY.hd, XY.en, dom _ my _ m0, lr, by omega, fun l2 zl H4 s4 ol el tl => ?_⟩
      refine ⟨_, .inl ⟨zl, SqL.of el, rfl⟩, ?_⟩
      have lzl := tl.length
      rw [List.length_map] at lzl
      cases c : goN rows ts wy with
      | true =>
        have e0 : (rows.filter fun row => (metE ts row wy.1).isSome) = [] := by
          rw [List.filter_eq_nil_iff]
          intro row hrow
          have h2 := List.all_eq_true.mp c row hrow
          cases cc : metE ts row wy.1 with
          | none => exact Bool.false_ne_true
          | some e => rw [cc] at h2; cases h2
        rw [e0] at lzl
        have ez : zl = [] := List.length_eq_zero_iff.mp lzl
        rw [ez]
        refine iteT ?_
        exact ⟨.ref p, rfl, qt _ _ s4 (ek _ c) hy⟩
      | false =>
        have e0 : zl ≠ [] := fun z => by
          rw [z] at lzl
          have e1 : (rows.filter fun row => (metE ts row wy.1).isSome) = [] := List.length_eq_zero_iff.mp lzl.symm
          rw [List.filter_eq_nil_iff] at e1
          have : goN rows ts wy = true := List.all_eq_true.mpr fun row hrow => by
            have := e1 row hrow
            cases cc : metE ts row wy.1 with
            | none => rfl
            | some e => rw [cc] at this; exact absurd rfl this
          rw [c] at this
          cases this
        have e2 : zl.isEmpty = false := by
          cases zl with
          | nil => exact absurd rfl e0
          | cons a b => rfl
        rw [e2]
        refine iteF ?_
        exact qf _ s4 (ek _ c)
    · refine q D _ H' (s1.trans sm) eD ?_
      exact (wl.keep (Keep.of (s1.trans sm))).filter (goN rows ts)
end
end KC

/-! `{**d, k: v}`. -/
namespace KC
open PySem PySem.Spec PyProof.Rows L2 KA
open PySem.Sem (wp)
section
variable {prog : Program} {w : World} {K : Type} [DecidableEq K] {knd : KeyKind prog w K} {A : Around} {E : Value → Shared → Prop} {s : Shared}
theorem wpAny_dictPut_pairs {d : Addr} {kvs : List (K × Value)} {k : K} {key v : Value} {Q : Unit → Shared → Prop} (hkey : knd.is k key = true) (hm : s.heap.DictOf knd d kvs)
    (hQ : ∀ h', h'.DictOf knd d (stored kvs k v) → Heap.SameBut d s.heap h' → Q () { s with heap := h' })
    (hsz : kvs.length ≤ sizeLine) :
    wpAny (model prog w) A (dictPut d (knd.hash k) key v) Q E s := by
  obtain ⟨o, es, ep, ho, hc, hd, hk, hp, hn⟩ := hm
  have hes : es.size ≤ sizeLine := by have e1 := hp.length; have e2 : es.toList.length = es.size := by simp
                                      omega
  unfold dictPut
  refine wpAny_bind (wpAny_dictFind_of hkey ho hd hk ?_)
  have hidx : (es.findIdx? fun e => knd.is k e.key) = kvs.findIdx? fun kv => decide (kv.1 = k) := by
    rw [← hp.findIdx k]; obtain ⟨l⟩ := es; simp
  cases hi : es.findIdx? fun e => knd.is k e.key with
  | some i =>
    refine wpAny_updateDict ho hd (hQ _ ⟨_, _, ep, Heap.get?_update_self _ ho (Obj.isFreed_of_dict (Obj.data_mapDict hd _)),
      hc.mapDict _, Obj.data_mapDict hd _, hk.modify _ _, ?_, ?_⟩ (Heap.SameBut.update ..))
    · rw [stored, if_pos (any_of_findIdx_some (hidx ▸ hi))]
      have hl : (es.toList.findIdx? fun e => knd.is k e.key) = some i := by rw [← hi]; obtain ⟨l⟩ := es; simp
      have := hp.modify hn hl v
      obtain ⟨l⟩ := es
      simpa using this
    · rw [stored, if_pos (any_of_findIdx_some (hidx ▸ hi)), keys_map_store]; exact hn
  | none =>
    have hnot : k ∉ kvs.map (·.1) := not_mem_of_findIdx_none (hidx ▸ hi)
    have hany : ¬ (kvs.any fun kv => decide (kv.1 = k)) = true := by
      rw [List.any_eq_true]; rintro ⟨kv, hkv, he⟩
      exact hnot (List.mem_map.mpr ⟨kv, hkv, of_decide_eq_true he⟩)
    refine wpAny_updateDictKeys (hz := hes) ho hd (hQ _ ⟨_, _, ep + 1, Heap.get?_update_self _ ho (Obj.isFreed_of_dict (Obj.data_mapDictKeys hd _)),
      hc.mapDictKeys _, Obj.data_mapDictKeys hd _, hk.push hkey _, ?_, ?_⟩ (Heap.SameBut.update ..))
    · rw [stored, if_neg hany]
      have := hp.append hkey (knd.hash k) v
      obtain ⟨l⟩ := es
      simpa using this
    · rw [stored, if_neg hany, List.map_append, List.nodup_append]
      refine ⟨hn, by simp, ?_⟩
      intro a ha b hb
      simp only [List.map_cons, List.map_nil, List.mem_singleton] at hb
      subst hb
      exact fun e => hnot (e ▸ ha)
theorem wpAny_mergeMapping {d o : Addr} {kvs more : List (K × Value)} {Q : Unit → Shared → Prop} (hdo : d ≠ o) (hoS : (o == sysModules) = false) (href : ∀ k a, knd.is k (.ref a) = false)
    (hd : s.heap.DictOf knd d kvs) (ho : s.heap.DictOf knd o more)
    (hQ : ∀ h', h'.DictOf knd d (merged kvs more) → h'.DictOf knd o more → Heap.SameBut d s.heap h' → Q () { s with heap := h' })
    (hsz : kvs.length + more.length ≤ sizeLine) :
    wpAny (model prog w) A (mergeMapping d (.ref o) false) Q E s := by
  obtain ⟨od, esd, epd, hod, hcd, hdd, hkd, hpd, hnd⟩ := id hd
  obtain ⟨oo, eso, epo, hoo, hco, hdo', hko, hpo, hno⟩ := id ho
  have hlen : more.length = eso.size := by rw [← hpo.length]; simp
  unfold mergeMapping
  refine wpAny_bind (wpAny_isInstance ho.typeIs isSubtype_dict_dict ?_)
  simp only [if_true]
  refine wpAny_bind (wpAny_specialOf ho.typeIs F.slot_dict_iter.lookup ?_)
  simp only [beq_self_eq_true]
  refine wpAny_bind (wpAny_pure ?_)
  simp only [hoS, Bool.false_eq_true, if_false]
  have loop : wpAny (model prog w) A (do
      let l ← dictEntries o
      let epoch ← dictEpoch o
      forIn (List.range l.size) PUnit.unit fun i (_ : PUnit) => (do
          let l' ← dictEntries o
          match l'[i]? with
            | some e => do
              holding [e.key, e.val] (dictPut d e.hash e.key e.val)
              let ep' ← dictEpoch o
              if (ep' != epoch) = true then do
                  (unsupported "dict.changed-during-merge" : Sem PUnit)
                  pure (ForInStep.yield PUnit.unit)
                else pure (ForInStep.yield PUnit.unit)
            | _ => do
              (unsupported "dict.changed-during-merge" : Sem PUnit)
              pure (ForInStep.yield PUnit.unit) : Sem (ForInStep PUnit))
      pure ()) Q E s := by
    refine wpAny_bind (wpAny_dictEntries hoo hdo' ?_)
    refine wpAny_bind (wpAny_dictEpoch hoo hdo' ?_)
    refine wpAny_bind ?_
    rw [List.range_eq_range']
    refine wpAny_forIn_list _
      (fun rest _ s' => ∃ h' i, s' = { s with heap := h' } ∧ rest = List.range' i (eso.size - i) ∧ i ≤ eso.size ∧ h'.DictOf knd d (merged kvs (more.take i)) ∧ h'.get? o = some oo ∧ Heap.SameBut d s.heap h')
      _ ?_ ?_ _ _ ⟨s.heap, 0, rfl, by simp, Nat.zero_le _, by simpa [merged] using hd, hoo, Heap.SameBut.refl _ _⟩
    · rintro x rest b s' ⟨h', i, rfl, hr, hi, hd', hoo', hs'⟩
      have hlt : i < eso.size := by
        rcases Nat.lt_or_ge i eso.size with h | h
        · exact h
        · rw [Nat.sub_eq_zero_of_le h] at hr; simp at hr
      obtain ⟨rfl, hrest⟩ : x = i ∧ rest = List.range' (i + 1) (eso.size - (i + 1)) := by
        have e : eso.size - i = (eso.size - (i + 1)) + 1 := by omega
        rw [e, List.range'_succ] at hr
        injection hr with h1 h2
        exact ⟨h1, h2⟩
      refine wpAny_bind (wpAny_dictEntries hoo' hdo' ?_)
      rw [Array.getElem?_eq_getElem hlt]
      obtain ⟨kv, hkv⟩ : ∃ kv, more[x]? = some kv := ⟨more[x]'(by rw [hlen]; exact hlt), List.getElem?_eq_getElem _⟩
      obtain ⟨k, v⟩ := kv
      obtain ⟨hkey, hval⟩ := hpo.get? (e := eso[x]) (by simp [hlt]) hkv
      obtain ⟨k', hkey', hhash⟩ := hko eso[x] (Array.getElem_mem hlt)
      obtain rfl : k' = k := knd.inj _ _ _ hkey' hkey
      show wpAny _ _ (holding [eso[x].key, eso[x].val] (dictPut d eso[x].hash eso[x].key eso[x].val) >>= _) _ _ _
      rw [hhash, hval]
      have hmx : (merged kvs (more.take x)).length ≤ sizeLine := by
        have e1 := merged_length_le kvs (more.take x)
        have e2 : (more.take x).length ≤ more.length := by rw [List.length_take]; omega
        omega
      refine wpAny_bind (wpAny_holding (wpAny_dictPut_pairs (hsz := hmx) hkey hd' fun h'' hd'' hs'' => ?_))
      have hoo'' : h''.get? o = some oo := (hs''.2 o (Ne.symm hdo)).trans hoo'
      refine wpAny_bind (wpAny_dictEpoch hoo'' hdo' ?_)
      rw [if_neg (by simp)]
      exact wpAny_pure ⟨h'', x + 1, rfl, hrest, hlt, by rw [merged_take_succ kvs more x (k', v) hkv]; exact hd'', hoo'', hs'.trans hs''⟩
    · rintro b s' ⟨h', i, rfl, hr, hi, hd', hoo', hs'⟩
      have hin : i = eso.size := by
        rcases Nat.lt_or_ge i eso.size with h | h
        · have e : eso.size - i = (eso.size - (i + 1)) + 1 := by omega
          rw [e, List.range'_succ] at hr; exact nomatch hr
        · exact Nat.le_antisymm hi h
      refine wpAny_pure (hQ h' ?_ ⟨oo, eso, epo, hoo', hco, hdo', hko, hpo, hno⟩ hs')
      rw [hin, ← hlen, List.take_length] at hd'; exact hd'
  refine wpAny_bind (wpAny_dictEntries hod hdd ?_)
  split
  · refine wpAny_bind (wpAny_dictEntries hoo hdo' ?_)
    have hl2 : ∀ f : DictEntry → PUnit → Sem (ForInStep PUnit), (∀ e ∈ eso.toList, ∀ c, f e c = pure (.yield c)) → forIn eso PUnit.unit f = pure PUnit.unit := fun f h => by
      rw [← Array.forIn_toList]
      exact forIn_yield_id _ h
    rw [hl2 _ (fun e he c => ?_)]
    · exact wpAny_bind (wpAny_pure loop)
    · obtain ⟨k, hkey, _⟩ := hko e (Array.mem_toList_iff.mp he)
      cases e' : e.key with
      | ref a => rw [e', href] at hkey; cases hkey
      | _ => rfl
  · exact loop
end
end KC

namespace KC
open PySem PySem.Spec PyProof.Rows L2 KA
open PySem.Sem (wp)
/-- {**v, k: x}: p the new dict, q the one that holds the pair -/
def tStar1 (td tk tx : TE) : TE := fun σ H Q => ∀ p, H p = none → td σ (upd H p (.dK [])) fun v H1 => ∃ a kvs, v = .ref a ∧ Rd H1 a (.dK kvs) ∧ a ≠ p ∧ H1 p = some (.dK []) ∧ kvs.length < sizeLine ∧
  ∀ q, (upd H1 p (.dK kvs)) q = none → tk σ (upd (upd H1 p (.dK kvs)) q (.dK [])) fun y H2 => tx σ H2 fun z H3 => ∃ k, y = kV k ∧ H3 q = some (.dK []) ∧ H3 p = some (.dK kvs) ∧
    Q (.ref p) (upd (upd H3 q (.dK [(k, z)])) p (.dK (putK kvs k z)))
section
variable {X : Cx}
theorem pe_dstar1 {v k x : Expr} {td tk tx : TE} {pos : Pos} (hv : PE X v td) (hk : PE X k tk) (hx : PE X x tx) : PE X (.Dict [none, some k] [v, x] pos) (tStar1 td tk tx) := by
  refine ⟨fun pins s σ H Q I h => ?_⟩
  have href : ∀ (k : Key) (a : Addr), (mixKind X.prog X.w).is k (.ref a) = false := fun k a => by
    cases k <;> rfl
  have hn := I.hok.fresh (Nat.le_refl s.heap.objs.size)
  have I1 := I.laid (a := s.heap.objs.size) (o := .dK []) (h' := s.heap.push { cls := .type "dict", data := .dict #[] }) (t' := s.toks) (fun _ _ q => Heap.get?_push_of_some _ q) (Nat.le_refl _) (dk_empty s.heap I.big)
  rw [arm_eval_Dict]
  refine wpAny_bind (wpAny_standAt ?_)
  show wpAny _ _ (dictDisplay [(none, do let x ← eval v X.env; standAt pos; pure x), (some (eval k X.env), do let y ← eval x X.env; standAt pos; pure y)]) _ _ _
  unfold dictDisplay
  simp only [List.forIn_cons, List.forIn_nil, List.isEmpty_nil, if_true, pure_bind, bind_assoc, List.nil_append, List.length_singleton, List.isEmpty_cons, if_false, Bool.false_eq_true, beq_iff_eq]
  refine wpAny_bind (wpAny_alloc ?_)
  have h := h _ hn
  revert h
  have hN : ∀ {N : Addr}, N = s.heap.objs.size → N = s.heap.objs.size := fun h => h
  generalize hNe : s.heap.objs.size = N at I1 hn ⊢
  intro h
  refine wpAny_bind (wpAny_holding (wpAny_bind (thn (hv.run pins _ σ _ _ I1 h) fun vv s1 ⟨v', H1, I2, rv, a, kvs, ev, rd, na, eN, lk, q1⟩ => ?_)))
  subst ev
  obtain rfl : vv = Value.ref a := rv
  refine wpAny_bind (wpAny_standAt (wpAny_pure ?_))
  obtain ⟨z, hd, vs, rel, dd⟩ := dk_rd I2.hok rd
  obtain ⟨z0, hd0, vs0, rel0, dd0⟩ := dk_of I2.hok eN
  have lvs : vs.length = kvs.length := rel.length.symm
  cases rel0
  have nd : (vs.map (·.1)).Nodup := let ⟨_, _, _, _, _, _, _, _, n⟩ := dd; n
  refine wpAny_bind (wpAny_onRaise (wpAny_tryCatch (wpAny_onRaise (wpAny_holding (wpAny_mergeMapping (knd := mixKind X.prog X.w) na.symm hd href dd0 dd (fun h1 dN dA sb => ?_) (by rw [List.length_nil]; omega))))))
  rw [merged_nil_of_nodup _ nd] at dN
  have he : ∃ q, h1.get? N = some q := let ⟨q, _, _, hq, _⟩ := dN; ⟨q, hq⟩
  have I3 : Inv X pins σ (upd H1 N (.dK kvs)) { s1 with heap := h1 } := d_write I2 (by rw [eN]; exact True.intro) sb he (dk_new z hd0 rel dN)
  rw [if_neg (by decide)]
  simp only [pure_bind, List.isEmpty_cons, if_false, Bool.false_eq_true, bind_assoc]
  have hm := I3.hok.fresh (Nat.le_refl h1.objs.size)
  have I4 := I3.laid (a := h1.objs.size) (o := .dK []) (h' := h1.push { cls := .type "dict", data := .dict #[] }) (t' := s1.toks) (fun _ _ q => Heap.get?_push_of_some _ q) (Nat.le_refl _) (dk_empty h1 I3.big)
  refine wpAny_bind (wpAny_holding (wpAny_subDict (knd := mixKind X.prog X.w) (by show 1 ≤ 15; decide) (evalPairs_cons (thn (hk.run pins _ σ _ _ I4 (q1 _ hm)) fun kv s2 ⟨y, H2, I5, ry, q2⟩ =>
    wpAny_bind (thn (hx.run pins s2 σ H2 _ I5 q2) fun xv s3 ⟨zz, H3, I6, rz, kk, ey, eM, eN3, q3⟩ => wpAny_bind (wpAny_standAt (wpAny_pure (evalPairs_nil ?_))))))))
  subst ey
  obtain ⟨z1, hd1, vs1, rel1, dd1⟩ := dk_of I6.hok eM
  cases rel1
  refine ⟨[(kk, xv)], ⟨kV_is ry, rfl, True.intro⟩, dd1, fun h4 dM sb4 => ?_⟩
  have rM : KV [(kk, zz)] [(kk, xv)] := .cons ⟨rfl, rz⟩ .nil
  have he4 : ∃ q, h4.get? h1.objs.size = some q := let ⟨q, _, _, hq, _⟩ := dM; ⟨q, hq⟩
  have I7 : Inv X pins σ (upd H3 h1.objs.size (.dK [(kk, zz)])) { s3 with heap := h4, toks := s3.toks + 1 } := d_write I6 (by rw [eM]; exact True.intro) sb4 he4 (dk_new (by show 1 ≤ sizeLine; decide) hd1 rM dM)
  have nMN : N ≠ h1.objs.size := fun e => by
    rw [← e, upd_same] at hm
    cases hm
  have eN4 : (upd H3 h1.objs.size (.dK [(kk, zz)])) N = some (.dK kvs) := by
    rw [upd_ne nMN]
    exact eN3
  obtain ⟨z5, hd5, vs5, rel5, dd5⟩ := dk_of I7.hok eN4
  refine wpAny_bind (wpAny_onRaise (wpAny_holding (wpAny_mergeMapping (knd := mixKind X.prog X.w) nMN hd1 href dd5 dM (fun h5 dN5 dM5 sb5 => ?_) (by have := rel5.length; have e1 := merged_length_le ([] : List (Key × Value)) [(kk, xv)]; rw [List.length_nil, List.length_singleton] at e1; omega))))
  have he5 : ∃ q, h5.get? N = some q := let ⟨q, _, _, hq, _⟩ := dN5; ⟨q, hq⟩
  have hl5 : (putK kvs kk zz).length ≤ sizeLine := by have := length_putK kvs kk zz; omega
  have I8 := d_write (ob := .dK (putK kvs kk zz)) (t' := s3.toks + 1) I7 (by rw [eN4]; exact True.intro) sb5 he5 (dk_new hl5 hd5 (rel5.put kk rz) dN5)
  exact wpAny_pure ⟨.ref N, _, I8, rfl, q3⟩
end
end KC

namespace KC
open PySem PySem.Spec PyProof.Rows L2 KA
def optV : Option Key → V
  | none => .non
  | some k => kV k
theorem kV_non (k : Key) : kV k ≠ .non := by
  cases k <;> exact fun z => by cases z
/-- the ways behind a result for each -/
def goM (x : Str) (p : Way × Option Key) : List Way :=
  match p.2 with
  | none => []
  | some z => (bindE p.1.1 x z).toList.map fun e => (e, p.1.2)
section
variable {P : Program} {w : World} {K : PySem.W.Frag} {mg : Str → Option Value} {base : Heap} {C : Addr}
abbrev sMw : Stmt := topS 13
abbrev nMw : List Str := ["variable", "found", "results", "met", "values", "taken", "result"]
theorem scMw : FnScope nMw ["variable", "found", "results"] (defScope sMw) := ⟨rfl, rfl, rfl, by decide +kernel, rfl, by decide +kernel, by decide +kernel⟩
def spMw : Sp := fun vs H Q _ => ∃ (x : Str) (fl rl : Addr) (ys : List V) (ws : List Way) (rs : List (Option Key)) (n : Nat), vs = [.str x, .ref fl, .ref rl] ∧ H fl = some (.lst ys) ∧ WaysL H n ys ws ∧ H rl = some (.lst (rs.map optV)) ∧ rs.length = ws.length ∧ n + 1 ≤ 900 ∧ ws.length ≤ 900 ∧
  ∀ L zs H', Same H H' → H' L = some (.lst zs) → WaysL H' (n + 1) zs ((ws.zip rs).flatMap (goM x)) → Q (.ref L) H'
theorem ok_mw {f0 : Addr} {fd : FuncData} (F0 : Fun K "meeting_ways" "meeting_ways" sMw f0 fd) (hz : mg "zip" = none) : FnOk P w K mg base CX0 1 f0 fd ["variable", "found", "results"] spMw := by
  refine F0.ok scMw (fun vs H Q E h => ?_) (fun cdv A outer s H vs Q E hr h => ?_)
  · obtain ⟨_, _, _, _, _, _, _, rfl, _⟩ := h
    rfl
  · obtain ⟨x, fl, rl, ys, ws, rs, n, rfl, ef, wl, er, lrs, ln, lw, q⟩ := h
    have hu := hu_of hr
    refine ⟨_, pss_cons (ps_set (i := 3) scMw.nd rfl (.inl rfl) (pe_lst pa_nil))
      (pss_cons (ps_for PassesOwn.never rfl (pi_zip (by rfl) hz (pa_cons (pv 1) (pa_cons (pv 2) pa_nil))) (pg_tup rfl (pgs_cons (pg_tup rfl (pgs_cons (pg_name (i := 4) scMw.nd rfl (.inl rfl)) (pgs_cons (pg_name (i := 5) scMw.nd rfl (.inl rfl)) pgs_nil))) (pgs_cons (pg_name (i := 6) scMw.nd rfl (.inl rfl)) pgs_nil)))
        (pss_cons (ps_if (pt_cmpR op_isN (pv 6) pe_non (nomark _)) (pss_one ps_continue) pss_nil)
        (pss_one (ps_if (pt_cmp (pc_dnotin hu (pv 0) (pv 4)))
          (pss_one (ps_expr (pe_bm PySem.F.plainAttrs_list PySem.F.slot_list_append PySem.F.type_list_append mt_append (pv 3) (pa_cons (pe_tup (pa_cons (pe_dstar1 (pv 4) (pv 0) (pv 6)) (pa_cons (pv 5) pa_nil))) pa_nil))))
          (pss_one (ps_if (pt_cmpR op_eq (pe_dget hu (pv 4) (pv 0) (fun _ _ => rfl)) (pv 6) (nomark _))
            (pss_one (ps_expr (pe_bm PySem.F.plainAttrs_list PySem.F.slot_list_append PySem.F.type_list_append mt_append (pv 3) (pa_cons (pe_tup (pa_cons (pv 4) (pa_cons (pv 5) pa_nil))) pa_nil))))
            pss_nil))))))
      (pss_one (ps_ret (pv 3)))), ?_⟩
    have lys := wl.length
    refine ⟨(by show 0 ≤ sizeLine; decide), fun M nM => ?_⟩
    have s0 : Same H (upd H M (.lst [])) := same_new nM
    refine ⟨.ref fl, rfl, .ref rl, rfl, fl, rl, ys, _, rfl, SqL.of (s0 _ _ ef), SqL.of (s0 _ _ er), ?_⟩
    refine for_it (walk_zip (xs := ys) (ys := rs.map optV) (n := ws.length) (by rw [List.length_map]; omega)) (fun i σ H' => (∃ x4 x5 x6, σ = [some (.str x), some (.ref fl), some (.ref rl), some (.ref M), x4, x5, x6]) ∧ Same H H' ∧ ∃ zs, H' M = some (.lst zs) ∧ zs.length ≤ i ∧ WaysL H' (n + 1) zs (((ws.zip rs).take i).flatMap (goM x)))
      ⟨⟨none, none, none, rfl⟩, s0, [], upd_same, Nat.zero_le _, .nil⟩ (fun i σ H' _ hP => ⟨SqL.of (hP.2.1 _ _ ef), SqL.of (hP.2.1 _ _ er)⟩) (fun i y σ H' H2 hi hP hY => ?_) (fun σ H' hP => ?_)
    · obtain ⟨⟨x4, x5, x6, rfl⟩, sm, zs, eM, lz, wz⟩ := hP
      obtain ⟨T, xw, xr, rfl, nT, rfl, hxw, hxr⟩ := hY
      obtain ⟨wy, ewy, p, d, t, kvs, xt, rfl, XY⟩ := wl.get hxw
      have hxr : (rs.map optV)[i]? = some xr := hxr
      rw [List.getElem?_map] at hxr
      cases ers : rs[i]? with
      | none => rw [ers] at hxr; cases hxr
      | some r =>
        rw [ers] at hxr
        have hxr : optV r = xr := Option.some.inj hxr
        subst hxr
        have sT : Same H' (upd H' T (.tup [.ref p, optV r])) := same_new nT
        have ezip : (ws.zip rs)[i]? = some (wy, r) := by
          rw [List.getElem?_zip_eq_some]
          exact ⟨ewy, ers⟩
        refine ⟨T, _, rfl, SqT.of upd_same, rfl, _, _, rfl, p, _, rfl, SqT.of (sT _ _ (sm _ _ XY.hp)), rfl, _, _, rfl, _, _, rfl, rfl, _, _, rfl, rfl, ?_⟩
        have sm := sm.trans sT
        have eM := sT _ _ eM
        have wz := wz.keep (Keep.of sT)
        revert sm eM wz
        clear nT
        generalize upd H' T (.tup [.ref p, optV r]) = H3
        intro sm eM wz
        have X3 := XY.keep (Keep.of sm)
        have ld := X3.ld
        have eflat : ((ws.zip rs).take (i + 1)).flatMap (goM x) = ((ws.zip rs).take i).flatMap (goM x) ++ goM x (wy, r) := by
          rw [take_next ezip, List.flatMap_append, List.flatMap_singleton]
        rw [eflat]
        cases r with
        | none =>
          refine ⟨.non, rfl, rfl, _, rfl, yes_if ?_⟩
          refine ⟨⟨_, _, _, rfl⟩, sm, zs, eM, by omega, ?_⟩
          show WaysL H3 (n + 1) zs (_ ++ [])
          rw [List.append_nil]
          exact wz
        | some k =>
          refine ⟨kV k, rfl, rfl, _, rfl, no_if (kV_non k) ?_⟩
          refine ⟨.str x, rfl, .ref d, rfl, d, (look wy.1 x).map kV, rfl, .inl ⟨kvs, Sum.inr x, .inl X3.hd, rfl, (X3.en.at_ x).symm⟩, _, rfl, ?_⟩
          rw [Option.isSome_map]
          cases hl : look wy.1 x with
          | none =>
            refine iteT ?_
            refine ⟨.ref M, rfl, .inl ⟨rfl, _, SqL.of eM⟩, ?_⟩
            intro pd npd
            have npM : M ≠ pd := fun z => by rw [← z, eM] at npd; cases npd
            have npdd : d ≠ pd := fun z => by rw [← z, X3.hd] at npd; cases npd
            refine ⟨.ref d, rfl, d, kvs, rfl, .inl (by rw [upd_ne npdd]; exact X3.hd), npdd, upd_same, small1000 (by omega), fun qd nqd => ?_⟩
            have npq : pd ≠ qd := fun z => by rw [← z, upd_same] at nqd; cases nqd
            have nq3 : H3 qd = none := by
              rw [upd_ne npq.symm, upd_ne npq.symm] at nqd
              exact nqd
            refine ⟨.str x, rfl, kV k, rfl, Sum.inr x, rfl, upd_same, by rw [upd_ne npq, upd_same], ?_⟩
            refine ⟨.ref t, rfl, (by show 2 ≤ sizeLine; decide), fun tp ntp => ?_⟩
            -- the heap behind the display
            have s5 : Same H3 (upd (upd (upd (upd (upd H3 pd (.dK [])) pd (.dK kvs)) qd (.dK [])) qd (.dK [(Sum.inr x, kV k)])) pd (.dK (putK kvs (Sum.inr x) (kV k)))) := fun b o hb => by
              have n1 : b ≠ pd := ne_of_none hb npd
              have n2 : b ≠ qd := ne_of_none hb nq3
              rw [upd_ne n1, upd_ne n2, upd_ne n2, upd_ne n1, upd_ne n1]
              exact hb
            have ep : (upd (upd (upd (upd (upd H3 pd (.dK [])) pd (.dK kvs)) qd (.dK [])) qd (.dK [(Sum.inr x, kV k)])) pd (.dK (putK kvs (Sum.inr x) (kV k)))) pd = some (.dK (putK kvs (Sum.inr x) (kV k))) := upd_same
            revert ntp s5 ep
            generalize (upd (upd (upd (upd (upd H3 pd (.dK [])) pd (.dK kvs)) qd (.dK [])) qd (.dK [(Sum.inr x, kV k)])) pd (.dK (putK kvs (Sum.inr x) (kV k)))) = H5
            intro ntp s5 ep
            have s6 : Same H5 (upd H5 tp (.tup [.ref pd, .ref t])) := same_new ntp
            have et : (upd H5 tp (.tup [.ref pd, .ref t])) tp = some (.tup [.ref pd, .ref t]) := upd_same
            revert s6 et
            generalize upd H5 tp (.tup [.ref pd, .ref t]) = H6
            intro s6 et
            have s36 := s5.trans s6
            have kM : Keep H6 (upd H6 M (.lst (zs ++ [.ref tp]))) := Keep.lst (s36 _ _ eM)
            refine ⟨M, _, _, rfl, rfl, s36 _ _ eM, small1000 (by omega), ⟨_, _, _, rfl⟩, same_put (sm.trans s36) nM, _, upd_same, by rw [List.length_append]; simp; omega, ?_⟩
            refine ((wz.keep (Keep.of s36)).keep kM).append ?_
            have eg : goM x (wy, some k) = [(wy.1 ++ [(x, k)], wy.2)] := by
              show (bindE wy.1 x k).toList.map _ = _
              unfold bindE
              rw [hl]
              rfl
            rw [eg]
            have lt := X3.lt
            have lp := length_putK kvs (Sum.inr x) (kV k)
            exact .cons ⟨tp, pd, t, putK kvs (Sum.inr x) (kV k), xt, rfl, kM _ _ et (fun _ z => by cases z), kM _ _ (s6 _ _ ep) (fun _ z => by cases z), X3.en.put hl, by omega, kM _ _ (s36 _ _ X3.ht) (fun _ z => by cases z), (X3.tx.mono (Tk.of s36)).mono kM.tk, by show wy.2.length ≤ n + 1; omega⟩ .nil
          | some u =>
            refine iteF ?_
            refine ⟨.ref d, rfl, .str x, rfl, d, kV u, rfl, .inl ⟨kvs, Sum.inr x, .inl X3.hd, rfl, (by rw [X3.en.at_ x, hl]; rfl)⟩, kV k, rfl, scal_kV _ _, _, rfl, ?_⟩
            rw [kV_dec]
            by_cases c : u = k
            · rw [decide_eq_true c]
              refine iteT ?_
              refine ⟨.ref M, rfl, .inl ⟨rfl, _, SqL.of eM⟩, .ref d, rfl, .ref t, rfl, (by show 2 ≤ sizeLine; decide), fun tp ntp => ?_⟩
              have s6 : Same H3 (upd H3 tp (.tup [.ref d, .ref t])) := same_new ntp
              have et : (upd H3 tp (.tup [.ref d, .ref t])) tp = some (.tup [.ref d, .ref t]) := upd_same
              revert s6 et
              generalize upd H3 tp (.tup [.ref d, .ref t]) = H6
              intro s6 et
              have kM : Keep H6 (upd H6 M (.lst (zs ++ [.ref tp]))) := Keep.lst (s6 _ _ eM)
              refine ⟨M, _, _, rfl, rfl, s6 _ _ eM, small1000 (by omega), ⟨_, _, _, rfl⟩, same_put (sm.trans s6) nM, _, upd_same, by rw [List.length_append]; simp; omega, ?_⟩
              refine ((wz.keep (Keep.of s6)).keep kM).append ?_
              have eg : goM x (wy, some k) = [(wy.1, wy.2)] := by
                show (bindE wy.1 x k).toList.map _ = _
                unfold bindE
                rw [hl]
                show (if u = k then some wy.1 else none).toList.map _ = _
                rw [if_pos c]
                rfl
              rw [eg]
              have lt := X3.lt
              exact .cons ⟨tp, d, t, kvs, xt, rfl, kM _ _ et (fun _ z => by cases z), kM _ _ (s6 _ _ X3.hd) (fun _ z => by cases z), X3.en, by omega, kM _ _ (s6 _ _ X3.ht) (fun _ z => by cases z), (X3.tx.mono (Tk.of s6)).mono kM.tk, by show wy.2.length ≤ n + 1; omega⟩ .nil
            · rw [decide_eq_false c]
              refine iteF ?_
              refine ⟨⟨_, _, _, rfl⟩, sm, zs, eM, by omega, ?_⟩
              have eg : goM x (wy, some k) = [] := by
                show (bindE wy.1 x k).toList.map _ = _
                unfold bindE
                rw [hl]
                show (if u = k then some wy.1 else none).toList.map _ = _
                rw [if_neg c]
                rfl
              rw [eg, List.append_nil]
              exact wz
    · obtain ⟨⟨x4, x5, x6, rfl⟩, sm, zs, eM, lz, wz⟩ := hP
      rw [List.take_of_length_le (by rw [List.length_zip]; omega)] at wz
      exact ⟨.ref M, rfl, q M zs H' sm eM wz⟩
end
end KC

namespace KC
open PySem PySem.Spec PyProof.Rows L2 KA
def goC (op : Str) (a b : T) (w : Way) : Bool := match worthE a w.1, worthE b w.1 with
  | some x, some y => cmpK op x y
  | _, _ => false
def resI (op : Str) (a b : T) (w : Way) : Option Key := match worthE a w.1, worthE b w.1 with
  | some x, some y => isK op x y
  | _, _ => none
def resC (rows : List (List Key)) (ts : List T) (w : Way) : Key := .inl (((rows.filter fun row => (metE ts row w.1).isSome).length : Nat) : Int)
def rLenK (K : PySem.W.Frag) : List V → Hp → VK → Prop := fun xs H Q => ∃ p ys, xs = [.ref p] ∧ (SqL K H p ys ∨ SqT K H p ys) ∧ Q (.int ys.length) H
theorem call_lenK {X : Cx} : CallR X (.builtin "len") (rLenK X.K) := call_len_seq
theorem litC_inv {H : Hp} {v : V} {o : Str} {a b : T} (t : Tp H v (litD (.cmp o a b))) : ∃ p x y, v = .ref p ∧ H p = some (.tup [.str "compare", .str o, x, y]) ∧ Tp H x (tD a) ∧ Tp H y (tD b) := by
  cases t with
  | tup e r => cases r with
    | cons h1 r => cases r with
      | cons h2 r => cases r with
        | cons h3 r => cases r with
          | cons h4 r =>
            cases r
            cases h1
            cases h2
            exact ⟨_, _, _, rfl, e, h3, h4⟩
theorem litI_inv {H : Hp} {v : V} {z o : Str} {a b : T} (t : Tp H v (litD (.isl z o a b))) : ∃ p x y, v = .ref p ∧ H p = some (.tup [.str "is", .str z, .str o, x, y]) ∧ Tp H x (tD a) ∧ Tp H y (tD b) := by
  cases t with
  | tup e r => cases r with
    | cons h1 r => cases r with
      | cons h2 r => cases r with
        | cons h3 r => cases r with
          | cons h4 r => cases r with
            | cons h5 r =>
              cases r
              cases h1
              cases h2
              cases h3
              exact ⟨_, _, _, rfl, e, h4, h5⟩
theorem litN_inv {H : Hp} {v : V} {a b c : Str} {ts : List T} (t : Tp H v (.tuple [.str a, .str b, .str c, .tuple (ts.map tD)])) : ∃ p u xs, v = .ref p ∧ H p = some (.tup [.str a, .str b, .str c, .ref u]) ∧ H u = some (.tup xs) ∧ Tps H xs (ts.map tD) := by
  cases t with
  | tup e r => cases r with
    | cons h1 r => cases r with
      | cons h2 r => cases r with
        | cons h3 r => cases r with
          | cons h4 r =>
            cases r
            cases h1
            cases h2
            cases h3
            cases h4 with
            | tup e3 r3 => exact ⟨_, _, _, rfl, e, e3, r3⟩
section
variable {P : Program} {w : World} {K : PySem.W.Frag} {mg : Str → Option Value} {base : Heap} {C : Addr}
abbrev dCP (P : Program) (w : World) (K : PySem.W.Frag) (mg : Str → Option Value) (base : Heap) : Prop := Def P w K mg base "compares" 2 ["operator", "first", "second"] spCP
abbrev dRO (P : Program) (w : World) (K : PySem.W.Frag) (mg : Str → Option Value) (base : Heap) : Prop := Def P w K mg base "result_of" 1 ["operator", "first", "second"] spRO
abbrev dMw (P : Program) (w : World) (K : PySem.W.Frag) (mg : Str → Option Value) (base : Heap) : Prop := Def P w K mg base "meeting_ways" 1 ["variable", "found", "results"] spMw
/-! ### compare_ways -/
abbrev sCw : Stmt := topS 10
abbrev nCw : List Str := ["literal", "found", "_", "operator", "first", "second", "way"]
theorem scCw : FnScope nCw ["literal", "found"] (defScope sCw) := ⟨rfl, rfl, rfl, by decide +kernel, rfl, by decide +kernel, by decide +kernel⟩
def spCw : Sp := fun vs H Q _ => ∃ (v : V) (fl : Addr) (op : Str) (a b : T) (ys : List V) (ws : List Way) (n : Nat), vs = [v, .ref fl] ∧ Tp H v (litD (.cmp op a b)) ∧ H fl = some (.lst ys) ∧ WaysL H n ys ws ∧ (∀ w ∈ ws, ∃ x y, worthE a w.1 = some x ∧ worthE b w.1 = some y) ∧ ws.length ≤ 900 ∧
  ∀ L zs H', Same H H' → H' L = some (.lst zs) → WaysL H' n zs (ws.filter (goC op a b)) → Q (.ref L) H'
theorem ok_cw {f0 : Addr} {fd : FuncData} (F0 : Fun K "compare_ways" "compare_ways" sCw f0 fd) (DC : dCP P w K mg base) (DW : dWo P w K mg base) : FnOk P w K mg base CX0 3 f0 fd ["literal", "found"] spCw := by
  refine F0.ok scCw (fun vs H Q E h => ?_) (fun cdv A outer s H vs Q E hr h => ?_)
  · obtain ⟨_, _, _, _, _, _, _, _, rfl, _⟩ := h
    rfl
  · obtain ⟨v, fl, op, a, b, ys, ws, n, rfl, tv, ef, wl, wo, lw, q⟩ := h
    have r1 : Room 1 _ := hr.mono (by decide)
    refine ⟨_, pss_cons (ps_asg (pv 0) (pg_tup rfl (pgs_cons (pg_name (i := 2) scCw.nd rfl (.inl rfl)) (pgs_cons (pg_name (i := 3) scCw.nd rfl (.inr rfl)) (pgs_cons (pg_name (i := 4) scCw.nd rfl (.inr rfl)) (pgs_cons (pg_name (i := 5) scCw.nd rfl (.inr rfl)) pgs_nil))))))
      (pss_one (ps_ret (pe_lc (own := [("way", 6)]) (g := gName 6) (tt := tB (tCall spCP [] E0 (tCons (tVar 3) (tCons (tCall spWo [] E0 (tCons (tVar 4) (tCons (tOp (rIxT K) (tVar 6) (tC (.int 0))) tNil))) (tCons (tCall spWo [] E0 (tCons (tVar 5) (tCons (tOp (rIxT K) (tVar 6) (tC (.int 0))) tNil))) tNil))))) (te := tVar 6) rfl scCw.nd (pi_list (pv 1)) (blkOk_by (own := [("way", 6)]) (N := nCw) (sc := defScope sCw) (by decide +kernel))
        (fun _ _ _ _ _ => pg_name (i := 6) scCw.nd rfl (Or.inl rfl)) (fun _ _ _ _ _ => pts_one (pt_val (pe_def DC hr (by rfl) (pa_cons (pv 3) (pa_cons (pe_def DW r1 (by rfl) (pa_cons (pv 4) (pa_cons (pe_ix ix_tup (pv 6) pe_int (fun _ _ => rfl)) pa_nil))) (pa_cons (pe_def DW r1 (by rfl) (pa_cons (pv 5) (pa_cons (pe_ix ix_tup (pv 6) pe_int (fun _ _ => rfl)) pa_nil))) pa_nil)))))) (fun _ _ _ _ _ => pv 6)))), ?_⟩
    obtain ⟨pl, va, vb, rfl, epl, ta, tb⟩ := litC_inv tv
    have lys := wl.length
    refine ⟨.ref pl, rfl, pl, _, rfl, SqT.of epl, rfl, _, _, rfl, _, _, rfl, _, _, rfl, _, _, rfl, rfl, ?_⟩
    refine ⟨.ref fl, rfl, fl, rfl, ⟨ys, SqL.of ef⟩, fun D nD => ?_⟩
    refine lc_keep walk_list ys (ws.map (goC op a b)) rfl (by rw [List.length_map, lys]) (by omega) nD (fun H2 sm => SqL.of (sm _ _ ef)) (fun i y H2 H3 Q2 R hi sm hY qt qf => ?_) (fun H' sm eD => ?_)
    · obtain ⟨rfl, hy⟩ := hY
      obtain ⟨wy, ewy, p, d, t, kvs, xw, rfl, XY⟩ := wl.get hy
      have XY := XY.keep (Keep.of sm)
      obtain ⟨x, z, hx, hz⟩ := wo wy (List.mem_of_getElem? ewy)
      refine ⟨rfl, .str op, rfl, va, rfl, .ref p, rfl, p, _, 0, .ref d, rfl, rfl, SqT.of XY.hp, rfl, ?_⟩
      refine ⟨va, d, a, kvs, wy.1, x, rfl, ta.mono (Tk.of sm), .inl XY.hd, XY.en, hx, ?_⟩
      refine ⟨vb, rfl, .ref p, rfl, p, _, 0, .ref d, rfl, rfl, SqT.of XY.hp, rfl, ?_⟩
      refine ⟨vb, d, b, kvs, wy.1, z, rfl, tb.mono (Tk.of sm), .inl XY.hd, XY.en, hz, ?_⟩
      refine ⟨op, x, z, rfl, fun H5 s5 => ⟨_, rfl, ?_⟩⟩
      have ec : goC op a b wy = cmpK op x z := by
        unfold goC
        rw [hx, hz]
      have ek : ∀ b', goC op a b wy = b' → (ws.map (goC op a b))[i]? = some b' := fun b' e => by
        rw [List.getElem?_map, ewy]
        exact congrArg some e
      cases c : cmpK op x z with
      | true => exact iteT ⟨.ref p, rfl, qt _ _ s5 (ek _ (ec.trans c)) hy⟩
      | false => exact iteF (qf _ s5 (ek _ (ec.trans c)))
    · refine q D _ H' sm eD ?_
      exact (wl.keep (Keep.of sm)).filter (goC op a b)
/-! ### is_ways -/
abbrev sIw : Stmt := topS 11
abbrev nIw : List Str := ["literal", "found", "_", "variable", "operator", "first", "second", "results", "way"]
theorem scIw : FnScope nIw ["literal", "found"] (defScope sIw) := ⟨rfl, rfl, rfl, by decide +kernel, rfl, by decide +kernel, by decide +kernel⟩
def spIw : Sp := fun vs H Q _ => ∃ (v : V) (fl : Addr) (x op : Str) (a b : T) (ys : List V) (ws : List Way) (n : Nat), vs = [v, .ref fl] ∧ Tp H v (litD (.isl x op a b)) ∧ H fl = some (.lst ys) ∧ WaysL H n ys ws ∧ (∀ w ∈ ws, ∃ x y, worthE a w.1 = some x ∧ worthE b w.1 = some y ∧ ∀ i j, x = Sum.inl i → y = Sum.inl j → CMulW i j) ∧ ws.length ≤ 900 ∧ n + 1 ≤ 900 ∧
  ∀ L zs H', Same H H' → H' L = some (.lst zs) → WaysL H' (n + 1) zs ((ws.zip (ws.map (resI op a b))).flatMap (goM x)) → Q (.ref L) H'
theorem ok_iw {f0 : Addr} {fd : FuncData} (F0 : Fun K "is_ways" "is_ways" sIw f0 fd) (DR : dRO P w K mg base) (DW : dWo P w K mg base) (DM : dMw P w K mg base) : FnOk P w K mg base CX0 2 f0 fd ["literal", "found"] spIw := by
  refine F0.ok scIw (fun vs H Q E h => ?_) (fun cdv A outer s H vs Q E hr h => ?_)
  · obtain ⟨_, _, _, _, _, _, _, _, _, rfl, _⟩ := h
    rfl
  · obtain ⟨v, fl, x, op, a, b, ys, ws, n, rfl, tv, ef, wl, wo, lw, ln, q⟩ := h
    refine ⟨_, pss_cons (ps_asg (pv 0) (pg_tup rfl (pgs_cons (pg_name (i := 2) scIw.nd rfl (.inl rfl)) (pgs_cons (pg_name (i := 3) scIw.nd rfl (.inl rfl)) (pgs_cons (pg_name (i := 4) scIw.nd rfl (.inr rfl)) (pgs_cons (pg_name (i := 5) scIw.nd rfl (.inr rfl)) (pgs_cons (pg_name (i := 6) scIw.nd rfl (.inr rfl)) pgs_nil)))))))
      (pss_cons (ps_setLc (i := 7) (own := [("way", 8)]) (g := gName 8) (tt := tYes) (te := tCall spRO [] E0 (tCons (tVar 4) (tCons (tCall spWo [] E0 (tCons (tVar 5) (tCons (tOp (rIxT K) (tVar 8) (tC (.int 0))) tNil))) (tCons (tCall spWo [] E0 (tCons (tVar 6) (tCons (tOp (rIxT K) (tVar 8) (tC (.int 0))) tNil))) tNil)))) (by rfl) scIw.nd rfl rfl (sw_true rfl rfl rfl (by decide +kernel)) (pi_list (pv 1)) (blkOk_by (own := [("way", 8)]) (N := nIw) (sc := defScope sIw) (by decide +kernel))
        (fun _ _ _ _ _ => pg_name (i := 8) scIw.nd rfl (Or.inl rfl)) (fun _ _ _ _ _ => pts_nil) (fun _ _ _ _ _ => pe_def DR hr (by rfl) (pa_cons (pv 4) (pa_cons (pe_def DW hr (by rfl) (pa_cons (pv 5) (pa_cons (pe_ix ix_tup (pv 8) pe_int (fun _ _ => rfl)) pa_nil))) (pa_cons (pe_def DW hr (by rfl) (pa_cons (pv 6) (pa_cons (pe_ix ix_tup (pv 8) pe_int (fun _ _ => rfl)) pa_nil))) pa_nil)))))
      (pss_one (ps_ret (pe_def DM hr (by rfl) (pa_cons (pv 3) (pa_cons (pv 1) (pa_cons (pv 7) pa_nil))))))), ?_⟩
    obtain ⟨pl, va, vb, rfl, epl, ta, tb⟩ := litI_inv tv
    have lys := wl.length
    refine ⟨.ref pl, rfl, pl, _, rfl, SqT.of epl, rfl, _, _, rfl, _, _, rfl, _, _, rfl, _, _, rfl, _, _, rfl, rfl, ?_⟩
    refine ⟨.ref fl, rfl, fl, rfl, ⟨ys, SqL.of ef⟩, fun D nD => ?_⟩
    refine lc_vals walk_list ((ws.map (resI op a b)).map optV) (by rw [List.length_map, List.length_map, lys]) (by omega) nD (fun H2 sm => SqL.of (sm _ _ ef)) (fun i y H2 H3 Q2 R hi sm hY qq => ?_) (fun H' sm eD => ?_)
    · obtain ⟨rfl, hy⟩ := hY
      obtain ⟨wy, ewy, p, d, t, kvs, xw, rfl, XY⟩ := wl.get hy
      have XY := XY.keep (Keep.of sm)
      obtain ⟨xx, z, hx, hz, hm⟩ := wo wy (List.mem_of_getElem? ewy)
      refine ⟨rfl, iteT (B := True) ?_⟩
      refine ⟨.str op, rfl, va, rfl, .ref p, rfl, p, _, 0, .ref d, rfl, rfl, SqT.of XY.hp, rfl, ?_⟩
      refine ⟨va, d, a, kvs, wy.1, xx, rfl, ta.mono (Tk.of sm), .inl XY.hd, XY.en, hx, ?_⟩
      refine ⟨vb, rfl, .ref p, rfl, p, _, 0, .ref d, rfl, rfl, SqT.of XY.hp, rfl, ?_⟩
      refine ⟨vb, d, b, kvs, wy.1, z, rfl, tb.mono (Tk.of sm), .inl XY.hd, XY.en, hz, ?_⟩
      refine ⟨op, xx, z, rfl, hm, qq _ _ (Same.refl _) ?_⟩
      rw [List.getElem?_map, List.getElem?_map, ewy]
      show some (optV (resI op a b wy)) = _
      unfold resI
      rw [hx, hz]
      show some (optV (isK op xx z)) = _
      cases isK op xx z <;> rfl
    · refine ⟨.str x, rfl, .ref fl, rfl, .ref D, rfl, ?_⟩
      exact ⟨x, fl, D, ys, ws, ws.map (resI op a b), n, rfl, sm _ _ ef, wl.keep (Keep.of sm), eD, by rw [List.length_map], ln, lw, fun L zs H2 s2 eL w2 => q L zs H2 (sm.trans s2) eL w2⟩
/-! ### count_ways -/
abbrev sNt : Stmt := topS 12
abbrev nNt : List Str := ["literal", "found", "lookups", "_", "variable", "relation", "terms", "matcher", "way"]
theorem scNt : FnScope nNt ["literal", "found", "lookups"] (defScope sNt) := ⟨rfl, rfl, rfl, by decide +kernel, rfl, by decide +kernel, by decide +kernel⟩
def spNt : Sp := fun vs H Q _ => ∃ (v : V) (fl lk : Addr) (x nm : Str) (ts : List T) (ys : List V) (ws : List Way) (rows : List (List Key)) (n : Nat), vs = [v, .ref fl, .ref lk] ∧ Tp H v (litD (.cnt x nm ts)) ∧ H fl = some (.lst ys) ∧ WaysL H n ys ws ∧ ws ≠ [] ∧ DomOk ws ∧ RowsAt H lk nm rows ∧ (∀ row ∈ rows, row.length = ts.length) ∧ n + ts.length + 1 ≤ 900 ∧ rows.length ≤ 900 ∧ ws.length ≤ 900 ∧
  ∀ L zs H', Same H H' → H' L = some (.lst zs) → WaysL H' (n + 1) zs ((ws.zip (ws.map fun w => some (resC rows ts w))).flatMap (goM x)) → Q (.ref L) H'
theorem ok_nt {f0 : Addr} {fd : FuncData} (F0 : Fun K "count_ways" "count_ways" sNt f0 fd) (T : Cs K mg C) (B : Bt mg) (MM : MkM P w K mg base C) (MT : mMet P w K mg base C) (DM : dMw P w K mg base) : FnOk P w K mg base CX0 4 f0 fd ["literal", "found", "lookups"] spNt := by
  refine F0.ok scNt (fun vs H Q E h => ?_) (fun cdv A outer s H vs Q E hr h => ?_)
  · obtain ⟨_, _, _, _, _, _, _, _, _, _, rfl, _⟩ := h
    rfl
  · obtain ⟨v, fl, lk, x0, nm, ts, ys, ws, rows, n, rfl, tv, ef, wl, ne, dom, ra, lr, ln, lro, lw, q⟩ := h
    have hu := hu_of hr
    have r2 : Room 2 _ := hr.mono (by decide)
    have r1 : Room 1 _ := hr.mono (by decide)
    refine ⟨_, pss_cons (ps_asg (pv 0) (pg_tup rfl (pgs_cons (pg_name (i := 3) scNt.nd rfl (.inl rfl)) (pgs_cons (pg_name (i := 4) scNt.nd rfl (.inl rfl)) (pgs_cons (pg_name (i := 5) scNt.nd rfl (.inl rfl)) (pgs_cons (pg_name (i := 6) scNt.nd rfl (.inl rfl)) pgs_nil))))))
      (pss_cons (ps_set (i := 7) scNt.nd rfl (.inr rfl) (pe_mkM MM hr (by rfl) T.mgC (pa_cons (pv 6) (pa_cons (pe_dget hu (pv 2) (pv 5) (fun _ _ => rfl)) (pa_cons (pe_ix ix_tup (pe_ix ix_list (pv 1) pe_int (fun _ _ => rfl)) pe_int (fun _ _ => rfl)) pa_nil)))))
      (pss_one (ps_ret (pe_def DM r1 (by rfl) (pa_cons (pv 4) (pa_cons (pv 1) (pa_cons (pe_lc (own := [("way", 8)]) (g := gName 8) (tt := tYes) (te := tCB (rLenK K) (tCons (tMeth C "met" (spMet C) [] E0 (tVar 7) (tCons (tOp (rIxT K) (tVar 8) (tC (.int 0))) tNil)) tNil)) rfl scNt.nd (pi_list (pv 1)) (blkOk_by (own := [("way", 8)]) (N := nNt) (sc := defScope sNt) (by decide +kernel))
        (fun _ _ _ _ _ => pg_name (i := 8) scNt.nd rfl (Or.inl rfl)) (fun _ _ _ _ _ => pts_nil) (fun _ _ _ _ _ => pe_callB (r := rLenK K) call_lenK (by rfl) B.len PySem.boot_len (pa_cons (pe_mdef MT (pv 7) T.cl r2 (pa_cons (pe_ix ix_tup (pv 8) pe_int (fun _ _ => rfl)) pa_nil)) pa_nil))) pa_nil))))))), ?_⟩
    obtain ⟨pl, u, xs, rfl, epl, eu, tx⟩ := litN_inv tv
    obtain ⟨kvl, l, rs, rdl, hv, er, tr⟩ := ra
    have lys := wl.length
    obtain ⟨w0, p0, d0, t0, kv0, xs0, ev0, m0, X0⟩ := way0 wl ne
    refine ⟨.ref pl, rfl, pl, _, rfl, SqT.of epl, rfl, _, _, rfl, _, _, rfl, _, _, rfl, _, _, rfl, rfl, ?_⟩
    refine ⟨.ref u, rfl, .ref lk, rfl, .str nm, rfl, lk, .ref l, rfl, .inl ⟨kvl, Sum.inr nm, rdl, rfl, hv.symm⟩, .ref fl, rfl, fl, ys, 0, .ref p0, rfl, rfl, SqL.of ef, atI_nat ev0, p0, _, 0, .ref d0, rfl, rfl, SqT.of X0.hp, rfl, ?_⟩
    intro x dx nx ndx nex
    have keepK : ∀ {b : Addr} {o : HO}, H b = some o → (upd (upd H dx (.own x)) x (.ins C dx [])) b = some o := fun h => by
      rw [upd_ne (ne_of_none h nx), upd_ne (ne_of_none h ndx)]
      exact h
    have kT : Tk H (upd (upd H dx (.own x)) x (.ins C dx [])) := fun b zs h => keepK h
    refine ⟨x, dx, u, l, d0, xs, rs, ts, rows, kv0, w0.1, rfl, upd_same, keepK eu, tx.mono kT, keepK er, tr.mono kT, lr, .inl (keepK X0.hd), X0.en, by omega, lro, fun H1 k1 M1 => ⟨rfl, ?_⟩⟩
    have s1 : Same H H1 := made_same nx ndx k1
    revert s1 M1
    clear k1 keepK kT
    intro M1 s1
    refine ⟨.str x0, rfl, .ref fl, rfl, ?_⟩
    refine ⟨.ref fl, rfl, fl, rfl, ⟨ys, SqL.of (s1 _ _ ef)⟩, fun D nD => ?_⟩
    refine lc_vals walk_list ((ws.map fun w => some (resC rows ts w)).map optV) (by rw [List.length_map, List.length_map, lys]) (by omega) nD (fun H2 sm => SqL.of (sm _ _ (s1 _ _ ef))) (fun i y H2 H3 Q2 R hi sm hY qq => ?_) (fun H' sm eD => ?_)
    · obtain ⟨rfl, hy⟩ := hY
      obtain ⟨wy, ewy, p, d, t, kvs, xw, rfl, XY⟩ := wl.get hy
      have my : wy ∈ ws := List.mem_of_getElem? ewy
      have XY := XY.keep (Keep.of (s1.trans sm))
      have MY := M1.same sm
      obtain ⟨dxm, kn, f, g, yk, kvg, hM, hrest⟩ := id MY
      refine ⟨rfl, iteT (B := True) ?_⟩
      refine ⟨.ref x, rfl, x, dxm, _, rfl, hM, fl_no (by decide +kernel) (by decide +kernel) (by decide +kernel), .ref p, rfl, p, _, 0, .ref d, rfl, rfl, SqT.of XY.hp, rfl, ?_⟩
      refine ⟨x, d, _, ts, rows, kvs, w0.1, wy.1, rfl, MY, .inl XY.hd, XY.en, dom _ my _ m0, lr, by omega, fun l2 zl H4 s4 ol el tl => ?_⟩
      refine ⟨l2, zl, rfl, .inl (SqL.of el), qq _ _ s4 ?_⟩
      have lzl := tl.length
      rw [List.length_map] at lzl
      rw [List.getElem?_map, List.getElem?_map, ewy, lzl]
      rfl
    · exact ⟨x0, fl, D, ys, ws, ws.map fun w => some (resC rows ts w), n, rfl, (s1.trans sm) _ _ ef, wl.keep (Keep.of (s1.trans sm)), eD, by rw [List.length_map], by omega, lw, fun L zs H2 s2 eL w2 => q L zs H2 ((s1.trans sm).trans s2) eL w2⟩
end
end KC

namespace KC
open PySem PySem.Spec PyProof.Rows L2 KA
/-! ### the program's steps are the steps of the plain ways -/
theorem flat_filter {α : Type} (f : α → Bool) : ∀ ws : List α, (ws.flatMap fun w => if f w = true then [w] else []) = ws.filter f
  | [] => rfl
  | w :: ws => by
    rw [List.flatMap_cons, flat_filter f ws]
    cases c : f w with
    | true => rw [if_pos rfl, List.filter_cons_of_pos c]; rfl
    | false => rw [if_neg Bool.false_ne_true, List.filter_cons_of_neg (by rw [c]; exact Bool.false_ne_true)]; rfl
theorem goAll_not (R0 R : Rws) (r : Str) (ts : List T) (ws : List Way) : goAll R0 R (.notl r ts) ws = ws.filter (goN (rowsOf R r) ts) := by
  rw [← flat_filter]
  rfl
theorem goAll_cmp (R0 R : Rws) (op : Str) (a b : T) (ws : List Way) : goAll R0 R (.cmp op a b) ws = ws.filter (goC op a b) := by
  rw [← flat_filter]
  unfold goAll
  congr 1
  funext w
  unfold goOn goC
  dsimp only
  cases worthE a w.1 with
  | none => rfl
  | some x => cases worthE b w.1 with
    | none => rfl
    | some y => rfl
theorem zip_flat (f : Way → Option Key) (x : Str) : ∀ ws : List Way, (ws.zip (ws.map f)).flatMap (goM x) = ws.flatMap fun w => goM x (w, f w)
  | [] => rfl
  | w :: ws => by
    rw [List.map_cons, List.zip_cons_cons, List.flatMap_cons, List.flatMap_cons, zip_flat f x ws]
theorem goAll_is (R0 R : Rws) (x op : Str) (a b : T) (ws : List Way) : goAll R0 R (.isl x op a b) ws = (ws.zip (ws.map (resI op a b))).flatMap (goM x) := by
  rw [zip_flat]
  unfold goAll
  congr 1
  funext w
  unfold goOn goM resI
  dsimp only
  cases worthE a w.1 with
  | none => rfl
  | some u => cases worthE b w.1 with
    | none => rfl
    | some v =>
      dsimp only
      cases isK op u v <;> rfl
theorem goAll_cnt (R0 R : Rws) (x r : Str) (ts : List T) (ws : List Way) : goAll R0 R (.cnt x r ts) ws = (ws.zip (ws.map fun w => some (resC (rowsOf R r) ts w))).flatMap (goM x) := by
  rw [zip_flat]
  rfl
theorem goAll_fact (R0 R : Rws) (r : Str) (ts : List T) (ws : List Way) : goAll R0 R (.fact r ts) ws = ws.flatMap (goF (rowsOf R0 r) ts) := rfl
/-! ### what is asked of a step -/
def InR (R : Rws) (r : Str) (ts : List T) : Prop := (R.any fun p => decide (p.1 = r)) = true ∧ (∀ row ∈ rowsOf R r, row.length = ts.length) ∧ ts.length ≤ 10 ∧ (rowsOf R r).length ≤ 900
def LitOk (R0 R : Rws) (l : L) (ws : List Way) : Prop :=
  match l with
  | .fact r ts => InR R0 r ts ∧ ws.length * (rowsOf R0 r).length ≤ 900
  | .notl r ts => InR R r ts
  | .cmp _ a b => ∀ w ∈ ws, ∃ x y, worthE a w.1 = some x ∧ worthE b w.1 = some y
  | .isl _ _ a b => ∀ w ∈ ws, ∃ x y, worthE a w.1 = some x ∧ worthE b w.1 = some y ∧ ∀ i j, x = Sum.inl i → y = Sum.inl j → CMulW i j
  | .cnt _ r ts => InR R r ts
structure StepOk (R0 R : Rws) (l : L) (ws : List Way) : Prop where
  dom : DomOk ws
  len : ws.length ≤ 900
  ok : LitOk R0 R l ws
abbrev way00 : List Way := [([], [])]
structure BodyOk (R0 R : Rws) (ls : List L) : Prop where
  at_ : ∀ i l, ls[i]? = some l → StepOk R0 R l (run R0 R (ls.take i) way00)
  len : ls.length ≤ 20
theorem run_snoc (R0 R : Rws) : ∀ (ls : List L) (l : L) (ws : List Way), run R0 R (ls ++ [l]) ws = goAll R0 R l (run R0 R ls ws)
  | [], l, ws => rfl
  | a :: ls, l, ws => run_snoc R0 R ls l (goAll R0 R a ws)
theorem run_nil (R0 R : Rws) : ∀ (ls : List L), run R0 R ls [] = []
  | [] => rfl
  | a :: ls => run_nil R0 R ls
theorem run_append (R0 R : Rws) : ∀ (ls ms : List L) (ws : List Way), run R0 R (ls ++ ms) ws = run R0 R ms (run R0 R ls ws)
  | [], _, _ => rfl
  | a :: ls, ms, ws => run_append R0 R ls ms (goAll R0 R a ws)
/-- a dict of rows -/
def LkAt (H : Hp) (a : Addr) (R : Rws) : Prop := ∃ kvs, Rd H a (.dK kvs) ∧ ∀ r, (R.any fun p => decide (p.1 = r)) = true → ∃ l rs, valV kvs (Sum.inr r) = some (.ref l) ∧ H l = some (.lst rs) ∧ Tps H rs ((rowsOf R r).map rowD)
theorem LkAt.rows {H : Hp} {a : Addr} {R : Rws} (h : LkAt H a R) {r : Str} (hr : (R.any fun p => decide (p.1 = r)) = true) : RowsAt H a r (rowsOf R r) := by
  obtain ⟨kvs, rd, h⟩ := h
  obtain ⟨l, rs, h1, h2, h3⟩ := h r hr
  exact ⟨kvs, l, rs, rd, h1, h2, h3⟩
theorem LkAt.same {H H' : Hp} {a : Addr} {R : Rws} (h : LkAt H a R) (s : Same H H') : LkAt H' a R := by
  obtain ⟨kvs, rd, h⟩ := h
  refine ⟨kvs, Rd.same rd s, fun r hr => ?_⟩
  obtain ⟨l, rs, h1, h2, h3⟩ := h r hr
  exact ⟨l, rs, h1, s _ _ h2, h3.mono (Tk.of s)⟩
def litName : L → Str
  | .fact _ _ => "fact"
  | .notl _ _ => "not"
  | .cmp _ _ _ => "compare"
  | .isl _ _ _ _ => "is"
  | .cnt _ _ _ => "count"
theorem lit_name {H : Hp} {v : V} {l : L} (t : Tp H v (litD l)) : ∃ p r, v = .ref p ∧ H p = some (.tup r) ∧ atI r 0 = some (.str (litName l)) := by
  cases l with
  | fact r ts => obtain ⟨p, u, xs, rfl, e, _⟩ := lit3_inv t; exact ⟨p, _, rfl, e, rfl⟩
  | notl r ts => obtain ⟨p, u, xs, rfl, e, _⟩ := lit3_inv t; exact ⟨p, _, rfl, e, rfl⟩
  | cmp o a b => obtain ⟨p, x, y, rfl, e, _⟩ := litC_inv t; exact ⟨p, _, rfl, e, rfl⟩
  | isl z o a b => obtain ⟨p, x, y, rfl, e, _⟩ := litI_inv t; exact ⟨p, _, rfl, e, rfl⟩
  | cnt z r ts => obtain ⟨p, u, xs, rfl, e, _⟩ := litN_inv t; exact ⟨p, _, rfl, e, rfl⟩
section
variable {P : Program} {w : World} {K : PySem.W.Frag} {mg : Str → Option Value} {base : Heap} {C : Addr}
/-! ### ways_after -/
abbrev sWa : Stmt := topS 14
theorem scWa : FnScope ["literal", "found", "lookups"] ["literal", "found", "lookups"] (defScope sWa) := ⟨rfl, rfl, rfl, by decide +kernel, rfl, by decide +kernel, by decide +kernel⟩
def spWa : Sp := fun vs H Q _ => ∃ (v : V) (fl lk : Addr) (l : L) (R0 R : Rws) (ys : List V) (ws : List Way) (n : Nat), vs = [v, .ref fl, .ref lk] ∧ Tp H v (litD l) ∧ (∀ r ts, l ≠ .fact r ts) ∧ H fl = some (.lst ys) ∧ WaysL H n ys ws ∧ ws ≠ [] ∧ LkAt H lk R ∧ StepOk R0 R l ws ∧ n + 12 ≤ 900 ∧
  ∀ L zs H', Same H H' → H' L = some (.lst zs) → WaysL H' (n + 1) zs (goAll R0 R l ws) → Q (.ref L) H'
theorem ok_wa {f0 : Addr} {fd : FuncData} (F0 : Fun K "ways_after" "ways_after" sWa f0 fd) (DN : Def P w K mg base "not_ways" 4 ["literal", "found", "lookups"] spNw) (DC : Def P w K mg base "compare_ways" 3 ["literal", "found"] spCw) (DI : Def P w K mg base "is_ways" 2 ["literal", "found"] spIw) (DT : Def P w K mg base "count_ways" 4 ["literal", "found", "lookups"] spNt) :
    FnOk P w K mg base CX0 5 f0 fd ["literal", "found", "lookups"] spWa := by
  refine F0.ok scWa (fun vs H Q E h => ?_) (fun cdv A outer s H vs Q E hr h => ?_)
  · obtain ⟨_, _, _, _, _, _, _, _, _, rfl, _⟩ := h
    rfl
  · obtain ⟨v, fl, lk, l, R0, R, ys, ws, n, rfl, tv, nf, ef, wl, ne, lk0, so, ln, q⟩ := h
    have r3 : Room 3 _ := hr.mono (by decide)
    have r2 : Room 2 _ := hr.mono (by decide)
    refine ⟨_, pss_cons (ps_if (pt_cmpR op_eq (pe_ix ix_tup (pv 0) pe_int (fun _ _ => rfl)) pe_str (nomark _)) (pss_one (ps_ret (pe_def DN hr (by rfl) (pa_cons (pv 0) (pa_cons (pv 1) (pa_cons (pv 2) pa_nil)))))) pss_nil)
      (pss_cons (ps_if (pt_cmpR op_eq (pe_ix ix_tup (pv 0) pe_int (fun _ _ => rfl)) pe_str (nomark _)) (pss_one (ps_ret (pe_def DC r3 (by rfl) (pa_cons (pv 0) (pa_cons (pv 1) pa_nil))))) pss_nil)
      (pss_cons (ps_if (pt_cmpR op_eq (pe_ix ix_tup (pv 0) pe_int (fun _ _ => rfl)) pe_str (nomark _)) (pss_one (ps_ret (pe_def DI r2 (by rfl) (pa_cons (pv 0) (pa_cons (pv 1) pa_nil))))) pss_nil)
      (pss_one (ps_ret (pe_def DT hr (by rfl) (pa_cons (pv 0) (pa_cons (pv 1) (pa_cons (pv 2) pa_nil)))))))), ?_⟩
    obtain ⟨p, r0, rfl, ep, e0⟩ := lit_name tv
    obtain ⟨dom, len, ok⟩ := so
    have st : ∀ {x y : Str}, x ≠ y → V.str x ≠ V.str y := fun n z => n (by injection z)
    cases l with
    | fact r ts => exact absurd rfl (nf r ts)
    | notl r ts =>
      obtain ⟨i1, i2, i3, i4⟩ := (show InR R r ts from ok)
      refine ⟨.ref p, rfl, p, r0, 0, _, rfl, rfl, SqT.of ep, e0, rfl, _, rfl, yes_if ?_⟩
      refine ⟨.ref p, rfl, .ref fl, rfl, .ref lk, rfl, .ref p, fl, lk, r, ts, ys, ws, rowsOf R r, n, rfl, tv, ef, wl, ne, dom, lk0.rows i1, i2, by omega, i4, len, fun L zs H' s1 eL w1 => q L zs H' s1 eL ?_⟩
      rw [goAll_not]
      exact w1.up (by omega)
    | cmp o a b =>
      refine ⟨.ref p, rfl, p, r0, 0, _, rfl, rfl, SqT.of ep, e0, rfl, _, rfl, no_if (st (show ("compare" : Str) ≠ "not" by decide +kernel)) ?_⟩
      refine ⟨.ref p, rfl, p, r0, 0, _, rfl, rfl, SqT.of ep, e0, rfl, _, rfl, yes_if ?_⟩
      refine ⟨.ref p, rfl, .ref fl, rfl, .ref p, fl, o, a, b, ys, ws, n, rfl, tv, ef, wl, ok, len, fun L zs H' s1 eL w1 => q L zs H' s1 eL ?_⟩
      rw [goAll_cmp]
      exact w1.up (by omega)
    | isl z o a b =>
      refine ⟨.ref p, rfl, p, r0, 0, _, rfl, rfl, SqT.of ep, e0, rfl, _, rfl, no_if (st (show ("is" : Str) ≠ "not" by decide +kernel)) ?_⟩
      refine ⟨.ref p, rfl, p, r0, 0, _, rfl, rfl, SqT.of ep, e0, rfl, _, rfl, no_if (st (show ("is" : Str) ≠ "compare" by decide +kernel)) ?_⟩
      refine ⟨.ref p, rfl, p, r0, 0, _, rfl, rfl, SqT.of ep, e0, rfl, _, rfl, yes_if ?_⟩
      refine ⟨.ref p, rfl, .ref fl, rfl, .ref p, fl, z, o, a, b, ys, ws, n, rfl, tv, ef, wl, ok, len, by omega, fun L zs H' s1 eL w1 => q L zs H' s1 eL ?_⟩
      rw [goAll_is]
      exact w1
    | cnt z r ts =>
      obtain ⟨i1, i2, i3, i4⟩ := (show InR R r ts from ok)
      refine ⟨.ref p, rfl, p, r0, 0, _, rfl, rfl, SqT.of ep, e0, rfl, _, rfl, no_if (st (show ("count" : Str) ≠ "not" by decide +kernel)) ?_⟩
      refine ⟨.ref p, rfl, p, r0, 0, _, rfl, rfl, SqT.of ep, e0, rfl, _, rfl, no_if (st (show ("count" : Str) ≠ "compare" by decide +kernel)) ?_⟩
      refine ⟨.ref p, rfl, p, r0, 0, _, rfl, rfl, SqT.of ep, e0, rfl, _, rfl, no_if (st (show ("count" : Str) ≠ "is" by decide +kernel)) ?_⟩
      refine ⟨.ref p, rfl, .ref fl, rfl, .ref lk, rfl, .ref p, fl, lk, z, r, ts, ys, ws, rowsOf R r, n, rfl, tv, ef, wl, ne, dom, lk0.rows i1, i2, by omega, i4, len, fun L zs H' s1 eL w1 => q L zs H' s1 eL ?_⟩
      rw [goAll_cnt]
      exact w1
end
end KC

namespace KC
open PySem PySem.Spec PyProof.Rows L2 KA
/-- the relations of the fact literals -/
def factsOf : List L → List Str
  | [] => []
  | .fact r _ :: ls => r :: factsOf ls
  | _ :: ls => factsOf ls
theorem factsOf_append : ∀ (a b : List L), factsOf (a ++ b) = factsOf a ++ factsOf b
  | [], b => rfl
  | .fact r ts :: a, b => by rw [List.cons_append, factsOf, factsOf, factsOf_append a b, List.cons_append]
  | .notl _ _ :: a, b => by rw [List.cons_append, factsOf, factsOf, factsOf_append a b] <;> exact fun _ _ z => by cases z
  | .cmp _ _ _ :: a, b => by rw [List.cons_append, factsOf, factsOf, factsOf_append a b] <;> exact fun _ _ z => by cases z
  | .isl _ _ _ _ :: a, b => by rw [List.cons_append, factsOf, factsOf, factsOf_append a b] <;> exact fun _ _ z => by cases z
  | .cnt _ _ _ :: a, b => by rw [List.cons_append, factsOf, factsOf, factsOf_append a b] <;> exact fun _ _ z => by cases z
theorem facts_one {l : L} (h : ∀ r ts, l ≠ .fact r ts) : factsOf [l] = [] := by
  cases l with
  | fact r ts => exact absurd rfl (h r ts)
  | _ => rfl
theorem facts_len : ∀ ls : List L, (factsOf ls).length ≤ ls.length
  | [] => Nat.le_refl _
  | .fact r ts :: ls => by have := facts_len ls; simp [factsOf]; omega
  | .notl _ _ :: ls => by have := facts_len ls; simp [factsOf]; omega
  | .cmp _ _ _ :: ls => by have := facts_len ls; simp [factsOf]; omega
  | .isl _ _ _ _ :: ls => by have := facts_len ls; simp [factsOf]; omega
  | .cnt _ _ _ :: ls => by have := facts_len ls; simp [factsOf]; omega
theorem facts_at {ls : List L} {i : Nat} {r : Str} {ts : List T} (h : ls[i]? = some (.fact r ts)) : (factsOf ls)[(factsOf (ls.take i)).length]? = some r := by
  have e : ls = ls.take i ++ (.fact r ts :: ls.drop (i + 1)) := by
    have hi := (List.getElem?_eq_some_iff.mp h).1
    have e2 := (List.getElem?_eq_some_iff.mp h).2
    rw [← e2, ← List.drop_eq_getElem_cons hi, List.take_append_drop]
  have e3 := congrArg factsOf e
  rw [factsOf_append] at e3
  rw [e3, List.getElem?_append_right (Nat.le_refl _), Nat.sub_self]
  rfl
theorem lit_get {H : Hp} {xs : List V} {ls : List L} {i : Nat} {x : V} (t : Tps H xs (ls.map litD)) (hx : xs[i]? = some x) : ∃ l, ls[i]? = some l ∧ Tp H x (litD l) := by
  obtain ⟨dd, ed, td⟩ := t.get hx
  rw [List.getElem?_map] at ed
  cases ej : ls[i]? with
  | none => rw [ej] at ed; cases ed
  | some j =>
    rw [ej] at ed
    have ed : litD j = dd := Option.some.inj ed
    exact ⟨j, rfl, by rw [ed]; exact td⟩
/-- the lists of rows of the fact literals -/
def ChAt (H : Hp) (c : Addr) (R0 : Rws) (rs : List Str) : Prop := ∃ cs : List V, H c = some (.lst cs) ∧ ∀ (j : Nat) (r : Str), rs[j]? = some r → ∃ (l : Addr) (ys : List V), cs[j]? = some (V.ref l) ∧ H l = some (.lst ys) ∧ Tps H ys ((rowsOf R0 r).map rowD)
theorem ChAt.same {H H' : Hp} {c : Addr} {R0 : Rws} {rs : List Str} (h : ChAt H c R0 rs) (s : Same H H') : ChAt H' c R0 rs := by
  obtain ⟨cs, e, h⟩ := h
  refine ⟨cs, s _ _ e, fun j r hr => ?_⟩
  obtain ⟨l, ys, h1, h2, h3⟩ := h j r hr
  exact ⟨l, ys, h1, s _ _ h2, h3.mono (Tk.of s)⟩
section
variable {P : Program} {w : World} {K : PySem.W.Frag} {mg : Str → Option Value} {base : Heap} {C : Addr}
/-! ### fact_relations -/
abbrev sFr : Stmt := topS 15
theorem scFr : FnScope ["body", "literal"] ["body"] (defScope sFr) := ⟨rfl, rfl, rfl, by decide +kernel, rfl, by decide +kernel, by decide +kernel⟩
def spFr : Sp := fun vs H Q _ => ∃ (b : Addr) (xs : List V) (ls : List L), vs = [.ref b] ∧ H b = some (.tup xs) ∧ Tps H xs (ls.map litD) ∧ ls.length ≤ 20 ∧
  ∀ L H', Same H H' → H' L = some (.lst ((factsOf ls).map V.str)) → Q (.ref L) H'
theorem ok_fr {f0 : Addr} {fd : FuncData} (F0 : Fun K "fact_relations" "fact_relations" sFr f0 fd) : FnOk P w K mg base CX0 1 f0 fd ["body"] spFr := by
  refine F0.ok scFr (fun vs H Q E h => ?_) (fun cdv A outer s H vs Q E hr h => ?_)
  · obtain ⟨_, _, _, rfl, _⟩ := h
    rfl
  · obtain ⟨b, xs, ls, rfl, eb, tx, ll, q⟩ := h
    refine ⟨_, pss_one (ps_ret (pe_lc (own := [("literal", 1)]) (g := gName 1) (tt := tTest (tOp rEq (tOp (rIxT K) (tVar 1) (tC (.int 0))) (tC (.str "fact")))) (te := tOp (rIxT K) (tVar 1) (tC (.int 1))) rfl scFr.nd (pi_tup (pv 0)) (blkOk_by (own := [("literal", 1)]) (N := ["body", "literal"]) (sc := defScope sFr) (by decide +kernel))
      (fun _ _ _ _ _ => pg_name (i := 1) scFr.nd rfl (Or.inl rfl)) (fun _ _ _ _ _ => pts_one (pt_cmpR op_eq (pe_ix ix_tup (pv 1) pe_int (fun _ _ => rfl)) pe_str (nomark _))) (fun _ _ _ _ _ => pe_ix ix_tup (pv 1) pe_int (fun _ _ => rfl)))), ?_⟩
    have lx : xs.length = ls.length := by rw [tx.length, List.length_map]
    refine ⟨.ref b, rfl, b, rfl, ⟨xs, SqT.of eb⟩, fun D nD => ?_⟩
    refine lc_it walk_tup (fun i H' => Same H H' ∧ H' D = some (.lst ((factsOf (ls.take i)).map V.str))) ⟨same_new nD, upd_same⟩ (fun i H' _ hP => SqT.of (hP.1 _ _ eb)) (fun i x H' H2 hi hP hY => ?_) (fun H' hP => ?_)
    · obtain ⟨rfl, hx⟩ := hY
      obtain ⟨sm, eD⟩ := hP
      obtain ⟨l, el, tl⟩ := lit_get tx hx
      have tl := tl.mono (Tk.of sm)
      have st : ∀ {x y : Str}, x ≠ y → V.str x ≠ V.str y := fun n z => n (by injection z)
      have ef := facts_len (ls.take i)
      rw [List.length_take] at ef
      have et : factsOf (ls.take (i + 1)) = factsOf (ls.take i) ++ factsOf [l] := by rw [take_next el, factsOf_append]
      rw [et]
      cases l with
      | fact r ts =>
        obtain ⟨p, u, zs, rfl, ep, _⟩ := lit3_inv tl
        refine ⟨rfl, .ref p, rfl, p, _, 0, .str "fact", rfl, rfl, SqT.of ep, rfl, rfl, _, rfl, yes_if ?_⟩
        refine ⟨.ref p, rfl, p, _, 1, .str r, rfl, rfl, SqT.of ep, rfl, _, eD, small1000 (by rw [List.length_map]; omega), same_put sm nD, ?_⟩
        rw [upd_same, List.map_append]
        rfl
      | notl r ts =>
        obtain ⟨p, r0, rfl, ep, e0⟩ := lit_name tl
        refine ⟨rfl, .ref p, rfl, p, _, 0, _, rfl, rfl, SqT.of ep, e0, rfl, _, rfl, no_if (st (show ("not" : Str) ≠ "fact" by decide +kernel)) ⟨sm, ?_⟩⟩
        rw [facts_one (fun _ _ z => by cases z), List.append_nil]
        exact eD
      | cmp o a b =>
        obtain ⟨p, r0, rfl, ep, e0⟩ := lit_name tl
        refine ⟨rfl, .ref p, rfl, p, _, 0, _, rfl, rfl, SqT.of ep, e0, rfl, _, rfl, no_if (st (show ("compare" : Str) ≠ "fact" by decide +kernel)) ⟨sm, ?_⟩⟩
        rw [facts_one (fun _ _ z => by cases z), List.append_nil]
        exact eD
      | isl z o a b =>
        obtain ⟨p, r0, rfl, ep, e0⟩ := lit_name tl
        refine ⟨rfl, .ref p, rfl, p, _, 0, _, rfl, rfl, SqT.of ep, e0, rfl, _, rfl, no_if (st (show ("is" : Str) ≠ "fact" by decide +kernel)) ⟨sm, ?_⟩⟩
        rw [facts_one (fun _ _ z => by cases z), List.append_nil]
        exact eD
      | cnt z r ts =>
        obtain ⟨p, r0, rfl, ep, e0⟩ := lit_name tl
        refine ⟨rfl, .ref p, rfl, p, _, 0, _, rfl, rfl, SqT.of ep, e0, rfl, _, rfl, no_if (st (show ("count" : Str) ≠ "fact" by decide +kernel)) ⟨sm, ?_⟩⟩
        rw [facts_one (fun _ _ z => by cases z), List.append_nil]
        exact eD
    · obtain ⟨sm, eD⟩ := hP
      rw [lx, List.take_length] at eD
      exact q D H' sm eD
/-! ### chosen_ways -/
abbrev sCh : Stmt := topS 16
abbrev nCh : List Str := ["body", "choices", "lookups", "found", "facts", "literal"]
theorem scCh : FnScope nCh ["body", "choices", "lookups"] (defScope sCh) := ⟨rfl, rfl, rfl, by decide +kernel, rfl, by decide +kernel, by decide +kernel⟩
def spCh : Sp := fun vs H Q _ => ∃ (b c lk : Addr) (xs : List V) (ls : List L) (R0 R : Rws), vs = [.ref b, .ref c, .ref lk] ∧ H b = some (.tup xs) ∧ Tps H xs (ls.map litD) ∧ ChAt H c R0 (factsOf ls) ∧ LkAt H lk R ∧ BodyOk R0 R ls ∧
  ∀ L zs H', Same H H' → H' L = some (.lst zs) → WaysL H' 300 zs (run R0 R ls way00) → Q (.ref L) H'
theorem ok_ch {f0 : Addr} {fd : FuncData} (F0 : Fun K "chosen_ways" "chosen_ways" sCh f0 fd) (DF : Def P w K mg base "fact_ways" 4 ["literal", "found", "rows"] spFw) (DA : Def P w K mg base "ways_after" 5 ["literal", "found", "lookups"] spWa) : FnOk P w K mg base CX0 6 f0 fd ["body", "choices", "lookups"] spCh := by
  refine F0.ok scCh (fun vs H Q E h => ?_) (fun cdv A outer s H vs Q E hr h => ?_)
  · obtain ⟨_, _, _, _, _, _, _, rfl, _⟩ := h
    rfl
  · obtain ⟨b, c, lk, xs, ls, R0, R, rfl, eb, tx, ca, lka, bo, q⟩ := h
    have r4 : Room 4 _ := hr.mono (by decide)
    refine ⟨_, pss_cons (ps_set (i := 3) scCh.nd rfl (.inl rfl) (pe_lst (pa_cons (pe_tup (pa_cons pe_dnewK (pa_cons (pe_tup pa_nil) pa_nil))) pa_nil)))
      (pss_cons (ps_set (i := 4) scCh.nd rfl (.inl rfl) pe_int)
      (pss_cons (ps_for PassesOwn.never rfl (pi_tup (pv 0)) (pg_name (i := 5) scCh.nd rfl (.inl rfl))
        (pss_cons (ps_if (pt_not (pt_truth (pv 3) (fun _ => rfl))) (pss_one (ps_ret (pe_lst pa_nil))) pss_nil)
        (pss_one (ps_if (pt_cmpR op_eq (pe_ix ix_tup (pv 5) pe_int (fun _ _ => rfl)) pe_str (nomark _))
          (pss_cons (ps_set (i := 3) scCh.nd rfl (.inl rfl) (pe_def DF r4 (by rfl) (pa_cons (pv 5) (pa_cons (pv 3) (pa_cons (pe_ix ix_list (pv 1) (pv 4) (fun _ _ => rfl)) pa_nil)))))
            (pss_one (ps_aug (i := 4) scCh.nd rfl (.inl rfl) pe_int ip_add)))
          (pss_one (ps_set (i := 3) scCh.nd rfl (.inl rfl) (pe_def DA hr (by rfl) (pa_cons (pv 5) (pa_cons (pv 3) (pa_cons (pv 2) pa_nil))))))))))
      (pss_one (ps_ret (pv 3))))), ?_⟩
    intro d nd
    refine ⟨(by show 0 ≤ sizeLine; decide), fun t nt => ?_⟩
    refine ⟨(by show 2 ≤ sizeLine; decide), fun p np => ?_⟩
    refine ⟨(by show 1 ≤ sizeLine; decide), fun L0 nL0 => ?_⟩
    have s1 : Same H (upd H d (.dK [])) := same_new nd
    have s2 := same_new (o := .tup []) nt
    have s3 := same_new (o := .tup [.ref d, .ref t]) np
    have s4 := same_new (o := .lst [.ref p]) nL0
    have sA := ((s1.trans s2).trans s3).trans s4
    have e1 := s4 _ _ (s3 _ _ (s2 _ _ (upd_same : (upd H d (.dK [])) d = some (.dK []))))
    have e2 := s4 _ _ (s3 _ _ (upd_same : (upd (upd H d (.dK [])) t (.tup [])) t = some (.tup [])))
    have e3 := s4 _ _ (upd_same : (upd (upd (upd H d (.dK [])) t (.tup [])) p (.tup [.ref d, .ref t])) p = some (.tup [.ref d, .ref t]))
    have e4 : (upd (upd (upd (upd H d (.dK [])) t (.tup [])) p (.tup [.ref d, .ref t])) L0 (.lst [.ref p])) L0 = some (.lst [.ref p]) := upd_same
    clear s1 s2 s3 s4
    revert sA e1 e2 e3 e4
    generalize (upd (upd (upd (upd H d (.dK [])) t (.tup [])) p (.tup [.ref d, .ref t])) L0 (.lst [.ref p])) = H1
    intro sA e1 e2 e3 e4
    have lx : xs.length = ls.length := by rw [tx.length, List.length_map]
    have l20 := bo.len
    refine ⟨.ref b, rfl, b, rfl, ⟨xs, SqT.of (sA _ _ eb)⟩, ?_⟩
    refine for_tup (K := K) (a := b) (xs := xs) (fun i σ H' => (∃ fl x5, σ = [some (.ref b), some (.ref c), some (.ref lk), some (.ref fl), some (.int ((factsOf (ls.take i)).length : Nat)), x5] ∧ ∃ ys, H' fl = some (.lst ys) ∧ WaysL H' (12 * i) ys (run R0 R (ls.take i) way00)) ∧ Same H H')
      ⟨⟨L0, none, rfl, [.ref p], e4, .cons ⟨p, d, t, [], [], rfl, e3, e1, EnvOf.nil, Nat.le_refl _, e2, .nil, Nat.le_refl _⟩ .nil⟩, sA⟩ (fun i σ H' _ hP => SqT.of (hP.2 _ _ eb)) (fun i x σ H' hx hP => ?_) (fun σ H' hP => ?_)
    · obtain ⟨⟨fl, x5, rfl, ys, ef, wl⟩, sm⟩ := hP
      obtain ⟨l, el, tl⟩ := lit_get tx hx
      have tl := tl.mono (Tk.of sm)
      have hi : i < ls.length := (List.getElem?_eq_some_iff.mp el).1
      have so := bo.at_ i l el
      have er : run R0 R (ls.take (i + 1)) way00 = goAll R0 R l (run R0 R (ls.take i) way00) := by rw [take_next el, run_snoc]
      refine ⟨.ref fl, rfl, _, .inl ⟨ys, SqL.of ef, rfl⟩, ?_⟩
      have lw := wl.length
      by_cases c0 : ys = []
      · subst c0
        refine iteT ?_
        have e0 : run R0 R (ls.take i) way00 = [] := List.length_eq_zero_iff.mp lw.symm
        have e5 : run R0 R ls way00 = [] := by
          have : ls = ls.take i ++ ls.drop i := (List.take_append_drop i ls).symm
          rw [this, run_append, e0, run_nil]
        refine ⟨(by show 0 ≤ sizeLine; decide), fun L nL => q L [] _ (sm.trans (same_new nL)) upd_same ?_⟩
        rw [e5]
        exact .nil
      · have e0 : ys.isEmpty = false := by
          cases ys with
          | nil => exact absurd rfl c0
          | cons _ _ => rfl
        rw [e0]
        refine iteF ?_
        have ne : run R0 R (ls.take i) way00 ≠ [] := fun z => by
          rw [z] at lw
          exact c0 (List.length_eq_zero_iff.mp lw)
        have st : ∀ {x y : Str}, x ≠ y → V.str x ≠ V.str y := fun n z => n (by injection z)
        have other : (∀ r ts, l ≠ .fact r ts) → litName l ≠ "fact" := fun h => by
          cases l with
          | fact r ts => exact absurd rfl (h r ts)
          | notl r ts => exact (show ("not" : Str) ≠ "fact" by decide +kernel)
          | cmp o a b => exact (show ("compare" : Str) ≠ "fact" by decide +kernel)
          | isl z o a b => exact (show ("is" : Str) ≠ "fact" by decide +kernel)
          | cnt z r ts => exact (show ("count" : Str) ≠ "fact" by decide +kernel)
        obtain ⟨pl, r0, rfl, epl, el0⟩ := lit_name tl
        by_cases cf : ∃ r ts, l = .fact r ts
        · obtain ⟨r, ts, rfl⟩ := cf
          obtain ⟨⟨i1, i2, i3, i4⟩, i5⟩ := (show InR R0 r ts ∧ _ from so.ok)
          refine ⟨.ref pl, rfl, pl, r0, 0, _, rfl, rfl, SqT.of epl, el0, rfl, _, rfl, yes_if ?_⟩
          obtain ⟨cs, ec, hc⟩ := ca.same sm
          obtain ⟨lr, yr, h1, h2, h3⟩ := hc _ r (facts_at el)
          refine ⟨.ref pl, rfl, .ref fl, rfl, .ref c, rfl, .int ((factsOf (ls.take i)).length : Nat), rfl, c, cs, ((factsOf (ls.take i)).length : Nat), .ref lr, rfl, rfl, SqL.of ec, atI_nat h1, ?_⟩
          refine ⟨.ref pl, fl, lr, r, ts, ys, yr, run R0 R (ls.take i) way00, rowsOf R0 r, 12 * i, rfl, tl, ef, wl, ne, so.dom, h2, h3, i2, by omega, i4, i5, fun L zs H2 s2 eL w2 => ?_⟩
          refine ⟨_, rfl, _, _, rfl, rfl, ⟨L, some (.ref pl), ?_, zs, eL, ?_⟩, sm.trans s2⟩
          · rw [take_next el, factsOf_append, List.length_append]
            rfl
          · rw [er]
            exact w2.up (by omega)
        · have nf : ∀ r ts, l ≠ .fact r ts := fun r ts z => cf ⟨r, ts, z⟩
          refine ⟨.ref pl, rfl, pl, r0, 0, _, rfl, rfl, SqT.of epl, el0, rfl, _, rfl, no_if (st (other nf)) ?_⟩
          refine ⟨.ref pl, rfl, .ref fl, rfl, .ref lk, rfl, .ref pl, fl, lk, l, R0, R, ys, run R0 R (ls.take i) way00, 12 * i, rfl, tl, nf, ef, wl, ne, lka.same sm, so, by omega, fun L zs H2 s2 eL w2 => ?_⟩
          refine ⟨⟨L, some (.ref pl), ?_, zs, eL, ?_⟩, sm.trans s2⟩
          · rw [take_next el, factsOf_append, facts_one nf, List.append_nil]
            rfl
          · rw [er]
            exact w2.up (by omega)
    · obtain ⟨⟨fl, x5, rfl, ys, ef, wl⟩, sm⟩ := hP
      rw [lx, List.take_length] at wl
      exact ⟨.ref fl, rfl, q fl ys H' sm ef (wl.up (by omega))⟩
/-! ### ways -/
abbrev sWs : Stmt := topS 17
abbrev nWs : List Str := ["body", "rows", "lookups", "relation"]
theorem scWs : FnScope nWs ["body", "rows", "lookups"] (defScope sWs) := ⟨rfl, rfl, rfl, by decide +kernel, rfl, by decide +kernel, by decide +kernel⟩
def spWs : Sp := fun vs H Q _ => ∃ (b ra lk : Addr) (xs : List V) (ls : List L) (R0 R : Rws), vs = [.ref b, .ref ra, .ref lk] ∧ H b = some (.tup xs) ∧ Tps H xs (ls.map litD) ∧ LkAt H ra R0 ∧ (∀ r ∈ factsOf ls, (R0.any fun p => decide (p.1 = r)) = true) ∧ LkAt H lk R ∧ BodyOk R0 R ls ∧
  ∀ L zs H', Same H H' → H' L = some (.lst zs) → WaysL H' 300 zs (run R0 R ls way00) → Q (.ref L) H'
theorem ok_ws {f0 : Addr} {fd : FuncData} (F0 : Fun K "ways" "ways" sWs f0 fd) (DC : Def P w K mg base "chosen_ways" 6 ["body", "choices", "lookups"] spCh) (DR : Def P w K mg base "fact_relations" 1 ["body"] spFr) : FnOk P w K mg base CX0 7 f0 fd ["body", "rows", "lookups"] spWs := by
  refine F0.ok scWs (fun vs H Q E h => ?_) (fun cdv A outer s H vs Q E hr h => ?_)
  · obtain ⟨_, _, _, _, _, _, _, rfl, _⟩ := h
    rfl
  · obtain ⟨b, ra, lk, xs, ls, R0, R, rfl, eb, tx, la, hf, lka, bo, q⟩ := h
    have hu := hu_of hr
    have r1 : Room 1 _ := hr.mono (by decide)
    refine ⟨_, pss_one (ps_ret (pe_def DC hr (by rfl) (pa_cons (pv 0) (pa_cons (pe_lc (own := [("relation", 3)]) (g := gName 3) (tt := tYes) (te := tDGet (tVar 1) (tVar 3)) rfl scWs.nd (pi_list (pe_def DR r1 (by rfl) (pa_cons (pv 0) pa_nil))) (blkOk_by (own := [("relation", 3)]) (N := nWs) (sc := defScope sWs) (by decide +kernel))
      (fun _ _ _ _ _ => pg_name (i := 3) scWs.nd rfl (Or.inl rfl)) (fun _ _ _ _ _ => pts_nil) (fun _ _ _ _ _ => pe_dget hu (pv 1) (pv 3) (fun _ _ => rfl))) (pa_cons (pv 2) pa_nil))))), ?_⟩
    refine ⟨.ref b, rfl, .ref b, rfl, b, xs, ls, rfl, eb, tx, bo.len, fun L1 H1 s1 e1 => ?_⟩
    obtain ⟨kvs, rd, hk⟩ := la.same s1
    refine ⟨L1, rfl, ⟨_, SqL.of e1⟩, fun D nD => ?_⟩
    -- the lists by name
    let pick : Str → V := fun r => (valV kvs (Sum.inr r)).getD .non
    have l20 := bo.len
    have lf := facts_len ls
    refine lc_vals walk_list ((factsOf ls).map pick) (by rw [List.length_map, List.length_map]) (by rw [List.length_map]; omega) nD (fun H2 sm => SqL.of (sm _ _ e1)) (fun i x H2 H3 Q2 R2 hi sm hY qq => ?_) (fun H2 sm eD => ?_)
    · obtain ⟨rfl, hx⟩ := hY
      rw [List.getElem?_map] at hx
      cases er : (factsOf ls)[i]? with
      | none => rw [er] at hx; cases hx
      | some r =>
        rw [er] at hx
        have hx : V.str r = x := Option.some.inj hx
        subst hx
        obtain ⟨l, rs, h1, h2, h3⟩ := hk r (hf r (List.mem_of_getElem? er))
        refine ⟨rfl, iteT (B := True) ?_⟩
        refine ⟨.ref ra, rfl, .str r, rfl, ra, .ref l, rfl, .inl ⟨kvs, Sum.inr r, Rd.same rd sm, rfl, h1.symm⟩, qq _ _ (Same.refl _) ?_⟩
        rw [List.getElem?_map, er]
        show some ((valV kvs (Sum.inr r)).getD .non) = _
        rw [h1]
        rfl
    · refine ⟨.ref lk, rfl, b, D, lk, xs, ls, R0, R, rfl, sm _ _ (s1 _ _ eb), tx.mono (Tk.of (s1.trans sm)), ⟨_, eD, fun j r hr => ?_⟩, lka.same (s1.trans sm), bo, fun L zs H' s2 eL w2 => q L zs H' ((s1.trans sm).trans s2) eL w2⟩
      obtain ⟨l, rs, h1, h2, h3⟩ := hk r (hf r (List.mem_of_getElem? hr))
      refine ⟨l, rs, ?_, sm _ _ h2, h3.mono (Tk.of sm)⟩
      rw [List.getElem?_map, hr]
      show some ((valV kvs (Sum.inr r)).getD .non) = _
      rw [h1]
      rfl
end
end KC

namespace KC
open PySem PySem.Spec PyProof.Rows L2 KA
theorem eqv_str (x y : Str) : PyData.eqv (.str x) (.str y) = decide (x = y) := by
  show (x == y) = decide (x = y)
  rw [← dec_str]
  by_cases c : x = y
  · subst c
    rw [decide_eq_true rfl, decide_eq_true rfl]
  · rw [decide_eq_false c, decide_eq_false (fun z => c (V.str.inj z))]
theorem eqv_int (x y : Int) : PyData.eqv (.int x) (.int y) = decide (x = y) := by
  show (x == y) = decide (x = y)
  rfl
theorem drop_get {α : Type} {l : List α} {i : Nat} {x : α} (h : l[i]? = some x) : l.drop i = x :: l.drop (i + 1) := by
  obtain ⟨h1, h2⟩ := List.getElem?_eq_some_iff.mp h
  rw [List.drop_eq_getElem_cons h1, h2]
def isAtom : PyData → Prop
  | .int _ => True
  | .str _ => True
  | _ => False
/-! ### nice data: ints, texts and tuples of them -/
mutual
def nice : PyData → Prop
  | .int _ => True
  | .str _ => True
  | .tuple ds => ds.length ≤ 1000 ∧ niceAll ds
  | _ => False
def niceAll : List PyData → Prop
  | [] => True
  | d :: r => nice d ∧ niceAll r
end
theorem nice_int (i : Int) : nice (.int i) := by
  rw [nice]
  trivial
theorem nice_str (z : Str) : nice (.str z) := by
  rw [nice]
  trivial
theorem nice_atom {d : PyData} (h : isAtom d) : nice d := by
  cases d with
  | int i => exact nice_int i
  | str z => exact nice_str z
  | _ => exact h.elim
theorem nice_tup {ds : List PyData} (h : niceAll ds) (l : ds.length ≤ 1000) : nice (.tuple ds) := by
  rw [nice]
  exact ⟨l, h⟩
theorem niceAll_nil : niceAll [] := by
  rw [niceAll]
  trivial
theorem niceAll_cons {d : PyData} {ds : List PyData} (h : nice d) (h2 : niceAll ds) : niceAll (d :: ds) := by
  rw [niceAll]
  exact ⟨h, h2⟩
theorem niceAll_snoc : ∀ {ds : List PyData} {d : PyData}, niceAll ds → nice d → niceAll (ds ++ [d])
  | [], d, _, h => niceAll_cons h niceAll_nil
  | x :: r, d, h, h2 => by
    rw [niceAll] at h
    exact niceAll_cons h.1 (niceAll_snoc h.2 h2)
theorem niceAll_of : ∀ {ds : List PyData}, (∀ d ∈ ds, nice d) → niceAll ds
  | [], _ => niceAll_nil
  | x :: r, h => niceAll_cons (h x List.mem_cons_self) (niceAll_of fun d hd => h d (List.mem_cons_of_mem _ hd))
theorem niceAll_mem : ∀ {ds : List PyData} {d : PyData}, niceAll ds → d ∈ ds → nice d
  | x :: r, d, h, m => by
    rw [niceAll] at h
    rcases List.mem_cons.mp m with e | e
    · rw [e]
      exact h.1
    · exact niceAll_mem h.2 e
theorem depthAll_snoc : ∀ {ds : List PyData} {d : PyData} {k : Nat}, PyData.depthAll ds ≤ k → d.depth ≤ k → PyData.depthAll (ds ++ [d]) ≤ k
  | [], d, k, _, h => by
    show max d.depth 0 ≤ k
    omega
  | x :: r, d, k, h, h2 => by
    rw [PyData.depthAll] at h
    show max x.depth (PyData.depthAll (r ++ [d])) ≤ k
    have t := depthAll_snoc (ds := r) (d := d) (k := k) (by omega) h2
    omega
/-! ### _law_same -/
abbrev sSM : Stmt := topS 21
theorem scSM : FnScope ["actual", "expected", "k"] ["actual", "expected"] (defScope sSM) := ⟨rfl, rfl, rfl, by decide +kernel, rfl, by decide +kernel, by decide +kernel⟩
/-- of two nice data -/
def spSM (n : Nat) : Sp := fun vs H Q _ => ∃ (v u : V) (d e : PyData), vs = [v, u] ∧ Tp H v d ∧ Tp H u e ∧ nice d ∧ nice e ∧ e.depth ≤ n ∧ Q (.bl (PyData.eqv d e)) H
/-- of two lists of nice data -/
def spSL (n : Nat) : Sp := fun vs H Q _ => ∃ (a b : Addr) (xs ys : List V) (ds es : List PyData), vs = [.ref a, .ref b] ∧ H a = some (.lst xs) ∧ H b = some (.lst ys) ∧ Tps H xs ds ∧ Tps H ys es ∧ niceAll ds ∧ niceAll es ∧ PyData.depthAll es ≤ n ∧ es.length ≤ 1000 ∧ Q (.bl (PyData.eqvAll ds es)) H
theorem depth_at : ∀ {ds : List PyData} {i : Nat} {d : PyData}, ds[i]? = some d → d.depth ≤ PyData.depthAll ds
  | [], _, _, e => by simp at e
  | _ :: _, 0, _, e => by
    cases e
    rw [PyData.depthAll]
    exact Nat.le_max_left _ _
  | _ :: _, i + 1, _, e => by
    rw [PyData.depthAll]
    exact Nat.le_trans (depth_at (i := i) e) (Nat.le_max_right _ _)
theorem eqvAll_len : ∀ {ds es : List PyData}, ds.length ≠ es.length → PyData.eqvAll ds es = false
  | [], [], h => absurd rfl h
  | [], _ :: _, _ => rfl
  | _ :: _, [], _ => rfl
  | d :: ds, e :: es, h => by
    rw [PyData.eqvAll, eqvAll_len (ds := ds) (es := es) (fun z => h (by rw [List.length_cons, List.length_cons, z])), Bool.and_false]
/-! ### == of nice data is being equal -/
mutual
theorem eqv_eq : ∀ {d e : PyData}, nice d → nice e → PyData.eqv d e = true → d = e
  | .int a, .int b, _, _, h => by
    rw [eqv_int] at h
    rw [of_decide_eq_true h]
  | .str a, .str b, _, _, h => by
    rw [eqv_str] at h
    rw [of_decide_eq_true h]
  | .tuple xs, .tuple ys, h1, h2, h => by
    rw [nice] at h1 h2
    rw [eqvAll_eq2 h1.2 h2.2 h]
  | .int _, .str _, _, _, h => nomatch h
  | .int _, .tuple _, _, _, h => nomatch h
  | .str _, .int _, _, _, h => nomatch h
  | .str _, .tuple _, _, _, h => nomatch h
  | .tuple _, .int _, _, _, h => nomatch h
  | .tuple _, .str _, _, _, h => nomatch h
  | .none, _, h1, _, _ => by simp [nice] at h1
  | .bool _, _, h1, _, _ => by simp [nice] at h1
  | .list _, _, h1, _, _ => by simp [nice] at h1
  | .dict _, _, h1, _, _ => by simp [nice] at h1
  | .int _, .none, _, h2, _ => by simp [nice] at h2
  | .int _, .bool _, _, h2, _ => by simp [nice] at h2
  | .int _, .list _, _, h2, _ => by simp [nice] at h2
  | .int _, .dict _, _, h2, _ => by simp [nice] at h2
  | .str _, .none, _, h2, _ => by simp [nice] at h2
  | .str _, .bool _, _, h2, _ => by simp [nice] at h2
  | .str _, .list _, _, h2, _ => by simp [nice] at h2
  | .str _, .dict _, _, h2, _ => by simp [nice] at h2
  | .tuple _, .none, _, h2, _ => by simp [nice] at h2
  | .tuple _, .bool _, _, h2, _ => by simp [nice] at h2
  | .tuple _, .list _, _, h2, _ => by simp [nice] at h2
  | .tuple _, .dict _, _, h2, _ => by simp [nice] at h2
theorem eqvAll_eq2 : ∀ {ds es : List PyData}, niceAll ds → niceAll es → PyData.eqvAll ds es = true → ds = es
  | [], [], _, _, _ => rfl
  | [], _ :: _, _, _, h => nomatch h
  | _ :: _, [], _, _, h => nomatch h
  | d :: ds, e :: es, h1, h2, h => by
    rw [niceAll] at h1 h2
    rw [PyData.eqvAll, Bool.and_eq_true] at h
    rw [eqv_eq h1.1 h2.1 h.1, eqvAll_eq2 h1.2 h2.2 h.2]
end
theorem nice_plain : ∀ {d : PyData}, nice d → PyData.eqv d d = true
  | .int a, _ => by
    rw [eqv_int]
    exact decide_eq_true rfl
  | .str a, _ => by
    rw [eqv_str]
    exact decide_eq_true rfl
  | .tuple xs, h => by
    rw [nice] at h
    exact all_plain h.2
  | .none, h => by simp [nice] at h
  | .bool _, h => by simp [nice] at h
  | .list _, h => by simp [nice] at h
  | .dict _, h => by simp [nice] at h
where
  all_plain : ∀ {ds : List PyData}, niceAll ds → PyData.eqvAll ds ds = true
    | [], _ => rfl
    | d :: r, h => by
      rw [niceAll] at h
      rw [PyData.eqvAll, nice_plain h.1, all_plain h.2]
      rfl
theorem eqv_dec {d e : PyData} (h1 : nice d) (h2 : nice e) : PyData.eqv d e = true ↔ d = e := ⟨eqv_eq h1 h2, fun z => by
  subst z
  exact nice_plain h1⟩
section
variable {P : Program} {w : World} {K : PySem.W.Frag} {mg : Str → Option Value} {base : Heap}
theorem isi_no {x : V} {t c : String} {H : Hp} {A B : Prop} (ty : TyX K H x (.type t)) (k : kitB t c = some false) (h : B) :
    ∃ (y d : V) (s u : Value) (b : Bool), [x, V.ty c] = [y, d] ∧ ClsV d u ∧ TyX K H y s ∧ PySem.W.kitOne K s u = some b ∧ ∃ z, V.bl b = .bl z ∧ if z = true then A else B :=
  ⟨x, .ty c, _, _, false, rfl, .ty c, ty, kit_ty k, false, rfl, iteF h⟩
theorem isi_yes {x : V} {t c : String} {H : Hp} {A B : Prop} (ty : TyX K H x (.type t)) (k : kitB t c = some true) (h : A) :
    ∃ (y d : V) (s u : Value) (b : Bool), [x, V.ty c] = [y, d] ∧ ClsV d u ∧ TyX K H y s ∧ PySem.W.kitOne K s u = some b ∧ ∃ z, V.bl b = .bl z ∧ if z = true then A else B :=
  ⟨x, .ty c, _, _, true, rfl, .ty c, ty, kit_ty k, true, rfl, iteT h⟩
theorem ok_sm {f : Addr} {fd : FuncData} (F : Fun K "_law_same" "_law_same" sSM f fd) (B : Bt mg) (n : Nat) (DS : n = 0 ∨ ∃ m, n = m + 1 ∧ Def P w K mg base "_law_same" (m + 1) ["actual", "expected"] (spSM m)) :
    FnOk P w K mg base CX0 (n + 1) f fd ["actual", "expected"] (spSM n) := by
  refine F.ok scSM (fun vs H Q E h => ?_) (fun cdv A outer s H vs Q E hr h => ?_)
  · obtain ⟨v, u, _, _, rfl, _⟩ := h
    rfl
  · obtain ⟨v, u, d, e, rfl, tv, tu, nd, ne, dn, q⟩ := h
    cases tu with
    | non => rw [nice] at ne; all_goals first | exact ne.elim | (intros; contradiction)
    | bl b => rw [nice] at ne; all_goals first | exact ne.elim | (intros; contradiction)
    | int i =>
      refine ⟨_, pss_cons (ps_if (pt_cmpR op_isN (pv 1) pe_non (nomark _)) pss_never pss_nil)
        (pss_cons (ps_if (pt_val (pe_callB call_isi (by rfl) B.isi (by decide +kernel) (pa_cons (pv 1) (pa_cons (pe_bltn (v := .ty "bool") (u := .type "bool") (by rfl) B.bool (by decide +kernel) rfl) pa_nil)))) pss_never pss_nil)
        (pss_cons (ps_if (pt_val (pe_callB call_isi (by rfl) B.isi (by decide +kernel) (pa_cons (pv 1) (pa_cons (pe_bltn (v := .ty "int") (u := .type "int") (by rfl) B.int (by decide +kernel) rfl) pa_nil))))
          (pss_one (ps_ret (pe_and (pe_callB call_isi (by rfl) B.isi (by decide +kernel) (pa_cons (pv 0) (pa_cons (pe_bltn (v := .ty "int") (u := .type "int") (by rfl) B.int (by decide +kernel) rfl) pa_nil))) (pe_and (pe_not (pe_callB call_isi (by rfl) B.isi (by decide +kernel) (pa_cons (pv 0) (pa_cons (pe_bltn (v := .ty "bool") (u := .type "bool") (by rfl) B.bool (by decide +kernel) rfl) pa_nil)))) (pe_one (pe_cmpR (op_eqP hr.units) (pv 0) (pv 1) (nomark _))))))) pss_nil)
        pss_never)), ?_⟩
      refine ⟨.int i, rfl, rfl, _, rfl, no_if (fun z => nomatch z) ?_⟩
      refine ⟨.int i, rfl, isi_no (.base (.int i)) (by decide +kernel) ?_⟩
      refine ⟨.int i, rfl, isi_yes (.base (.int i)) (by decide +kernel) ?_⟩
      cases tv with
      | non => rw [nice] at nd; all_goals first | exact nd.elim | (intros; contradiction)
      | bl b => rw [nice] at nd; all_goals first | exact nd.elim | (intros; contradiction)
      | int j =>
        refine ⟨.int j, rfl, isi_yes (.base (.int j)) (by decide +kernel) ?_⟩
        refine ⟨.int j, rfl, .int j, .ty "bool", _, _, false, rfl, .ty "bool", .base (.int j), kit_ty (by decide +kernel), false, rfl, true, rfl, iteT ?_⟩
        exact ⟨.int j, rfl, .int i, rfl, _, _, .int j, .int i, Nat.zero_le _, q⟩
      | str z => exact ⟨.str z, rfl, isi_no (.base (.str z)) (by decide +kernel) q⟩
      | tup ea ra => exact ⟨_, rfl, isi_no (.base (.tup ea)) (by decide +kernel) q⟩
    | str z =>
      refine ⟨_, pss_cons (ps_if (pt_cmpR op_isN (pv 1) pe_non (nomark _)) pss_never pss_nil)
        (pss_cons (ps_if (pt_val (pe_callB call_isi (by rfl) B.isi (by decide +kernel) (pa_cons (pv 1) (pa_cons (pe_bltn (v := .ty "bool") (u := .type "bool") (by rfl) B.bool (by decide +kernel) rfl) pa_nil)))) pss_never pss_nil)
        (pss_cons (ps_if (pt_val (pe_callB call_isi (by rfl) B.isi (by decide +kernel) (pa_cons (pv 1) (pa_cons (pe_bltn (v := .ty "int") (u := .type "int") (by rfl) B.int (by decide +kernel) rfl) pa_nil)))) pss_never pss_nil)
        (pss_cons (ps_if (pt_val (pe_callB call_isi (by rfl) B.isi (by decide +kernel) (pa_cons (pv 1) (pa_cons (pe_bltn (v := .ty "str") (u := .type "str") (by rfl) B.str (by decide +kernel) rfl) pa_nil))))
          (pss_one (ps_ret (pe_and (pe_callB call_isi (by rfl) B.isi (by decide +kernel) (pa_cons (pv 0) (pa_cons (pe_bltn (v := .ty "str") (u := .type "str") (by rfl) B.str (by decide +kernel) rfl) pa_nil))) (pe_one (pe_cmpR (op_eqP hr.units) (pv 0) (pv 1) (nomark _)))))) pss_nil)
        pss_never))), ?_⟩
      refine ⟨.str z, rfl, rfl, _, rfl, no_if (fun z => nomatch z) ?_⟩
      refine ⟨.str z, rfl, isi_no (.base (.str z)) (by decide +kernel) ?_⟩
      refine ⟨.str z, rfl, isi_no (.base (.str z)) (by decide +kernel) ?_⟩
      refine ⟨.str z, rfl, isi_yes (.base (.str z)) (by decide +kernel) ?_⟩
      cases tv with
      | non => rw [nice] at nd; all_goals first | exact nd.elim | (intros; contradiction)
      | bl b => rw [nice] at nd; all_goals first | exact nd.elim | (intros; contradiction)
      | int j => exact ⟨.int j, rfl, isi_no (.base (.int j)) (by decide +kernel) q⟩
      | str y =>
        refine ⟨.str y, rfl, isi_yes (.base (.str y)) (by decide +kernel) ?_⟩
        exact ⟨.str y, rfl, .str z, rfl, _, _, .str y, .str z, Nat.zero_le _, q⟩
      | tup ea ra => exact ⟨_, rfl, isi_no (.base (.tup ea)) (by decide +kernel) q⟩
    | @tup b ys es e2 r2 =>
      rcases DS with rfl | ⟨m, rfl, DS⟩
      · exact absurd dn (by
          show ¬ PyData.depthAll es + 1 ≤ 0
          omega)
      have ly := r2.length
      rw [nice] at ne
      have dm : PyData.depthAll es ≤ m := by
        have t : PyData.depthAll es + 1 ≤ m + 1 := dn
        omega
      refine ⟨_, pss_cons (ps_if (pt_cmpR op_isN (pv 1) pe_non (nomark _)) pss_never pss_nil)
        (pss_cons (ps_if (pt_val (pe_callB call_isi (by rfl) B.isi (by decide +kernel) (pa_cons (pv 1) (pa_cons (pe_bltn (v := .ty "bool") (u := .type "bool") (by rfl) B.bool (by decide +kernel) rfl) pa_nil)))) pss_never pss_nil)
        (pss_cons (ps_if (pt_val (pe_callB call_isi (by rfl) B.isi (by decide +kernel) (pa_cons (pv 1) (pa_cons (pe_bltn (v := .ty "int") (u := .type "int") (by rfl) B.int (by decide +kernel) rfl) pa_nil)))) pss_never pss_nil)
        (pss_cons (ps_if (pt_val (pe_callB call_isi (by rfl) B.isi (by decide +kernel) (pa_cons (pv 1) (pa_cons (pe_bltn (v := .ty "str") (u := .type "str") (by rfl) B.str (by decide +kernel) rfl) pa_nil)))) pss_never pss_nil)
        (pss_cons (ps_if (PW.pt (pw_and (pt_val (pe_callB call_isi (by rfl) B.isi (by decide +kernel) (pa_cons (pv 1) (pa_cons (pe_bltn (v := .ty "tuple") (u := .type "tuple") (by rfl) B.tup (by decide +kernel) rfl) pa_nil)))) (pw_and1 (pt_not (pt_val (pe_callB call_isi (by rfl) B.isi (by decide +kernel) (pa_cons (pv 0) (pa_cons (pe_bltn (v := .ty "tuple") (u := .type "tuple") (by rfl) B.tup (by decide +kernel) rfl) pa_nil)))))))) (pss_one (ps_ret pe_bl)) pss_nil)
        (pss_cons (ps_if (PW.pt (pw_and (pt_val (pe_callB call_isi (by rfl) B.isi (by decide +kernel) (pa_cons (pv 1) (pa_cons (pe_bltn (v := .ty "list") (u := .type "list") (by rfl) B.lst (by decide +kernel) rfl) pa_nil)))) (pw_and1 (pt_not (pt_val (pe_callB call_isi (by rfl) B.isi (by decide +kernel) (pa_cons (pv 0) (pa_cons (pe_bltn (v := .ty "list") (u := .type "list") (by rfl) B.lst (by decide +kernel) rfl) pa_nil)))))))) pss_never pss_nil)
        (pss_cons (ps_if (pt_cmpR op_ne (pe_callB call_len_seq (by rfl) B.len PySem.boot_len (pa_cons (pv 0) pa_nil)) (pe_callB call_len_seq (by rfl) B.len PySem.boot_len (pa_cons (pv 1) pa_nil)) (nomark _)) (pss_one (ps_ret pe_bl)) pss_nil)
        (pss_cons (ps_for PassesOwn.never rfl (pi_range1 (by rfl) B.rng (pa_cons (pe_callB call_len_seq (by rfl) B.len PySem.boot_len (pa_cons (pv 1) pa_nil)) pa_nil)) (pg_name (i := 2) scSM.nd rfl (.inl rfl))
            (pss_one (ps_if (pt_not (pt_val (pe_def DS hr (by rfl) (pa_cons (pe_ix ix_tup (pv 0) (pv 2) (fun _ _ => rfl)) (pa_cons (pe_ix ix_tup (pv 1) (pv 2) (fun _ _ => rfl)) pa_nil))))) (pss_one (ps_ret pe_bl)) pss_nil)))
        (pss_one (ps_ret pe_bl))))))))), ?_⟩
      refine ⟨.ref b, rfl, rfl, _, rfl, no_if (fun z => nomatch z) ?_⟩
      refine ⟨.ref b, rfl, isi_no (.base (.tup e2)) (by decide +kernel) ?_⟩
      refine ⟨.ref b, rfl, isi_no (.base (.tup e2)) (by decide +kernel) ?_⟩
      refine ⟨.ref b, rfl, isi_no (.base (.tup e2)) (by decide +kernel) ?_⟩
      refine ⟨.ref b, rfl, isi_yes (.base (.tup e2)) (by decide +kernel) ?_⟩
      cases tv with
      | non => rw [nice] at nd; all_goals first | exact nd.elim | (intros; contradiction)
      | bl b => rw [nice] at nd; all_goals first | exact nd.elim | (intros; contradiction)
      | int j => exact ⟨.int j, rfl, .int j, .ty "tuple", _, _, false, rfl, .ty "tuple", .base (.int j), kit_ty (by decide +kernel), false, rfl, iteT q⟩
      | str y => exact ⟨.str y, rfl, .str y, .ty "tuple", _, _, false, rfl, .ty "tuple", .base (.str y), kit_ty (by decide +kernel), false, rfl, iteT q⟩
      | @tup a xs ds e r =>
        have lx := r.length
        rw [nice] at nd
        refine ⟨.ref a, rfl, .ref a, .ty "tuple", _, _, true, rfl, .ty "tuple", .base (.tup e), kit_ty (by decide +kernel), true, rfl, iteF ?_⟩
        refine ⟨.ref b, rfl, .ref b, .ty "list", _, _, false, rfl, .ty "list", .base (.tup e2), kit_ty (by decide +kernel), false, rfl, iteF (iteF ?_)⟩
        refine ⟨.ref a, rfl, a, xs, rfl, .inr (SqT.of e), .ref b, rfl, b, ys, rfl, .inr (SqT.of e2), rfl, _, rfl, ?_⟩
        have q2 : Q (.bl (PyData.eqvAll ds es)) H := q
        by_cases cl : ds.length = es.length
        · rw [lx, ly, cl, decide_eq_true rfl]
          refine iteF ?_
          refine ⟨.ref b, rfl, b, ys, rfl, .inr (SqT.of e2), _, rfl, by omega, by omega, ?_⟩
          rw [ly, Int.toNat_natCast]
          refine for_range (lo := 0) (n := es.length) (fun i σ H' => H' = H ∧ PyData.eqvAll ds es = PyData.eqvAll (ds.drop i) (es.drop i) ∧ ∃ x2, σ = [some (.ref a), some (.ref b), x2]) ⟨rfl, rfl, none, rfl⟩ (fun i σ H' hi hP => ?_) (fun σ H' hP => ?_)
          · obtain ⟨rfl, eq1, x2, rfl⟩ := hP
            have g2 := List.getElem?_eq_getElem hi
            have g1 := List.getElem?_eq_getElem (l := ds) (i := i) (by omega)
            obtain ⟨x, ex, tx⟩ := r.at_ g1
            obtain ⟨y, ey, ty⟩ := r2.at_ g2
            have e0 : (0 : Int) + (i : Int) = ((i : Nat) : Int) := Int.zero_add _
            rw [drop_get g1, drop_get g2, PyData.eqvAll] at eq1
            refine ⟨.ref a, rfl, .int (0 + i), rfl, a, xs, 0 + i, x, rfl, rfl, SqT.of e, at_of e0 ex, .ref b, rfl, .int (0 + i), rfl, b, ys, 0 + i, y, rfl, rfl, SqT.of e2, at_of e0 ey, ?_⟩
            refine ⟨x, y, _, _, rfl, tx, ty, niceAll_mem nd.2 (List.mem_of_getElem? g1), niceAll_mem ne.2 (List.mem_of_getElem? g2), Nat.le_trans (depth_at g2) dm, _, rfl, ?_⟩
            cases c : PyData.eqv ds[i] es[i] with
            | true =>
              rw [c, Bool.true_and] at eq1
              exact iteF ⟨rfl, eq1, _, rfl⟩
            | false =>
              rw [c, Bool.false_and] at eq1
              rw [eq1] at q2
              exact iteT q2
          · obtain ⟨rfl, eq1, x2, rfl⟩ := hP
            rw [List.drop_of_length_le (by omega), List.drop_of_length_le (by omega)] at eq1
            rw [eq1] at q2
            exact q2
        · rw [lx, ly, decide_eq_false (fun z => cl (by have t := V.int.inj z; omega))]
          refine iteT ?_
          rw [eqvAll_len cl] at q2
          exact q2
theorem ok_sl {f : Addr} {fd : FuncData} (F : Fun K "_law_same" "_law_same" sSM f fd) (B : Bt mg) (m : Nat) (DS : Def P w K mg base "_law_same" (m + 1) ["actual", "expected"] (spSM m)) :
    FnOk P w K mg base CX0 (m + 2) f fd ["actual", "expected"] (spSL m) := by
  refine F.ok scSM (fun vs H Q E h => ?_) (fun cdv A outer s H vs Q E hr h => ?_)
  · obtain ⟨_, _, _, _, _, _, rfl, _⟩ := h
    rfl
  · obtain ⟨a, b, xs, ys, ds, es, rfl, e, e2, r, r2, nd, ne, dm, le, q2⟩ := h
    have ly := r2.length
    have lx := r.length
    refine ⟨_, pss_cons (ps_if (pt_cmpR op_isN (pv 1) pe_non (nomark _)) pss_never pss_nil)
        (pss_cons (ps_if (pt_val (pe_callB call_isi (by rfl) B.isi (by decide +kernel) (pa_cons (pv 1) (pa_cons (pe_bltn (v := .ty "bool") (u := .type "bool") (by rfl) B.bool (by decide +kernel) rfl) pa_nil)))) pss_never pss_nil)
        (pss_cons (ps_if (pt_val (pe_callB call_isi (by rfl) B.isi (by decide +kernel) (pa_cons (pv 1) (pa_cons (pe_bltn (v := .ty "int") (u := .type "int") (by rfl) B.int (by decide +kernel) rfl) pa_nil)))) pss_never pss_nil)
        (pss_cons (ps_if (pt_val (pe_callB call_isi (by rfl) B.isi (by decide +kernel) (pa_cons (pv 1) (pa_cons (pe_bltn (v := .ty "str") (u := .type "str") (by rfl) B.str (by decide +kernel) rfl) pa_nil)))) pss_never pss_nil)
        (pss_cons (ps_if (PW.pt (pw_and (pt_val (pe_callB call_isi (by rfl) B.isi (by decide +kernel) (pa_cons (pv 1) (pa_cons (pe_bltn (v := .ty "tuple") (u := .type "tuple") (by rfl) B.tup (by decide +kernel) rfl) pa_nil)))) (pw_and1 (pt_not (pt_val (pe_callB call_isi (by rfl) B.isi (by decide +kernel) (pa_cons (pv 0) (pa_cons (pe_bltn (v := .ty "tuple") (u := .type "tuple") (by rfl) B.tup (by decide +kernel) rfl) pa_nil)))))))) pss_never pss_nil)
        (pss_cons (ps_if (PW.pt (pw_and (pt_val (pe_callB call_isi (by rfl) B.isi (by decide +kernel) (pa_cons (pv 1) (pa_cons (pe_bltn (v := .ty "list") (u := .type "list") (by rfl) B.lst (by decide +kernel) rfl) pa_nil)))) (pw_and1 (pt_not (pt_val (pe_callB call_isi (by rfl) B.isi (by decide +kernel) (pa_cons (pv 0) (pa_cons (pe_bltn (v := .ty "list") (u := .type "list") (by rfl) B.lst (by decide +kernel) rfl) pa_nil)))))))) pss_never pss_nil)
        (pss_cons (ps_if (pt_cmpR op_ne (pe_callB call_len_seq (by rfl) B.len PySem.boot_len (pa_cons (pv 0) pa_nil)) (pe_callB call_len_seq (by rfl) B.len PySem.boot_len (pa_cons (pv 1) pa_nil)) (nomark _)) (pss_one (ps_ret pe_bl)) pss_nil)
        (pss_cons (ps_for PassesOwn.never rfl (pi_range1 (by rfl) B.rng (pa_cons (pe_callB call_len_seq (by rfl) B.len PySem.boot_len (pa_cons (pv 1) pa_nil)) pa_nil)) (pg_name (i := 2) scSM.nd rfl (.inl rfl))
            (pss_one (ps_if (pt_not (pt_val (pe_def DS hr (by rfl) (pa_cons (pe_ix ix_list (pv 0) (pv 2) (fun _ _ => rfl)) (pa_cons (pe_ix ix_list (pv 1) (pv 2) (fun _ _ => rfl)) pa_nil))))) (pss_one (ps_ret pe_bl)) pss_nil)))
        (pss_one (ps_ret pe_bl))))))))), ?_⟩
    refine ⟨.ref b, rfl, rfl, _, rfl, no_if (fun z => nomatch z) ?_⟩
    refine ⟨.ref b, rfl, isi_no (.base (.lst e2)) (by decide +kernel) ?_⟩
    refine ⟨.ref b, rfl, isi_no (.base (.lst e2)) (by decide +kernel) ?_⟩
    refine ⟨.ref b, rfl, isi_no (.base (.lst e2)) (by decide +kernel) ?_⟩
    refine ⟨.ref b, rfl, .ref b, .ty "tuple", _, _, false, rfl, .ty "tuple", .base (.lst e2), kit_ty (by decide +kernel), false, rfl, iteF (iteF ?_)⟩
    refine ⟨.ref b, rfl, .ref b, .ty "list", _, _, true, rfl, .ty "list", .base (.lst e2), kit_ty (by decide +kernel), true, rfl, iteT ?_⟩
    refine ⟨.ref a, rfl, .ref a, .ty "list", _, _, true, rfl, .ty "list", .base (.lst e), kit_ty (by decide +kernel), true, rfl, iteF ?_⟩
    refine ⟨.ref a, rfl, a, xs, rfl, .inl (SqL.of e), .ref b, rfl, b, ys, rfl, .inl (SqL.of e2), rfl, _, rfl, ?_⟩
    by_cases cl : ds.length = es.length
    · rw [lx, ly, cl, decide_eq_true rfl]
      refine iteF ?_
      refine ⟨.ref b, rfl, b, ys, rfl, .inl (SqL.of e2), _, rfl, by omega, by omega, ?_⟩
      rw [ly, Int.toNat_natCast]
      refine for_range (lo := 0) (n := es.length) (fun i σ H' => H' = H ∧ PyData.eqvAll ds es = PyData.eqvAll (ds.drop i) (es.drop i) ∧ ∃ x2, σ = [some (.ref a), some (.ref b), x2]) ⟨rfl, rfl, none, rfl⟩ (fun i σ H' hi hP => ?_) (fun σ H' hP => ?_)
      · obtain ⟨rfl, eq1, x2, rfl⟩ := hP
        have g2 := List.getElem?_eq_getElem hi
        have g1 := List.getElem?_eq_getElem (l := ds) (i := i) (by omega)
        obtain ⟨x, ex, tx⟩ := r.at_ g1
        obtain ⟨y, ey, ty⟩ := r2.at_ g2
        have e0 : (0 : Int) + (i : Int) = ((i : Nat) : Int) := Int.zero_add _
        rw [drop_get g1, drop_get g2, PyData.eqvAll] at eq1
        refine ⟨.ref a, rfl, .int (0 + i), rfl, a, xs, 0 + i, x, rfl, rfl, SqL.of e, at_of e0 ex, .ref b, rfl, .int (0 + i), rfl, b, ys, 0 + i, y, rfl, rfl, SqL.of e2, at_of e0 ey, ?_⟩
        refine ⟨x, y, _, _, rfl, tx, ty, niceAll_mem nd (List.mem_of_getElem? g1), niceAll_mem ne (List.mem_of_getElem? g2), Nat.le_trans (depth_at g2) dm, _, rfl, ?_⟩
        cases c : PyData.eqv ds[i] es[i] with
        | true =>
          rw [c, Bool.true_and] at eq1
          exact iteF ⟨rfl, eq1, _, rfl⟩
        | false =>
          rw [c, Bool.false_and] at eq1
          rw [eq1] at q2
          exact iteT q2
      · obtain ⟨rfl, eq1, x2, rfl⟩ := hP
        rw [List.drop_of_length_le (by omega), List.drop_of_length_le (by omega)] at eq1
        rw [eq1] at q2
        exact q2
    · rw [lx, ly, decide_eq_false (fun z => cl (by have t := V.int.inj z; omega))]
      refine iteT ?_
      rw [eqvAll_len cl] at q2
      exact q2
end
end KC

namespace KC
open PySem PySem.Spec PyProof.Rows L2 KA
theorem Good.not_none {st L : Addr} {H : Hp} (g : Good st L H) : H st ≠ none := by
  obtain ⟨_, _, _, _, e, _⟩ := g
  rw [e]
  exact fun z => nomatch z
theorem Dr.keep {st L p : Addr} {H H' : Hp} {o : HO} (g : Good st L H) (n : H p = none) (d : Dr st L (upd H p o) H') : H' p = some o :=
  d.at_ (fun z => g.not_none (by rw [← z]; exact n)) upd_same
theorem pick_at {α : Type} {f : α → V} {ks : List α} {v : Int} (h0 : 0 ≤ v) (h1 : v < ks.length) : ∃ k ∈ ks, atI (ks.map f) v = some (f k) := by
  obtain ⟨m, rfl⟩ : ∃ m : Nat, v = m := ⟨v.toNat, by omega⟩
  have hm : m < ks.length := by omega
  refine ⟨ks[m], List.getElem_mem hm, atI_nat ?_⟩
  rw [List.getElem?_map, List.getElem?_eq_getElem hm]
  rfl
/-- ints of at most n bits, short texts -/
def KeyB (n : Nat) (k : Key) : Prop := (∀ i, k = Sum.inl i → i.natAbs < 2 ^ n) ∧ ∀ z, k = Sum.inr z → z.cps.size ≤ 100 ∧ ∀ c ∈ z.cps.toList, c < 16 ^ 8
def vars4 : List Str := ["x", "y", "z", "n_1"]
def TermB : T → Prop
  | .any => True
  | .val k => KeyB 100 k
  | .var x => x ∈ vars4
section
variable {P : Program} {w : World} {K : PySem.W.Frag} {mg : Str → Option Value} {base : Heap}
/-! ### _law_worth -/
abbrev sLw : Stmt := topS 22
theorem scLw : FnScope ["state"] ["state"] (defScope sLw) := ⟨rfl, rfl, rfl, by decide +kernel, rfl, by decide +kernel, by decide +kernel⟩
def spLw : Sp := fun vs H Q _ => ∃ (st L : Addr), vs = [.ref st] ∧ Good st L H ∧ ∀ (k : Key) H', Dr st L H H' → KeyB 100 k → Q (kV k) H'
def worths : List Key := [.inl 0, .inl 1, .inl 2, .inl (-1), .inl 3, .inr "a", .inr "", .inr "1", .inl (10 ^ 30 - 1), .inl 2, .inr "A", .inr "ab", .inr "aB", .inr "ac", .inl (-7), .inl 12]
theorem worths_b : ∀ k ∈ worths, KeyB 100 k := by
  intro k hk
  refine ⟨fun i e => ?_, fun z e => ?_⟩
  · subst e
    simp only [worths, List.mem_cons, Sum.inl.injEq, reduceCtorEq, List.not_mem_nil, or_false, false_or] at hk
    rcases hk with rfl | rfl | rfl | rfl | rfl | rfl | rfl | rfl | rfl <;> decide
  · subst e
    simp only [worths, List.mem_cons, Sum.inr.injEq, reduceCtorEq, List.not_mem_nil, or_false, false_or] at hk
    rcases hk with rfl | rfl | rfl | rfl | rfl | rfl | rfl <;> exact ⟨by decide +kernel, by decide +kernel⟩
theorem ok_lw {f : Addr} {fd : FuncData} (F : Fun K "_law_worth" "_law_worth" sLw f fd) (DN : dNext P w K mg base) : FnOk P w K mg base CX0 2 f fd ["state"] spLw := by
  refine F.ok scLw (fun vs H Q E h => ?_) (fun cdv A outer s H vs Q E hr h => ?_)
  · obtain ⟨st, L, rfl, _⟩ := h
    rfl
  · obtain ⟨st, L, rfl, g, q⟩ := h
    refine ⟨_, pss_one (ps_ret (pe_ix ix_list (pe_lst (pa_cons pe_int (pa_cons pe_int (pa_cons pe_int (pa_cons (pe_un un_neg pe_int) (pa_cons pe_int (pa_cons pe_str (pa_cons pe_str (pa_cons pe_str (pa_cons (pe_op op_sub (pe_op op_pow pe_int pe_int) pe_int) (pa_cons pe_int (pa_cons pe_str (pa_cons pe_str (pa_cons pe_str (pa_cons pe_str (pa_cons (pe_un un_neg pe_int) (pa_cons pe_int pa_nil)))))))))))))))))
      (pe_def DN hr (by rfl) (pa_cons (pv 0) (pa_cons pe_int pa_nil))) (fun _ _ => rfl))), ?_⟩
    refine ⟨1, rfl, 10, 30, rfl, rfl, ⟨by decide, by decide, by decide⟩, _, _, rfl, rfl, 7, rfl, (by show 16 ≤ sizeLine; decide), fun p np => ?_⟩
    have d1 := Dr.new (o := .lst (worths.map kV)) g np
    refine ⟨.ref st, rfl, st, L, 16, rfl, d1.good, by decide, by decide, fun v H2 d2 v0 v1 => ?_⟩
    obtain ⟨k, hk, ek⟩ := pick_at (f := kV) (ks := worths) v0 v1
    exact ⟨p, _, v, kV k, rfl, rfl, SqL.of (Dr.keep g np d2), ek, q k _ (d1.trans d2) (worths_b k hk)⟩
/-! ### _law_variable -/
abbrev sLv : Stmt := topS 23
theorem scLv : FnScope ["state"] ["state"] (defScope sLv) := ⟨rfl, rfl, rfl, by decide +kernel, rfl, by decide +kernel, by decide +kernel⟩
def spLv : Sp := fun vs H Q _ => ∃ (st L : Addr), vs = [.ref st] ∧ Good st L H ∧ ∀ (x : Str) H', Dr st L H H' → x ∈ vars4 → Q (.str x) H'
theorem ok_lv {f : Addr} {fd : FuncData} (F : Fun K "_law_variable" "_law_variable" sLv f fd) (DN : dNext P w K mg base) : FnOk P w K mg base CX0 2 f fd ["state"] spLv := by
  refine F.ok scLv (fun vs H Q E h => ?_) (fun cdv A outer s H vs Q E hr h => ?_)
  · obtain ⟨st, L, rfl, _⟩ := h
    rfl
  · obtain ⟨st, L, rfl, g, q⟩ := h
    refine ⟨_, pss_one (ps_ret (pe_ix ix_list (pe_lst (pa_cons pe_str (pa_cons pe_str (pa_cons pe_str (pa_cons pe_str pa_nil))))) (pe_def DN hr (by rfl) (pa_cons (pv 0) (pa_cons pe_int pa_nil))) (fun _ _ => rfl))), ?_⟩
    refine ⟨(by show 4 ≤ sizeLine; decide), fun p np => ?_⟩
    have d1 := Dr.new (o := .lst (vars4.map V.str)) g np
    refine ⟨.ref st, rfl, st, L, 4, rfl, d1.good, by decide, by decide, fun v H2 d2 v0 v1 => ?_⟩
    obtain ⟨x, hx, ex⟩ := pick_at (f := V.str) (ks := vars4) v0 v1
    exact ⟨p, _, v, .str x, rfl, rfl, SqL.of (Dr.keep g np d2), ex, q x _ (d1.trans d2) hx⟩
abbrev dLw (P : Program) (w : World) (K : PySem.W.Frag) (mg : Str → Option Value) (base : Heap) : Prop := Def P w K mg base "_law_worth" 2 ["state"] spLw
abbrev dLv (P : Program) (w : World) (K : PySem.W.Frag) (mg : Str → Option Value) (base : Heap) : Prop := Def P w K mg base "_law_variable" 2 ["state"] spLv
/-! ### _law_term -/
abbrev sLt : Stmt := topS 24
theorem scLt : FnScope ["state", "bound", "pick"] ["state", "bound"] (defScope sLt) := ⟨rfl, rfl, rfl, by decide +kernel, rfl, by decide +kernel, by decide +kernel⟩
def spLt : Sp := fun vs H Q _ => ∃ (st L b : Addr) (bs : List Str), vs = [.ref st, .ref b] ∧ Good st L H ∧ H b = some (.lst (bs.map V.str)) ∧ b ≠ st ∧ bs.length ≤ 40 ∧ (∀ x ∈ bs, x ∈ vars4) ∧
  ∀ (v : V) (t : T) H', Dr st L H H' → Tp H' v (tD t) → TermB t → Q v H'
theorem ok_lt {f : Addr} {fd : FuncData} (F : Fun K "_law_term" "_law_term" sLt f fd) (B : Bt mg) (DN : dNext P w K mg base) (DV : dLv P w K mg base) (DW : dLw P w K mg base) : FnOk P w K mg base CX0 3 f fd ["state", "bound"] spLt := by
  refine F.ok scLt (fun vs H Q E h => ?_) (fun cdv A outer s H vs Q E hr h => ?_)
  · obtain ⟨st, L, b, bs, rfl, _⟩ := h
    rfl
  · obtain ⟨st, L, b, bs, rfl, g, eb, nb, lb, hb, q⟩ := h
    have r1 : Room 1 _ := hr.mono (by decide)
    refine ⟨_, pss_cons (ps_set (i := 2) scLt.nd rfl (.inl rfl) (pe_def DN r1 (by rfl) (pa_cons (pv 0) (pa_cons pe_int pa_nil))))
      (C8.pss_cut (ps_if (PW.pt (pw_and (pt_cmpR op_lt (pv 2) pe_int (nomark _)) (pw_and1 (pt_cmpR op_gt (pe_callB call_len_seq (by rfl) B.len PySem.boot_len (pa_cons (pv 1) pa_nil)) pe_int (nomark _)))))
        (pss_one (ps_ret (pe_tup (pa_cons pe_str (pa_cons (pe_ix ix_list (pv 1) (pe_def DN r1 (by rfl) (pa_cons (pv 0) (pa_cons (pe_callB call_len_seq (by rfl) B.len PySem.boot_len (pa_cons (pv 1) pa_nil)) pa_nil))) (fun _ _ => rfl)) pa_nil))))) pss_nil)
      (pss_cons (ps_if (pt_cmpR op_lt (pv 2) pe_int (nomark _)) (pss_one (ps_ret (pe_tup (pa_cons pe_str (pa_cons (pe_def DV hr (by rfl) (pa_cons (pv 0) pa_nil)) pa_nil))))) pss_nil)
      (pss_one (ps_ret (pe_ix ix_list (pe_lst (pa_cons (pe_tup (pa_cons pe_str pa_nil)) (pa_cons (pe_tup (pa_cons pe_str (pa_cons (pe_def DW hr (by rfl) (pa_cons (pv 0) pa_nil)) pa_nil))) pa_nil)))
        (pe_callTy call_int1 (by rfl) B.int (by decide +kernel) (pa_cons (pe_cmpR op_lt (pv 2) pe_int (nomark _)) pa_nil)) (fun _ _ => rfl)))))), ?_⟩
    refine ⟨.ref st, rfl, st, L, 10, rfl, g, by decide, by decide, fun pick H1 d1 p0 p1 => ?_⟩
    have eb1 := d1.at_ nb eb
    have lbm : (bs.map V.str).length = bs.length := List.length_map _
    have gst := g.not_none
    refine ⟨fun σ' H' => σ' = [some (.ref st), some (.ref b), some (.int pick)] ∧ H' = H1, ?_, fun σ' H' hm => ?_⟩
    · refine ⟨.int pick, rfl, pick, 4, rfl, rfl, _, rfl, ite2 (fun c => ?_) (fun c => ?_)⟩
      · refine ⟨.ref b, rfl, b, _, rfl, .inl (SqL.of eb1), _, 0, rfl, rfl, _, rfl, ite2 (fun c2 => ?_) (fun c2 => ?_)⟩
        · have c3 : (0 : Int) < ((bs.map V.str).length : Nat) := of_decide_eq_true c2
          refine ⟨.ref b, rfl, .ref st, rfl, .ref b, rfl, b, _, rfl, .inl (SqL.of eb1), st, L, _, rfl, d1.good, c3, by rw [lbm]; exact Int.lt_of_le_of_lt (by omega : (bs.length : Int) ≤ 40) (by decide), fun v H2 d2 v0 v1 => ?_⟩
          rw [lbm] at v1
          obtain ⟨x, hx, ex⟩ := pick_at (f := V.str) (ks := bs) v0 v1
          refine ⟨b, _, v, .str x, rfl, rfl, SqL.of (d2.at_ nb eb1), ex, (by show 2 ≤ sizeLine; decide), fun p np => ?_⟩
          exact q _ (.var x) _ ((d1.trans d2).add np) (.tup upd_same (.cons (.str _) (.cons (.str _) .nil))) (hb x hx)
        · exact ⟨rfl, rfl⟩
      · exact iteF ⟨rfl, rfl⟩
    · obtain ⟨rfl, rfl⟩ := hm
      refine ⟨.int pick, rfl, pick, 7, rfl, rfl, _, rfl, ite2 (fun c => ?_) (fun c => ?_)⟩
      · refine ⟨.ref st, rfl, st, L, rfl, d1.good, fun x H2 d2 hx => ⟨(by show 2 ≤ sizeLine; decide), fun p np => ?_⟩⟩
        exact q _ (.var x) _ ((d1.trans d2).add np) (.tup upd_same (.cons (.str _) (.cons (.str _) .nil))) hx
      · refine ⟨(by show 1 ≤ sizeLine; decide), fun p np => ?_⟩
        have d2 := d1.add (o := .tup [.str "any"]) np
        have ep : (upd H' p (.tup [.str "any"])) p = some (.tup [.str "any"]) := upd_same
        refine ⟨.ref st, rfl, st, L, rfl, d2.good, fun k H3 d3 hk => ⟨(by show 2 ≤ sizeLine; decide), fun p2 np2 => ?_⟩⟩
        have npst : p ≠ st := fun z => d1.good.not_none (by rw [← z]; exact np)
        have ep3 := d3.at_ npst ep
        have d4 := (d2.trans d3).add (o := .tup [.str "value", kV k]) np2
        have ep4 : (upd H3 p2 (.tup [.str "value", kV k])) p = some (.tup [.str "any"]) := by
          rw [upd_ne (ne_of_none ep3 np2)]
          exact ep3
        have ep5 : (upd H3 p2 (.tup [.str "value", kV k])) p2 = some (.tup [.str "value", kV k]) := upd_same
        refine ⟨(by show 2 ≤ sizeLine; decide), fun l nl => ?_⟩
        have d5 := d4.add (o := .lst [.ref p, .ref p2]) nl
        have tkl : ∀ {a : Addr} {o : HO}, (upd H3 p2 (.tup [.str "value", kV k])) a = some o → (upd (upd H3 p2 (.tup [.str "value", kV k])) l (.lst [.ref p, .ref p2])) a = some o := fun h => by
          rw [upd_ne (ne_of_none h nl)]
          exact h
        refine ⟨.int pick, rfl, pick, 9, rfl, rfl, .inr ⟨_, rfl, ?_⟩⟩
        cases decide (pick < 9) with
        | true =>
          refine ⟨l, _, 1, .ref p2, rfl, rfl, SqL.of upd_same, rfl, ?_⟩
          refine q _ (.val k) _ d5 ?_ hk
          have : tD (.val k) = .tuple [.str "value", keyD k] := by cases k <;> rfl
          rw [this]
          exact .tup (tkl ep5) (.cons (.str _) (.cons (keyD_tp k) .nil))
        | false =>
          refine ⟨l, _, 0, .ref p, rfl, rfl, SqL.of upd_same, rfl, ?_⟩
          exact q _ .any _ d5 (.tup (tkl ep4) (.cons (.str _) .nil)) trivial
end
end KC

namespace KC
open PySem PySem.Spec PyProof.Rows L2 KA
def settled (t : T) (bs : List Str) : T := match t with
  | .any => .val (.inl 1)
  | .var x => if x ∈ bs then .var x else .val (.inl 1)
  | .val k => .val k
theorem inV_str (x : Str) : ∀ bs : List Str, inV (.str x) (bs.map V.str) = decide (x ∈ bs)
  | [] => rfl
  | b :: bs => by
    have ih := inV_str x bs
    unfold inV at ih ⊢
    rw [List.map_cons, List.any_cons, ih, Bool.eq_iff_iff, Bool.or_eq_true, decide_eq_true_iff, decide_eq_true_iff, List.mem_cons]
    constructor
    · rintro (h | h)
      · refine .inl ?_
        have h2 : (x == b) = true ∨ (b == x) = true := by
          first | exact .inl h | exact .inr h
        rcases h2 with h2 | h2
        · exact eq_of_beq h2
        · exact (eq_of_beq h2).symm
      · exact .inr h
    · rintro (rfl | h)
      · refine .inl ?_
        show (x == x) = true
        exact beq_self_eq_true x
      · exact .inr h
theorem flat_strs : ∀ bs : List Str, (bs.map V.str).all flatV = true
  | [] => rfl
  | b :: bs => by
    rw [List.map_cons, List.all_cons, flat_strs bs]
    rfl
section
variable {P : Program} {w : World} {K : PySem.W.Frag} {mg : Str → Option Value} {base : Heap}
abbrev sLs : Stmt := topS 25
theorem scLs : FnScope ["term", "bound"] ["term", "bound"] (defScope sLs) := ⟨rfl, rfl, rfl, by decide +kernel, rfl, by decide +kernel, by decide +kernel⟩
def spLs : Sp := fun vs H Q _ => ∃ (v : V) (b : Addr) (t : T) (bs : List Str), vs = [v, .ref b] ∧ Tp H v (tD t) ∧ H b = some (.lst (bs.map V.str)) ∧
  ∀ (v' : V) H', Same H H' → Tp H' v' (tD (settled t bs)) → Q v' H'
theorem ok_ls {f : Addr} {fd : FuncData} (F : Fun K "_law_settled" "_law_settled" sLs f fd) : FnOk P w K mg base CX0 1 f fd ["term", "bound"] spLs := by
  refine F.ok scLs (fun vs H Q E h => ?_) (fun cdv A outer s H vs Q E hr h => ?_)
  · obtain ⟨_, _, _, _, rfl, _⟩ := h
    rfl
  · obtain ⟨v, b, t, bs, rfl, tv, eb, q⟩ := h
    refine ⟨_, pss_cons (ps_if (PW.pt (pw_or (pt_cmpR op_eq (pe_ix ix_tup (pv 0) pe_int (fun _ _ => rfl)) pe_str (nomark _)) (pw_or1 (PW.pt (pw_and (pt_cmpR op_eq (pe_ix ix_tup (pv 0) pe_int (fun _ _ => rfl)) pe_str (nomark _)) (pw_and1 (pt_cmpR op_notIn_seq (pe_ix ix_tup (pv 0) pe_int (fun _ _ => rfl)) (pv 1) rfl)))))))
        (pss_one (ps_ret (pe_tup (pa_cons pe_str (pa_cons pe_int pa_nil))))) pss_nil)
      (pss_one (ps_ret (pv 0))), ?_⟩
    have st : ∀ {x y : Str}, x ≠ y → V.str x ≠ V.str y := fun n z => n (by injection z)
    obtain ⟨p, r, rfl, ep, e0, e1, e2⟩ := pairs_get tv
    have one : ∀ (p2 : Addr), H p2 = none → settled t bs = .val (.inl 1) → Q (.ref p2) (upd H p2 (.tup [.str "value", .int 1])) := fun p2 n2 es => by
      refine q _ _ (same_new n2) ?_
      rw [es]
      exact .tup upd_same (.cons (.str _) (.cons (.int _) .nil))
    cases t with
    | any =>
      refine ⟨.ref p, rfl, p, r, 0, _, rfl, rfl, SqT.of ep, e0, rfl, _, rfl, ?_⟩
      rw [show tName .any = ("any" : Str) from rfl, decide_eq_true rfl]
      refine iteT (iteT ⟨(by show 2 ≤ sizeLine; decide), fun p2 n2 => one p2 n2 rfl⟩)
    | val k =>
      refine ⟨.ref p, rfl, p, r, 0, _, rfl, rfl, SqT.of ep, e0, rfl, _, rfl, ?_⟩
      rw [show tName (.val k) = ("value" : Str) from rfl, decide_eq_false (st (show ("value" : Str) ≠ "any" by decide +kernel))]
      refine iteF ⟨.ref p, rfl, p, r, 0, _, rfl, rfl, SqT.of ep, e0, rfl, _, rfl, ?_⟩
      rw [show tName (.val k) = ("value" : Str) from rfl, decide_eq_false (st (show ("value" : Str) ≠ "variable" by decide +kernel))]
      exact iteF (iteF ⟨.ref p, rfl, q _ _ (Same.refl _) tv⟩)
    | var x =>
      refine ⟨.ref p, rfl, p, r, 0, _, rfl, rfl, SqT.of ep, e0, rfl, _, rfl, ?_⟩
      rw [show tName (.var x) = ("variable" : Str) from rfl, decide_eq_false (st (show ("variable" : Str) ≠ "any" by decide +kernel))]
      refine iteF ⟨.ref p, rfl, p, r, 0, _, rfl, rfl, SqT.of ep, e0, rfl, _, rfl, ?_⟩
      rw [show tName (.var x) = ("variable" : Str) from rfl, decide_eq_true rfl]
      refine iteT ⟨.ref p, rfl, p, r, 1, _, rfl, rfl, SqT.of ep, e1 x rfl, .ref b, rfl, b, _, rfl, .inl (SqL.of eb), rfl, flat_strs bs, _, rfl, ?_⟩
      rw [inV_str]
      by_cases c : x ∈ bs
      · rw [decide_eq_true c]
        refine iteF ⟨.ref p, rfl, q _ _ (Same.refl _) ?_⟩
        show Tp H _ (tD (if x ∈ bs then .var x else .val (.inl 1)))
        rw [if_pos c]
        exact tv
      · rw [decide_eq_false c]
        refine iteT ⟨(by show 2 ≤ sizeLine; decide), fun p2 n2 => one p2 n2 ?_⟩
        show (if x ∈ bs then T.var x else .val (.inl 1)) = _
        rw [if_neg c]
end
end KC

namespace KC
open PySem PySem.Spec PyProof.Rows L2 KA
def rInt1 : List V → Hp → VK → Prop := fun xs H Q => (∃ i, xs = [.int i] ∧ Q (.int i) H) ∨ ∃ k : Bool, xs = [.bl k] ∧ Q (.int (if k then 1 else 0)) H
theorem call_intB {X : Cx} : CallR X (.type "int") rInt1 := call_int1
/-- a comprehension of values that read as data known ahead, that lays new things at most -/
theorem lc_tps {J : It} {n : Nat} {G : Hp → Prop} {Y : Nat → Hp → V → Hp → Prop} (w : Walk J n G Y) {g : TG} {tt : TT} {te : TE} {vs : List Nat} {σ : L2.St} {H1 : Hp} {D : Addr} {Qd : Hp → Prop} (ds : List PyData) (hl : ds.length = n) (hn : n ≤ 1000) (nD : H1 D = none)
    (hG : ∀ H, Same H1 H → G H)
    (hs : ∀ i x H2 H3 (Q : V → Hp → Prop) (R : Hp → Prop), i < n → Same H1 H2 → Y i H2 x H3 → (∀ y H5 d, Same H2 H5 → ds[i]? = some d → Tp H5 y d → Q y H5) → g x (wipe σ vs) H3 fun σ2 H4 => wipe σ2 vs = wipe σ vs ∧ tt σ2 H4 fun b H5 => if b = true then te σ2 H5 Q else R H5)
    (hd : ∀ H acc, Same H1 H → H D = some (.lst acc) → Tps H acc ds → Qd H) :
    ∃ W : Nat → Nat → Hp → Prop, (∃ m, W 0 m (upd H1 D (.lst []))) ∧ ∀ i m H, W i m H →
      (J.stop i H ∧ Qd H) ∨ (J.go i H ∧ ∃ Nx : Hp → Prop, (∀ H', Nx H' → ∃ m', m' < m ∧ W (i + 1) m' H') ∧ ∀ x H', J.yld i H x H' → g x (wipe σ vs) H' fun σ2 H2 => wipe σ2 vs = wipe σ vs ∧ tt σ2 H2 fun b H3 =>
        if b = true then te σ2 H3 fun y H4 => ∃ acc, H4 D = some (.lst acc) ∧ acc.length < sizeLine ∧ Nx (upd H4 D (.lst (acc ++ [y]))) else Nx H3) := by
  refine lc_it w (fun i H => Same H1 H ∧ ∃ acc, H D = some (.lst acc) ∧ Tps H acc (ds.take i)) ⟨same_new nD, [], upd_same, .nil⟩ (fun i H _ hP => hG H hP.1) (fun i x H H' hi hP hY => ?_) (fun H hP => ?_)
  · obtain ⟨sm, acc, eD, ta⟩ := hP
    refine hs i x H H' _ _ hi sm hY fun y H5 d s5 ed ty => ?_
    have la := ta.length
    rw [List.length_take] at la
    have eD5 := s5 _ _ eD
    refine ⟨acc, eD5, small1000 (by omega), same_put (sm.trans s5) nD, _, upd_same, ?_⟩
    rw [take_next ed]
    exact ((ta.mono (Tk.of s5)).mono (Tk.lst eD5)).append (.cons (ty.mono (Tk.lst eD5)) .nil)
  · obtain ⟨sm, acc, eD, ta⟩ := hP
    rw [← hl, List.take_length] at ta
    exact hd H acc sm eD ta
def wK : List (Key × V) := [(.inr "p", .int 2), (.inr "q", .int 1), (.inr "r", .int 3)]
def RelB (r : Str) (n : Nat) : Prop := (r = "p" ∧ n = 2) ∨ (r = "q" ∧ n = 1) ∨ (r = "r" ∧ n = 3)
theorem wK_rel {r : Str} (h : r ∈ (["p", "q", "r"] : List Str)) : ∃ n : Nat, RelB r n ∧ n ≤ 3 ∧ valV wK (.inr r) = some (.int (n : Nat)) := by
  rcases List.mem_cons.mp h with rfl | h
  · exact ⟨2, .inl ⟨rfl, rfl⟩, by decide, by rfl⟩
  rcases List.mem_cons.mp h with rfl | h
  · exact ⟨1, .inr (.inl ⟨rfl, rfl⟩), by decide, by rfl⟩
  rcases List.mem_cons.mp h with rfl | h
  · exact ⟨3, .inr (.inr ⟨rfl, rfl⟩), by decide, by rfl⟩
  · cases h
def InB (bs : List Str) (t : T) : Prop := t ≠ .any ∧ ∀ x, t = .var x → x ∈ bs
def ops6 : List Str := ["=", "<>", "<", "<=", ">", ">="]
def ops3 : List Str := ["+", "-", "*"]
def forms : List Str := ["fact", "fact", "fact", "not", "compare", "is", "count"]
def LitB (bs : List Str) : L → Prop
  | .fact r ts => RelB r ts.length ∧ ∀ t ∈ ts, TermB t
  | .notl r ts => RelB r ts.length ∧ ∀ t ∈ ts, TermB t ∧ ∀ x, t = .var x → x ∈ bs
  | .cmp op a b => op ∈ ops6 ∧ TermB a ∧ TermB b ∧ InB bs a ∧ InB bs b
  | .isl x op a b => x ∈ vars4 ∧ op ∈ ops3 ∧ TermB a ∧ TermB b ∧ InB bs a ∧ InB bs b
  | .cnt x r ts => x ∈ vars4 ∧ RelB r ts.length ∧ ∀ t ∈ ts, TermB t
theorem settled_b {t : T} {bs : List Str} (h : TermB t) : TermB (settled t bs) ∧ InB bs (settled t bs) := by
  have one : TermB (.val (.inl 1)) ∧ InB bs (.val (.inl 1)) := ⟨⟨fun i e => by cases e; decide, fun z e => by cases e⟩, (fun z => by cases z), fun x z => by cases z⟩
  cases t with
  | any => exact one
  | val k => exact ⟨h, (fun z => by cases z), fun x z => by cases z⟩
  | var x =>
    show TermB (if x ∈ bs then .var x else .val (.inl 1)) ∧ InB bs (if x ∈ bs then .var x else .val (.inl 1))
    by_cases c : x ∈ bs
    · rw [if_pos c]
      exact ⟨h, (fun z => by cases z), fun y z => by cases z; exact c⟩
    · rw [if_neg c]
      exact one
def keepN (bs : List Str) (t : T) : T := match t with
  | .var x => if x ∈ bs then .var x else .any
  | t => t
theorem keepN_b {bs : List Str} {t : T} (h : TermB t) : TermB (keepN bs t) ∧ ∀ x, keepN bs t = .var x → x ∈ bs := by
  cases t with
  | any => exact ⟨trivial, fun x z => by cases z⟩
  | val k => exact ⟨h, fun x z => by cases z⟩
  | var y =>
    show TermB (if y ∈ bs then .var y else .any) ∧ ∀ x, (if y ∈ bs then T.var y else .any) = .var x → x ∈ bs
    by_cases c : y ∈ bs
    · rw [if_pos c]
      exact ⟨h, fun x z => by cases z; exact c⟩
    · rw [if_neg c]
      exact ⟨trivial, fun x z => by cases z⟩
def keepO (x : Str) (t : T) : T := if t = .var x then .any else t
theorem keepO_b {x : Str} {t : T} (h : TermB t) : TermB (keepO x t) := by
  unfold keepO
  by_cases c : t = .var x
  · rw [if_pos c]
    trivial
  · rw [if_neg c]
    exact h
theorem eqv_var (t : T) (x : Str) : PyData.eqv (tD t) (.tuple [.str "variable", .str x]) = decide (t = .var x) := by
  have e2 : ∀ (a b c d : PyData), PyData.eqv (.tuple [a, b]) (.tuple [c, d]) = (PyData.eqv a c && (PyData.eqv b d && true)) := fun a b c d => rfl
  cases t with
  | any =>
    rw [decide_eq_false (fun z => by cases z)]
    show (PyData.eqv (.str "any") (.str "variable") && false) = false
    exact Bool.and_false _
  | val k =>
    rw [decide_eq_false (fun z => by cases z)]
    have : tD (.val k) = .tuple [.str "value", keyD k] := by cases k <;> rfl
    rw [this, e2, eqv_str, decide_eq_false (show ¬ ("value" : Str) = "variable" by decide +kernel), Bool.false_and]
  | var y =>
    show PyData.eqv (.tuple [.str "variable", .str y]) _ = _
    rw [e2, eqv_str, eqv_str, decide_eq_true rfl, Bool.true_and, Bool.and_true, Bool.eq_iff_iff, decide_eq_true_iff, decide_eq_true_iff]
    exact ⟨fun z => by rw [z], fun z => by injection z⟩
theorem tD_small (t : T) : small (tD t) := by
  cases t with
  | any => show 1 ≤ 64; decide
  | val k => cases k <;> (show 1 ≤ 64; decide)
  | var y => show 1 ≤ 64; decide
theorem two_of {H : Hp} {acc : List V} {d e : PyData} (t : Tps H acc [d, e]) : ∃ a b, acc = [a, b] ∧ Tp H a d ∧ Tp H b e := by
  cases t with
  | cons h1 r => cases r with
    | cons h2 r =>
      cases r
      exact ⟨_, _, rfl, h1, h2⟩
section
variable {P : Program} {w : World} {K : PySem.W.Frag} {mg : Str → Option Value} {base : Heap}
abbrev dLt (P : Program) (w : World) (K : PySem.W.Frag) (mg : Str → Option Value) (base : Heap) : Prop := Def P w K mg base "_law_term" 3 ["state", "bound"] spLt
abbrev dLs (P : Program) (w : World) (K : PySem.W.Frag) (mg : Str → Option Value) (base : Heap) : Prop := Def P w K mg base "_law_settled" 1 ["term", "bound"] spLs
abbrev sLl : Stmt := topS 26
abbrev nLl : List Str := ["state", "widths", "bound", "careful", "names", "relation", "width", "terms", "form", "pair", "variable", "k", "term"]
theorem scLl : FnScope nLl ["state", "widths", "bound", "careful"] (defScope sLl) := ⟨rfl, rfl, rfl, by decide +kernel, rfl, by decide +kernel, by decide +kernel⟩
def spLl : Sp := fun vs H Q _ => ∃ (st L wd b : Addr) (bs : List Str), vs = [.ref st, .ref wd, .ref b, .bl true] ∧ Good st L H ∧ H wd = some (.dK wK) ∧ H b = some (.lst (bs.map V.str)) ∧ b ≠ st ∧ bs.length ≤ 40 ∧ (∀ x ∈ bs, x ∈ vars4) ∧
  ∀ (v : V) (l : KC.L) H', Dr st L H H' → Tp H' v (litD l) → LitB bs l → Q v H'
theorem ok_ll {f : Addr} {fd : FuncData} (F : Fun K "_law_literal" "_law_literal" sLl f fd) (B : Bt mg) (hso : mg "sorted" = none) (DN : dNext P w K mg base) (DV : dLv P w K mg base) (DT : dLt P w K mg base) (DS : dLs P w K mg base) : FnOk P w K mg base CX0 4 f fd ["state", "widths", "bound", "careful"] spLl := by
  refine F.ok scLl (fun vs H Q E h => ?_) (fun cdv A outer s H vs Q E hr h => ?_)
  · obtain ⟨_, _, _, _, _, rfl, _⟩ := h
    rfl
  · obtain ⟨st, L, wd, b, bs, rfl, g, ew, eb, nb, lb, hb, q⟩ := h
    have hu := hu_of hr
    have r1 : Room 1 _ := hr.mono (by decide)
    have r2 : Room 2 _ := hr.mono (by decide)
    refine ⟨_, pss_cons (ps_set (i := 4) scLl.nd rfl (.inl rfl) (pe_callB cr_sortedS (by rfl) hso boot_sorted (pa_cons (pe_callTy (call_listD rfl) (by rfl) B.lst (by decide +kernel) (pa_cons (pv 1) pa_nil)) pa_nil)))
      (pss_cons (ps_set (i := 5) scLl.nd rfl (.inl rfl) (pe_ix ix_list (pv 4) (pe_def DN r1 (by rfl) (pa_cons (pv 0) (pa_cons (pe_callB call_len_seq (by rfl) B.len PySem.boot_len (pa_cons (pv 4) pa_nil)) pa_nil))) (fun _ _ => rfl)))
      (pss_cons (ps_set (i := 6) scLl.nd rfl (.inl rfl) (pe_dget hu (pv 1) (pv 5) (fun _ _ => rfl)))
      (pss_cons (ps_if (PW.pt (pw_and (pt_not (pt_val (pv 3))) (pw_and1 (pt_cmpR op_eq (pe_def DN r1 (by rfl) (pa_cons (pv 0) (pa_cons pe_int pa_nil))) pe_int (nomark _))))) pss_never pss_nil)
      (pss_cons (ps_if (PW.pt (pw_and (pt_not (pt_val (pv 3))) (pw_and1 (pt_cmpR op_eq (pe_def DN r1 (by rfl) (pa_cons (pv 0) (pa_cons pe_int pa_nil))) pe_int (nomark _))))) pss_never pss_nil)
      (pss_cons (ps_setLc (i := 7) (own := [("k", 11)]) (g := gName 11) (tt := tYes) (te := tCall spLt [] E0 (tCons (tVar 0) (tCons (tVar 2) tNil))) (by rfl) scLl.nd rfl rfl (sw_true rfl rfl rfl (by decide +kernel)) (pi_range1 (by rfl) B.rng (pa_cons (pv 6) pa_nil)) (blkOk_by (own := [("k", 11)]) (N := nLl) (sc := defScope sLl) (by decide +kernel))
        (fun _ _ _ _ _ => pg_name (i := 11) scLl.nd rfl (Or.inl rfl)) (fun _ _ _ _ _ => pts_nil) (fun _ _ _ _ _ => pe_def DT hr (by rfl) (pa_cons (pv 0) (pa_cons (pv 2) pa_nil))))
      (pss_cons (ps_set (i := 8) scLl.nd rfl (.inl rfl) (pe_ix ix_list (pe_lst (pa_cons pe_str (pa_cons pe_str (pa_cons pe_str (pa_cons pe_str (pa_cons pe_str (pa_cons pe_str (pa_cons pe_str pa_nil)))))))) (pe_def DN r1 (by rfl) (pa_cons (pv 0) (pa_cons pe_int pa_nil))) (fun _ _ => rfl)))
      (C8.pss_cut (ps_if (PW.pt (pw_and (pt_cmpR op_eq (pv 8) pe_str (nomark _)) (pw_and1 (PW.pt (pw_or (pt_val (pv 3)) (pw_or1 (pt_cmpR op_gt (pe_def DN r1 (by rfl) (pa_cons (pv 0) (pa_cons pe_int pa_nil))) pe_int (nomark _))))))))
        (pss_one (ps_setLc (i := 7) (own := [("term", 12)]) (g := gName 12) (tt := tYes) (te := tOp (rIxL K) (tLst (tCons (tVar 12) (tCons (tTup (tCons (tC (.str "any")) tNil)) tNil))) (tCB rInt1 (tCons (tAndV (tOp rEq (tOp (rIxT K) (tVar 12) (tC (.int 0))) (tC (.str "variable"))) (tOp (rIn K true) (tOp (rIxT K) (tVar 12) (tC (.int 1))) (tVar 2))) tNil))) (by rfl) scLl.nd rfl rfl (sw_true rfl rfl rfl (by decide +kernel)) (pi_list (pv 7)) (blkOk_by (own := [("term", 12)]) (N := nLl) (sc := defScope sLl) (by decide +kernel))
          (fun _ _ _ _ _ => pg_name (i := 12) scLl.nd rfl (Or.inl rfl)) (fun _ _ _ _ _ => pts_nil) (fun _ _ _ _ _ => pe_ix ix_list (pe_lst (pa_cons (pv 12) (pa_cons (pe_tup (pa_cons pe_str pa_nil)) pa_nil))) (pe_callTy (r := rInt1) call_intB (by rfl) B.int (by decide +kernel) (pa_cons (pe_and (pe_cmpR op_eq (pe_ix ix_tup (pv 12) pe_int (fun _ _ => rfl)) pe_str (nomark _)) (pe_one (pe_cmpR op_notIn_seq (pe_ix ix_tup (pv 12) pe_int (fun _ _ => rfl)) (pv 2) rfl))) pa_nil)) (fun _ _ => rfl)))) pss_nil)
      (pss_cons (ps_if (pt_cmpR op_in_seq (pv 8) (pe_lst (pa_cons pe_str (pa_cons pe_str pa_nil))) rfl) (pss_one (ps_ret (pe_tup (pa_cons (pv 8) (pa_cons (pv 5) (pa_cons (pe_callTy call_tuple_of (by rfl) B.tup (by decide +kernel) (pa_cons (pv 7) pa_nil)) pa_nil)))))) pss_nil)
      (pss_cons (ps_set (i := 9) scLl.nd rfl (.inl rfl) (pe_lst (pa_cons (pe_def DT hr (by rfl) (pa_cons (pv 0) (pa_cons (pv 2) pa_nil))) (pa_cons (pe_def DT hr (by rfl) (pa_cons (pv 0) (pa_cons (pv 2) pa_nil))) pa_nil))))
      (pss_cons (ps_if (PW.pt (pw_or (pt_val (pv 3)) (pw_or1 (pt_cmpR op_gt (pe_def DN r1 (by rfl) (pa_cons (pv 0) (pa_cons pe_int pa_nil))) pe_int (nomark _)))))
        (pss_one (ps_setLc (i := 9) (own := [("term", 12)]) (g := gName 12) (tt := tYes) (te := tCall spLs [] E0 (tCons (tVar 12) (tCons (tVar 2) tNil))) (by rfl) scLl.nd rfl rfl (sw_true rfl rfl rfl (by decide +kernel)) (pi_list (pv 9)) (blkOk_by (own := [("term", 12)]) (N := nLl) (sc := defScope sLl) (by decide +kernel))
          (fun _ _ _ _ _ => pg_name (i := 12) scLl.nd rfl (Or.inl rfl)) (fun _ _ _ _ _ => pts_nil) (fun _ _ _ _ _ => pe_def DS r1 (by rfl) (pa_cons (pv 12) (pa_cons (pv 2) pa_nil))))) pss_nil)
      (pss_cons (ps_set (i := 10) scLl.nd rfl (.inr rfl) (pe_def DV r2 (by rfl) (pa_cons (pv 0) pa_nil)))
      (pss_cons (ps_if (pt_cmpR op_eq (pv 8) pe_str (nomark _)) (pss_one (ps_ret (pe_tup (pa_cons (pv 8) (pa_cons (pe_ix ix_list (pe_lst (pa_cons pe_str (pa_cons pe_str (pa_cons pe_str (pa_cons pe_str (pa_cons pe_str (pa_cons pe_str pa_nil))))))) (pe_def DN r1 (by rfl) (pa_cons (pv 0) (pa_cons pe_int pa_nil))) (fun _ _ => rfl)) (pa_cons (pe_ix ix_list (pv 9) pe_int (fun _ _ => rfl)) (pa_cons (pe_ix ix_list (pv 9) pe_int (fun _ _ => rfl)) pa_nil))))))) pss_nil)
      (pss_cons (ps_if (pt_cmpR op_eq (pv 8) pe_str (nomark _)) (pss_one (ps_ret (pe_tup (pa_cons (pv 8) (pa_cons (pv 10) (pa_cons (pe_ix ix_list (pe_lst (pa_cons pe_str (pa_cons pe_str (pa_cons pe_str pa_nil)))) (pe_def DN r1 (by rfl) (pa_cons (pv 0) (pa_cons pe_int pa_nil))) (fun _ _ => rfl)) (pa_cons (pe_ix ix_list (pv 9) pe_int (fun _ _ => rfl)) (pa_cons (pe_ix ix_list (pv 9) pe_int (fun _ _ => rfl)) pa_nil)))))))) pss_nil)
      (pss_cons (ps_if (pt_val (pv 3)) (pss_one (ps_setLc (i := 7) (own := [("term", 12)]) (g := gName 12) (tt := tYes) (te := tOp (rIxL K) (tLst (tCons (tVar 12) (tCons (tTup (tCons (tC (.str "any")) tNil)) tNil))) (tCB rInt1 (tCons (tOp rEqP (tVar 12) (tTup (tCons (tC (.str "variable")) (tCons (tVar 10) tNil)))) tNil))) (by rfl) scLl.nd rfl rfl (sw_true rfl rfl rfl (by decide +kernel)) (pi_list (pv 7)) (blkOk_by (own := [("term", 12)]) (N := nLl) (sc := defScope sLl) (by decide +kernel))
          (fun _ _ _ _ _ => pg_name (i := 12) scLl.nd rfl (Or.inl rfl)) (fun _ _ _ _ _ => pts_nil) (fun _ _ _ _ _ => pe_ix ix_list (pe_lst (pa_cons (pv 12) (pa_cons (pe_tup (pa_cons pe_str pa_nil)) pa_nil))) (pe_callTy (r := rInt1) call_intB (by rfl) B.int (by decide +kernel) (pa_cons (pe_cmpR (op_eqP hr.units) (pv 12) (pe_tup (pa_cons pe_str (pa_cons (pv 10) pa_nil))) (nomark _)) pa_nil)) (fun _ _ => rfl)))) pss_nil)
      (pss_one (ps_ret (pe_tup (pa_cons (pv 8) (pa_cons (pv 10) (pa_cons (pv 5) (pa_cons (pe_callTy call_tuple_of (by rfl) B.tup (by decide +kernel) (pa_cons (pv 7) pa_nil)) pa_nil))))))))))))))))))))), ?_⟩
    have nwst : wd ≠ st := fun z => by
      obtain ⟨_, _, _, _, e, _⟩ := g
      rw [z, e] at ew
      cases ew
    -- names
    refine ⟨.ref wd, rfl, wd, wK, rfl, .inl ew, fun n0 nn0 => ?_⟩
    have dA := Dr.new (o := .lst (wK.map fun kv => kV kv.1)) g nn0
    refine ⟨n0, ["p", "q", "r"], rfl, SqL.of upd_same, by decide, fun ys pn per srt npn => ?_⟩
    have dB := dA.add (o := .lst (ys.map V.str)) npn
    have epn : (upd (upd H n0 (.lst (wK.map fun kv => kV kv.1))) pn (.lst (ys.map V.str))) pn = some (.lst (ys.map V.str)) := upd_same
    have npst : pn ≠ st := fun z => dA.good.not_none (by rw [← z]; exact npn)
    revert dB epn
    clear dA npn nn0
    generalize (upd (upd H n0 (.lst (wK.map fun kv => kV kv.1))) pn (.lst (ys.map V.str))) = H1
    intro d1 epn
    have ly : ys.length = 3 := per.length_eq
    -- relation
    refine ⟨.ref pn, rfl, .ref st, rfl, .ref pn, rfl, pn, _, rfl, .inl (SqL.of epn), st, L, _, rfl, d1.good, by rw [List.length_map, ly]; decide, by rw [List.length_map, ly]; decide, fun v2 H2 d2 v0 v1 => ?_⟩
    rw [List.length_map] at v1
    obtain ⟨r, hr0, er⟩ := pick_at (f := V.str) (ks := ys) v0 v1
    refine ⟨pn, _, v2, .str r, rfl, rfl, SqL.of (d2.at_ npst epn), er, ?_⟩
    have dr := d1.trans d2
    obtain ⟨n, hrel, hn3, hval⟩ := wK_rel (per.mem_iff.mp hr0)
    refine ⟨.ref wd, rfl, .str r, rfl, wd, .int (n : Nat), rfl, .inl ⟨wK, .inr r, .inl (dr.at_ nwst ew), rfl, hval.symm⟩, ?_⟩
    refine ⟨.bl true, rfl, true, rfl, iteF (iteF ?_)⟩
    refine ⟨.bl true, rfl, true, rfl, iteF (iteF ?_)⟩
    -- terms
    refine ⟨.int (n : Nat), rfl, (n : Nat), rfl, by omega, by omega, fun D nD => ?_⟩
    have nDst : D ≠ st := fun z => dr.good.not_none (by rw [← z]; exact nD)
    refine lc_range (lo := 0) (n := ((n : Nat) : Int).toNat) (fun i H' => Dr st L H2 H' ∧ ∃ us ts, H' D = some (.lst us) ∧ Tps H' us (ts.map tD) ∧ ts.length = i ∧ ∀ t ∈ ts, TermB t) ⟨Dr.new dr.good nD, [], [], upd_same, .nil, rfl, fun t h => by cases h⟩ (fun i H' hi hP => ?_) (fun H' hP => ?_)
    · obtain ⟨dd, us, ts, eD, tu, lt, ht⟩ := hP
      refine ⟨rfl, iteT (B := True) ?_⟩
      refine ⟨.ref st, rfl, .ref b, rfl, st, L, b, bs, rfl, dd.good, (dr.trans dd).at_ nb eb, nb, lb, hb, fun v t H5 d5 tv tb => ?_⟩
      have lu := tu.length
      rw [List.length_map] at lu
      have eD5 := d5.at_ nDst eD
      refine ⟨us, eD5, small1000 (by omega), (dd.trans d5).put dr.good nD, us ++ [v], ts ++ [t], upd_same, ?_, by rw [List.length_append, lt]; rfl, fun t2 h2 => ?_⟩
      · rw [List.map_append]
        exact ((tu.mono (d5.tk dd.good)).mono (Tk.lst eD5)).append (.cons (tv.mono (Tk.lst eD5)) .nil)
      · rcases List.mem_append.mp h2 with h2 | h2
        · exact ht t2 h2
        · rw [List.mem_singleton.mp h2]
          exact tb
    obtain ⟨dd, us, ts, eD, tu, lt, ht⟩ := hP
    have lt : ts.length = n := by rw [lt, Int.toNat_natCast]
    have d3 := dr.trans dd
    -- form
    refine ⟨(by show 7 ≤ sizeLine; decide), fun pf npf => ?_⟩
    have d4 := Dr.new (o := .lst (forms.map V.str)) d3.good npf
    refine ⟨.ref st, rfl, st, L, 7, rfl, d4.good, by decide, by decide, fun v5 H5 d5 w0 w1 => ?_⟩
    obtain ⟨fm, hfm, efm⟩ := pick_at (f := V.str) (ks := forms) w0 w1
    refine ⟨pf, _, v5, .str fm, rfl, rfl, SqL.of (Dr.keep d3.good npf d5), efm, ?_⟩
    have d6 := d3.trans (d4.trans d5)
    have eD6 := (d4.trans d5).at_ nDst eD
    have tu6 := tu.mono ((d4.trans d5).tk d3.good)
    clear d4 d5 npf w0 w1 efm
    have hrel : RelB r ts.length := by rw [lt]; exact hrel
    have lt3 : ts.length ≤ 3 := by omega
    refine ⟨fun σ' H' => (∃ (tl : Addr) (us : List V) (ts : List T) (x9 x10 x11 x12 : Option V), σ' = [some (.ref st), some (.ref wd), some (.ref b), some (.bl true), some (.ref pn), some (.str r), some (.int (n : Nat)), some (.ref tl), some (.str fm), x9, x10, x11, x12] ∧ H' tl = some (.lst us) ∧ Tps H' us (ts.map tD) ∧ tl ≠ st ∧ RelB r ts.length ∧ ts.length ≤ 3 ∧ (∀ t ∈ ts, TermB t) ∧ (fm = "not" → ∀ t ∈ ts, ∀ x, t = .var x → x ∈ bs)) ∧ Dr st L H H', ?_, fun σ' H' hm => ?_⟩
    · refine ⟨.str fm, rfl, rfl, _, rfl, ?_⟩
      by_cases c : fm = "not"
      · rw [c, decide_eq_true rfl]
        refine iteT ⟨.bl true, rfl, true, rfl, iteT (iteT ?_)⟩
        refine ⟨.ref D, rfl, D, rfl, ⟨us, SqL.of eD6⟩, fun D2 nD2 => ?_⟩
        have lus : us.length = ts.length := by rw [tu6.length, List.length_map]
        have nD2st : D2 ≠ st := fun z => d6.good.not_none (by rw [← z]; exact nD2)
        have eb6 := d6.at_ nb eb
        refine lc_tps walk_list ((ts.map (keepN bs)).map tD) (by rw [List.length_map, List.length_map, lus]) (by omega) nD2 (fun H2 sm => SqL.of (sm _ _ eD6)) (fun i x H2 H3 Q2 R hi sm hY qq => ?_) (fun H2 acc sm eA tA => ?_)
        · obtain ⟨rfl, hx⟩ := hY
          obtain ⟨t, et, tt⟩ := term_get tu6 hx
          have tt := tt.mono (Tk.of sm)
          have ed : ((ts.map (keepN bs)).map tD)[i]? = some (tD (keepN bs t)) := by
            rw [List.getElem?_map, List.getElem?_map, et]
            rfl
          obtain ⟨pt, r0, rfl, ept, e0, e1, e2⟩ := pairs_get tt
          refine ⟨rfl, iteT (B := True) ?_⟩
          refine ⟨.ref pt, rfl, (by show 1 ≤ sizeLine; decide), fun pa npa => ⟨(by show 2 ≤ sizeLine; decide), fun pl npl => ?_⟩⟩
          have s8 : Same H3 (upd (upd H3 pa (.tup [.str "any"])) pl (.lst [.ref pt, .ref pa])) := (same_new npa).trans (same_new npl)
          have epa : (upd (upd H3 pa (.tup [.str "any"])) pl (.lst [.ref pt, .ref pa])) pa = some (.tup [.str "any"]) := same_new npl _ _ upd_same
          have epl : (upd (upd H3 pa (.tup [.str "any"])) pl (.lst [.ref pt, .ref pa])) pl = some (.lst [.ref pt, .ref pa]) := upd_same
          revert s8 epa epl
          generalize (upd (upd H3 pa (.tup [.str "any"])) pl (.lst [.ref pt, .ref pa])) = H8
          intro s8 epa epl
          have st : ∀ {x y : Str}, x ≠ y → V.str x ≠ V.str y := fun n z => n (by injection z)
          refine ⟨.ref pt, rfl, pt, r0, 0, _, rfl, rfl, SqT.of (s8 _ _ ept), e0, rfl, _, rfl, ?_⟩
          cases t with
          | any =>
            rw [show tName .any = ("any" : Str) from rfl, decide_eq_false (st (show ("any" : Str) ≠ "variable" by decide +kernel))]
            exact iteF (.inr ⟨_, rfl, pl, _, 0, .ref pt, rfl, rfl, SqL.of epl, rfl, qq _ _ _ s8 ed (tt.mono (Tk.of s8))⟩)
          | val k =>
            rw [show tName (.val k) = ("value" : Str) from rfl, decide_eq_false (st (show ("value" : Str) ≠ "variable" by decide +kernel))]
            exact iteF (.inr ⟨_, rfl, pl, _, 0, .ref pt, rfl, rfl, SqL.of epl, rfl, qq _ _ _ s8 ed (tt.mono (Tk.of s8))⟩)
          | var y =>
            rw [show tName (.var y) = ("variable" : Str) from rfl, decide_eq_true rfl]
            refine iteT ⟨.ref pt, rfl, pt, r0, 1, _, rfl, rfl, SqT.of (s8 _ _ ept), e1 y rfl, .ref b, rfl, b, _, rfl, .inl (SqL.of (s8 _ _ (sm _ _ eb6))), rfl, flat_strs bs, .inr ⟨_, rfl, ?_⟩⟩
            rw [inV_str]
            have ek : keepN bs (.var y) = if y ∈ bs then .var y else .any := rfl
            by_cases c2 : y ∈ bs
            · rw [decide_eq_true c2]
              rw [ek, if_pos c2] at ed
              exact ⟨pl, _, 0, .ref pt, rfl, rfl, SqL.of epl, rfl, qq _ _ _ s8 ed (tt.mono (Tk.of s8))⟩
            · rw [decide_eq_false c2]
              rw [ek, if_neg c2] at ed
              exact ⟨pl, _, 1, .ref pa, rfl, rfl, SqL.of epl, rfl, qq _ _ _ s8 ed (.tup epa (.cons (.str _) .nil))⟩
        · refine ⟨⟨D2, acc, ts.map (keepN bs), _, _, _, _, rfl, eA, tA, nD2st, by rw [List.length_map]; exact hrel, by rw [List.length_map]; exact lt3, fun t h => ?_, fun _ t h => ?_⟩, d6.trans (Dr.same d6.good sm)⟩
          · obtain ⟨t0, h0, rfl⟩ := List.mem_map.mp h
            exact (keepN_b (ht t0 h0)).1
          · obtain ⟨t0, h0, rfl⟩ := List.mem_map.mp h
            exact (keepN_b (ht t0 h0)).2
      · rw [decide_eq_false (fun z => c (by injection z))]
        refine iteF (iteF ⟨⟨D, us, ts, _, _, _, _, rfl, eD6, tu6, nDst, hrel, lt3, ht, fun z => absurd z c⟩, d6⟩)
    · obtain ⟨⟨tl, us, ts, x9, x10, x11, x12, rfl, etl, tus, ntl, hrel, lt3, ht, hn2⟩, dr⟩ := hm
      have sne : ∀ {x y : Str}, x ≠ y → V.str x ≠ V.str y := fun n z => n (by injection z)
      have eb' := dr.at_ nb eb
      refine ⟨.str fm, rfl, (by show 2 ≤ sizeLine; decide), fun pq npq => ?_⟩
      refine ⟨pq, _, rfl, .inl (SqL.of upd_same), rfl, by rfl, _, rfl, ?_⟩
      rw [show ([V.str "fact", V.str "not"] : List V) = (["fact", "not"] : List Str).map V.str from rfl]
      have d1 := dr.add (o := .lst ((["fact", "not"] : List Str).map V.str)) npq
      have etl1 : (upd H' pq (.lst ((["fact", "not"] : List Str).map V.str))) tl = some (.lst us) := by
        rw [upd_ne (ne_of_none etl npq)]
        exact etl
      have eb1 : (upd H' pq (.lst ((["fact", "not"] : List Str).map V.str))) b = some (.lst (bs.map V.str)) := by
        rw [upd_ne (ne_of_none eb' npq)]
        exact eb'
      have tus1 := tus.mono (Tk.new (o := .lst ((["fact", "not"] : List Str).map V.str)) npq)
      rw [if_neg Bool.false_ne_true, inV_str]
      revert d1 etl1 eb1 tus1
      generalize (upd H' pq (.lst ((["fact", "not"] : List Str).map V.str))) = H1
      intro d1 etl1 eb1 tus1
      have last : ∀ {a : Addr} {o : HO} {tp : Addr} {o2 : HO} {G : Hp}, G a = some o → G tp = none → (upd G tp o2) a = some o := fun {a o tp o2 G} h n => by
        rw [upd_ne (ne_of_none h n)]
        exact h
      by_cases c : fm ∈ (["fact", "not"] : List Str)
      · rw [decide_eq_true c]
        refine iteT ⟨.str fm, rfl, .str r, rfl, .ref tl, rfl, tl, us, rfl, .inl ⟨SqL.of etl1, fun tp ntp => ⟨(by show 3 ≤ sizeLine; decide), fun rp nrp => ?_⟩⟩⟩
        have d2 := (d1.add (o := .tup us) ntp).add (o := .tup [.str fm, .str r, .ref tp]) nrp
        have tt : Tp (upd (upd H1 tp (.tup us)) rp (.tup [.str fm, .str r, .ref tp])) (.ref rp) (.tuple [.str fm, .str r, .tuple (ts.map tD)]) :=
          .tup upd_same (.cons (.str _) (.cons (.str _) (.cons (.tup (last upd_same nrp) ((tus1.mono (Tk.new ntp)).mono (Tk.new nrp))) .nil)))
        rcases List.mem_cons.mp c with rfl | c
        · exact q _ (.fact r ts) _ d2 tt ⟨hrel, ht⟩
        · obtain rfl := List.mem_singleton.mp c
          exact q _ (.notl r ts) _ d2 tt ⟨hrel, fun t h => ⟨ht t h, hn2 rfl t h⟩⟩
      · rw [decide_eq_false c]
        refine iteF ?_
        -- the pair
        refine ⟨.ref st, rfl, .ref b, rfl, st, L, b, bs, rfl, d1.good, eb1, nb, lb, hb, fun va ta Ha da tva tba => ?_⟩
        have eba := da.at_ nb eb1
        refine ⟨.ref st, rfl, .ref b, rfl, st, L, b, bs, rfl, da.good, eba, nb, lb, hb, fun vb tb Hb db tvb tbb => ⟨(by show 2 ≤ sizeLine; decide), fun pp npp => ?_⟩⟩
        have dab := da.trans db
        have tva2 := tva.mono (db.tk da.good)
        have d2 := (d1.trans dab).add (o := .lst [va, vb]) npp
        have etl2 : (upd Hb pp (.lst [va, vb])) tl = some (.lst us) := last (dab.at_ ntl etl1) npp
        have eb2 : (upd Hb pp (.lst [va, vb])) b = some (.lst (bs.map V.str)) := last (dab.at_ nb eb1) npp
        have tus2 := (tus1.mono (dab.tk d1.good)).mono (Tk.new (o := .lst [va, vb]) npp)
        have tp2 : Tps (upd Hb pp (.lst [va, vb])) [va, vb] (([ta, tb] : List T).map tD) := .cons (tva2.mono (Tk.new npp)) (.cons (tvb.mono (Tk.new npp)) .nil)
        have epp : (upd Hb pp (.lst [va, vb])) pp = some (.lst [va, vb]) := upd_same
        revert d2 etl2 eb2 tus2 tp2 epp
        generalize (upd Hb pp (.lst [va, vb])) = H2
        intro d2 etl2 eb2 tus2 tp2 epp
        refine ⟨.bl true, rfl, true, rfl, iteT (iteT ?_)⟩
        refine ⟨.ref pp, rfl, pp, rfl, ⟨_, SqL.of epp⟩, fun D nD => ?_⟩
        refine lc_tps walk_list ((([ta, tb] : List T).map fun t => settled t bs).map tD) rfl (by show 2 ≤ 1000; decide) nD (fun H5 sm => SqL.of (sm _ _ epp)) (fun i x H5 H6 Q2 R hi sm hY qq => ?_) (fun H3 acc sm eA tA => ?_)
        · obtain ⟨rfl, hx⟩ := hY
          obtain ⟨t, et, tt⟩ := term_get tp2 hx
          refine ⟨rfl, iteT (B := True) ?_⟩
          refine ⟨x, rfl, .ref b, rfl, x, b, t, bs, rfl, tt.mono (Tk.of sm), sm _ _ eb2, fun v' H7 s7 tv' => qq v' H7 _ s7 ?_ tv'⟩
          rw [List.getElem?_map, List.getElem?_map, et]
          rfl
        · have tA : Tps H3 acc [tD (settled ta bs), tD (settled tb bs)] := tA
          obtain ⟨a1, a2, rfl, ta1, ta2⟩ := two_of tA
          have d3 := d2.trans (Dr.same d2.good sm)
          have etl3 := sm _ _ etl2
          have tus3 := tus2.mono (Tk.of sm)
          have nDst : D ≠ st := fun z => d2.good.not_none (by rw [← z]; exact nD)
          obtain ⟨sa1, sa2⟩ := settled_b (bs := bs) tba
          obtain ⟨sb1, sb2⟩ := settled_b (bs := bs) tbb
          refine ⟨.ref st, rfl, st, L, rfl, d3.good, fun x H4 d4 hx => ?_⟩
          have d5 := d3.trans d4
          have eA4 := d4.at_ nDst eA
          have ta14 := ta1.mono (d4.tk d3.good)
          have ta24 := ta2.mono (d4.tk d3.good)
          have etl4 := d4.at_ ntl etl3
          have tus4 := tus3.mono (d4.tk d3.good)
          refine ⟨.str fm, rfl, rfl, _, rfl, ?_⟩
          by_cases c1 : fm = "compare"
          · rw [c1, decide_eq_true rfl]
            refine iteT ⟨.str "compare", rfl, (by show 6 ≤ sizeLine; decide), fun po npo => ?_⟩
            have d6 := Dr.new (o := .lst (ops6.map V.str)) d5.good npo
            refine ⟨.ref st, rfl, st, L, 6, rfl, d6.good, by decide, by decide, fun v7 H7 d7 w0 w1 => ?_⟩
            obtain ⟨op, hop, eop⟩ := pick_at (f := V.str) (ks := ops6) w0 w1
            have d67 := d6.trans d7
            have eA7 := d67.at_ nDst eA4
            refine ⟨po, _, v7, .str op, rfl, rfl, SqL.of (Dr.keep d5.good npo d7), eop, .ref D, rfl, D, _, 0, a1, rfl, rfl, SqL.of eA7, rfl, .ref D, rfl, D, _, 1, a2, rfl, rfl, SqL.of eA7, rfl, (by show 4 ≤ sizeLine; decide), fun rp nrp => ?_⟩
            exact q _ (.cmp op _ _) _ ((d5.trans d67).add nrp) (.tup upd_same (.cons (.str _) (.cons (.str _) (.cons ((ta14.mono (d67.tk d5.good)).mono (Tk.new nrp)) (.cons ((ta24.mono (d67.tk d5.good)).mono (Tk.new nrp)) .nil))))) ⟨hop, sa1, sb1, sa2, sb2⟩
          · rw [decide_eq_false (sne c1)]
            refine iteF ⟨.str fm, rfl, rfl, _, rfl, ?_⟩
            by_cases c2 : fm = "is"
            · rw [c2, decide_eq_true rfl]
              refine iteT ⟨.str "is", rfl, .str x, rfl, (by show 3 ≤ sizeLine; decide), fun po npo => ?_⟩
              have d6 := Dr.new (o := .lst (ops3.map V.str)) d5.good npo
              refine ⟨.ref st, rfl, st, L, 3, rfl, d6.good, by decide, by decide, fun v7 H7 d7 w0 w1 => ?_⟩
              obtain ⟨op, hop, eop⟩ := pick_at (f := V.str) (ks := ops3) w0 w1
              have d67 := d6.trans d7
              have eA7 := d67.at_ nDst eA4
              refine ⟨po, _, v7, .str op, rfl, rfl, SqL.of (Dr.keep d5.good npo d7), eop, .ref D, rfl, D, _, 0, a1, rfl, rfl, SqL.of eA7, rfl, .ref D, rfl, D, _, 1, a2, rfl, rfl, SqL.of eA7, rfl, (by show 5 ≤ sizeLine; decide), fun rp nrp => ?_⟩
              exact q _ (.isl x op _ _) _ ((d5.trans d67).add nrp) (.tup upd_same (.cons (.str _) (.cons (.str _) (.cons (.str _) (.cons ((ta14.mono (d67.tk d5.good)).mono (Tk.new nrp)) (.cons ((ta24.mono (d67.tk d5.good)).mono (Tk.new nrp)) .nil)))))) ⟨hx, hop, sa1, sb1, sa2, sb2⟩
            · rw [decide_eq_false (sne c2)]
              have c3 : fm = "count" := by
                simp only [forms, List.mem_cons, List.not_mem_nil, or_false] at hfm c
                rcases hfm with z | z | z | z | z | z | z
                · exact absurd (.inl z) c
                · exact absurd (.inl z) c
                · exact absurd (.inl z) c
                · exact absurd (.inr z) c
                · exact absurd z c1
                · exact absurd z c2
                · exact z
              refine iteF ⟨.bl true, rfl, true, rfl, iteT ?_⟩
              refine ⟨.ref tl, rfl, tl, rfl, ⟨us, SqL.of etl4⟩, fun D2 nD2 => ?_⟩
              have lus : us.length = ts.length := by rw [tus4.length, List.length_map]
              refine lc_tps walk_list ((ts.map (keepO x)).map tD) (by rw [List.length_map, List.length_map, lus]) (by omega) nD2 (fun H5 sm => SqL.of (sm _ _ etl4)) (fun i y H5 H6 Q2 R hi sm hY qq => ?_) (fun H6 acc sm6 eA6 tA6 => ?_)
              · obtain ⟨rfl, hy⟩ := hY
                obtain ⟨t, et, tt⟩ := term_get tus4 hy
                have tt := tt.mono (Tk.of sm)
                have ed : ((ts.map (keepO x)).map tD)[i]? = some (tD (keepO x t)) := by
                  rw [List.getElem?_map, List.getElem?_map, et]
                  rfl
                refine ⟨rfl, iteT (B := True) ?_⟩
                refine ⟨y, rfl, (by show 1 ≤ sizeLine; decide), fun pa npa => ⟨(by show 2 ≤ sizeLine; decide), fun pl npl => ?_⟩⟩
                refine ⟨y, rfl, .str x, rfl, (by show 2 ≤ sizeLine; decide), fun pe npe => ?_⟩
                have s8 : Same H6 (upd (upd (upd H6 pa (.tup [.str "any"])) pl (.lst [y, .ref pa])) pe (.tup [.str "variable", .str x])) := ((same_new npa).trans (same_new npl)).trans (same_new npe)
                have epa : (upd (upd (upd H6 pa (.tup [.str "any"])) pl (.lst [y, .ref pa])) pe (.tup [.str "variable", .str x])) pa = some (.tup [.str "any"]) := same_new npe _ _ (same_new npl _ _ upd_same)
                have epl : (upd (upd (upd H6 pa (.tup [.str "any"])) pl (.lst [y, .ref pa])) pe (.tup [.str "variable", .str x])) pl = some (.lst [y, .ref pa]) := same_new npe _ _ upd_same
                have epe : (upd (upd (upd H6 pa (.tup [.str "any"])) pl (.lst [y, .ref pa])) pe (.tup [.str "variable", .str x])) pe = some (.tup [.str "variable", .str x]) := upd_same
                revert s8 epa epl epe
                generalize (upd (upd (upd H6 pa (.tup [.str "any"])) pl (.lst [y, .ref pa])) pe (.tup [.str "variable", .str x])) = H8
                intro s8 epa epl epe
                refine ⟨_, _, tt.mono (Tk.of s8), .tup epe (.cons (.str _) (.cons (.str _) .nil)), tD_small t, .inr ⟨_, rfl, ?_⟩⟩
                rw [eqv_var]
                by_cases c4 : t = .var x
                · rw [decide_eq_true c4]
                  have ek : keepO x t = .any := if_pos c4
                  rw [ek] at ed
                  exact ⟨pl, _, 1, .ref pa, rfl, rfl, SqL.of epl, rfl, qq _ _ _ s8 ed (.tup epa (.cons (.str _) .nil))⟩
                · rw [decide_eq_false c4]
                  have ek : keepO x t = t := if_neg c4
                  rw [ek] at ed
                  exact ⟨pl, _, 0, y, rfl, rfl, SqL.of epl, rfl, qq _ _ _ s8 ed (tt.mono (Tk.of s8))⟩
              · have d7 := d5.trans (Dr.same d5.good sm6)
                refine ⟨.str fm, rfl, .str x, rfl, .str r, rfl, .ref D2, rfl, D2, acc, rfl, .inl ⟨SqL.of eA6, fun tp ntp => ⟨(by show 4 ≤ sizeLine; decide), fun rp nrp => ?_⟩⟩⟩
                refine q _ (.cnt x r (ts.map (keepO x))) _ ((d7.add ntp).add nrp) ?_ ⟨hx, by rw [List.length_map]; exact hrel, fun t h => ?_⟩
                · rw [c3]
                  exact .tup upd_same (.cons (.str _) (.cons (.str _) (.cons (.str _) (.cons (.tup (last upd_same nrp) ((tA6.mono (Tk.new ntp)).mono (Tk.new nrp))) .nil))))
                · obtain ⟨t0, h0, rfl⟩ := List.mem_map.mp h
                  exact keepO_b (ht t0 h0)
end
end KC

namespace KC
open PySem PySem.Spec PyProof.Rows L2 KA
def varsOf : List T → List Str
  | [] => []
  | .var x :: ts => x :: varsOf ts
  | .any :: ts => varsOf ts
  | .val _ :: ts => varsOf ts
theorem varsOf_append : ∀ a b : List T, varsOf (a ++ b) = varsOf a ++ varsOf b
  | [], b => rfl
  | .var x :: a, b => by rw [List.cons_append, varsOf, varsOf, varsOf_append a b, List.cons_append]
  | .any :: a, b => by rw [List.cons_append, varsOf, varsOf, varsOf_append a b]
  | .val _ :: a, b => by rw [List.cons_append, varsOf, varsOf, varsOf_append a b]
theorem varsOf_len : ∀ a : List T, (varsOf a).length ≤ a.length
  | [] => Nat.le_refl _
  | .var x :: a => by have := varsOf_len a; simp [varsOf]; omega
  | .any :: a => by have := varsOf_len a; simp [varsOf]; omega
  | .val _ :: a => by have := varsOf_len a; simp [varsOf]; omega
theorem varsOf_mem : ∀ {a : List T} {x : Str}, x ∈ varsOf a ↔ T.var x ∈ a
  | [], x => by simp [varsOf]
  | .var y :: a, x => by
    rw [varsOf, List.mem_cons, List.mem_cons, varsOf_mem (a := a)]
    constructor
    · rintro (h | h)
      · exact .inl (by rw [h])
      · exact .inr h
    · rintro (h | h)
      · exact .inl (by injection h)
      · exact .inr h
  | .any :: a, x => by rw [varsOf, List.mem_cons, varsOf_mem (a := a)]; simp
  | .val _ :: a, x => by rw [varsOf, List.mem_cons, varsOf_mem (a := a)]; simp
def bindsL : KC.L → List Str
  | .fact _ ts => varsOf ts
  | .isl x _ _ _ => [x]
  | .cnt x _ _ => [x]
  | .notl _ _ => []
  | .cmp _ _ _ => []
def addN (bs xs : List Str) : List Str := bs ++ xs.filter fun x => !decide (x ∈ bs)
def boundOf (ls : List KC.L) : List Str := ls.foldl (fun bs l => addN bs (bindsL l)) []
theorem boundOf_snoc (ls : List KC.L) (l : KC.L) : boundOf (ls ++ [l]) = addN (boundOf ls) (bindsL l) := by
  unfold boundOf
  rw [List.foldl_append]
  rfl
structure BodyG (ls : List KC.L) : Prop where
  len : ls.length ≤ 6
  facts : (factsOf ls).length ≤ 3
  lit : ∀ (i : Nat) (l : KC.L), ls[i]? = some l → LitB (boundOf (ls.take i)) l
section
variable {P : Program} {w : World} {K : PySem.W.Frag} {mg : Str → Option Value} {base : Heap}
/-! ### _law_binds -/
abbrev sBi : Stmt := topS 27
theorem scBi : FnScope ["literal", "term"] ["literal"] (defScope sBi) := ⟨rfl, rfl, rfl, by decide +kernel, rfl, by decide +kernel, by decide +kernel⟩
def spBi : Sp := fun vs H Q _ => ∃ (v : V) (l : KC.L), vs = [v] ∧ Tp H v (litD l) ∧ (bindsL l).length ≤ 3 ∧ (∀ r ts, l = .fact r ts → ts.length ≤ 3) ∧ ∀ p H', Same H H' → H' p = some (.lst ((bindsL l).map V.str)) → H p = none → Q (.ref p) H'
theorem ok_bi {f : Addr} {fd : FuncData} (F : Fun K "_law_binds" "_law_binds" sBi f fd) : FnOk P w K mg base CX0 1 f fd ["literal"] spBi := by
  refine F.ok scBi (fun vs H Q E h => ?_) (fun cdv A outer s H vs Q E hr h => ?_)
  · obtain ⟨_, _, rfl, _⟩ := h
    rfl
  · obtain ⟨v, l, rfl, tv, lb, lf, q⟩ := h
    refine ⟨_, pss_cons (ps_if (pt_cmpR op_eq (pe_ix ix_tup (pv 0) pe_int (fun _ _ => rfl)) pe_str (nomark _))
        (pss_one (ps_ret (pe_lc (own := [("term", 1)]) (g := gName 1) (tt := tTest (tOp rEq (tOp (rIxT K) (tVar 1) (tC (.int 0))) (tC (.str "variable")))) (te := tOp (rIxT K) (tVar 1) (tC (.int 1))) rfl scBi.nd (pi_tup (pe_ix ix_tup (pv 0) pe_int (fun _ _ => rfl))) (blkOk_by (own := [("term", 1)]) (N := ["literal", "term"]) (sc := defScope sBi) (by decide +kernel))
          (fun _ _ _ _ _ => pg_name (i := 1) scBi.nd rfl (Or.inl rfl)) (fun _ _ _ _ _ => pts_one (pt_cmpR op_eq (pe_ix ix_tup (pv 1) pe_int (fun _ _ => rfl)) pe_str (nomark _))) (fun _ _ _ _ _ => pe_ix ix_tup (pv 1) pe_int (fun _ _ => rfl))))) pss_nil)
      (pss_cons (ps_if (pt_cmpR op_in_seq (pe_ix ix_tup (pv 0) pe_int (fun _ _ => rfl)) (pe_lst (pa_cons pe_str (pa_cons pe_str pa_nil))) rfl) (pss_one (ps_ret (pe_lst (pa_cons (pe_ix ix_tup (pv 0) pe_int (fun _ _ => rfl)) pa_nil)))) pss_nil)
      (pss_one (ps_ret (pe_lst pa_nil)))), ?_⟩
    have sne : ∀ {x y : Str}, x ≠ y → V.str x ≠ V.str y := fun n z => n (by injection z)
    have isc : ∀ z : Str, inV (.str z) [.str "is", .str "count"] = decide (z ∈ (["is", "count"] : List Str)) := fun z => inV_str z ["is", "count"]
    have ino : ∀ z : Str, z ∉ (["is", "count"] : List Str) → inV (.str z) [.str "is", .str "count"] = false := fun z n => (isc z).trans (decide_eq_false n)
    have iye : ∀ z : Str, z ∈ (["is", "count"] : List Str) → inV (.str z) [.str "is", .str "count"] = true := fun z n => (isc z).trans (decide_eq_true n)
    cases l with
    | fact r ts =>
      obtain ⟨p, u, xs, rfl, ep, eu, tx⟩ := lit3_inv tv
      refine ⟨.ref p, rfl, p, _, 0, .str "fact", rfl, rfl, SqT.of ep, rfl, rfl, _, rfl, yes_if ?_⟩
      refine ⟨.ref p, rfl, p, _, 2, .ref u, rfl, rfl, SqT.of ep, rfl, u, rfl, ⟨xs, SqT.of eu⟩, fun D nD => ?_⟩
      have lx : xs.length = ts.length := by rw [tx.length, List.length_map]
      have l3 := lf r ts rfl
      refine lc_it walk_tup (fun i H' => Same H H' ∧ H' D = some (.lst ((varsOf (ts.take i)).map V.str))) ⟨same_new nD, upd_same⟩ (fun i H' _ hP => SqT.of (hP.1 _ _ eu)) (fun i x H' H2 hi hP hY => ?_) (fun H' hP => ?_)
      · obtain ⟨rfl, hx⟩ := hY
        obtain ⟨sm, eD⟩ := hP
        obtain ⟨t, et, tt⟩ := term_get tx hx
        have tt := tt.mono (Tk.of sm)
        obtain ⟨pt, r0, rfl, ept, e0, e1, e2⟩ := pairs_get tt
        have lv := varsOf_len (ts.take i)
        rw [List.length_take] at lv
        have ev : varsOf (ts.take (i + 1)) = varsOf (ts.take i) ++ varsOf [t] := by rw [take_next et, varsOf_append]
        rw [ev]
        refine ⟨rfl, .ref pt, rfl, pt, r0, 0, _, rfl, rfl, SqT.of ept, e0, rfl, _, rfl, ?_⟩
        cases t with
        | any =>
          refine no_if (sne (show ("any" : Str) ≠ "variable" by decide +kernel)) ⟨sm, ?_⟩
          rw [varsOf, varsOf, List.append_nil]
          exact eD
        | val k =>
          refine no_if (sne (show ("value" : Str) ≠ "variable" by decide +kernel)) ⟨sm, ?_⟩
          rw [varsOf, varsOf, List.append_nil]
          exact eD
        | var y =>
          refine yes_if ⟨.ref pt, rfl, pt, r0, 1, _, rfl, rfl, SqT.of ept, e1 y rfl, _, eD, small1000 (by rw [List.length_map]; omega), same_put sm nD, ?_⟩
          rw [upd_same, List.map_append]
          rfl
      · obtain ⟨sm, eD⟩ := hP
        rw [lx, List.take_length] at eD
        exact q D H' sm eD nD
    | notl r ts =>
      obtain ⟨p, r0, rfl, ep, e0⟩ := lit_name tv
      refine ⟨.ref p, rfl, p, r0, 0, _, rfl, rfl, SqT.of ep, e0, rfl, _, rfl, no_if (sne (show ("not" : Str) ≠ "fact" by decide +kernel)) ?_⟩
      refine ⟨.ref p, rfl, p, r0, 0, _, rfl, rfl, SqT.of ep, e0, (by show 2 ≤ sizeLine; decide), fun pq npq => ⟨pq, _, rfl, .inl (SqL.of upd_same), rfl, by rfl, false, congrArg V.bl (ino "not" (show ("not" : Str) ∉ (["is", "count"] : List Str) by decide +kernel)), iteF ?_⟩⟩
      refine ⟨(by show 0 ≤ sizeLine; decide), fun pe npe => ?_⟩
      exact q pe _ ((same_new npq).trans (same_new npe)) upd_same ((same_new npq).free npe)
    | cmp o a b =>
      obtain ⟨p, r0, rfl, ep, e0⟩ := lit_name tv
      refine ⟨.ref p, rfl, p, r0, 0, _, rfl, rfl, SqT.of ep, e0, rfl, _, rfl, no_if (sne (show ("compare" : Str) ≠ "fact" by decide +kernel)) ?_⟩
      refine ⟨.ref p, rfl, p, r0, 0, _, rfl, rfl, SqT.of ep, e0, (by show 2 ≤ sizeLine; decide), fun pq npq => ⟨pq, _, rfl, .inl (SqL.of upd_same), rfl, by rfl, false, congrArg V.bl (ino "compare" (show ("compare" : Str) ∉ (["is", "count"] : List Str) by decide +kernel)), iteF ?_⟩⟩
      refine ⟨(by show 0 ≤ sizeLine; decide), fun pe npe => ?_⟩
      exact q pe _ ((same_new npq).trans (same_new npe)) upd_same ((same_new npq).free npe)
    | isl z o a b =>
      obtain ⟨p, x, y, rfl, ep, _⟩ := litI_inv tv
      refine ⟨.ref p, rfl, p, _, 0, .str "is", rfl, rfl, SqT.of ep, rfl, rfl, _, rfl, no_if (sne (show ("is" : Str) ≠ "fact" by decide +kernel)) ?_⟩
      refine ⟨.ref p, rfl, p, _, 0, .str "is", rfl, rfl, SqT.of ep, rfl, (by show 2 ≤ sizeLine; decide), fun pq npq => ⟨pq, _, rfl, .inl (SqL.of upd_same), rfl, by rfl, true, congrArg V.bl (iye "is" (show ("is" : Str) ∈ (["is", "count"] : List Str) by decide +kernel)), iteT ?_⟩⟩
      refine ⟨.ref p, rfl, p, _, 1, .str z, rfl, rfl, SqT.of (same_new npq _ _ ep), rfl, (by show 1 ≤ sizeLine; decide), fun pe npe => ?_⟩
      exact q pe _ ((same_new npq).trans (same_new npe)) upd_same ((same_new npq).free npe)
    | cnt z r ts =>
      obtain ⟨p, u, xs, rfl, ep, _⟩ := litN_inv tv
      refine ⟨.ref p, rfl, p, _, 0, .str "count", rfl, rfl, SqT.of ep, rfl, rfl, _, rfl, no_if (sne (show ("count" : Str) ≠ "fact" by decide +kernel)) ?_⟩
      refine ⟨.ref p, rfl, p, _, 0, .str "count", rfl, rfl, SqT.of ep, rfl, (by show 2 ≤ sizeLine; decide), fun pq npq => ⟨pq, _, rfl, .inl (SqL.of upd_same), rfl, by rfl, true, congrArg V.bl (iye "count" (show ("count" : Str) ∈ (["is", "count"] : List Str) by decide +kernel)), iteT ?_⟩⟩
      refine ⟨.ref p, rfl, p, _, 1, .str z, rfl, rfl, SqT.of (same_new npq _ _ ep), rfl, (by show 1 ≤ sizeLine; decide), fun pe npe => ?_⟩
      exact q pe _ ((same_new npq).trans (same_new npe)) upd_same ((same_new npq).free npe)
end
end KC

namespace KC
open PySem PySem.Spec PyProof.Rows L2 KA
theorem binds_len {bs : List Str} {l : KC.L} (h : LitB bs l) : (bindsL l).length ≤ 3 ∧ (∀ r ts, l = .fact r ts → ts.length ≤ 3) ∧ ∀ x ∈ bindsL l, x ∈ vars4 := by
  have hr : ∀ {r : Str} {n : Nat}, RelB r n → n ≤ 3 := fun h => by
    rcases h with ⟨_, rfl⟩ | ⟨_, rfl⟩ | ⟨_, rfl⟩ <;> decide
  cases l with
  | fact r ts =>
    have h1 := hr h.1
    exact ⟨Nat.le_trans (varsOf_len ts) h1, fun r' ts' e => by cases e; exact h1, fun x hx => h.2 _ (varsOf_mem.mp hx)⟩
  | notl r ts => exact ⟨(by show 0 ≤ 3; decide), (fun _ _ e => (by cases e)), fun x hx => by cases hx⟩
  | cmp o a b => exact ⟨(by show 0 ≤ 3; decide), (fun _ _ e => (by cases e)), fun x hx => by cases hx⟩
  | isl z o a b => exact ⟨(by show 1 ≤ 3; decide), (fun _ _ e => (by cases e)), fun x hx => by rw [List.mem_singleton.mp hx]; exact h.1⟩
  | cnt z r ts => exact ⟨(by show 1 ≤ 3; decide), (fun _ _ e => (by cases e)), fun x hx => by rw [List.mem_singleton.mp hx]; exact h.1⟩
theorem or_ifs {A B R : Prop} {a b : Bool} (h : if (a || b) = true then A else B) (k : (if b = true then A else B) → R) : if a = true then (if true = true then A else B) else R := by
  cases a with
  | true =>
    refine iteT (iteT ?_)
    have h : if true = true then A else B := h
    rwa [if_pos rfl] at h
  | false => exact iteF (k h)
theorem lit_name_fact {l : KC.L} : litName l = "fact" ↔ ∃ r ts, l = .fact r ts := by
  cases l with
  | fact r ts => exact ⟨fun _ => ⟨r, ts, rfl⟩, fun _ => rfl⟩
  | notl r ts => exact ⟨fun h => absurd h (show ("not" : Str) ≠ "fact" by decide +kernel), fun ⟨_, _, h⟩ => by cases h⟩
  | cmp o a b => exact ⟨fun h => absurd h (show ("compare" : Str) ≠ "fact" by decide +kernel), fun ⟨_, _, h⟩ => by cases h⟩
  | isl z o a b => exact ⟨fun h => absurd h (show ("is" : Str) ≠ "fact" by decide +kernel), fun ⟨_, _, h⟩ => by cases h⟩
  | cnt z r ts => exact ⟨fun h => absurd h (show ("count" : Str) ≠ "fact" by decide +kernel), fun ⟨_, _, h⟩ => by cases h⟩
theorem facts_snoc (ls : List KC.L) (l : KC.L) : (factsOf (ls ++ [l])).length = (factsOf ls).length + (if litName l = "fact" then 1 else 0) := by
  rw [factsOf_append, List.length_append]
  congr 1
  by_cases c : litName l = "fact"
  · obtain ⟨r, ts, rfl⟩ := lit_name_fact.mp c
    rw [if_pos c]
    rfl
  · rw [if_neg c, facts_one fun r ts e => c (lit_name_fact.mpr ⟨r, ts, e⟩)]
    rfl
section
variable {P : Program} {w : World} {K : PySem.W.Frag} {mg : Str → Option Value} {base : Heap}
abbrev dLl (P : Program) (w : World) (K : PySem.W.Frag) (mg : Str → Option Value) (base : Heap) : Prop := Def P w K mg base "_law_literal" 4 ["state", "widths", "bound", "careful"] spLl
abbrev dBi (P : Program) (w : World) (K : PySem.W.Frag) (mg : Str → Option Value) (base : Heap) : Prop := Def P w K mg base "_law_binds" 1 ["literal"] spBi
abbrev sLb : Stmt := topS 28
abbrev nLb : List Str := ["state", "widths", "careful", "most", "body", "bound", "facts", "k", "literal", "name"]
theorem scLb : FnScope nLb ["state", "widths", "careful", "most"] (defScope sLb) := ⟨rfl, rfl, rfl, by decide +kernel, rfl, by decide +kernel, by decide +kernel⟩
def spLb : Sp := fun vs H Q _ => ∃ (st L wd : Addr), vs = [.ref st, .ref wd, .bl true, .int 6] ∧ Good st L H ∧ H wd = some (.dK wK) ∧
  ∀ (p : Addr) (us : List V) (ls : List KC.L) H', Dr st L H H' → H' p = some (.tup us) → Tps H' us (ls.map litD) → BodyG ls → Q (.ref p) H'
theorem ok_lb {f : Addr} {fd : FuncData} (F : Fun K "_law_body" "_law_body" sLb f fd) (B : Bt mg) (DN : dNext P w K mg base) (DL : dLl P w K mg base) (DB : dBi P w K mg base) : FnOk P w K mg base CX0 5 f fd ["state", "widths", "careful", "most"] spLb := by
  refine F.ok scLb (fun vs H Q E h => ?_) (fun cdv A outer s H vs Q E hr h => ?_)
  · obtain ⟨_, _, _, rfl, _⟩ := h
    rfl
  · obtain ⟨st, L, wd, rfl, g, ew, q⟩ := h
    have r1 : Room 1 _ := hr.mono (by decide)
    refine ⟨_, pss_cons (ps_set (i := 4) scLb.nd rfl (.inl rfl) (pe_lst pa_nil))
      (pss_cons (ps_set (i := 5) scLb.nd rfl (.inr rfl) (pe_lst pa_nil))
      (pss_cons (ps_set (i := 6) scLb.nd rfl (.inl rfl) pe_int)
      (pss_cons (ps_for PassesOwn.never rfl (pi_range1 (by rfl) B.rng (pa_cons (pe_def DN r1 (by rfl) (pa_cons (pv 0) (pa_cons (pe_op op_add (pv 3) pe_int) pa_nil))) pa_nil)) (pg_name (i := 7) scLb.nd rfl (.inl rfl))
        (pss_cons (ps_set (i := 8) scLb.nd rfl (.inl rfl) (pe_def DL hr (by rfl) (pa_cons (pv 0) (pa_cons (pv 1) (pa_cons (pv 5) (pa_cons (pv 2) pa_nil))))))
        (pss_one (ps_if (PW.pt (pw_or (pt_cmpR op_ne (pe_ix ix_tup (pv 8) pe_int (fun _ _ => rfl)) pe_str (nomark _)) (pw_or1 (pt_cmpR op_lt (pv 6) pe_int (nomark _)))))
          (pss_cons (ps_expr (pe_bm PySem.F.plainAttrs_list PySem.F.slot_list_append PySem.F.type_list_append mt_append (pv 4) (pa_cons (pv 8) pa_nil)))
          (pss_cons (ps_set (i := 6) scLb.nd rfl (.inl rfl) (pe_op op_add (pv 6) (pe_callTy call_int1 (by rfl) B.int (by decide +kernel) (pa_cons (pe_cmpR op_eq (pe_ix ix_tup (pv 8) pe_int (fun _ _ => rfl)) pe_str (nomark _)) pa_nil))))
          (pss_one (ps_set (i := 5) scLb.nd rfl (.inr rfl) (pe_op op_cat (pv 5) (pe_lc (own := [("name", 9)]) (g := gName 9) (tt := tTest (tOp (rIn K true) (tVar 9) (tVar 5))) (te := tVar 9) rfl scLb.nd (pi_list (pe_def DB r1 (by rfl) (pa_cons (pv 8) pa_nil))) (blkOk_by (own := [("name", 9)]) (N := nLb) (sc := defScope sLb) (by decide +kernel))
            (fun _ _ _ _ _ => pg_name (i := 9) scLb.nd rfl (Or.inl rfl)) (fun _ _ _ _ _ => pts_one (pt_cmpR op_notIn_seq (pv 9) (pv 5) rfl)) (fun _ _ _ _ _ => pv 9)))))))
          pss_nil))))
      (pss_one (ps_ret (pe_callTy call_tuple_of (by rfl) B.tup (by decide +kernel) (pa_cons (pv 4) pa_nil))))))), ?_⟩
    have nwst : wd ≠ st := fun z => by
      obtain ⟨_, _, _, _, e, _⟩ := g
      rw [z, e] at ew
      cases ew
    refine ⟨(by show 0 ≤ sizeLine; decide), fun bd nbd => ?_⟩
    refine ⟨(by show 0 ≤ sizeLine; decide), fun bo nbo => ?_⟩
    have d1 := (Dr.new (o := .lst []) g nbd).add (o := .lst []) nbo
    have ebd : (upd (upd H bd (.lst [])) bo (.lst [])) bd = some (.lst []) := by
      rw [upd_ne (ne_of_none upd_same nbo)]
      exact upd_same
    have ebo : (upd (upd H bd (.lst [])) bo (.lst [])) bo = some (.lst []) := upd_same
    have nbst : bd ≠ st := fun z => g.not_none (by rw [← z]; exact nbd)
    have nbo0 : H bo = none := (same_new nbd).free nbo
    have nost : bo ≠ st := fun z => g.not_none (by rw [← z]; exact nbo0)
    have nbb : bd ≠ bo := fun z => by rw [← z, upd_same] at nbo; cases nbo
    revert d1 ebd ebo
    generalize (upd (upd H bd (.lst [])) bo (.lst [])) = H1
    intro d1 ebd ebo
    refine ⟨.ref st, rfl, .int 6, rfl, 6, 1, rfl, rfl, st, L, 7, rfl, d1.good, by decide, by decide, fun n H2 d2 n0 n1 => ?_⟩
    have d12 := d1.trans d2
    refine ⟨n, rfl, by omega, by omega, ?_⟩
    refine for_range (lo := 0) (n := n.toNat) (fun i σ H' => (∃ (b : Addr) (us : List V) (ls : List KC.L) (x7 x8 x9 : Option V), σ = [some (.ref st), some (.ref wd), some (.bl true), some (.int 6), some (.ref bd), some (.ref b), some (.int ((factsOf ls).length : Nat)), x7, x8, x9] ∧ H' bd = some (.lst us) ∧ Tps H' us (ls.map litD) ∧ b ≠ st ∧ b ≠ bd ∧ H' b = some (.lst ((boundOf ls).map V.str)) ∧ (boundOf ls).length ≤ 3 * i ∧ (∀ x ∈ boundOf ls, x ∈ vars4) ∧ ls.length ≤ i ∧ (factsOf ls).length ≤ 3 ∧ ∀ (j : Nat) (l : KC.L), ls[j]? = some l → LitB (boundOf (ls.take j)) l) ∧ Dr st L H H')
      ⟨⟨bo, [], [], none, none, none, rfl, d2.at_ nbst ebd, .nil, nost, nbb.symm, d2.at_ nost ebo, Nat.le_refl _, (fun x h => (by cases h)), Nat.le_refl _, (by show 0 ≤ 3; decide), fun j l h => (by simp at h)⟩, d12⟩ (fun i σ H' hi hP => ?_) (fun σ H' hP => ?_)
    · obtain ⟨⟨b, us, ls, x7, x8, x9, rfl, eus, tus, nb, nbbd, eb, lbo, hbo, lls, lfa, hlit⟩, dr⟩ := hP
      have hi6 : i < 6 := by omega
      refine ⟨.ref st, rfl, .ref wd, rfl, .ref b, rfl, .bl true, rfl, st, L, wd, b, boundOf ls, rfl, dr.good, dr.at_ nwst ew, eb, nb, by omega, hbo, fun v l H3 d3 tl hl => ?_⟩
      have eus3 := d3.at_ nbst eus
      have tus3 := tus.mono (d3.tk dr.good)
      have eb3 := d3.at_ nb eb
      have dr3 := dr.trans d3
      obtain ⟨bl1, bl2, bl3⟩ := binds_len hl
      obtain ⟨p, r0, rfl, ep, e0⟩ := lit_name tl
      refine ⟨.ref p, rfl, p, r0, 0, _, rfl, rfl, SqT.of ep, e0, rfl, _, rfl, ?_⟩
      have lus := tus.length
      rw [List.length_map] at lus
      have hne : ∀ z : Str, (!decide (V.str z = V.str "fact")) = !decide (z = "fact") := fun z => by
        by_cases c : z = "fact"
        · rw [c, decide_eq_true rfl, decide_eq_true rfl]
        · rw [decide_eq_false c, decide_eq_false (fun y => c (by injection y))]
      rw [hne]
      -- the literal comes, or it does not
      have keep : LitB (boundOf ls) l → ∀ (j : Nat) (l' : KC.L), (ls ++ [l])[j]? = some l' → LitB (boundOf ((ls ++ [l]).take j)) l' := fun h j l' e => by
        rcases Nat.lt_or_ge j ls.length with c | c
        · rw [List.getElem?_append_left c] at e
          rw [List.take_append_of_le_length (Nat.le_of_lt c)]
          exact hlit j l' e
        · have hj : j < (ls ++ [l]).length := (List.getElem?_eq_some_iff.mp e).1
          rw [List.length_append, List.length_singleton] at hj
          have hj : j = ls.length := by omega
          subst hj
          rw [List.getElem?_append_right (Nat.le_refl _), Nat.sub_self] at e
          cases e
          rw [List.take_left]
          exact h
      refine or_ifs (b := decide ((((factsOf ls).length : Nat) : Int) < 3)) ?_ (fun h => ⟨.int ((factsOf ls).length : Nat), rfl, _, _, rfl, rfl, _, rfl, h⟩)
      by_cases c : (!decide (litName l = "fact") || decide ((((factsOf ls).length : Nat) : Int) < 3)) = true
      · rw [c]
        refine iteT ?_
        have hc : litName l = "fact" → (factsOf ls).length < 3 := fun e => by
          rw [e, decide_eq_true rfl, Bool.not_true, Bool.false_or] at c
          have := of_decide_eq_true c
          omega
        refine ⟨.ref bd, rfl, .inl ⟨rfl, _, SqL.of eus3⟩, .ref p, rfl, bd, us, _, rfl, rfl, eus3, small1000 (by omega), ?_⟩
        have nbst3 : bd ≠ st := nbst
        have dr4 : Dr st L H (upd H3 bd (.lst (us ++ [.ref p]))) := dr3.put g nbd
        have tk4 : Tk H3 (upd H3 bd (.lst (us ++ [.ref p]))) := Tk.lst eus3
        have eb4 : (upd H3 bd (.lst (us ++ [.ref p]))) b = some (.lst ((boundOf ls).map V.str)) := by
          rw [upd_ne nbbd]
          exact eb3
        have eus4 : (upd H3 bd (.lst (us ++ [.ref p]))) bd = some (.lst (us ++ [.ref p])) := upd_same
        revert dr4 tk4 eb4 eus4
        generalize (upd H3 bd (.lst (us ++ [.ref p]))) = H4
        intro dr4 tk4 eb4 eus4
        have ep4 := tk4 _ _ ep
        have tl4 := tl.mono tk4
        -- facts
        refine ⟨.int ((factsOf ls).length : Nat), rfl, .ref p, rfl, p, r0, 0, _, rfl, rfl, SqT.of ep4, e0, rfl, .inr ⟨_, rfl, _, _, rfl, rfl, ?_⟩⟩
        -- bound
        refine ⟨.ref b, rfl, ?_⟩
        refine ⟨.ref p, rfl, .ref p, l, rfl, tl4, bl1, bl2, fun pb H5 s5 epb npb => ?_⟩
        refine ⟨pb, rfl, ⟨_, SqL.of epb⟩, fun D nD => ?_⟩
        have eb5 := s5 _ _ eb4
        have dr5 := dr4.trans (Dr.same dr4.good s5)
        refine lc_keep walk_list ((bindsL l).map V.str) ((bindsL l).map fun x => !decide (x ∈ boundOf ls)) rfl (by rw [List.length_map, List.length_map]) (by rw [List.length_map]; omega) nD (fun H2 sm => SqL.of (sm _ _ epb)) (fun j y H6 H7 Q2 R hj sm hY qt qf => ?_) (fun H6 sm eD => ?_)
        · obtain ⟨rfl, hy⟩ := hY
          rw [List.getElem?_map] at hy
          cases ex : (bindsL l)[j]? with
          | none => rw [ex] at hy; cases hy
          | some x =>
            rw [ex] at hy
            have hy : V.str x = y := Option.some.inj hy
            subst hy
            refine ⟨rfl, .str x, rfl, .ref b, rfl, b, _, rfl, .inl (SqL.of (sm _ _ eb5)), rfl, flat_strs _, _, rfl, ?_⟩
            have ek : ∀ b', (!decide (x ∈ boundOf ls)) = b' → ((bindsL l).map fun x => !decide (x ∈ boundOf ls))[j]? = some b' := fun b' e => by
              rw [List.getElem?_map, ex]
              exact congrArg some e
            have ey : ((bindsL l).map V.str)[j]? = some (V.str x) := by
              rw [List.getElem?_map, ex]
              rfl
            rw [inV_str]
            by_cases c5 : x ∈ boundOf ls
            · rw [decide_eq_true c5]
              exact iteF (qf _ (Same.refl _) (ek _ (by rw [decide_eq_true c5]; rfl)))
            · rw [decide_eq_false c5]
              exact iteT ⟨.str x, rfl, qt _ _ (Same.refl _) (ek _ (by rw [decide_eq_false c5]; rfl)) ey⟩
        · have efil : ((((bindsL l).map V.str).zip ((bindsL l).map fun x => !decide (x ∈ boundOf ls))).filter (·.2)).map (·.1) = ((bindsL l).filter fun x => !decide (x ∈ boundOf ls)).map V.str := by
            generalize bindsL l = xs
            induction xs with
            | nil => rfl
            | cons x xs ih =>
              rw [List.map_cons, List.map_cons, List.zip_cons_cons]
              cases cx : !decide (x ∈ boundOf ls) with
              | true => rw [List.filter_cons_of_pos rfl, List.filter_cons_of_pos (p := fun x => !decide (x ∈ boundOf ls)) cx, List.map_cons, List.map_cons, ih]
              | false => rw [List.filter_cons_of_neg Bool.false_ne_true, List.filter_cons_of_neg (p := fun x => !decide (x ∈ boundOf ls)) (by rw [cx]; exact Bool.false_ne_true), ih]
          rw [efil] at eD
          have dr6 := dr5.trans (Dr.same dr5.good sm)
          have eb6 := sm _ _ eb5
          have eadd : boundOf (ls ++ [l]) = addN (boundOf ls) (bindsL l) := boundOf_snoc ls l
          have lfil : ((bindsL l).filter fun x => !decide (x ∈ boundOf ls)).length ≤ 3 := Nat.le_trans (List.length_filter_le _ _) bl1
          refine ⟨b, D, _, _, rfl, rfl, eb6, eD, Nat.le_of_lt (small1000 (by rw [List.length_map, List.length_map]; omega)), fun bn nbn => ?_⟩
          have dr7 := dr6.add (o := .lst ((boundOf ls).map V.str ++ ((bindsL l).filter fun x => !decide (x ∈ boundOf ls)).map V.str)) nbn
          have ebn : (upd H6 bn (.lst ((boundOf ls).map V.str ++ ((bindsL l).filter fun x => !decide (x ∈ boundOf ls)).map V.str))) bn = some (.lst ((boundOf (ls ++ [l])).map V.str)) := by
            rw [upd_same, eadd]
            unfold addN
            rw [List.map_append]
          have eus6 := sm _ _ (s5 _ _ eus4)
          have nbn1 : bn ≠ bd := fun z => by rw [z, eus6] at nbn; cases nbn
          have nbn2 : bn ≠ st := fun z => dr6.good.not_none (by rw [← z]; exact nbn)
          refine ⟨⟨bn, us ++ [.ref p], ls ++ [l], some (.int (0 + (i : Int))), some (.ref p), x9, ?_, by rw [upd_ne nbn1.symm]; exact eus6, ?_, nbn2, nbn1, ebn, ?_, ?_, by rw [List.length_append, List.length_singleton]; omega, ?_, keep hl⟩, dr7⟩
          · have ef : (((factsOf (ls ++ [l])).length : Nat) : Int) = ((factsOf ls).length : Nat) + (if decide (V.str (litName l) = V.str "fact") = true then 1 else 0) := by
              rw [facts_snoc]
              by_cases c6 : litName l = "fact"
              · rw [if_pos c6, c6, decide_eq_true rfl, if_pos rfl]
                rfl
              · rw [if_neg c6, decide_eq_false (fun z => c6 (by injection z)), if_neg Bool.false_ne_true]
                rfl
            rw [ef]
            rfl
          · rw [List.map_append]
            exact (((tus3.mono tk4).mono (Tk.of (s5.trans sm))).mono (Tk.new nbn)).append (.cons ((tl4.mono (Tk.of (s5.trans sm))).mono (Tk.new nbn)) .nil)
          · rw [eadd]
            unfold addN
            rw [List.length_append]
            omega
          · intro x hx
            rw [eadd] at hx
            rcases List.mem_append.mp hx with hx | hx
            · exact hbo x hx
            · exact bl3 x (List.mem_filter.mp hx).1
          · rw [facts_snoc]
            by_cases c6 : litName l = "fact"
            · rw [if_pos c6]
              exact hc c6
            · rw [if_neg c6]
              exact lfa
      · rw [Bool.not_eq_true] at c
        rw [c]
        refine iteF ⟨⟨b, us, ls, _, _, _, rfl, eus3, tus3, nb, nbbd, eb3, by omega, hbo, by omega, lfa, hlit⟩, dr3⟩
    · obtain ⟨⟨b, us, ls, x7, x8, x9, rfl, eus, tus, nb, nbbd, eb, lbo, hbo, lls, lfa, hlit⟩, dr⟩ := hP
      refine ⟨.ref bd, rfl, bd, us, rfl, .inl ⟨SqL.of eus, fun tp ntp => ?_⟩⟩
      exact q tp us ls _ (dr.add ntp) upd_same (tus.mono (Tk.new ntp)) ⟨by omega, lfa, hlit⟩
end
end KC

namespace KC
open PySem PySem.Spec PyProof.Rows L2 KA
/-! ### what a row meets, step by step -/
theorem metE_append : ∀ (ts us : List T) (r q : List Key) (e : Env1), ts.length = r.length → metE (ts ++ us) (r ++ q) e = (metE ts r e).bind fun e' => metE us q e'
  | [], us, [], q, e, _ => rfl
  | [], _, _ :: _, _, _, h => nomatch h
  | _ :: _, _, [], _, _, h => nomatch h
  | .any :: ts, us, v :: r, q, e, h => by
    show metE (ts ++ us) (r ++ q) e = (metE ts r e).bind _
    exact metE_append ts us r q e (by simpa using h)
  | .val k :: ts, us, v :: r, q, e, h => by
    show (if k = v then metE (ts ++ us) (r ++ q) e else none) = (if k = v then metE ts r e else none).bind _
    by_cases c : k = v
    · rw [if_pos c, if_pos c]
      exact metE_append ts us r q e (by simpa using h)
    · rw [if_neg c, if_neg c]
      rfl
  | .var x :: ts, us, v :: r, q, e, h => by
    have hl : ts.length = r.length := by simpa using h
    show (match look e x with | some u => if u = v then metE (ts ++ us) (r ++ q) e else none | none => metE (ts ++ us) (r ++ q) (e ++ [(x, v)])) = (match look e x with | some u => if u = v then metE ts r e else none | none => metE ts r (e ++ [(x, v)])).bind _
    cases look e x with
    | none => exact metE_append ts us r q _ hl
    | some u =>
      show (if u = v then metE (ts ++ us) (r ++ q) e else none) = (if u = v then metE ts r e else none).bind _
      by_cases c : u = v
      · rw [if_pos c, if_pos c]
        exact metE_append ts us r q e hl
      · rw [if_neg c, if_neg c]
        rfl
/-- one step -/
def met1 (t : T) (v : Key) (e : Env1) : Option Env1 := metE [t] [v] e
theorem met_take {ts : List T} {row : List Key} {e : Env1} {i : Nat} {t : T} {v : Key} (ht : ts[i]? = some t) (hv : row[i]? = some v) : metE (ts.take (i + 1)) (row.take (i + 1)) e = (metE (ts.take i) (row.take i) e).bind fun e' => met1 t v e' := by
  have h1 := (List.getElem?_eq_some_iff.mp ht).1
  have h2 := (List.getElem?_eq_some_iff.mp hv).1
  rw [take_next ht, take_next hv, metE_append _ _ _ _ _ (by rw [List.length_take, List.length_take]; omega)]
  rfl
theorem met_none {ts : List T} {row : List Key} {e : Env1} {i : Nat} (hl : ts.length = row.length) (h : metE (ts.take i) (row.take i) e = none) : metE ts row e = none := by
  have e1 := metE_append (ts.take i) (ts.drop i) (row.take i) (row.drop i) e (by rw [List.length_take, List.length_take]; omega)
  rw [List.take_append_drop, List.take_append_drop, h] at e1
  exact e1
theorem putK_id {κ : Type} [DecidableEq κ] {k : κ} {v : V} : ∀ {kvs : List (κ × V)}, (kvs.map (·.1)).Nodup → valV kvs k = some v → putK kvs k v = kvs := fun {kvs} nd hv => by
  unfold putK
  rw [valV_any, hv]
  show kvs.map (fun kv => if kv.1 = k then (kv.1, v) else kv) = kvs
  have gen : ∀ l : List (κ × V), (l.map (·.1)).Nodup → (∀ u, valV l k = some u → u = v) → l.map (fun kv => if kv.1 = k then (kv.1, v) else kv) = l := fun l => by
    induction l with
    | nil => exact fun _ _ => rfl
    | cons p r ih =>
      intro nd h
      rw [List.map_cons, List.nodup_cons] at nd
      rw [List.map_cons]
      by_cases c : p.1 = k
      · rw [if_pos c, ih nd.2 fun u hu => ?_]
        · have := h p.2 (valV_pos c)
          rw [← this]
        · exfalso
          have h2 : (r.any fun kv => decide (kv.1 = k)) = true := by rw [valV_any, hu]; rfl
          obtain ⟨q, hq, e⟩ := List.any_eq_true.mp h2
          exact nd.1 (List.mem_map.mpr ⟨q, hq, (of_decide_eq_true e).trans c.symm⟩)
      · rw [if_neg c, ih nd.2 fun u hu => h u (by rw [valV_neg c]; exact hu)]
  exact gen kvs nd fun u hu => by rw [hv] at hu; exact (Option.some.inj hu).symm
theorem EnvOf.put_same {kvs : List (Key × V)} {e : Env1} {x : Str} {k : Key} (h : EnvOf kvs e) (n : look e x = some k) : EnvOf (putK kvs (Sum.inr x) (kV k)) e := by
  have hv : valV kvs (Sum.inr x) = some (kV k) := by rw [h.at_, n]; rfl
  rw [putK_id h.nd hv]
  exact h
theorem keyD_nice (k : Key) : nice (keyD k) := by
  cases k with
  | inl i => exact nice_int i
  | inr z => exact nice_str z
theorem keyD_depth (k : Key) : (keyD k).depth = 0 := by
  cases k <;> rfl
theorem eqv_key (a b : Key) : PyData.eqv (keyD a) (keyD b) = decide (a = b) := by
  rw [Bool.eq_iff_iff, eqv_dec (keyD_nice a) (keyD_nice b), decide_eq_true_iff]
  constructor
  · intro h
    cases a with
    | inl i => cases b with
      | inl j => injection h with h; rw [h]
      | inr y => cases h
    | inr x => cases b with
      | inl j => cases h
      | inr y => injection h with h; rw [h]
  · intro h
    rw [h]
section
variable {P : Program} {w : World} {K : PySem.W.Frag} {mg : Str → Option Value} {base : Heap}
/-! ### _law_rank -/
abbrev sRk : Stmt := topS 29
theorem scRk : FnScope ["value"] ["value"] (defScope sRk) := ⟨rfl, rfl, rfl, by decide +kernel, rfl, by decide +kernel, by decide +kernel⟩
theorem ok_rk {f : Addr} {fd : FuncData} (F : Fun K "_law_rank" "_law_rank" sRk f fd) (B : Bt mg) : FnOk P w K mg base CX0 1 f fd ["value"] spVK := by
  refine F.ok scRk (fun vs H Q E h => ?_) (fun cdv A outer s H vs Q E hr h => ?_)
  · obtain ⟨k, rfl, _⟩ := h
    rfl
  · obtain ⟨k, rfl, q⟩ := h
    refine ⟨_, pss_cons (ps_if (pt_val (pe_callB call_isi (by rfl) B.isi (by decide +kernel) (pa_cons (pv 0) (pa_cons (pe_bltn (v := .ty "str") (u := .type "str") (by rfl) B.str (by decide +kernel) rfl) pa_nil)))) (pss_one (ps_ret (pe_tup (pa_cons pe_int (pa_cons (pv 0) pa_nil))))) pss_nil)
      (pss_one (ps_ret (pe_tup (pa_cons pe_int (pa_cons (pv 0) pa_nil))))), ?_⟩
    cases k with
    | inl i =>
      refine ⟨.int i, rfl, .int i, .ty "str", _, _, false, rfl, .ty "str", .base (.int i), kit_ty (by decide +kernel), _, rfl, iteF ?_⟩
      exact ⟨.int i, rfl, (by show 2 ≤ sizeLine; decide), fun p np => q p _ (same_new np) (.tup upd_same (.cons (.int 0) (.cons (.int i) .nil)))⟩
    | inr z =>
      refine ⟨.str z, rfl, .str z, .ty "str", _, _, true, rfl, .ty "str", .base (.str z), kit_ty (by decide +kernel), _, rfl, iteT ?_⟩
      exact ⟨.str z, rfl, (by show 2 ≤ sizeLine; decide), fun p np => q p _ (same_new np) (.tup upd_same (.cons (.int 1) (.cons (.str z) .nil)))⟩
abbrev dRk (P : Program) (w : World) (K : PySem.W.Frag) (mg : Str → Option Value) (base : Heap) : Prop := Def P w K mg base "_law_rank" 1 ["value"] spVK
/-! ### _law_of -/
abbrev sOf : Stmt := topS 31
theorem scOf : FnScope ["term", "way"] ["term", "way"] (defScope sOf) := ⟨rfl, rfl, rfl, by decide +kernel, rfl, by decide +kernel, by decide +kernel⟩
theorem ok_of {f : Addr} {fd : FuncData} (F : Fun K "_law_of" "_law_of" sOf f fd) : FnOk P w K mg base CX0 1 f fd ["term", "way"] spWo := by
  refine F.ok scOf (fun vs H Q E h => ?_) (fun cdv A outer s H vs Q E hr h => ?_)
  · obtain ⟨_, _, _, _, _, _, rfl, _⟩ := h
    rfl
  · obtain ⟨v, a, t, kvs, e, k, rfl, tv, rd, en, hw, q⟩ := h
    have hu := hu_of hr
    refine ⟨_, pss_cons (ps_if (pt_cmpR op_eq (pe_ix ix_tup (pv 0) pe_int (fun _ _ => rfl)) pe_str (nomark _)) (pss_one (ps_ret (pe_ix ix_tup (pv 0) pe_int (fun _ _ => rfl)))) pss_nil)
      (pss_one (ps_ret (pe_dget hu (pv 1) (pe_ix ix_tup (pv 0) pe_int (fun _ _ => rfl)) (fun _ _ => rfl)))), ?_⟩
    cases t with
    | any => cases hw
    | val j =>
      have hw : some j = some k := hw
      injection hw with hw
      subst hw
      obtain ⟨p, rfl, ep⟩ := tD_val tv
      refine ⟨.ref p, rfl, p, _, 0, .str "value", rfl, rfl, SqT.of ep, rfl, rfl, _, rfl, yes_if ?_⟩
      exact ⟨.ref p, rfl, p, _, 1, kV j, rfl, rfl, SqT.of ep, rfl, q⟩
    | var x =>
      have hw : look e x = some k := hw
      obtain ⟨p, rfl, ep⟩ := tD_var tv
      refine ⟨.ref p, rfl, p, _, 0, .str "variable", rfl, rfl, SqT.of ep, rfl, rfl, _, rfl, no_if (by decide +kernel) ?_⟩
      refine ⟨.ref a, rfl, .ref p, rfl, p, _, 1, .str x, rfl, rfl, SqT.of ep, rfl, a, kV k, rfl, .inl ⟨kvs, Sum.inr x, rd, rfl, ?_⟩, q⟩
      rw [en.at_ x, hw]
      rfl
abbrev dOf (P : Program) (w : World) (K : PySem.W.Frag) (mg : Str → Option Value) (base : Heap) : Prop := Def P w K mg base "_law_of" 1 ["term", "way"] spWo
abbrev dSM0 (P : Program) (w : World) (K : PySem.W.Frag) (mg : Str → Option Value) (base : Heap) : Prop := Def P w K mg base "_law_same" 1 ["actual", "expected"] (spSM 0)
/-! ### _law_met -/
abbrev sLm : Stmt := topS 30
abbrev nLm : List Str := ["terms", "row", "way", "more", "k"]
theorem scLm : FnScope nLm ["terms", "row", "way"] (defScope sLm) := ⟨rfl, rfl, rfl, by decide +kernel, rfl, by decide +kernel, by decide +kernel⟩
def spLm : Sp := fun vs H Q _ => ∃ (u r a : Addr) (xs : List V) (ts : List T) (row : List Key) (kvs : List (Key × V)) (e : Env1), vs = [.ref u, .ref r, .ref a] ∧ H u = some (.tup xs) ∧ Tps H xs (ts.map tD) ∧ H r = some (.tup (row.map kV)) ∧ row.length = ts.length ∧ Rd H a (.dK kvs) ∧ EnvOf kvs e ∧ kvs.length + ts.length ≤ 900 ∧
  (metE ts row e = none → ∀ H', Same H H' → Q .non H') ∧ (∀ e', metE ts row e = some e' → ∀ p kvs' H', Same H H' → H p = none → H' p = some (.dK kvs') → EnvOf kvs' e' → kvs'.length ≤ kvs.length + ts.length → Q (.ref p) H')
theorem ok_lm {f : Addr} {fd : FuncData} (F : Fun K "_law_met" "_law_met" sLm f fd) (B : Bt mg) (hdi : mg "dict" = none) (DS : dSM0 P w K mg base) : FnOk P w K mg base CX0 2 f fd ["terms", "row", "way"] spLm := by
  refine F.ok scLm (fun vs H Q E h => ?_) (fun cdv A outer s H vs Q E hr h => ?_)
  · obtain ⟨_, _, _, _, _, _, _, _, rfl, _⟩ := h
    rfl
  · obtain ⟨u, r, a, xs, ts, row, kvs, e, rfl, eu, tx, er, lr, rd, en, lt, qn, qs⟩ := h
    have hu := hu_of hr
    refine ⟨_, pss_cons (ps_set (i := 3) scLm.nd rfl (.inl rfl) (pe_callTy call_dictD (by rfl) hdi (by decide +kernel) (pa_cons (pv 2) pa_nil)))
      (pss_cons (ps_for PassesOwn.never rfl (pi_range1 (by rfl) B.rng (pa_cons (pe_callB call_len_seq (by rfl) B.len PySem.boot_len (pa_cons (pv 0) pa_nil)) pa_nil)) (pg_name (i := 4) scLm.nd rfl (.inl rfl))
        (pss_cons (ps_if (PW.pt (pw_and (pt_cmpR op_eq (pe_ix ix_tup (pe_ix ix_tup (pv 0) (pv 4) (fun _ _ => rfl)) pe_int (fun _ _ => rfl)) pe_str (nomark _)) (pw_and1 (pt_not (pt_val (pe_def DS hr (by rfl) (pa_cons (pe_ix ix_tup (pe_ix ix_tup (pv 0) (pv 4) (fun _ _ => rfl)) pe_int (fun _ _ => rfl)) (pa_cons (pe_ix ix_tup (pv 1) (pv 4) (fun _ _ => rfl)) pa_nil))))))))
          (pss_one (ps_ret pe_non)) pss_nil)
        (pss_one (ps_if (pt_cmpR op_eq (pe_ix ix_tup (pe_ix ix_tup (pv 0) (pv 4) (fun _ _ => rfl)) pe_int (fun _ _ => rfl)) pe_str (nomark _))
          (pss_cons (ps_if (PW.pt (pw_and (pt_cmp (pc_din hu (pe_ix ix_tup (pe_ix ix_tup (pv 0) (pv 4) (fun _ _ => rfl)) pe_int (fun _ _ => rfl)) (pv 3))) (pw_and1 (pt_not (pt_val (pe_def DS hr (by rfl) (pa_cons (pe_dget hu (pv 3) (pe_ix ix_tup (pe_ix ix_tup (pv 0) (pv 4) (fun _ _ => rfl)) pe_int (fun _ _ => rfl)) (fun _ _ => rfl)) (pa_cons (pe_ix ix_tup (pv 1) (pv 4) (fun _ _ => rfl)) pa_nil))))))))
            (pss_one (ps_ret pe_non)) pss_nil)
          (pss_one (ps_dput hu (pv 3) (pe_ix ix_tup (pe_ix ix_tup (pv 0) (pv 4) (fun _ _ => rfl)) pe_int (fun _ _ => rfl)) (pe_ix ix_tup (pv 1) (pv 4) (fun _ _ => rfl)) rfl))) pss_nil))))
      (pss_one (ps_ret (pv 3)))), ?_⟩
    have lx : xs.length = ts.length := by rw [tx.length, List.length_map]
    have sne : ∀ {x y : Str}, x ≠ y → V.str x ≠ V.str y := fun n z => n (by injection z)
    refine ⟨.ref a, rfl, a, kvs, rfl, rd, fun D nD => ?_⟩
    have s1 : Same H (upd H D (.dK kvs)) := same_new nD
    have eD : (upd H D (.dK kvs)) D = some (.dK kvs) := upd_same
    revert s1 eD
    generalize (upd H D (.dK kvs)) = H1
    intro s1 eD
    refine ⟨.ref u, rfl, u, xs, rfl, .inr (SqT.of (s1 _ _ eu)), _, rfl, by omega, by rw [lx]; omega, ?_⟩
    refine for_range (lo := 0) (n := ((xs.length : Nat) : Int).toNat) (fun i σ H' => (∃ x4, σ = [some (.ref u), some (.ref r), some (.ref a), some (.ref D), x4]) ∧ Same H H' ∧ ∃ kv' e', H' D = some (.dK kv') ∧ metE (ts.take i) (row.take i) e = some e' ∧ EnvOf kv' e' ∧ kv'.length ≤ kvs.length + i)
      ⟨⟨none, rfl⟩, s1, kvs, e, eD, by rw [List.take_zero, List.take_zero]; rfl, en, Nat.le_refl _⟩ (fun i σ H' hi hP => ?_) (fun σ H' hP => ?_)
    · obtain ⟨⟨x4, rfl⟩, sm, kv', e', eD', em, en', lk⟩ := hP
      rw [Int.toNat_natCast] at hi
      have hit : i < ts.length := by omega
      have hir : i < row.length := by omega
      have hz : (0 : Int) + (i : Int) = ((i : Nat) : Int) := by omega
      have ht : ts[i]? = some ts[i] := List.getElem?_eq_getElem hit
      have hv : row[i]? = some row[i] := List.getElem?_eq_getElem hir
      obtain ⟨y, hy, ty⟩ := tx.at_ (show (ts.map tD)[i]? = some (tD ts[i]) by rw [List.getElem?_map, ht]; rfl)
      have ty := ty.mono (Tk.of sm)
      have hvr : (row.map kV)[i]? = some (kV row[i]) := by rw [List.getElem?_map, hv]; rfl
      have step := met_take (e := e) ht hv
      rw [em] at step
      have step : metE (ts.take (i + 1)) (row.take (i + 1)) e = met1 ts[i] row[i] e' := step
      have bad : met1 ts[i] row[i] e' = none → metE ts row e = none := fun z => met_none lr.symm (by rw [step]; exact z)
      revert step bad ty
      generalize ts[i] = t
      generalize row[i] = k at hvr
      intro ty step bad
      obtain ⟨p, r0, rfl, ep, e0, e1, e2⟩ := pairs_get ty
      have U := SqT.of (K := K) (sm _ _ eu)
      have R := SqT.of (K := K) (sm _ _ er)
      refine ⟨.ref u, rfl, .int (0 + (i : Int)), rfl, u, _, _, .ref p, rfl, rfl, U, (by rw [hz]; exact atI_nat hy), p, r0, 0, _, rfl, rfl, SqT.of ep, e0, rfl, _, rfl, ?_⟩
      cases t with
      | any =>
        rw [show tName .any = ("any" : Str) from rfl, decide_eq_false (sne (show ("any" : Str) ≠ "value" by decide +kernel))]
        refine iteF (iteF ?_)
        refine ⟨.ref u, rfl, .int (0 + (i : Int)), rfl, u, _, _, .ref p, rfl, rfl, U, (by rw [hz]; exact atI_nat hy), p, r0, 0, _, rfl, rfl, SqT.of ep, e0, rfl, _, rfl, ?_⟩
        rw [show tName .any = ("any" : Str) from rfl]
        exact no_if (sne (show ("any" : Str) ≠ "variable" by decide +kernel)) ⟨⟨_, rfl⟩, sm, kv', e', eD', step, en', by omega⟩
      | val j =>
        rw [show tName (.val j) = ("value" : Str) from rfl, decide_eq_true rfl]
        refine iteT ?_
        refine ⟨.ref u, rfl, .int (0 + (i : Int)), rfl, u, _, _, .ref p, rfl, rfl, U, (by rw [hz]; exact atI_nat hy), p, r0, 1, _, rfl, rfl, SqT.of ep, e2 j rfl, .ref r, rfl, .int (0 + (i : Int)), rfl, r, _, _, kV k, rfl, rfl, R, (by rw [hz]; exact atI_nat hvr), ?_⟩
        refine ⟨kV j, kV k, keyD j, keyD k, rfl, keyD_tp j, keyD_tp k, keyD_nice j, keyD_nice k, Nat.le_of_eq (keyD_depth k), _, rfl, ?_⟩
        rw [eqv_key]
        have hs : met1 (.val j) k e' = if j = k then some e' else none := rfl
        by_cases c : j = k
        · rw [decide_eq_true c]
          rw [hs, if_pos c] at step
          refine iteF ?_
          refine ⟨.ref u, rfl, .int (0 + (i : Int)), rfl, u, _, _, .ref p, rfl, rfl, U, (by rw [hz]; exact atI_nat hy), p, r0, 0, _, rfl, rfl, SqT.of ep, e0, rfl, _, rfl, ?_⟩
          rw [show tName (.val j) = ("value" : Str) from rfl]
          exact no_if (sne (show ("value" : Str) ≠ "variable" by decide +kernel)) ⟨⟨_, rfl⟩, sm, kv', e', eD', step, en', by omega⟩
        · rw [decide_eq_false c]
          refine iteT ?_
          exact qn (bad (by rw [hs, if_neg c])) H' sm
      | var x =>
        rw [show tName (.var x) = ("variable" : Str) from rfl, decide_eq_false (sne (show ("variable" : Str) ≠ "value" by decide +kernel))]
        refine iteF (iteF ?_)
        refine ⟨.ref u, rfl, .int (0 + (i : Int)), rfl, u, _, _, .ref p, rfl, rfl, U, (by rw [hz]; exact atI_nat hy), p, r0, 0, _, rfl, rfl, SqT.of ep, e0, rfl, _, rfl, ?_⟩
        rw [show tName (.var x) = ("variable" : Str) from rfl]
        refine yes_if ?_
        have hs : met1 (.var x) k e' = match look e' x with | some u => if u = k then some e' else none | none => some (e' ++ [(x, k)]) := rfl
        refine ⟨.ref u, rfl, .int (0 + (i : Int)), rfl, u, _, _, .ref p, rfl, rfl, U, (by rw [hz]; exact atI_nat hy), p, r0, 1, _, rfl, rfl, SqT.of ep, e1 x rfl, .ref D, rfl, D, (look e' x).map kV, rfl, .inl ⟨kv', Sum.inr x, .inl eD', rfl, (en'.at_ x).symm⟩, _, rfl, ?_⟩
        rw [Option.isSome_map]
        have lput := length_putK kv' (Sum.inr x) (kV k)
        cases hlk : look e' x with
        | none =>
          rw [hlk] at hs
          rw [hs] at step
          refine iteF (iteF ?_)
          refine ⟨.ref r, rfl, .int (0 + (i : Int)), rfl, r, _, _, kV k, rfl, rfl, R, (by rw [hz]; exact atI_nat hvr), .ref D, rfl, .ref u, rfl, .int (0 + (i : Int)), rfl, u, _, _, .ref p, rfl, rfl, U, (by rw [hz]; exact atI_nat hy), p, r0, 1, _, rfl, rfl, SqT.of ep, e1 x rfl, D, _, rfl, .inl ⟨kv', Sum.inr x, eD', rfl, small1000 (by omega), rfl⟩, ?_⟩
          exact ⟨⟨_, rfl⟩, same_put sm nD, _, _, upd_same, step, en'.put hlk, by omega⟩
        | some v =>
          rw [hlk] at hs
          have hs : met1 (.var x) k e' = if v = k then some e' else none := hs
          refine iteT ?_
          refine ⟨.ref D, rfl, .ref u, rfl, .int (0 + (i : Int)), rfl, u, _, _, .ref p, rfl, rfl, U, (by rw [hz]; exact atI_nat hy), p, r0, 1, _, rfl, rfl, SqT.of ep, e1 x rfl, D, kV v, rfl, .inl ⟨kv', Sum.inr x, .inl eD', rfl, (by rw [en'.at_ x, hlk]; rfl)⟩, .ref r, rfl, .int (0 + (i : Int)), rfl, r, _, _, kV k, rfl, rfl, R, (by rw [hz]; exact atI_nat hvr), ?_⟩
          refine ⟨kV v, kV k, keyD v, keyD k, rfl, keyD_tp v, keyD_tp k, keyD_nice v, keyD_nice k, Nat.le_of_eq (keyD_depth k), _, rfl, ?_⟩
          rw [eqv_key]
          by_cases c : v = k
          · rw [decide_eq_true c]
            rw [hs, if_pos c] at step
            refine iteF ?_
            refine ⟨.ref r, rfl, .int (0 + (i : Int)), rfl, r, _, _, kV k, rfl, rfl, R, (by rw [hz]; exact atI_nat hvr), .ref D, rfl, .ref u, rfl, .int (0 + (i : Int)), rfl, u, _, _, .ref p, rfl, rfl, U, (by rw [hz]; exact atI_nat hy), p, r0, 1, _, rfl, rfl, SqT.of ep, e1 x rfl, D, _, rfl, .inl ⟨kv', Sum.inr x, eD', rfl, small1000 (by omega), rfl⟩, ?_⟩
            exact ⟨⟨_, rfl⟩, same_put sm nD, _, _, upd_same, step, en'.put_same (by rw [hlk, c]), by omega⟩
          · rw [decide_eq_false c]
            refine iteT ?_
            exact qn (bad (by rw [hs, if_neg c])) H' sm
    · obtain ⟨⟨x4, rfl⟩, sm, kv', e', eD', em, en', lk⟩ := hP
      rw [Int.toNat_natCast, lx] at em lk
      rw [List.take_length, ← lr, List.take_length] at em
      refine ⟨.ref D, rfl, qs e' em D kv' H' sm nD eD' en' lk⟩
end
end KC

namespace KC
open PySem PySem.Spec PyProof.Rows L2 KA
/-- d.update(e): a dict with another one -/
def tDUpd (td te : TE) : TE := fun σ H Q => td σ H fun x H1 => ∃ a, x = .ref a ∧ IsD H1 a ∧ te σ H1 fun y H2 => ∃ b kvs more, y = .ref b ∧ H2 a = some (.dK kvs) ∧ Rd H2 b (.dK more) ∧ a ≠ b ∧ kvs.length + more.length ≤ sizeLine ∧ Q .non (upd H2 a (.dK (mergeK kvs more)))
section
variable {X : Cx} {o e : Expr} {td te : TE} {apos cpos : Pos}
theorem pe_dupdate (ho : PE X o td) (he : PE X e te) (m : M1 X o "update" apos e cpos) : PE X (.Call (.Attribute o "update" apos) [e] [] cpos) (tDUpd td te) := by
  refine ⟨fun pins s σ H Q I h => ?_⟩
  refine wpAny_Call_method m.base m.few m.line PySem.F.plainAttrs_dict PySem.F.slot_dict_update PySem.F.type_dict_update (thn (ho.run pins s σ H _ I h) fun u s1 ⟨x, H1, I1, rx, a, ex, d, q1⟩ => ?_)
  subst ex
  obtain rfl : u = Value.ref a := rx
  obtain ⟨t1, t2, _⟩ := isD_at I1 d
  refine ⟨t1, t2, ?_⟩
  rw [m.trees]
  refine Calls.callWith_builtin rfl (Calls.evalArgs_plain (Calls.spliced_cons (thn (he.run pins s1 σ H1 _ I1 q1) fun iv s2 ⟨y, H2, I2, ry, b, kvs, more, ey, ea, rb, nab, hl, q⟩ => Calls.spliced_nil ?_)))
  subst ey
  obtain rfl : iv = Value.ref b := ry
  obtain ⟨z1, hd1, vs, rel1, dd1⟩ := dk_of I2.hok ea
  obtain ⟨z2, hd2, rs, rel2, dd2⟩ := dk_rd I2.hok rb
  refine call_meetsIn PySem.F.slot_dict_update dd1.typeIs PySem.F.entry_dict_update (PySem.F.args_dict_update_2 _ _) (meets_dict_update (mixKind X.prog X.w) a b nab hd2)
    ⟨vs, rs, dd1, dd2, (by rw [← rel1.length, ← rel2.length]; exact hl), fun h' dd' _ hs => ?_⟩
  have hex : ∃ q, h'.get? a = some q := let ⟨q, _, _, hq, _⟩ := dd'; ⟨q, hq⟩
  have hlen := length_mergeK more kvs
  exact ⟨.non, _, d_write I2 (by rw [ea]; exact True.intro) hs hex (dk_new (by omega) hd1 (rel2.merge rel1) dd'), rfl, q⟩
end
section
variable {P : Program} {w : World} {K : PySem.W.Frag} {mg : Str → Option Value} {base : Heap}
/-! ### _law_compared -/
abbrev sLc : Stmt := topS 32
abbrev nLc : List Str := ["operator", "first", "second", "left", "right", "tests"]
theorem scLc : FnScope nLc ["operator", "first", "second"] (defScope sLc) := ⟨rfl, rfl, rfl, by decide +kernel, rfl, by decide +kernel, by decide +kernel⟩
def spLc : Sp := fun vs H Q _ => ∃ (op : Str) (a b : Key), vs = [.str op, kV a, kV b] ∧ op ∈ ops6 ∧ ∀ H', Same H H' → Q (.bl (cmpK op a b)) H'
theorem ok_lc {f : Addr} {fd : FuncData} (F : Fun K "_law_compared" "_law_compared" sLc f fd) (DR : dRk P w K mg base) : FnOk P w K mg base CX0 2 f fd ["operator", "first", "second"] spLc := by
  refine F.ok scLc (fun vs H Q E h => ?_) (fun cdv A outer s H vs Q E hr h => ?_)
  · obtain ⟨_, _, _, rfl, _⟩ := h
    rfl
  · obtain ⟨op, a, b, rfl, ho, q⟩ := h
    have hu := hr.units
    have hu1 := hu_of hr
    refine ⟨_, pss_cons (ps_par (i := 3) (j := 4) (by rfl) scLc.nd rfl rfl (by decide) rfl rfl (pa_cons (pe_def DR hr (by rfl) (pa_cons (pv 1) pa_nil)) (pa_cons (pe_def DR hr (by rfl) (pa_cons (pv 2) pa_nil)) pa_nil)) (by rfl))
      (pss_cons (ps_set (i := 5) scLc.nd rfl (.inl rfl) (pe_disp (pps_cons pe_str (pe_cmpR (op_eqP hu) (pv 3) (pv 4) (nomark _)) (pps_cons pe_str (pe_cmpR (op_neP hu) (pv 3) (pv 4) (nomark _)) (pps_cons pe_str (pe_cmpR (op_ltP hu) (pv 3) (pv 4) (nomark _)) (pps_cons pe_str (pe_cmpR (op_leP hu) (pv 3) (pv 4) (nomark _)) pps_nil)))) (by rfl) (by rfl) (fun z => by cases z) (by decide)))
      (pss_cons (ps_expr (pe_dupdate (pv 5) (pe_disp (pps_cons pe_str (pe_cmpR (op_ltP hu) (pv 4) (pv 3) (nomark _)) (pps_cons pe_str (pe_cmpR (op_leP hu) (pv 4) (pv 3) (nomark _)) pps_nil)) (by rfl) (by rfl) (fun z => by cases z) (by decide)) ⟨rfl, rfl, rfl, rfl⟩))
      (pss_one (ps_ret (pe_dget hu1 (pv 5) (pv 0) (fun _ _ => rfl)))))), ?_⟩
    refine ⟨kV a, rfl, a, rfl, fun p H1 s1 t1 => ?_⟩
    refine ⟨kV b, rfl, b, rfl, fun r H2 s2 t2 => ?_⟩
    refine ⟨_, _, rfl, ?_⟩
    have t1 := t1.mono (Tk.of s2)
    have sA := s1.trans s2
    clear s1 s2
    intro D nD
    have u1 := t1.mono (Tk.new (o := .dK []) nD)
    have u2 := t2.mono (Tk.new (o := .dK []) nD)
    have sB := sA.trans (same_new (o := .dK []) nD)
    have eD : (upd H2 D (.dK [])) D = some (.dK []) := upd_same
    revert sB eD u1 u2
    generalize (upd H2 D (.dK [])) = H3
    intro u1 u2 sB eD
    refine ⟨.ref p, rfl, .ref r, rfl, _, _, u1, u2, vk_small a, ?_⟩
    refine ⟨.ref p, rfl, .ref r, rfl, _, _, u1, u2, vk_small a, ?_⟩
    refine ⟨.ref p, rfl, .ref r, rfl, _, _, _, u1, u2, vk_small a, vk_lt a b, ?_⟩
    refine ⟨.ref p, rfl, .ref r, rfl, _, _, _, u1, u2, vk_small a, vk_le a b, ?_⟩
    refine ⟨eD, [(.inr "=", .bl (PyData.eqv (vkK a) (vkK b))), (.inr "<>", .bl (!PyData.eqv (vkK a) (vkK b))), (.inr "<", .bl (ltK a b)), (.inr "<=", .bl (ltK a b || decide (a = b)))], rfl, (by show 4 ≤ 15; decide), ?_⟩
    have tk4 : Tk H3 (upd H3 D (.dK (mergeK [] [(.inr "=", .bl (PyData.eqv (vkK a) (vkK b))), (.inr "<>", .bl (!PyData.eqv (vkK a) (vkK b))), (.inr "<", .bl (ltK a b)), (.inr "<=", .bl (ltK a b || decide (a = b)))]))) := fun c zs hc => by
      rw [upd_ne (ne_of hc eD (fun z => by cases z))]
      exact hc
    have sC : Same H (upd H3 D (.dK (mergeK [] [(.inr "=", .bl (PyData.eqv (vkK a) (vkK b))), (.inr "<>", .bl (!PyData.eqv (vkK a) (vkK b))), (.inr "<", .bl (ltK a b)), (.inr "<=", .bl (ltK a b || decide (a = b)))]))) := same_put sB (sA.free nD)
    have eD4 : (upd H3 D (.dK (mergeK [] [(.inr "=", .bl (PyData.eqv (vkK a) (vkK b))), (.inr "<>", .bl (!PyData.eqv (vkK a) (vkK b))), (.inr "<", .bl (ltK a b)), (.inr "<=", .bl (ltK a b || decide (a = b)))]))) D = some (.dK (mergeK [] [(.inr "=", .bl (PyData.eqv (vkK a) (vkK b))), (.inr "<>", .bl (!PyData.eqv (vkK a) (vkK b))), (.inr "<", .bl (ltK a b)), (.inr "<=", .bl (ltK a b || decide (a = b)))])) := upd_same
    have u1 := u1.mono tk4
    have u2 := u2.mono tk4
    revert sC eD4 u1 u2
    clear tk4
    generalize (upd H3 D (.dK (mergeK [] [(.inr "=", .bl (PyData.eqv (vkK a) (vkK b))), (.inr "<>", .bl (!PyData.eqv (vkK a) (vkK b))), (.inr "<", .bl (ltK a b)), (.inr "<=", .bl (ltK a b || decide (a = b)))]))) = H4
    rw [vk_eq]
    intro sC eD4 u1 u2
    refine ⟨.ref D, rfl, D, rfl, .inl ⟨_, .inl eD4⟩, ?_⟩
    intro D2 nD2
    have w1 := u1.mono (Tk.new (o := .dK []) nD2)
    have w2 := u2.mono (Tk.new (o := .dK []) nD2)
    have eD5 : (upd H4 D2 (.dK [])) D = _ := same_new (o := .dK []) nD2 _ _ eD4
    have eD2 : (upd H4 D2 (.dK [])) D2 = some (.dK []) := upd_same
    have sD := sC.trans (same_new (o := .dK []) nD2)
    have nDD : D ≠ D2 := ne_of_none eD4 nD2
    have nD2H : H D2 = none := sC.free nD2
    revert w1 w2 eD5 eD2 sD
    generalize (upd H4 D2 (.dK [])) = H5
    intro w1 w2 eD5 eD2 sD
    refine ⟨.ref r, rfl, .ref p, rfl, _, _, _, w2, w1, vk_small b, vk_lt b a, ?_⟩
    refine ⟨.ref r, rfl, .ref p, rfl, _, _, _, w2, w1, vk_small b, vk_le b a, ?_⟩
    refine ⟨eD2, [(.inr ">", .bl (ltK b a)), (.inr ">=", .bl (ltK b a || decide (b = a)))], rfl, (by show 2 ≤ 15; decide), ?_⟩
    refine ⟨D2, _, _, rfl, by rw [upd_ne nDD]; exact eD5, .inl upd_same, nDD, Nat.le_of_lt (small1000 (by show 6 ≤ 1000; decide)), ?_⟩
    have sE : Same H (upd (upd H5 D2 (.dK (mergeK [] [(.inr ">", .bl (ltK b a)), (.inr ">=", .bl (ltK b a || decide (b = a)))]))) D (.dK (mergeK (mergeK [] [(.inr "=", .bl (decide (a = b))), (.inr "<>", .bl (!decide (a = b))), (.inr "<", .bl (ltK a b)), (.inr "<=", .bl (ltK a b || decide (a = b)))]) (mergeK [] [(.inr ">", .bl (ltK b a)), (.inr ">=", .bl (ltK b a || decide (b = a)))])))) := same_put (same_put sD nD2H) (sA.free nD)
    refine ⟨.ref D, rfl, .str op, rfl, D, .bl (cmpK op a b), rfl, .inl ⟨_, Sum.inr op, .inl upd_same, rfl, ?_⟩, q _ sE⟩
    have dc : decide (b = a) = decide (a = b) := by
      by_cases c : a = b
      · rw [decide_eq_true c, decide_eq_true c.symm]
      · rw [decide_eq_false c, decide_eq_false (fun z => c z.symm)]
    rcases List.mem_cons.mp ho with rfl | ho
    · rfl
    rcases List.mem_cons.mp ho with rfl | ho
    · rfl
    rcases List.mem_cons.mp ho with rfl | ho
    · rfl
    rcases List.mem_cons.mp ho with rfl | ho
    · rfl
    rcases List.mem_cons.mp ho with rfl | ho
    · rfl
    rcases List.mem_cons.mp ho with rfl | ho
    · rw [dc]
      rfl
    · cases ho
end
end KC

namespace KC
open PySem PySem.Spec PyProof.Rows L2 KA
/-- == of plain data over lists and tuples, the second not deep -/
def rEqL (K : PySem.W.Frag) : R2 := fun x y H Q => ∃ d e, Dp K H x d ∧ Dp K H y e ∧ d.plain = true ∧ e.plain = true ∧ small e ∧ Q (.bl (PyData.eqv d e)) H
theorem op_eqL {X : Cx} (hu : X.A.units + 64 < cLine) : OpR X (compareOp .Eq) (rEqL X.K) := by
  intro pins s σ H x y v u Q I rx ry h
  obtain ⟨d, e, hd, he, pd, pe, se, q⟩ := h
  obtain ⟨as, r1⟩ := Dp.reads I d x v hd rx
  obtain ⟨bs, r2⟩ := Dp.reads I e y u he ry
  refine SeqAt.eq_plain r1 r2 pd pe ?_ ⟨.bl _, H, I, rfl, q⟩
  have h1 : e.depth ≤ 64 := se
  have h2 : min d.depth e.depth ≤ e.depth := Nat.min_le_right _ _
  omega
theorem eqv_nil (rs : List PyData) : PyData.eqv (.list rs) (.list []) = rs.isEmpty := by
  cases rs with
  | nil => rfl
  | cons a r => rfl
theorem tps_keep {H : Hp} {α : Type} (g : α → PyData) (f : α → Bool) : ∀ {rows : List α} {rs : List V}, Tps H rs (rows.map g) → Tps H (((rs.zip (rows.map f)).filter (·.2)).map (·.1)) ((rows.filter f).map g)
  | [], _, h => by
    cases h
    exact .nil
  | a :: rows, _, h => by
    cases h with
    | @cons v vs _ _ h1 h2 =>
      have ih := tps_keep g f h2
      rw [List.map_cons, List.zip_cons_cons]
      cases c : f a with
      | true =>
        rw [List.filter_cons_of_pos rfl, List.filter_cons_of_pos c, List.map_cons, List.map_cons]
        exact .cons h1 ih
      | false =>
        rw [List.filter_cons_of_neg Bool.false_ne_true, List.filter_cons_of_neg (by rw [c]; exact Bool.false_ne_true)]
        exact ih
/-! ### the values behind a literal that is no fact -/
def goE (R : Rws) (l : KC.L) (e : Env1) : List Env1 :=
  match l with
  | .fact _ _ => []
  | .notl r ts => if (rowsOf R r).all (fun row => (metE ts row e).isNone) then [e] else []
  | .cmp op a b => match worthE a e, worthE b e with
    | some x, some y => if cmpK op x y then [e] else []
    | _, _ => []
  | .isl x op a b => match worthE a e, worthE b e with
    | some u, some v => match isK op u v with
      | some z => (bindE e x z).toList
      | none => []
    | _, _ => []
  | .cnt x r ts => (bindE e x (.inl ((((rowsOf R r).filter fun row => (metE ts row e).isSome).length : Nat) : Int))).toList
theorem goOn_goE (R0 R : Rws) (l : KC.L) (w : Way) (h : ∀ r ts, l ≠ .fact r ts) : goOn R0 R l w = (goE R l w.1).map fun e => (e, w.2) := by
  cases l with
  | fact r ts => exact absurd rfl (h r ts)
  | notl r ts =>
    show (if _ then _ else _) = List.map _ (if _ then _ else _)
    cases (rowsOf R r).all fun row => (metE ts row w.1).isNone <;> rfl
  | cmp op a b =>
    unfold goOn goE
    dsimp only
    cases worthE a w.1 with
    | none => rfl
    | some x => cases worthE b w.1 with
      | none => rfl
      | some y =>
        dsimp only
        cases cmpK op x y <;> rfl
  | isl x op a b =>
    unfold goOn goE
    dsimp only
    cases worthE a w.1 with
    | none => rfl
    | some u => cases worthE b w.1 with
      | none => rfl
      | some v =>
        dsimp only
        cases isK op u v <;> rfl
  | cnt x r ts => rfl
def LitG (R : Rws) (l : KC.L) (e : Env1) : Prop :=
  match l with
  | .fact _ _ => False
  | .notl r ts => InR R r ts
  | .cmp op a b => op ∈ ops6 ∧ ∃ x y, worthE a e = some x ∧ worthE b e = some y
  | .isl _ op a b => op ∈ ops3 ∧ ∃ x y, worthE a e = some x ∧ worthE b e = some y ∧ ∀ i j, x = Sum.inl i → y = Sum.inl j → CMulW i j
  | .cnt _ r ts => InR R r ts
inductive EnvsL (H : Hp) (n : Nat) : List V → List Env1 → Prop
  | nil : EnvsL H n [] []
  | cons {d : Addr} {kvs : List (Key × V)} {e : Env1} {ds : List V} {es : List Env1} : H d = some (.dK kvs) → EnvOf kvs e → kvs.length ≤ n → EnvsL H n ds es → EnvsL H n (.ref d :: ds) (e :: es)
theorem EnvsL.keep {H H' : Hp} {n : Nat} {ds : List V} {es : List Env1} (h : EnvsL H n ds es) (k : Keep H H') : EnvsL H' n ds es := by
  induction h with
  | nil => exact .nil
  | cons a b c _ ih => exact .cons (k _ _ a (fun _ z => by cases z)) b c ih
theorem EnvsL.length {H : Hp} {n : Nat} {ds : List V} {es : List Env1} (h : EnvsL H n ds es) : ds.length = es.length := by
  induction h with
  | nil => rfl
  | cons _ _ _ _ ih => rw [List.length_cons, List.length_cons, ih]
theorem EnvsL.get {H : Hp} {n : Nat} : ∀ {ds : List V} {es : List Env1} {i : Nat} {v : V}, EnvsL H n ds es → ds[i]? = some v → ∃ d kvs e, v = .ref d ∧ es[i]? = some e ∧ H d = some (.dK kvs) ∧ EnvOf kvs e ∧ kvs.length ≤ n
  | _, _, _, _, .nil, e => by simp at e
  | _, _, 0, _, .cons a b c _, e => by
    cases e
    exact ⟨_, _, _, rfl, rfl, a, b, c⟩
  | _, _, i + 1, _, .cons _ _ _ r, e => EnvsL.get (i := i) r e
theorem isNone_all {ts : List T} {e : Env1} (rows : List (List Key)) : (rows.all fun row => (metE ts row e).isNone) = ((rows.filter fun row => (metE ts row e).isSome).map rowD).isEmpty := by
  induction rows with
  | nil => rfl
  | cons r rows ih =>
    rw [List.all_cons]
    cases c : metE ts r e with
    | none =>
      rw [List.filter_cons_of_neg (by rw [c]; exact Bool.false_ne_true), ← ih]
      rfl
    | some x =>
      rw [List.filter_cons_of_pos (by rw [c]; rfl)]
      rfl
section
variable {P : Program} {w : World} {K : PySem.W.Frag} {mg : Str → Option Value} {base : Heap}
abbrev dLc (P : Program) (w : World) (K : PySem.W.Frag) (mg : Str → Option Value) (base : Heap) : Prop := Def P w K mg base "_law_compared" 2 ["operator", "first", "second"] spLc
abbrev dLm (P : Program) (w : World) (K : PySem.W.Frag) (mg : Str → Option Value) (base : Heap) : Prop := Def P w K mg base "_law_met" 2 ["terms", "row", "way"] spLm
abbrev sGo : Stmt := topS 33
abbrev nGo : List Str := ["literal", "lookups", "way", "form", "first", "second", "result", "more", "row"]
theorem scGo : FnScope nGo ["literal", "lookups", "way"] (defScope sGo) := ⟨rfl, rfl, rfl, by decide +kernel, rfl, by decide +kernel, by decide +kernel⟩
def spGo : Sp := fun vs H Q _ => ∃ (v : V) (lk a : Addr) (l : KC.L) (R : Rws) (kvs : List (Key × V)) (e : Env1), vs = [v, .ref lk, .ref a] ∧ Tp H v (litD l) ∧ LkAt H lk R ∧ H a = some (.dK kvs) ∧ EnvOf kvs e ∧ kvs.length ≤ 600 ∧ LitG R l e ∧
  ∀ p ds H', Same H H' → H' p = some (.lst ds) → EnvsL H' (kvs.length + 1) ds (goE R l e) → Q (.ref p) H'
theorem ok_go {f : Addr} {fd : FuncData} (F : Fun K "_law_goes_on" "_law_goes_on" sGo f fd) (B : Bt mg) (hdi : mg "dict" = none) (DC : dLc P w K mg base) (DO : dOf P w K mg base) (DM : dLm P w K mg base) (DS : dSM0 P w K mg base) : FnOk P w K mg base CX0 3 f fd ["literal", "lookups", "way"] spGo := by
  refine F.ok scGo (fun vs H Q E h => ?_) (fun cdv A outer s H vs Q E hr h => ?_)
  · obtain ⟨_, _, _, _, _, _, _, rfl, _⟩ := h
    rfl
  · obtain ⟨v, lk, a, l, R, kvs, e, rfl, tv, lka, ea, en, lkv, lg, q⟩ := h
    have hu := hr.units
    have hu1 := hu_of hr
    have r1 : Room 1 _ := hr.mono (by decide)
    refine ⟨_, pss_cons (ps_set (i := 3) scGo.nd rfl (.inl rfl) (pe_ix ix_tup (pv 0) pe_int (fun _ _ => rfl)))
      (pss_cons (ps_if (pt_cmpR op_eq (pv 3) pe_str (nomark _)) (pss_one (ps_ret (pe_op op_rep (pe_lst (pa_cons (pv 2) pa_nil)) (pe_callTy call_int1 (by rfl) B.int (by decide +kernel) (pa_cons (pe_def DC hr (by rfl) (pa_cons (pe_ix ix_tup (pv 0) pe_int (fun _ _ => rfl)) (pa_cons (pe_def DO r1 (by rfl) (pa_cons (pe_ix ix_tup (pv 0) pe_int (fun _ _ => rfl)) (pa_cons (pv 2) pa_nil))) (pa_cons (pe_def DO r1 (by rfl) (pa_cons (pe_ix ix_tup (pv 0) pe_int (fun _ _ => rfl)) (pa_cons (pv 2) pa_nil))) pa_nil)))) pa_nil))))) pss_nil)
      (pss_cons (ps_if (pt_cmpR op_eq (pv 3) pe_str (nomark _)) (pss_one (ps_ret (pe_op op_rep (pe_lst (pa_cons (pv 2) pa_nil)) (pe_callTy call_int1 (by rfl) B.int (by decide +kernel) (pa_cons (pe_cmpR (op_eqL hu)
        (pe_lc (own := [("row", 8)]) (g := gName 8) (tt := tTest (tOp rNotN (tCall spLm [] E0 (tCons (tOp (rIxT K) (tVar 0) (tC (.int 2))) (tCons (tVar 8) (tCons (tVar 2) tNil)))) (tC .non))) (te := tVar 8) rfl scGo.nd (pi_list (pe_dget hu1 (pv 1) (pe_ix ix_tup (pv 0) pe_int (fun _ _ => rfl)) (fun _ _ => rfl))) (blkOk_by (own := [("row", 8)]) (N := nGo) (sc := defScope sGo) (by decide +kernel))
          (fun _ _ _ _ _ => pg_name (i := 8) scGo.nd rfl (Or.inl rfl)) (fun _ _ _ _ _ => pts_one (pt_cmpR op_notN1 (pe_def DM hr (by rfl) (pa_cons (pe_ix ix_tup (pv 0) pe_int (fun _ _ => rfl)) (pa_cons (pv 8) (pa_cons (pv 2) pa_nil)))) pe_non (nomark _))) (fun _ _ _ _ _ => pv 8))
        (pe_lst pa_nil) (nomark _)) pa_nil))))) pss_nil)
      (C8.pss_cut (ps_if (pt_cmpR op_eq (pv 3) pe_str (nomark _))
        (pss_cons (ps_par (i := 4) (j := 5) (by rfl) scGo.nd rfl rfl (by decide) rfl rfl (pa_cons (pe_def DO r1 (by rfl) (pa_cons (pe_ix ix_tup (pv 0) pe_int (fun _ _ => rfl)) (pa_cons (pv 2) pa_nil))) (pa_cons (pe_def DO r1 (by rfl) (pa_cons (pe_ix ix_tup (pv 0) pe_int (fun _ _ => rfl)) (pa_cons (pv 2) pa_nil))) pa_nil)) (by rfl))
        (pss_cons (ps_if (PW.pt (pw_or (pt_val (pe_callB call_isi (by rfl) B.isi (by decide +kernel) (pa_cons (pv 4) (pa_cons (pe_bltn (v := .ty "str") (u := .type "str") (by rfl) B.str (by decide +kernel) rfl) pa_nil))))
            (pw_or1 (pt_val (pe_callB call_isi (by rfl) B.isi (by decide +kernel) (pa_cons (pv 5) (pa_cons (pe_bltn (v := .ty "str") (u := .type "str") (by rfl) B.str (by decide +kernel) rfl) pa_nil))))))) (pss_one (ps_ret (pe_lst pa_nil))) pss_nil)
        (pss_one (ps_set (i := 6) scGo.nd rfl (.inl rfl) (pe_dget hu1 (pe_disp (pps_cons pe_str (pe_op op_add (pv 4) (pv 5)) (pps_cons pe_str (pe_op op_sub (pv 4) (pv 5)) (pps_cons pe_str (pe_op op_mulW (pv 4) (pv 5)) pps_nil))) (by rfl) (by rfl) (fun z => by cases z) (by decide)) (pe_ix ix_tup (pv 0) pe_int (fun _ _ => rfl)) (fun _ _ => rfl))))))
        (pss_one (ps_set (i := 6) scGo.nd rfl (.inl rfl) (pe_callB call_len_seq (by rfl) B.len PySem.boot_len (pa_cons
          (pe_lc (own := [("row", 8)]) (g := gName 8) (tt := tTest (tOp rNotN (tCall spLm [] E0 (tCons (tOp (rIxT K) (tVar 0) (tC (.int 3))) (tCons (tVar 8) (tCons (tVar 2) tNil)))) (tC .non))) (te := tVar 8) rfl scGo.nd (pi_list (pe_dget hu1 (pv 1) (pe_ix ix_tup (pv 0) pe_int (fun _ _ => rfl)) (fun _ _ => rfl))) (blkOk_by (own := [("row", 8)]) (N := nGo) (sc := defScope sGo) (by decide +kernel))
            (fun _ _ _ _ _ => pg_name (i := 8) scGo.nd rfl (Or.inl rfl)) (fun _ _ _ _ _ => pts_one (pt_cmpR op_notN1 (pe_def DM hr (by rfl) (pa_cons (pe_ix ix_tup (pv 0) pe_int (fun _ _ => rfl)) (pa_cons (pv 8) (pa_cons (pv 2) pa_nil)))) pe_non (nomark _))) (fun _ _ _ _ _ => pv 8))
          pa_nil)))))
      (pss_cons (ps_if (PW.pt (pw_and (pt_cmp (pc_din hu1 (pe_ix ix_tup (pv 0) pe_int (fun _ _ => rfl)) (pv 2))) (pw_and1 (pt_not (pt_val (pe_def DS r1 (by rfl) (pa_cons (pe_dget hu1 (pv 2) (pe_ix ix_tup (pv 0) pe_int (fun _ _ => rfl)) (fun _ _ => rfl)) (pa_cons (pv 6) pa_nil)))))))) (pss_one (ps_ret (pe_lst pa_nil))) pss_nil)
      (pss_cons (ps_set (i := 7) scGo.nd rfl (.inl rfl) (pe_callTy call_dictD (by rfl) hdi (by decide +kernel) (pa_cons (pv 2) pa_nil)))
      (pss_cons (ps_dput hu1 (pv 7) (pe_ix ix_tup (pv 0) pe_int (fun _ _ => rfl)) (pv 6) rfl)
      (pss_one (ps_ret (pe_lst (pa_cons (pv 7) pa_nil)))))))))), ?_⟩
    have sne : ∀ {x y : Str}, x ≠ y → V.str x ≠ V.str y := fun n z => n (by injection z)
    cases l with
    | fact r ts => exact lg.elim
    | cmp op a0 b0 =>
      obtain ⟨hop, x, y, hx, hy⟩ := (show op ∈ ops6 ∧ ∃ x y, worthE a0 e = some x ∧ worthE b0 e = some y from lg)
      obtain ⟨p, va, vb, rfl, ep, ta, tb⟩ := litC_inv tv
      have eg : goE R (.cmp op a0 b0) e = if cmpK op x y then [e] else [] := by
        unfold goE
        dsimp only
        rw [hx, hy]
      refine ⟨.ref p, rfl, p, _, 0, .str "compare", rfl, rfl, SqT.of ep, rfl, ?_⟩
      refine ⟨.str "compare", rfl, rfl, _, rfl, yes_if ?_⟩
      refine ⟨.ref a, rfl, (by show 1 ≤ sizeLine; decide), fun w1 nw => ?_⟩
      have s1 : Same H (upd H w1 (.lst [.ref a])) := same_new nw
      have ew : (upd H w1 (.lst [.ref a])) w1 = some (.lst [.ref a]) := upd_same
      revert s1 ew
      generalize upd H w1 (.lst [.ref a]) = H1
      intro s1 ew
      refine ⟨.ref p, rfl, p, _, 1, .str op, rfl, rfl, SqT.of (s1 _ _ ep), rfl, ?_⟩
      refine ⟨.ref p, rfl, p, _, 2, va, rfl, rfl, SqT.of (s1 _ _ ep), rfl, .ref a, rfl, va, a, a0, kvs, e, x, rfl, ta.mono (Tk.of s1), .inl (s1 _ _ ea), en, hx, ?_⟩
      refine ⟨.ref p, rfl, p, _, 3, vb, rfl, rfl, SqT.of (s1 _ _ ep), rfl, .ref a, rfl, vb, a, b0, kvs, e, y, rfl, tb.mono (Tk.of s1), .inl (s1 _ _ ea), en, hy, ?_⟩
      refine ⟨op, x, y, rfl, hop, fun H2 s2 => .inr ⟨_, rfl, ?_⟩⟩
      have s12 := s1.trans s2
      cases hc : cmpK op x y with
      | true =>
        refine ⟨w1, 1, [.ref a], rfl, rfl, s2 _ _ ew, by decide, by decide, (by show 1 * 1 ≤ sizeLine; decide), fun p2 n2 => q p2 [.ref a] _ (s12.trans (same_new n2)) upd_same ?_⟩
        rw [eg, hc, if_pos rfl]
        exact .cons (same_new n2 _ _ (s12 _ _ ea)) en (by omega) .nil
      | false =>
        refine ⟨w1, 0, [.ref a], rfl, rfl, s2 _ _ ew, by decide, by decide, (by show 1 * 0 ≤ sizeLine; decide), fun p2 n2 => q p2 [] _ (s12.trans (same_new n2)) upd_same ?_⟩
        rw [eg, hc, if_neg Bool.false_ne_true]
        exact .nil
    | notl r ts =>
      obtain ⟨i1, i2, i3, i4⟩ := (show InR R r ts from lg)
      obtain ⟨p, u, xs, rfl, ep, eu, tx⟩ := lit3_inv tv
      obtain ⟨kvl, lr, rs, rdl, hv, er, tr⟩ := lka.rows i1
      have lrs : rs.length = (rowsOf R r).length := by rw [tr.length, List.length_map]
      refine ⟨.ref p, rfl, p, _, 0, .str "not", rfl, rfl, SqT.of ep, rfl, ?_⟩
      refine ⟨.str "not", rfl, rfl, _, rfl, no_if (sne (show ("not" : Str) ≠ "compare" by decide +kernel)) ?_⟩
      refine ⟨.str "not", rfl, rfl, _, rfl, yes_if ?_⟩
      refine ⟨.ref a, rfl, (by show 1 ≤ sizeLine; decide), fun w1 nw => ?_⟩
      have s1 : Same H (upd H w1 (.lst [.ref a])) := same_new nw
      have ew : (upd H w1 (.lst [.ref a])) w1 = some (.lst [.ref a]) := upd_same
      revert s1 ew
      generalize upd H w1 (.lst [.ref a]) = H1
      intro s1 ew
      refine ⟨.ref lk, rfl, .ref p, rfl, p, _, 1, .str r, rfl, rfl, SqT.of (s1 _ _ ep), rfl, lk, .ref lr, rfl, .inl ⟨kvl, Sum.inr r, Rd.same rdl s1, rfl, hv.symm⟩, ?_⟩
      refine ⟨lr, rfl, ⟨rs, SqL.of (s1 _ _ er)⟩, fun D nD => ?_⟩
      refine lc_keep walk_list rs ((rowsOf R r).map fun row => (metE ts row e).isSome) rfl (by rw [List.length_map, lrs]) (by omega) nD (fun H2 sm => SqL.of (sm _ _ (s1 _ _ er))) (fun i y H2 H3 Q2 R2 hi sm hY qt qf => ?_) (fun H2 sm eD => ?_)
      · obtain ⟨rfl, hy⟩ := hY
        obtain ⟨row, erow, trow⟩ := row_get tr hy
        have ss := s1.trans sm
        obtain ⟨pr, rfl, epr⟩ := row_inv (trow.mono (Tk.of ss))
        have ek : ∀ b, (metE ts row e).isSome = b → ((rowsOf R r).map fun row => (metE ts row e).isSome)[i]? = some b := fun b z => by
          rw [List.getElem?_map, erow]
          exact congrArg some z
        refine ⟨rfl, .ref p, rfl, p, _, 2, .ref u, rfl, rfl, SqT.of (ss _ _ ep), rfl, .ref pr, rfl, .ref a, rfl, u, pr, a, xs, ts, row, kvs, e, rfl, ss _ _ eu, tx.mono (Tk.of ss), epr, i2 row (List.mem_of_getElem? erow), .inl (ss _ _ ea), en, by omega, fun hn H5 s5 => ⟨rfl, _, rfl, ?_⟩, fun e' he p2 kvs2 H5 s5 n2 e2 en2 l2 => ⟨rfl, _, rfl, ?_⟩⟩
        · rw [decide_eq_true rfl]
          exact iteF (qf _ s5 (ek _ (by rw [hn]; rfl)))
        · rw [decide_eq_false (fun z => nomatch z)]
          exact iteT ⟨.ref pr, rfl, qt _ _ s5 (ek _ (by rw [he]; rfl)) hy⟩
      · have tk := tps_keep rowD (fun row => (metE ts row e).isSome) (tr.mono (Tk.of (s1.trans sm)))
        refine ⟨(by show 0 ≤ sizeLine; decide), fun z0 nz => ?_⟩
        have sz : Same H2 (upd H2 z0 (.lst [])) := same_new nz
        have tk := tk.mono (Tk.of sz)
        have s12 := (s1.trans sm).trans sz
        refine ⟨.list _, .list [], .lst (SqL.of (sz _ _ eD)) tk.dp, .lst (SqL.of upd_same) .nil, tk.plain, rfl, (by show 1 ≤ 64; decide), .inr ⟨_, rfl, ?_⟩⟩
        rw [eqv_nil, ← isNone_all]
        cases hc : (rowsOf R r).all fun row => (metE ts row e).isNone with
        | true =>
          refine ⟨w1, 1, [.ref a], rfl, rfl, sz _ _ (sm _ _ ew), by decide, by decide, (by show 1 * 1 ≤ sizeLine; decide), fun p2 n2 => q p2 [.ref a] _ (s12.trans (same_new n2)) upd_same ?_⟩
          have eg : goE R (.notl r ts) e = [e] := if_pos hc
          rw [eg]
          exact .cons (same_new n2 _ _ (s12 _ _ ea)) en (by omega) .nil
        | false =>
          refine ⟨w1, 0, [.ref a], rfl, rfl, sz _ _ (sm _ _ ew), by decide, by decide, (by show 1 * 0 ≤ sizeLine; decide), fun p2 n2 => q p2 [] _ (s12.trans (same_new n2)) upd_same ?_⟩
          have eg : goE R (.notl r ts) e = [] := if_neg (by rw [hc]; exact Bool.false_ne_true)
          rw [eg]
          exact .nil
    | isl z op a0 b0 =>
      obtain ⟨hop, x, y, hx, hy, hmul⟩ := (show op ∈ ops3 ∧ ∃ x y, worthE a0 e = some x ∧ worthE b0 e = some y ∧ ∀ i j, x = Sum.inl i → y = Sum.inl j → CMulW i j from lg)
      obtain ⟨p, va, vb, rfl, ep, ta, tb⟩ := litI_inv tv
      have eg : goE R (.isl z op a0 b0) e = match isK op x y with | some z0 => (bindE e z z0).toList | none => [] := by
        unfold goE
        dsimp only
        rw [hx, hy]
      refine ⟨.ref p, rfl, p, _, 0, .str "is", rfl, rfl, SqT.of ep, rfl, ?_⟩
      refine ⟨.str "is", rfl, rfl, _, rfl, no_if (sne (show ("is" : Str) ≠ "compare" by decide +kernel)) ?_⟩
      refine ⟨.str "is", rfl, rfl, _, rfl, no_if (sne (show ("is" : Str) ≠ "not" by decide +kernel)) ?_⟩
      refine ⟨fun σ' H' => ∃ (x4 x5 x8 : Option V) (res : Key), σ' = [some (.ref p), some (.ref lk), some (.ref a), some (.str "is"), x4, x5, some (kV res), none, x8] ∧ Same H H' ∧ goE R (.isl z op a0 b0) e = (bindE e z res).toList, ?_, fun σ' H' hm => ?_⟩
      · refine ⟨.str "is", rfl, rfl, _, rfl, yes_if ?_⟩
        refine ⟨.ref p, rfl, p, _, 3, va, rfl, rfl, SqT.of ep, rfl, .ref a, rfl, va, a, a0, kvs, e, x, rfl, ta, .inl ea, en, hx, ?_⟩
        refine ⟨.ref p, rfl, p, _, 4, vb, rfl, rfl, SqT.of ep, rfl, .ref a, rfl, vb, a, b0, kvs, e, y, rfl, tb, .inl ea, en, hy, ?_⟩
        refine ⟨_, _, rfl, ?_⟩
        have nil : goE R (.isl z op a0 b0) e = [] → ∀ p2, H p2 = none → Q (.ref p2) (upd H p2 (.lst [])) := fun g p2 n2 => q p2 [] _ (same_new n2) upd_same (by rw [g]; exact .nil)
        cases x with
        | inr sx =>
          refine ⟨.str sx, rfl, .str sx, .ty "str", _, _, true, rfl, .ty "str", .base (.str sx), kit_ty (by decide +kernel), true, rfl, iteT (iteT ?_)⟩
          exact ⟨(by show 0 ≤ sizeLine; decide), nil eg⟩
        | inl i =>
          refine ⟨.int i, rfl, .int i, .ty "str", _, _, false, rfl, .ty "str", .base (.int i), kit_ty (by decide +kernel), false, rfl, iteF ?_⟩
          cases y with
          | inr sy =>
            refine ⟨.str sy, rfl, .str sy, .ty "str", _, _, true, rfl, .ty "str", .base (.str sy), kit_ty (by decide +kernel), true, rfl, iteT ?_⟩
            exact ⟨(by show 0 ≤ sizeLine; decide), nil eg⟩
          | inl j =>
            refine ⟨.int j, rfl, .int j, .ty "str", _, _, false, rfl, .ty "str", .base (.int j), kit_ty (by decide +kernel), false, rfl, iteF ?_⟩
            intro D nD
            refine ⟨.int i, rfl, .int j, rfl, i, j, rfl, rfl, ?_⟩
            refine ⟨.int i, rfl, .int j, rfl, i, j, rfl, rfl, ?_⟩
            refine ⟨.int i, rfl, .int j, rfl, i, j, rfl, rfl, hmul i j rfl rfl, ?_⟩
            refine ⟨upd_same, [(.inr "+", .int (i + j)), (.inr "-", .int (i - j)), (.inr "*", .int (i * j))], rfl, (by show 3 ≤ 15; decide), ?_⟩
            have s1 : Same H (upd (upd H D (.dK [])) D (.dK (mergeK [] [(.inr "+", .int (i + j)), (.inr "-", .int (i - j)), (.inr "*", .int (i * j))]))) := same_put (same_new nD) nD
            refine ⟨.ref p, rfl, p, _, 2, .str op, rfl, rfl, SqT.of (s1 _ _ ep), rfl, D, .int (opK op i j), rfl, .inl ⟨_, Sum.inr op, .inl upd_same, rfl, ?_⟩, ?_⟩
            · rcases List.mem_cons.mp hop with rfl | hop
              · rfl
              rcases List.mem_cons.mp hop with rfl | hop
              · rfl
              rcases List.mem_cons.mp hop with rfl | hop
              · rfl
              · cases hop
            · exact ⟨_, _, _, .inl (opK op i j), rfl, s1, eg⟩
      · obtain ⟨x4, x5, x8, res, rfl, sm, eg⟩ := hm
        have ep' := sm _ _ ep
        have ea' := sm _ _ ea
        have put : ∀ (D : Addr) (kv2 : List (Key × V)) (e2 : Env1) (HH : Hp) (p2 : Addr), Same H HH → HH D = some (.dK kv2) → EnvOf kv2 e2 → kv2.length ≤ kvs.length + 1 → goE R (.isl z op a0 b0) e = [e2] → HH p2 = none → Q (.ref p2) (upd HH p2 (.lst [.ref D])) := fun D kv2 e2 HH p2 sh eD en2 l2 eg2 n2 => by
          refine q p2 [.ref D] _ (sh.trans (same_new n2)) upd_same ?_
          rw [eg2]
          exact .cons (same_new n2 _ _ eD) en2 l2 .nil
        have lput := length_putK kvs (Sum.inr z) (kV res)
        refine ⟨.ref p, rfl, p, _, 1, .str z, rfl, rfl, SqT.of ep', rfl, .ref a, rfl, a, (look e z).map kV, rfl, .inl ⟨kvs, Sum.inr z, .inl ea', rfl, (en.at_ z).symm⟩, _, rfl, ?_⟩
        rw [Option.isSome_map]
        cases hlk : look e z with
        | none =>
          have eb : bindE e z res = some (e ++ [(z, res)]) := by
            unfold bindE
            rw [hlk]
          rw [eb] at eg
          refine iteF (iteF ?_)
          refine ⟨.ref a, rfl, a, kvs, rfl, .inl ea', fun D nD => ?_⟩
          refine ⟨kV res, rfl, .ref D, rfl, .ref p, rfl, p, _, 1, .str z, rfl, rfl, SqT.of (same_new nD _ _ ep'), rfl, D, _, rfl, .inl ⟨kvs, Sum.inr z, upd_same, rfl, small1000 (by omega), rfl⟩, ?_⟩
          refine ⟨.ref D, rfl, (by show 1 ≤ sizeLine; decide), fun p2 n2 => ?_⟩
          exact put D _ _ _ p2 (same_put (sm.trans (same_new nD)) (sm.free nD)) upd_same (en.put hlk) lput eg n2
        | some u =>
          refine iteT ?_
          refine ⟨.ref a, rfl, .ref p, rfl, p, _, 1, .str z, rfl, rfl, SqT.of ep', rfl, a, kV u, rfl, .inl ⟨kvs, Sum.inr z, .inl ea', rfl, (by rw [en.at_ z, hlk]; rfl)⟩, kV res, rfl, ?_⟩
          refine ⟨kV u, kV res, keyD u, keyD res, rfl, keyD_tp u, keyD_tp res, keyD_nice u, keyD_nice res, Nat.le_of_eq (keyD_depth res), _, rfl, ?_⟩
          rw [eqv_key]
          by_cases c : u = res
          · have eb : bindE e z res = some e := by
              unfold bindE
              rw [hlk]
              exact if_pos c
            rw [eb] at eg
            rw [decide_eq_true c]
            refine iteF ?_
            refine ⟨.ref a, rfl, a, kvs, rfl, .inl ea', fun D nD => ?_⟩
            refine ⟨kV res, rfl, .ref D, rfl, .ref p, rfl, p, _, 1, .str z, rfl, rfl, SqT.of (same_new nD _ _ ep'), rfl, D, _, rfl, .inl ⟨kvs, Sum.inr z, upd_same, rfl, small1000 (by omega), rfl⟩, ?_⟩
            refine ⟨.ref D, rfl, (by show 1 ≤ sizeLine; decide), fun p2 n2 => ?_⟩
            exact put D _ _ _ p2 (same_put (sm.trans (same_new nD)) (sm.free nD)) upd_same (en.put_same (by rw [hlk, c])) lput eg n2
          · have eb : bindE e z res = none := by
              unfold bindE
              rw [hlk]
              exact if_neg c
            rw [eb] at eg
            rw [decide_eq_false c]
            refine iteT ⟨(by show 0 ≤ sizeLine; decide), fun p2 n2 => q p2 [] _ (sm.trans (same_new n2)) upd_same ?_⟩
            rw [eg]
            exact .nil
    | cnt z r ts =>
      obtain ⟨i1, i2, i3, i4⟩ := (show InR R r ts from lg)
      obtain ⟨p, u, xs, rfl, ep, eu, tx⟩ := litN_inv tv
      obtain ⟨kvl, lr, rs, rdl, hv, er, tr⟩ := lka.rows i1
      have lrs : rs.length = (rowsOf R r).length := by rw [tr.length, List.length_map]
      refine ⟨.ref p, rfl, p, _, 0, .str "count", rfl, rfl, SqT.of ep, rfl, ?_⟩
      refine ⟨.str "count", rfl, rfl, _, rfl, no_if (sne (show ("count" : Str) ≠ "compare" by decide +kernel)) ?_⟩
      refine ⟨.str "count", rfl, rfl, _, rfl, no_if (sne (show ("count" : Str) ≠ "not" by decide +kernel)) ?_⟩
      refine ⟨fun σ' H' => ∃ (x4 x5 x8 : Option V) (res : Key), σ' = [some (.ref p), some (.ref lk), some (.ref a), some (.str "count"), x4, x5, some (kV res), none, x8] ∧ Same H H' ∧ goE R (.cnt z r ts) e = (bindE e z res).toList, ?_, fun σ' H' hm => ?_⟩
      · refine ⟨.str "count", rfl, rfl, _, rfl, no_if (sne (show ("count" : Str) ≠ "is" by decide +kernel)) ?_⟩
        have s1 : Same H H := Same.refl H
        refine ⟨.ref lk, rfl, .ref p, rfl, p, _, 2, .str r, rfl, rfl, SqT.of ep, rfl, lk, .ref lr, rfl, .inl ⟨kvl, Sum.inr r, rdl, rfl, hv.symm⟩, ?_⟩
        refine ⟨lr, rfl, ⟨rs, SqL.of er⟩, fun D nD => ?_⟩
        refine lc_keep walk_list rs ((rowsOf R r).map fun row => (metE ts row e).isSome) rfl (by rw [List.length_map, lrs]) (by omega) nD (fun H2 sm => SqL.of (sm _ _ (s1 _ _ er))) (fun i y H2 H3 Q2 R2 hi sm hY qt qf => ?_) (fun H2 sm eD => ?_)
        · obtain ⟨rfl, hy⟩ := hY
          obtain ⟨row, erow, trow⟩ := row_get tr hy
          have ss := s1.trans sm
          obtain ⟨pr, rfl, epr⟩ := row_inv (trow.mono (Tk.of ss))
          have ek : ∀ b, (metE ts row e).isSome = b → ((rowsOf R r).map fun row => (metE ts row e).isSome)[i]? = some b := fun b z => by
            rw [List.getElem?_map, erow]
            exact congrArg some z
          refine ⟨rfl, .ref p, rfl, p, _, 3, .ref u, rfl, rfl, SqT.of (ss _ _ ep), rfl, .ref pr, rfl, .ref a, rfl, u, pr, a, xs, ts, row, kvs, e, rfl, ss _ _ eu, tx.mono (Tk.of ss), epr, i2 row (List.mem_of_getElem? erow), .inl (ss _ _ ea), en, by omega, fun hn H5 s5 => ⟨rfl, _, rfl, ?_⟩, fun e' he p2 kvs2 H5 s5 n2 e2 en2 l2 => ⟨rfl, _, rfl, ?_⟩⟩
          · rw [decide_eq_true rfl]
            exact iteF (qf _ s5 (ek _ (by rw [hn]; rfl)))
          · rw [decide_eq_false (fun z => nomatch z)]
            exact iteT ⟨.ref pr, rfl, qt _ _ s5 (ek _ (by rw [he]; rfl)) hy⟩
        · have tk := tps_keep rowD (fun row => (metE ts row e).isSome) (tr.mono (Tk.of sm))
          have lk2 := tk.length.trans (List.length_map _)
          refine ⟨D, _, rfl, .inl (SqL.of eD), ?_⟩
          rw [lk2]
          exact ⟨_, _, _, .inl ((((rowsOf R r).filter fun row => (metE ts row e).isSome).length : Nat) : Int), rfl, sm, rfl⟩
      · obtain ⟨x4, x5, x8, res, rfl, sm, eg⟩ := hm
        have ep' := sm _ _ ep
        have ea' := sm _ _ ea
        have put : ∀ (D : Addr) (kv2 : List (Key × V)) (e2 : Env1) (HH : Hp) (p2 : Addr), Same H HH → HH D = some (.dK kv2) → EnvOf kv2 e2 → kv2.length ≤ kvs.length + 1 → goE R (.cnt z r ts) e = [e2] → HH p2 = none → Q (.ref p2) (upd HH p2 (.lst [.ref D])) := fun D kv2 e2 HH p2 sh eD en2 l2 eg2 n2 => by
          refine q p2 [.ref D] _ (sh.trans (same_new n2)) upd_same ?_
          rw [eg2]
          exact .cons (same_new n2 _ _ eD) en2 l2 .nil
        have lput := length_putK kvs (Sum.inr z) (kV res)
        refine ⟨.ref p, rfl, p, _, 1, .str z, rfl, rfl, SqT.of ep', rfl, .ref a, rfl, a, (look e z).map kV, rfl, .inl ⟨kvs, Sum.inr z, .inl ea', rfl, (en.at_ z).symm⟩, _, rfl, ?_⟩
        rw [Option.isSome_map]
        cases hlk : look e z with
        | none =>
          have eb : bindE e z res = some (e ++ [(z, res)]) := by
            unfold bindE
            rw [hlk]
          rw [eb] at eg
          refine iteF (iteF ?_)
          refine ⟨.ref a, rfl, a, kvs, rfl, .inl ea', fun D nD => ?_⟩
          refine ⟨kV res, rfl, .ref D, rfl, .ref p, rfl, p, _, 1, .str z, rfl, rfl, SqT.of (same_new nD _ _ ep'), rfl, D, _, rfl, .inl ⟨kvs, Sum.inr z, upd_same, rfl, small1000 (by omega), rfl⟩, ?_⟩
          refine ⟨.ref D, rfl, (by show 1 ≤ sizeLine; decide), fun p2 n2 => ?_⟩
          exact put D _ _ _ p2 (same_put (sm.trans (same_new nD)) (sm.free nD)) upd_same (en.put hlk) lput eg n2
        | some u =>
          refine iteT ?_
          refine ⟨.ref a, rfl, .ref p, rfl, p, _, 1, .str z, rfl, rfl, SqT.of ep', rfl, a, kV u, rfl, .inl ⟨kvs, Sum.inr z, .inl ea', rfl, (by rw [en.at_ z, hlk]; rfl)⟩, kV res, rfl, ?_⟩
          refine ⟨kV u, kV res, keyD u, keyD res, rfl, keyD_tp u, keyD_tp res, keyD_nice u, keyD_nice res, Nat.le_of_eq (keyD_depth res), _, rfl, ?_⟩
          rw [eqv_key]
          by_cases c : u = res
          · have eb : bindE e z res = some e := by
              unfold bindE
              rw [hlk]
              exact if_pos c
            rw [eb] at eg
            rw [decide_eq_true c]
            refine iteF ?_
            refine ⟨.ref a, rfl, a, kvs, rfl, .inl ea', fun D nD => ?_⟩
            refine ⟨kV res, rfl, .ref D, rfl, .ref p, rfl, p, _, 1, .str z, rfl, rfl, SqT.of (same_new nD _ _ ep'), rfl, D, _, rfl, .inl ⟨kvs, Sum.inr z, upd_same, rfl, small1000 (by omega), rfl⟩, ?_⟩
            refine ⟨.ref D, rfl, (by show 1 ≤ sizeLine; decide), fun p2 n2 => ?_⟩
            exact put D _ _ _ p2 (same_put (sm.trans (same_new nD)) (sm.free nD)) upd_same (en.put_same (by rw [hlk, c])) lput eg n2
          · have eb : bindE e z res = none := by
              unfold bindE
              rw [hlk]
              exact if_neg c
            rw [eb] at eg
            rw [decide_eq_false c]
            refine iteT ⟨(by show 0 ≤ sizeLine; decide), fun p2 n2 => q p2 [] _ (sm.trans (same_new n2)) upd_same ?_⟩
            rw [eg]
            exact .nil
end
end KC

namespace KC
open PySem PySem.Spec PyProof.Rows L2 KA
/-- the operators of a literal are known ones -/
def OpsOk : KC.L → Prop
  | .cmp op _ _ => op ∈ ops6
  | .isl _ op _ _ => op ∈ ops3
  | _ => True
theorem litG_of {R0 R : Rws} {l : KC.L} {ws : List Way} {w : Way} (h : LitOk R0 R l ws) (o : OpsOk l) (nf : ∀ r ts, l ≠ .fact r ts) (m : w ∈ ws) : LitG R l w.1 := by
  cases l with
  | fact r ts => exact absurd rfl (nf r ts)
  | notl r ts => exact h
  | cmp op a b => exact ⟨o, h w m⟩
  | isl x op a b => exact ⟨o, h w m⟩
  | cnt x r ts => exact h
theorem bindE_len (e : Env1) (x : Str) (v : Key) : (bindE e x v).toList.length ≤ 1 := by
  cases bindE e x v with
  | none => exact Nat.zero_le _
  | some _ => exact Nat.le_refl _
theorem goE_len (R : Rws) (l : KC.L) (e : Env1) : (goE R l e).length ≤ 1 := by
  cases l with
  | fact r ts => exact Nat.zero_le _
  | notl r ts =>
    show (if _ then _ else _ : List Env1).length ≤ 1
    split
    · exact Nat.le_refl _
    · exact Nat.zero_le _
  | cmp op a b =>
    unfold goE
    dsimp only
    cases worthE a e with
    | none => exact Nat.zero_le _
    | some x => cases worthE b e with
      | none => exact Nat.zero_le _
      | some y =>
        dsimp only
        split
        · exact Nat.le_refl _
        · exact Nat.zero_le _
  | isl x op a b =>
    unfold goE
    dsimp only
    cases worthE a e with
    | none => exact Nat.zero_le _
    | some u => cases worthE b e with
      | none => exact Nat.zero_le _
      | some v =>
        dsimp only
        cases isK op u v with
        | none => exact Nat.zero_le _
        | some z => exact bindE_len e x z
  | cnt x r ts => exact bindE_len e x _
theorem goF_snoc (ts : List T) (w : Way) (rows : List (List Key)) (row : List Key) : goF (rows ++ [row]) ts w = goF rows ts w ++ ((metE ts row w.1).map fun e => (e, w.2 ++ [row])).toList := by
  unfold goF
  rw [List.filterMap_append]
  congr 1
section
variable {P : Program} {w : World} {K : PySem.W.Frag} {mg : Str → Option Value} {base : Heap}
abbrev dGo (P : Program) (w : World) (K : PySem.W.Frag) (mg : Str → Option Value) (base : Heap) : Prop := Def P w K mg base "_law_goes_on" 3 ["literal", "lookups", "way"] spGo
abbrev sLy : Stmt := topS 34
abbrev nLy : List Str := ["body", "rows", "lookups", "gathered", "literal", "after", "way", "taken", "row", "more"]
theorem scLy : FnScope nLy ["body", "rows", "lookups"] (defScope sLy) := ⟨rfl, rfl, rfl, by decide +kernel, rfl, by decide +kernel, by decide +kernel⟩
def spLy : Sp := fun vs H Q _ => ∃ (b ra lk : Addr) (xs : List V) (ls : List L) (R0 R : Rws), vs = [.ref b, .ref ra, .ref lk] ∧ H b = some (.tup xs) ∧ Tps H xs (ls.map litD) ∧ LkAt H ra R0 ∧ LkAt H lk R ∧ BodyOk R0 R ls ∧ (∀ l ∈ ls, OpsOk l) ∧
  ∀ L zs H', Same H H' → H' L = some (.lst zs) → WaysL H' 300 zs (run R0 R ls way00) → Q (.ref L) H'
theorem ok_ly {f : Addr} {fd : FuncData} (F : Fun K "_law_ways" "_law_ways" sLy f fd) (DG : dGo P w K mg base) (DM : dLm P w K mg base) : FnOk P w K mg base CX0 4 f fd ["body", "rows", "lookups"] spLy := by
  refine F.ok scLy (fun vs H Q E h => ?_) (fun cdv A outer s H vs Q E hr h => ?_)
  · obtain ⟨_, _, _, _, _, _, _, rfl, _⟩ := h
    rfl
  · obtain ⟨b, ra, lk, xs, ls, R0, R, rfl, eb, tx, lra, lka, bo, hops, q⟩ := h
    have hu1 := hu_of hr
    have r2 : Room 2 _ := hr.mono (by decide)
    refine ⟨_, pss_cons (ps_set (i := 3) scLy.nd rfl (.inl rfl) (pe_lst (pa_cons (pe_tup (pa_cons pe_dnewK (pa_cons (pe_tup pa_nil) pa_nil))) pa_nil)))
      (pss_cons (ps_for PassesOwn.never rfl (pi_tup (pv 0)) (pg_name (i := 4) scLy.nd rfl (.inl rfl))
        (pss_cons (ps_set (i := 5) scLy.nd rfl (.inl rfl) (pe_lst pa_nil))
        (pss_cons (ps_for PassesOwn.never rfl (pi_list (pv 3)) (pg_tup rfl (pgs_cons (pg_name (i := 6) scLy.nd rfl (.inl rfl)) (pgs_cons (pg_name (i := 7) scLy.nd rfl (.inr rfl)) pgs_nil)))
          (pss_one (ps_if (pt_cmpR op_eq (pe_ix ix_tup (pv 4) pe_int (fun _ _ => rfl)) pe_str (nomark _))
            (pss_one (ps_for PassesOwn.never rfl (pi_list (pe_dget hu1 (pv 1) (pe_ix ix_tup (pv 4) pe_int (fun _ _ => rfl)) (fun _ _ => rfl))) (pg_name (i := 8) scLy.nd rfl (.inl rfl))
              (pss_cons (ps_set (i := 9) scLy.nd rfl (.inl rfl) (pe_def DM r2 (by rfl) (pa_cons (pe_ix ix_tup (pv 4) pe_int (fun _ _ => rfl)) (pa_cons (pv 8) (pa_cons (pv 6) pa_nil)))))
              (pss_one (ps_if (pt_cmpR op_notN1 (pv 9) pe_non (nomark _))
                (pss_one (ps_expr (pe_bm PySem.F.plainAttrs_list PySem.F.slot_list_append PySem.F.type_list_append mt_append (pv 5) (pa_cons (pe_tup (pa_cons (pv 9) (pa_cons (pe_op op_catA (pv 7) (pe_tup (pa_cons (pv 8) pa_nil))) pa_nil))) pa_nil)))) pss_nil)))))
            (pss_one (ps_set (i := 5) scLy.nd rfl (.inl rfl) (pe_op op_cat (pv 5) (pe_lc (own := [("more", 9)]) (g := gName 9) (tt := tYes) (te := tTup (tCons (tVar 9) (tCons (tVar 7) tNil))) rfl scLy.nd (pi_list (pe_def DG hr (by rfl) (pa_cons (pv 4) (pa_cons (pv 2) (pa_cons (pv 6) pa_nil))))) (blkOk_by (own := [("more", 9)]) (N := nLy) (sc := defScope sLy) (by decide +kernel))
              (fun _ _ _ _ _ => pg_name (i := 9) scLy.nd rfl (Or.inl rfl)) (fun _ _ _ _ _ => pts_nil) (fun _ _ _ _ _ => pe_tup (pa_cons (pv 9) (pa_cons (pv 7) pa_nil))))))))))
        (pss_one (ps_set (i := 3) scLy.nd rfl (.inl rfl) (pv 5))))))
      (pss_one (ps_ret (pv 3)))), ?_⟩
    have sne : ∀ {x y : Str}, x ≠ y → V.str x ≠ V.str y := fun n z => n (by injection z)
    intro d nd
    refine ⟨(by show 0 ≤ sizeLine; decide), fun t nt => ?_⟩
    refine ⟨(by show 2 ≤ sizeLine; decide), fun p np => ?_⟩
    refine ⟨(by show 1 ≤ sizeLine; decide), fun L0 nL0 => ?_⟩
    have s1 : Same H (upd H d (.dK [])) := same_new nd
    have s2 := same_new (o := .tup []) nt
    have s3 := same_new (o := .tup [.ref d, .ref t]) np
    have s4 := same_new (o := .lst [.ref p]) nL0
    have nL0H : H L0 = none := ((s1.trans s2).trans s3).free nL0
    have sA := ((s1.trans s2).trans s3).trans s4
    have e1 := s4 _ _ (s3 _ _ (s2 _ _ (upd_same : (upd H d (.dK [])) d = some (.dK []))))
    have e2 := s4 _ _ (s3 _ _ (upd_same : (upd (upd H d (.dK [])) t (.tup [])) t = some (.tup [])))
    have e3 := s4 _ _ (upd_same : (upd (upd (upd H d (.dK [])) t (.tup [])) p (.tup [.ref d, .ref t])) p = some (.tup [.ref d, .ref t]))
    have e4 : (upd (upd (upd (upd H d (.dK [])) t (.tup [])) p (.tup [.ref d, .ref t])) L0 (.lst [.ref p])) L0 = some (.lst [.ref p]) := upd_same
    clear s1 s2 s3 s4
    revert sA e1 e2 e3 e4
    generalize (upd (upd (upd (upd H d (.dK [])) t (.tup [])) p (.tup [.ref d, .ref t])) L0 (.lst [.ref p])) = H1
    intro sA e1 e2 e3 e4
    have lx : xs.length = ls.length := by rw [tx.length, List.length_map]
    have l20 := bo.len
    refine ⟨.ref b, rfl, b, rfl, ⟨xs, SqT.of (sA _ _ eb)⟩, ?_⟩
    refine for_it walk_tup (fun i σ H' => (∃ (g : Addr) (x4 x5 x6 x7 x8 x9 : Option V), σ = [some (.ref b), some (.ref ra), some (.ref lk), some (.ref g), x4, x5, x6, x7, x8, x9] ∧ ∃ ys, H' g = some (.lst ys) ∧ H g = none ∧ WaysL H' (12 * i) ys (run R0 R (ls.take i) way00)) ∧ Same H H')
      ⟨⟨L0, none, none, none, none, none, none, rfl, [.ref p], e4, nL0H, .cons ⟨p, d, t, [], [], rfl, e3, e1, EnvOf.nil, Nat.le_refl _, e2, .nil, Nat.le_refl _⟩ .nil⟩, sA⟩ (fun i σ H' _ hP => SqT.of (hP.2 _ _ eb)) (fun i x σ H' H2 hi hP hY => ?_) (fun σ H' hP => ?_)
    · obtain ⟨rfl, hx⟩ := hY
      obtain ⟨⟨g, x4, x5, x6, x7, x8, x9, rfl, ys, eg, ng, wl⟩, sm⟩ := hP
      obtain ⟨l, el, tl⟩ := lit_get tx hx
      have tl := tl.mono (Tk.of sm)
      have so := bo.at_ i l el
      have ops := hops l (List.mem_of_getElem? el)
      have er : run R0 R (ls.take (i + 1)) way00 = goAll R0 R l (run R0 R (ls.take i) way00) := by rw [take_next el, run_snoc]
      rw [er]
      revert so wl
      generalize run R0 R (ls.take i) way00 = ws
      intro wl so
      obtain ⟨pl, r0, rfl, epl, el0⟩ := lit_name tl
      have lys := wl.length
      have l900 := so.len
      rw [lx] at hi
      refine ⟨(by show 0 ≤ sizeLine; decide), fun af naf => ?_⟩
      have sf : Same H2 (upd H2 af (.lst [])) := same_new naf
      have eaf : (upd H2 af (.lst [])) af = some (.lst []) := upd_same
      have naf0 : H af = none := sm.free naf
      have nafg : af ≠ g := fun z => by rw [z, eg] at naf; cases naf
      revert sf eaf
      generalize (upd H2 af (.lst [])) = H3
      intro sf eaf
      refine ⟨.ref g, rfl, g, rfl, ⟨ys, SqL.of (sf _ _ eg)⟩, ?_⟩
      refine for_it walk_list (fun j σ H' => (∃ (a2 : Addr) (x6 x7 x8 x9 : Option V), σ = [some (.ref b), some (.ref ra), some (.ref lk), some (.ref g), some (.ref pl), some (.ref a2), x6, x7, x8, x9] ∧ ∃ zs, H' a2 = some (.lst zs) ∧ H a2 = none ∧ a2 ≠ g ∧ WaysL H' (12 * i + 12) zs ((ws.take j).flatMap (goOn R0 R l))) ∧ Same H H' ∧ H' g = some (.lst ys) ∧ Keep H2 H')
        ⟨⟨af, _, _, _, _, rfl, [], eaf, naf0, nafg, .nil⟩, sm.trans sf, sf _ _ eg, Keep.of sf⟩ (fun j σ H' _ hP => SqL.of hP.2.2.1) (fun j y σ H' H4 hj hP hY => ?_) (fun σ H' hP => ?_)
      · obtain ⟨rfl, hy⟩ := hY
        obtain ⟨⟨a2, x6, x7, x8, x9, rfl, zs, ea2, na2, n2g, wz⟩, s2, eg2, k2⟩ := hP
        obtain ⟨wy, ewy, p, d, t, kvs, xw, rfl, XY⟩ := wl.get hy
        have XY := XY.keep k2
        have my : wy ∈ ws := List.mem_of_getElem? ewy
        have epl4 := k2 _ _ epl (fun _ z => by cases z)
        have tl4 := tl.mono k2.tk
        rw [lys] at hj
        refine ⟨p, _, rfl, SqT.of XY.hp, rfl, _, _, rfl, _, _, rfl, rfl, ?_⟩
        refine ⟨.ref pl, rfl, pl, r0, 0, _, rfl, rfl, SqT.of epl4, el0, rfl, _, rfl, ?_⟩
        have eflat : (ws.take (j + 1)).flatMap (goOn R0 R l) = (ws.take j).flatMap (goOn R0 R l) ++ goOn R0 R l wy := by
          rw [take_next ewy, List.flatMap_append, List.flatMap_singleton]
        rw [eflat]
        have lzs := wz.length
        have ld := XY.ld
        have lt2 := XY.lt
        by_cases cf : ∃ r ts, l = .fact r ts
        · obtain ⟨r, ts, rfl⟩ := cf
          obtain ⟨⟨i1, i2, i3, i4⟩, i5⟩ := (show InR R0 r ts ∧ _ from so.ok)
          rw [show litName (.fact r ts) = ("fact" : Str) from rfl]
          refine yes_if ?_
          obtain ⟨pl', u, xs', epp, epl', eu, tx'⟩ := lit3_inv tl4
          injection epp with epp
          subst epp
          obtain ⟨kvl, lr, rs, rdl, hv, erl, tr⟩ := lra.rows i1
          have lrs : rs.length = (rowsOf R0 r).length := by rw [tr.length, List.length_map]
          have lpre : zs.length ≤ j * (rowsOf R0 r).length := by
            rw [lzs]
            have gen : ∀ l : List Way, (l.flatMap (goOn R0 R (.fact r ts))).length ≤ l.length * (rowsOf R0 r).length := fun l => by
              induction l with
              | nil => simp
              | cons a b ih =>
                rw [List.flatMap_cons, List.length_append, List.length_cons, Nat.succ_mul]
                have : (goOn R0 R (.fact r ts) a).length ≤ (rowsOf R0 r).length := List.length_filterMap_le _ _
                omega
            have := gen (ws.take j)
            rw [List.length_take, Nat.min_eq_left (by omega)] at this
            exact this
          have l9 : j * (rowsOf R0 r).length + (rowsOf R0 r).length ≤ 900 := by
            rw [← Nat.succ_mul]
            exact Nat.le_trans (Nat.mul_le_mul_right _ (by omega)) i5
          refine ⟨.ref ra, rfl, .ref pl, rfl, pl, _, 1, .str r, rfl, rfl, SqT.of epl', rfl, ra, .ref lr, rfl, .inl ⟨kvl, Sum.inr r, Rd.same rdl s2, rfl, hv.symm⟩, lr, rfl, ⟨rs, SqL.of (s2 _ _ erl)⟩, ?_⟩
          refine for_it walk_list (fun k σ HH => (∃ (x8 x9 : Option V), σ = [some (.ref b), some (.ref ra), some (.ref lk), some (.ref g), some (.ref pl), some (.ref a2), some (.ref d), some (.ref t), x8, x9]) ∧ (∃ zs2, HH a2 = some (.lst zs2) ∧ WaysL HH (12 * i + 12) zs2 ((ws.take j).flatMap (goOn R0 R (.fact r ts)) ++ goF ((rowsOf R0 r).take k) ts wy) ∧ zs2.length ≤ zs.length + k) ∧ Same H HH ∧ HH g = some (.lst ys) ∧ Keep H4 HH)
            ⟨⟨_, _, rfl⟩, ⟨zs, ea2, by rw [List.take_zero]; show WaysL _ _ _ (_ ++ []); rw [List.append_nil]; exact wz, Nat.le_refl _⟩, s2, eg2, Keep.refl _⟩ (fun k σ HH _ hP => SqL.of (hP.2.2.1 _ _ erl)) (fun k y σ HH H5 hk hP hY => ?_) (fun σ HH hP => ?_)
          · obtain ⟨rfl, hyr⟩ := hY
            obtain ⟨⟨x8, x9, rfl⟩, ⟨zs2, ez2, wz2, lz2⟩, s5, eg5, k5⟩ := hP
            obtain ⟨row, erow, trow⟩ := row_get (tr.mono (Tk.of s5)) hyr
            obtain ⟨pr, rfl, epr⟩ := row_inv trow
            have X5 := XY.keep k5
            have epl5 := k5 _ _ epl' (fun _ z => by cases z)
            have eu5 := k5 _ _ eu (fun _ z => by cases z)
            have tx5 := tx'.mono k5.tk
            have hk' : k < (rowsOf R0 r).length := (List.getElem?_eq_some_iff.mp erow).1
            rw [take_next erow, goF_snoc, ← List.append_assoc]
            refine ⟨.ref pl, rfl, pl, _, 2, .ref u, rfl, rfl, SqT.of epl5, rfl, .ref pr, rfl, .ref d, rfl, u, pr, d, xs', ts, row, kvs, wy.1, rfl, eu5, tx5, epr, i2 row (List.mem_of_getElem? erow), .inl X5.hd, X5.en, by omega, fun hn H6 s6 => ?_, fun e' he p2 kv2 H6 s6 np2 ep2 en2 l2 => ?_⟩
            · refine ⟨.non, rfl, rfl, _, rfl, ?_⟩
              rw [decide_eq_true rfl]
              refine iteF ⟨⟨_, _, rfl⟩, ⟨zs2, s6 _ _ ez2, ?_, by omega⟩, s5.trans s6, s6 _ _ eg5, k5.trans (Keep.of s6)⟩
              rw [hn]
              show WaysL _ _ _ (_ ++ [])
              rw [List.append_nil]
              exact wz2.keep (Keep.of s6)
            · refine ⟨.ref p2, rfl, rfl, _, rfl, ?_⟩
              rw [decide_eq_false (fun z => nomatch z), he]
              refine iteT ?_
              have X6 := X5.keep (Keep.of s6)
              have epr6 := s6 _ _ epr
              have ez6 := s6 _ _ ez2
              have wz6 := wz2.keep (Keep.of s6)
              have lxw : xw.length = wy.2.length := by rw [X6.tx.length, List.length_map]
              have fin : ∀ (t2 : Addr) (H7 : Hp), Same H6 H7 → H7 t2 = some (.tup (xw ++ [.ref pr])) → ∀ p3, H7 p3 = none → ∃ acc, (upd H7 p3 (.tup [.ref p2, .ref t2])) a2 = some (.lst acc) ∧ acc.length < sizeLine ∧
                  ((∃ zs2, (upd (upd H7 p3 (.tup [.ref p2, .ref t2])) a2 (.lst (acc ++ [.ref p3]))) a2 = some (.lst zs2) ∧ WaysL (upd (upd H7 p3 (.tup [.ref p2, .ref t2])) a2 (.lst (acc ++ [.ref p3]))) (12 * i + 12) zs2 ((ws.take j).flatMap (goOn R0 R (.fact r ts)) ++ goF ((rowsOf R0 r).take k) ts wy ++ (Option.map (fun e => (e, wy.2 ++ [row])) (some e')).toList) ∧ zs2.length ≤ zs.length + (k + 1)) ∧
                    Same H (upd (upd H7 p3 (.tup [.ref p2, .ref t2])) a2 (.lst (acc ++ [.ref p3]))) ∧ (upd (upd H7 p3 (.tup [.ref p2, .ref t2])) a2 (.lst (acc ++ [.ref p3]))) g = some (.lst ys) ∧ Keep H4 (upd (upd H7 p3 (.tup [.ref p2, .ref t2])) a2 (.lst (acc ++ [.ref p3])))) := by
                intro t2 H7 s7 et2 p3 np3
                have sp : Same H7 (upd H7 p3 (.tup [.ref p2, .ref t2])) := same_new np3
                have ep3 : (upd H7 p3 (.tup [.ref p2, .ref t2])) p3 = some (.tup [.ref p2, .ref t2]) := upd_same
                revert sp ep3
                generalize upd H7 p3 (.tup [.ref p2, .ref t2]) = H8
                intro sp ep3
                have s8 := s7.trans sp
                have ez8 := s8 _ _ ez6
                have kD : Keep H8 (upd H8 a2 (.lst (zs2 ++ [.ref p3]))) := Keep.lst ez8
                refine ⟨zs2, ez8, small1000 (by omega), ⟨_, upd_same, ?_, by rw [List.length_append, List.length_singleton]; omega⟩, same_put ((s5.trans s6).trans s8) na2, by rw [upd_ne n2g.symm]; exact s8 _ _ (s6 _ _ eg5), ((k5.trans (Keep.of s6)).trans (Keep.of s8)).trans kD⟩
                refine ((wz6.keep (Keep.of s8)).keep kD).append (.cons ⟨p3, p2, t2, kv2, xw ++ [.ref pr], rfl, ?_⟩ .nil)
                refine ⟨kD _ _ ep3 (fun _ z => by cases z), kD _ _ (s8 _ _ ep2) (fun _ z => by cases z), en2, by omega, kD _ _ (sp _ _ et2) (fun _ z => by cases z), ?_, by rw [List.length_append, List.length_singleton]; omega⟩
                show Tps _ _ ((wy.2 ++ [row]).map rowD)
                rw [List.map_append]
                exact ((X6.tx.mono (Tk.of s8)).mono kD.tk).append (.cons (row_tp (kD _ _ (s8 _ _ epr6) (fun _ z => by cases z))) .nil)
              refine ⟨.ref a2, rfl, .inl ⟨rfl, _, SqL.of ez6⟩, .ref p2, rfl, .ref t, rfl, .ref pr, rfl, (by show 1 ≤ sizeLine; decide), fun t1 nt1 => ?_⟩
              have s7 : Same H6 (upd H6 t1 (.tup [.ref pr])) := same_new nt1
              have et1 : (upd H6 t1 (.tup [.ref pr])) t1 = some (.tup [.ref pr]) := upd_same
              revert s7 et1
              generalize upd H6 t1 (.tup [.ref pr]) = H7
              intro s7 et1
              refine ⟨t, t1, xw, [.ref pr], rfl, rfl, SqT.of (s7 _ _ X6.ht), SqT.of et1, Nat.le_of_lt (small1000 (by rw [List.length_singleton]; omega)), fun exw => ⟨(by show 2 ≤ sizeLine; decide), fun p3 np3 => ?_⟩, (fun _ z => (by cases z)), fun nxw _ t2 nt2 => ⟨(by show 2 ≤ sizeLine; decide), fun p3 np3 => ?_⟩⟩
              · obtain ⟨acc, f1, f2, f3, f4, f5, f6⟩ := fin t1 H7 s7 (by rw [exw]; exact et1) p3 np3
                exact ⟨a2, acc, _, rfl, rfl, f1, f2, ⟨_, _, rfl⟩, f3, f4, f5, f6⟩
              · obtain ⟨acc, f1, f2, f3, f4, f5, f6⟩ := fin t2 _ (s7.trans (same_new nt2)) upd_same p3 np3
                exact ⟨a2, acc, _, rfl, rfl, f1, f2, ⟨_, _, rfl⟩, f3, f4, f5, f6⟩
          · obtain ⟨⟨x8, x9, rfl⟩, ⟨zs2, ez2, wz2, lz2⟩, s5, eg5, k5⟩ := hP
            rw [lrs, List.take_length] at wz2
            exact ⟨⟨a2, _, _, _, _, rfl, zs2, ez2, na2, n2g, wz2⟩, s5, eg5, k2.trans k5⟩
        · have nf : ∀ r ts, l ≠ .fact r ts := fun r ts z => cf ⟨r, ts, z⟩
          refine no_if (sne (fun z => cf (lit_name_fact.mp z))) ?_
          have lpre : zs.length ≤ j := by
            rw [lzs]
            have gen : ∀ us : List Way, (us.flatMap (goOn R0 R l)).length ≤ us.length := fun us => by
              induction us with
              | nil => simp
              | cons a b ih =>
                rw [List.flatMap_cons, List.length_append, List.length_cons, goOn_goE R0 R l a nf, List.length_map]
                have := goE_len R l a.1
                omega
            have := gen (ws.take j)
            rw [List.length_take, Nat.min_eq_left (by omega)] at this
            exact this
          rw [goOn_goE R0 R l wy nf]
          refine ⟨.ref a2, rfl, .ref pl, rfl, .ref lk, rfl, .ref d, rfl, .ref pl, lk, d, l, R, kvs, wy.1, rfl, tl4, lka.same s2, XY.hd, XY.en, by omega, litG_of so.ok ops nf my, fun pg ds H5 s5 epg eds => ?_⟩
          refine ⟨pg, rfl, ⟨ds, SqL.of epg⟩, fun D nD => ?_⟩
          have lds := eds.length
          have X5 := XY.keep (Keep.of s5)
          have lgo := goE_len R l wy.1
          refine lc_it walk_list (fun m HH => Same H5 HH ∧ ∃ zz, HH D = some (.lst zz) ∧ WaysL HH (12 * i + 12) zz (((goE R l wy.1).take m).map fun e => (e, wy.2))) ⟨same_new nD, [], upd_same, .nil⟩ (fun m HH _ hP => SqL.of (hP.1 _ _ epg)) (fun m y HH H6 hm hP hY => ?_) (fun HH hP => ?_)
          · obtain ⟨rfl, hyd⟩ := hY
            obtain ⟨s6, zz, eD, wD⟩ := hP
            obtain ⟨d2, kv2, e2, rfl, ee2, hd2, en2, l2⟩ := eds.get hyd
            have X6 := X5.keep (Keep.of s6)
            refine ⟨rfl, iteT (B := True) ?_⟩
            refine ⟨.ref d2, rfl, .ref t, rfl, (by show 2 ≤ sizeLine; decide), fun p3 np3 => ?_⟩
            have sp : Same H6 (upd H6 p3 (.tup [.ref d2, .ref t])) := same_new np3
            have ep3 : (upd H6 p3 (.tup [.ref d2, .ref t])) p3 = some (.tup [.ref d2, .ref t]) := upd_same
            revert sp ep3
            generalize upd H6 p3 (.tup [.ref d2, .ref t]) = H7
            intro sp ep3
            have eD7 := sp _ _ eD
            have kD : Keep H7 (upd H7 D (.lst (zz ++ [.ref p3]))) := Keep.lst eD7
            have lzz := wD.length
            rw [List.length_map, List.length_take] at lzz
            refine ⟨zz, eD7, small1000 (by omega), same_put (s6.trans sp) nD, _, upd_same, ?_⟩
            rw [take_next ee2, List.map_append]
            refine ((wD.keep (Keep.of sp)).keep kD).append (.cons ⟨p3, d2, t, kv2, xw, rfl, ?_⟩ .nil)
            exact ⟨kD _ _ ep3 (fun _ z => by cases z), kD _ _ (sp _ _ (s6 _ _ hd2)) (fun _ z => by cases z), en2, by omega, kD _ _ (sp _ _ X6.ht) (fun _ z => by cases z), (X6.tx.mono (Tk.of sp)).mono kD.tk, (by show wy.2.length ≤ _; omega)⟩
          · obtain ⟨s6, zz, eD, wD⟩ := hP
            rw [lds, List.take_length] at wD
            have lzz := wD.length
            rw [List.length_map] at lzz
            have s56 := s5.trans s6
            refine ⟨a2, D, _, _, rfl, rfl, s56 _ _ ea2, eD, Nat.le_of_lt (small1000 (by omega)), fun bn nbn => ?_⟩
            have sb : Same HH (upd HH bn (.lst (zs ++ zz))) := same_new nbn
            refine ⟨⟨bn, _, _, _, _, rfl, zs ++ zz, upd_same, (s2.trans s56).free nbn, (fun z => by rw [z, s56 _ _ eg2] at nbn; cases nbn), ?_⟩, (s2.trans s56).trans sb, sb _ _ (s56 _ _ eg2), (k2.trans (Keep.of s56)).trans (Keep.of sb)⟩
            exact ((wz.keep (Keep.of s56)).keep (Keep.of sb)).append (wD.keep (Keep.of sb))
      · obtain ⟨⟨a2, x6, x7, x8, x9, rfl, zs, ea2, na2, n2g, wz⟩, s2, eg2, k2⟩ := hP
        rw [lys, List.take_length] at wz
        exact ⟨.ref a2, rfl, ⟨a2, _, _, _, _, _, _, rfl, zs, ea2, na2, wz.up (by omega)⟩, s2⟩
    · obtain ⟨⟨g, x4, x5, x6, x7, x8, x9, rfl, ys, eg, ng, wl⟩, sm⟩ := hP
      rw [lx, List.take_length] at wl
      exact ⟨.ref g, rfl, q g ys H' sm eg (wl.up (by omega))⟩
end
end KC

namespace KC
open PySem PySem.Spec PyProof.Rows L2 KA
/-- not in a list, of plain data -/
def rNiL (K : PySem.W.Frag) : R2 := fun x y H Q => ∃ d ds, Dp K H x d ∧ Dp K H y (.list ds) ∧ d.plain = true ∧ PyData.plainAll ds = true ∧ d.depth ≤ 60 ∧ Q (.bl (!ds.any fun z => PyData.eqv z d)) H
theorem op_niL {X : Cx} (hu : X.A.units + 64 < cLine) : OpR X (compareOp .NotIn) (rNiL X.K) := by
  intro pins s σ H x y v u Q I rx ry h
  obtain ⟨d, ds, hd, he, pd, pe, se, q⟩ := h
  obtain ⟨as, r1⟩ := Dp.reads I d x v hd rx
  obtain ⟨bs, r2⟩ := Dp.reads I (.list ds) y u he ry
  refine SeqAt.notIn_list_data r2 r1 pe pd ?_ ⟨.bl _, H, I, rfl, q⟩
  have h2 : min (PyData.depthAll ds) d.depth ≤ d.depth := Nat.min_le_right _ _
  omega
/-! ### a dict of rows as it is made -/
inductive Ents (F : Addr → Prop) (H : Hp) : List (Key × V) → Rws → Prop
  | nil : Ents F H [] []
  | cons {r : Str} {l : Addr} {xs : List V} {rows : List (List Key)} {kvs : List (Key × V)} {R : Rws} : F l → H l = some (.lst xs) → Tps H xs (rows.map rowD) → Ents F H kvs R → Ents F H ((.inr r, .ref l) :: kvs) ((r, rows) :: R)
theorem Ents.mono {F F' : Addr → Prop} {H H' : Hp} {kvs : List (Key × V)} {R : Rws} (h : Ents F H kvs R) (k : Tk H H') (l : ∀ a xs, F a → H a = some (.lst xs) → H' a = some (.lst xs) ∧ F' a) : Ents F' H' kvs R := by
  induction h with
  | nil => exact .nil
  | cons f e t _ ih => exact .cons (l _ _ f e).2 (l _ _ f e).1 (t.mono k) ih
theorem Ents.snoc {F : Addr → Prop} {H : Hp} {kvs : List (Key × V)} {R : Rws} {r : Str} {l : Addr} {xs : List V} {rows : List (List Key)} (h : Ents F H kvs R) (f : F l) (e : H l = some (.lst xs)) (t : Tps H xs (rows.map rowD)) : Ents F H (kvs ++ [(.inr r, .ref l)]) (R ++ [(r, rows)]) := by
  induction h with
  | nil => exact .cons f e t .nil
  | cons f2 e2 t2 _ ih => exact .cons f2 e2 t2 ih
theorem Ents.length {F : Addr → Prop} {H : Hp} {kvs : List (Key × V)} {R : Rws} (h : Ents F H kvs R) : kvs.length = R.length := by
  induction h with
  | nil => rfl
  | cons _ _ _ _ ih => rw [List.length_cons, List.length_cons, ih]
theorem Ents.none {F : Addr → Prop} {H : Hp} {kvs : List (Key × V)} {R : Rws} {r : Str} (h : Ents F H kvs R) (n : r ∉ R.map (·.1)) : valV kvs (.inr r) = none := by
  induction h with
  | nil => rfl
  | cons f e t _ ih =>
    rw [List.map_cons, List.mem_cons] at n
    rw [valV_neg (fun z => n (.inl (by injection z with z; exact z.symm)))]
    exact ih fun z => n (.inr z)
theorem rowsOf_cons_eq {r : Str} {rows : List (List Key)} {R : Rws} : rowsOf ((r, rows) :: R) r = rows := by
  unfold rowsOf
  rw [List.find?_cons, decide_eq_true rfl]
  rfl
theorem rowsOf_cons_ne {r s : Str} {rows : List (List Key)} {R : Rws} (n : ¬ r = s) : rowsOf ((r, rows) :: R) s = rowsOf R s := by
  unfold rowsOf
  rw [List.find?_cons, decide_eq_false n]
theorem Ents.at_ {F : Addr → Prop} {H : Hp} {kvs : List (Key × V)} {R : Rws} {r : Str} (h : Ents F H kvs R) (a : (R.any fun p => decide (p.1 = r)) = true) : ∃ l rs, valV kvs (Sum.inr r) = some (.ref l) ∧ H l = some (.lst rs) ∧ Tps H rs ((rowsOf R r).map rowD) := by
  induction h with
  | nil => cases a
  | @cons r2 l xs rows kvs R f e t _ ih =>
    by_cases c : r2 = r
    · subst c
      exact ⟨l, xs, valV_pos rfl, e, by rw [rowsOf_cons_eq]; exact t⟩
    · rw [List.any_cons, decide_eq_false c, Bool.false_or] at a
      obtain ⟨l2, rs, h1, h2, h3⟩ := ih a
      exact ⟨l2, rs, by rw [valV_neg (fun z => c (by injection z))]; exact h1, h2, by rw [rowsOf_cons_ne c]; exact h3⟩
/-- what the rows are -/
def RowsB1 (p : Str × List (List Key)) : Prop := ∃ n, RelB p.1 n ∧ p.2.length ≤ 5 ∧ ∀ row ∈ p.2, row.length = n ∧ ∀ k ∈ row, KeyB 100 k
structure RowsB (R : Rws) : Prop where
  names : R.map (·.1) = (["p", "q", "r"] : List Str)
  each : ∀ p ∈ R, RowsB1 p
def RowsD (st : Addr) (H : Hp) (p : Addr) (R : Rws) : Prop := ∃ kvs, H p = some (.dK kvs) ∧ p ≠ st ∧ Ents (fun a => a ≠ st) H kvs R
theorem RowsD.dr {st L p : Addr} {H H' : Hp} {R : Rws} (g : Good st L H) (h : RowsD st H p R) (d : Dr st L H H') : RowsD st H' p R := by
  obtain ⟨kvs, e, n, en⟩ := h
  exact ⟨kvs, d.at_ n e, n, en.mono (d.tk g) fun a xs f e => ⟨d.at_ f e, f⟩⟩
theorem RowsD.lk {st : Addr} {H : Hp} {p : Addr} {R : Rws} (h : RowsD st H p R) : LkAt H p R := by
  obtain ⟨kvs, e, n, en⟩ := h
  exact ⟨kvs, .inl e, fun r hr => en.at_ hr⟩
theorem wK_at {i : Nat} {k : Key} {v : V} (h : wK[i]? = some (k, v)) : ∃ (r : Str) (n : Nat), k = .inr r ∧ RelB r n ∧ n ≤ 3 ∧ valV wK (.inr r) = some (.int (n : Nat)) ∧ (["p", "q", "r"] : List Str)[i]? = some r := by
  match i, h with
  | 0, h =>
    cases h
    exact ⟨"p", 2, rfl, .inl ⟨rfl, rfl⟩, by decide, by rfl, rfl⟩
  | 1, h =>
    cases h
    exact ⟨"q", 1, rfl, .inr (.inl ⟨rfl, rfl⟩), by decide, by rfl, rfl⟩
  | 2, h =>
    cases h
    exact ⟨"r", 3, rfl, .inr (.inr ⟨rfl, rfl⟩), by decide, by rfl, rfl⟩
  | i + 3, h => cases h
theorem pqr_not {i : Nat} {r : Str} (h : (["p", "q", "r"] : List Str)[i]? = some r) : r ∉ (["p", "q", "r"] : List Str).take i := by
  match i, h with
  | 0, h =>
    cases h
    decide +kernel
  | 1, h =>
    cases h
    decide +kernel
  | 2, h =>
    cases h
    decide +kernel
  | i + 3, h => cases h
theorem rowD_depth (r : List Key) : (rowD r).depth ≤ 1 := by
  show PyData.depthAll (r.map keyD) + 1 ≤ 1
  have : PyData.depthAll (r.map keyD) = 0 := by
    induction r with
    | nil => rfl
    | cons k r ih =>
      rw [List.map_cons, PyData.depthAll, ih, keyD_depth]
      rfl
  omega
theorem upd_comm {H : Hp} {a b : Addr} {x y : HO} (n : a ≠ b) : upd (upd H a x) b y = upd (upd H b y) a x := by
  funext c
  by_cases c1 : c = b
  · rw [c1, upd_same, upd_ne n.symm, upd_same]
  · rw [upd_ne c1]
    by_cases c2 : c = a
    · rw [c2, upd_same, upd_same]
    · rw [upd_ne c2, upd_ne c2, upd_ne c1]
theorem Dr.unlock {st L wd : Addr} {H H' : Hp} {od : Obj} {u : HO} (g : Good st L H) (d : Dr st L (upd H wd (.frz od u)) H') (e : H wd = some u) (n1 : wd ≠ st) (n2 : wd ≠ L) : Dr st L H (upd H' wd u) := by
  refine ⟨fun a o n h => ?_, ?_⟩
  · by_cases c : a = wd
    · rw [c, e] at h
      rw [c, upd_same, ← h]
    · rw [upd_ne c]
      exact d.kp a o n (by rw [upd_ne c]; exact h)
  · obtain ⟨ns, i, a, b, h1, h2, r⟩ := d.good
    exact ⟨ns, i, a, b, by rw [upd_ne n1.symm]; exact h1, by rw [upd_ne n2.symm]; exact h2, r⟩
section
variable {P : Program} {w : World} {K : PySem.W.Frag} {mg : Str → Option Value} {base : Heap}
abbrev sLr : Stmt := topS 35
abbrev nLr : List Str := ["state", "widths", "rows", "name", "k", "row", "j"]
theorem scLr : FnScope nLr ["state", "widths"] (defScope sLr) := ⟨rfl, rfl, rfl, by decide +kernel, rfl, by decide +kernel, by decide +kernel⟩
def spLr : Sp := fun vs H Q _ => ∃ (st L wd : Addr), vs = [.ref st, .ref wd] ∧ Good st L H ∧ H wd = some (.dK wK) ∧
  ∀ (p : Addr) (R : Rws) H', Dr st L H H' → RowsD st H' p R → RowsB R → Q (.ref p) H'
theorem ok_lr {f : Addr} {fd : FuncData} (F : Fun K "_law_rows" "_law_rows" sLr f fd) (B : Bt mg) (DN : dNext P w K mg base) (DW : dLw P w K mg base) : FnOk P w K mg base CX0 3 f fd ["state", "widths"] spLr := by
  refine F.ok scLr (fun vs H Q E h => ?_) (fun cdv A outer s H vs Q E hr h => ?_)
  · obtain ⟨_, _, _, rfl, _⟩ := h
    rfl
  · obtain ⟨st, L, wd, rfl, g, ew, q⟩ := h
    have hu := hr.units
    have hu1 := hu_of hr
    have r1 : Room 1 _ := hr.mono (by decide)
    refine ⟨_, pss_cons (ps_set (i := 2) scLr.nd rfl (.inl rfl) pe_dnewK)
      (pss_cons (ps_lock (ps_for PassesOwn.never rfl (pi_keys (pv 1)) (pg_name (i := 3) scLr.nd rfl (.inl rfl))
        (pss_cons (ps_dput hu1 (pv 2) (pv 3) (pe_lst pa_nil) rfl)
        (pss_one (ps_for PassesOwn.never rfl (pi_range1 (by rfl) B.rng (pa_cons (pe_def DN r1 (by rfl) (pa_cons (pv 0) (pa_cons pe_int pa_nil))) pa_nil)) (pg_name (i := 4) scLr.nd rfl (.inl rfl))
          (pss_cons (ps_set (i := 5) scLr.nd rfl (.inl rfl) (pe_callTy call_tuple_of (by rfl) B.tup (by decide +kernel) (pa_cons (pe_lc (own := [("j", 6)]) (g := gName 6) (tt := tYes) (te := tCall spLw [] E0 (tCons (tVar 0) tNil)) rfl scLr.nd (pi_range1 (by rfl) B.rng (pa_cons (pe_dget hu1 (pv 1) (pv 3) (fun _ _ => rfl)) pa_nil)) (blkOk_by (own := [("j", 6)]) (N := nLr) (sc := defScope sLr) (by decide +kernel))
              (fun _ _ _ _ _ => pg_name (i := 6) scLr.nd rfl (Or.inl rfl)) (fun _ _ _ _ _ => pts_nil) (fun _ _ _ _ _ => pe_def DW hr (by rfl) (pa_cons (pv 0) pa_nil))) pa_nil)))
          (pss_one (ps_if (pt_cmpR (op_niL hu) (pv 5) (pe_dget hu1 (pv 2) (pv 3) (fun _ _ => rfl)) rfl)
            (pss_one (ps_expr (pe_bm PySem.F.plainAttrs_list PySem.F.slot_list_append PySem.F.type_list_append mt_append (pe_dget hu1 (pv 2) (pv 3) (fun _ _ => rfl)) (pa_cons (pv 5) pa_nil)))) pss_nil))))))))
      (pss_one (ps_ret (pv 2)))), ?_⟩
    have nst : wd ≠ st := fun z => by
      obtain ⟨_, _, _, _, e, _⟩ := g
      rw [z, e] at ew
      cases ew
    have nL : wd ≠ L := fun z => by
      obtain ⟨_, _, _, _, _, e, _⟩ := g
      rw [z, e] at ew
      cases ew
    intro D nD
    have nDw : D ≠ wd := (ne_of_none ew nD).symm
    refine ⟨wd, .dK wK, by rw [upd_ne nDw.symm]; exact ew, trivial, fun od => ?_⟩
    refine ⟨.ref wd, rfl, wd, od, rfl, .inl ⟨wK, upd_same, ?_⟩⟩
    rw [upd_comm nDw]
    have fin : ∀ H' p R, Dr st L (upd H wd (.frz od (.dK wK))) H' → RowsD st H' p R → p ≠ wd → RowsB R → (∀ kvs, H' p = some (.dK kvs) → Ents (fun a => a ≠ st ∧ a ≠ wd) H' kvs R) → Q (.ref p) (upd H' wd (.dK wK)) := fun H' p R d rd npw rb en => by
      refine q p R _ (d.unlock g ew nst nL) ?_ rb
      obtain ⟨kvs, e, n, _⟩ := rd
      refine ⟨kvs, by rw [upd_ne npw]; exact e, n, (en kvs e).mono (fun b zs hb => ?_) fun b zs hb e2 => ⟨by rw [upd_ne hb.2]; exact e2, hb.1⟩⟩
      have hwd : H' wd = some (.frz od (.dK wK)) := d.at_ nst upd_same
      rw [upd_ne (fun z => by rw [z, hwd] at hb; cases hb)]
      exact hb
    have gB : Good st L (upd H wd (.frz od (.dK wK))) := by
      obtain ⟨ns, i, a, b, h1, h2, r⟩ := g
      exact ⟨ns, i, a, b, by rw [upd_ne nst.symm]; exact h1, by rw [upd_ne nL.symm]; exact h2, r⟩
    have nDB : (upd H wd (.frz od (.dK wK))) D = none := by
      rw [upd_ne nDw]
      exact nD
    have ewB : (upd H wd (.frz od (.dK wK))) wd = some (.frz od (.dK wK)) := upd_same
    revert gB nDB ewB fin
    generalize (upd H wd (.frz od (.dK wK))) = HB
    intro fin gB nDB ewB
    have bst : HB st ≠ none := gB.not_none
    have nDst : D ≠ st := fun z => bst (by rw [← z]; exact nDB)
    refine for_it walk_keys (fun i σ H' => (∃ x3 x4 x5 x6 : Option V, σ = [some (.ref st), some (.ref wd), some (.ref D), x3, x4, x5, x6]) ∧ Dr st L HB H' ∧ ∃ kvs R, H' D = some (.dK kvs) ∧ Ents (fun a => HB a = none) H' kvs R ∧ R.map (·.1) = (["p", "q", "r"] : List Str).take i ∧ ∀ p ∈ R, RowsB1 p)
      ⟨⟨none, none, none, none, rfl⟩, Dr.new gB nDB, [], [], upd_same, .nil, rfl, fun p h => by cases h⟩ (fun i σ H' _ hP => hP.2.1.at_ nst ewB) (fun i x σ H' H2 hi hP hY => ?_) (fun σ H' hP => ?_)
    · obtain ⟨rfl, k, v, ek, rfl⟩ := hY
      obtain ⟨⟨x3, x4, x5, x6, rfl⟩, dr, kvs, R, eD, en, nm, rb⟩ := hP
      obtain ⟨r, n, rfl, hrel, hn3, hval, hat⟩ := wK_at ek
      have lk := en.length
      have lR : R.length ≤ 3 := by
        have := congrArg List.length nm
        rw [List.length_map, List.length_take] at this
        have e3 : (["p", "q", "r"] : List Str).length = 3 := rfl
        omega
      have hno : valV kvs (.inr r) = none := en.none (by rw [nm]; exact pqr_not hat)
      refine ⟨(by show 0 ≤ sizeLine; decide), fun l nl => ?_⟩
      refine ⟨.ref D, rfl, .str r, rfl, D, _, rfl, .inl ⟨kvs, Sum.inr r, same_new nl _ _ eD, rfl, small1000 (by omega), rfl⟩, ?_⟩
      have nlB : HB l = none := dr.free nl
      have nlD : l ≠ D := (ne_of_none eD nl).symm
      have nlst : l ≠ st := fun z => bst (by rw [← z]; exact nlB)
      have dr2 : Dr st L HB (upd (upd H2 l (.lst [])) D (.dK (putK kvs (.inr r) (.ref l)))) := (dr.add nl).put gB nDB
      have el2 : (upd (upd H2 l (.lst [])) D (.dK (putK kvs (.inr r) (.ref l)))) l = some (.lst []) := by
        rw [upd_ne nlD]
        exact upd_same
      have eD2 : (upd (upd H2 l (.lst [])) D (.dK (putK kvs (.inr r) (.ref l)))) D = some (.dK (putK kvs (.inr r) (.ref l))) := upd_same
      have tk2 : Tk H2 (upd (upd H2 l (.lst [])) D (.dK (putK kvs (.inr r) (.ref l)))) := fun b zs hb => by
        rw [upd_ne (ne_of hb eD (fun z => by cases z)), upd_ne (ne_of_none hb nl)]
        exact hb
      have en2 : Ents (fun a => HB a = none ∧ a ≠ l) (upd (upd H2 l (.lst [])) D (.dK (putK kvs (.inr r) (.ref l)))) kvs R := en.mono tk2 fun a xs f e => by
        have n1 : a ≠ l := ne_of_none e nl
        refine ⟨?_, f, n1⟩
        rw [upd_ne (ne_of e eD (fun z => by cases z)), upd_ne n1]
        exact e
      revert dr2 el2 eD2 en2
      clear tk2
      generalize (upd (upd H2 l (.lst [])) D (.dK (putK kvs (.inr r) (.ref l)))) = H3
      intro dr2 el2 eD2 en2
      -- drawing
      have drawn : ∀ {Ha Hb : Hp}, Dr st L HB Ha → Dr st L Ha Hb → Ents (fun a => HB a = none ∧ a ≠ l) Ha kvs R → Ents (fun a => HB a = none ∧ a ≠ l) Hb kvs R := fun d1 d2 e => e.mono (d2.tk d1.good) fun a xs f e => ⟨d2.at_ (fun z => bst (by rw [← z]; exact f.1)) e, f⟩
      refine ⟨.ref st, rfl, st, L, 6, rfl, dr2.good, by decide, by decide, fun m H4 d4 m0 m1 => ?_⟩
      refine ⟨m, rfl, by omega, by omega, ?_⟩
      refine for_range (lo := 0) (n := m.toNat) (fun i σ H' => (∃ x4 x5 x6 : Option V, σ = [some (.ref st), some (.ref wd), some (.ref D), some (.str r), x4, x5, x6]) ∧ Dr st L HB H' ∧ H' D = some (.dK (putK kvs (.inr r) (.ref l))) ∧ Ents (fun a => HB a = none ∧ a ≠ l) H' kvs R ∧ ∃ xs rows, H' l = some (.lst xs) ∧ Tps H' xs (rows.map rowD) ∧ rows.length ≤ i ∧ ∀ row ∈ rows, row.length = n ∧ ∀ k ∈ row, KeyB 100 k)
        ⟨⟨_, _, _, rfl⟩, dr2.trans d4, d4.at_ nDst eD2, drawn dr2 d4 en2, [], [], d4.at_ nlst el2, .nil, Nat.le_refl _, fun row h => by cases h⟩ (fun c σ H' hc hP => ?_) (fun σ H' hP => ?_)
      · obtain ⟨⟨y4, y5, y6, rfl⟩, dr5, eD5, en5, xs, rows, el5, tr5, lr5, hr5⟩ := hP
        have hc5 : c < 5 := by omega
        refine ⟨.ref wd, rfl, .str r, rfl, wd, .int (n : Nat), rfl, .inl ⟨wK, .inr r, .inr ⟨od, dr5.at_ nst ewB⟩, rfl, hval.symm⟩, (n : Nat), rfl, by omega, by omega, fun D2 nD2 => ?_⟩
        have nD2st : D2 ≠ st := fun z => dr5.good.not_none (by rw [← z]; exact nD2)
        refine lc_range (lo := 0) (n := ((n : Nat) : Int).toNat) (fun e H6 => Dr st L H' H6 ∧ ∃ ks : List Key, H6 D2 = some (.lst (ks.map kV)) ∧ ks.length = e ∧ ∀ k ∈ ks, KeyB 100 k) ⟨Dr.new dr5.good nD2, [], upd_same, rfl, fun k h => by cases h⟩ (fun e H6 he hP => ?_) (fun H6 hP => ?_)
        · obtain ⟨d6, ks, ed, lks, hks⟩ := hP
          refine ⟨rfl, iteT (B := True) ?_⟩
          refine ⟨.ref st, rfl, st, L, rfl, d6.good, fun k H7 d7 hk => ?_⟩
          refine ⟨_, d7.at_ nD2st ed, small1000 (by rw [List.length_map]; omega), (d6.trans d7).put dr5.good nD2, ks ++ [k], by rw [upd_same, List.map_append]; rfl, by rw [List.length_append, List.length_singleton]; omega, fun k2 h2 => ?_⟩
          rcases List.mem_append.mp h2 with h2 | h2
          · exact hks k2 h2
          · rw [List.mem_singleton.mp h2]
            exact hk
        · obtain ⟨d6, ks, ed, lks, hks⟩ := hP
          rw [Int.toNat_natCast] at lks
          refine ⟨D2, _, rfl, .inl ⟨SqL.of ed, fun tp ntp => ?_⟩⟩
          have d7 : Dr st L H' (upd H6 tp (.tup (ks.map kV))) := d6.add ntp
          have etp : (upd H6 tp (.tup (ks.map kV))) tp = some (.tup (ks.map kV)) := upd_same
          revert d7 etp
          generalize (upd H6 tp (.tup (ks.map kV))) = H7
          intro d7 etp
          have dr7 := dr5.trans d7
          have eD7 := d7.at_ nDst eD5
          have en7 := drawn dr5 d7 en5
          have el7 := d7.at_ nlst el5
          have tr7 := tr5.mono (d7.tk dr5.good)
          have hv : valV (putK kvs (.inr r) (.ref l)) (Sum.inr r) = some (.ref l) := by rw [valV_put, if_pos rfl]
          have lxs := tr7.length
          rw [List.length_map] at lxs
          refine ⟨.ref tp, rfl, .ref D, rfl, .str r, rfl, D, .ref l, rfl, .inl ⟨_, .inr r, .inl eD7, rfl, hv.symm⟩, rowD ks, rows.map rowD, (row_tp etp).dp, .lst (SqL.of el7) tr7.dp, (row_tp etp).plain, tr7.plain, Nat.le_trans (rowD_depth ks) (by decide), _, rfl, ?_⟩
          cases ((rows.map rowD).any fun z => PyData.eqv z (rowD ks)) with
          | true => exact iteF ⟨⟨_, _, _, rfl⟩, dr7, eD7, en7, xs, rows, el7, tr7, by omega, hr5⟩
          | false =>
            refine iteT ?_
            refine ⟨.ref D, rfl, .str r, rfl, D, .ref l, rfl, .inl ⟨_, .inr r, .inl eD7, rfl, hv.symm⟩, .inl ⟨rfl, _, SqL.of el7⟩, .ref tp, rfl, l, xs, _, rfl, rfl, el7, small1000 (by omega), ?_⟩
            refine ⟨⟨_, _, _, rfl⟩, dr7.put gB nlB, by rw [upd_ne nlD.symm]; exact eD7, en7.mono (Tk.lst el7) fun a zs f e => ⟨by rw [upd_ne f.2]; exact e, f⟩, xs ++ [.ref tp], rows ++ [ks], upd_same, ?_, by rw [List.length_append, List.length_singleton]; omega, fun row h => ?_⟩
            · rw [List.map_append]
              exact (tr7.mono (Tk.lst el7)).append (.cons (row_tp (Tk.lst el7 _ _ etp)) .nil)
            · rcases List.mem_append.mp h with h | h
              · exact hr5 row h
              · rw [List.mem_singleton.mp h]
                exact ⟨lks, hks⟩
      · obtain ⟨⟨y4, y5, y6, rfl⟩, dr5, eD5, en5, xs, rows, el5, tr5, lr5, hr5⟩ := hP
        refine ⟨⟨_, _, _, _, rfl⟩, dr5, putK kvs (.inr r) (.ref l), R ++ [(r, rows)], eD5, ?_, ?_, fun p hp => ?_⟩
        · rw [putK_new _ hno]
          exact (en5.mono (F' := fun a => HB a = none) (fun _ _ h => h) fun a zs f e => ⟨e, f.1⟩).snoc nlB el5 tr5
        · rw [List.map_append, nm, take_next hat]
          rfl
        · rcases List.mem_append.mp hp with hp | hp
          · exact rb p hp
          · rw [List.mem_singleton.mp hp]
            exact ⟨n, hrel, by show rows.length ≤ 5; omega, hr5⟩
    · obtain ⟨⟨x3, x4, x5, x6, rfl⟩, dr, kvs, R, eD, en, nm, rb⟩ := hP
      refine ⟨dr.at_ nst ewB, .ref D, rfl, ?_⟩
      have en2 : ∀ kvs', H' D = some (.dK kvs') → Ents (fun a => a ≠ st ∧ a ≠ wd) H' kvs' R := fun kvs' e => by
        rw [eD] at e
        cases e
        exact en.mono (fun _ _ h => h) fun a xs f e => ⟨e, fun z => bst (by rw [← z]; exact f), fun z => by rw [z, ewB] at f; cases f⟩
      exact fin H' D R dr ⟨kvs, eD, nDst, (en2 kvs eD).mono (fun _ _ h => h) fun a xs f e => ⟨e, f.1⟩⟩ nDw ⟨nm, rb⟩ en2
end
end KC

/-! repr of a list of two dicts of rows. -/
namespace KC
open PySem PySem.Spec PyProof.Rows L2 KA
def rwsD (R : Rws) : PyData := .dict (R.map fun p => (.str p.1, .list (p.2.map rowD)))
def bothD (R0 R : Rws) : PyData := .list [rwsD R0, rwsD R]
/-! ### sizes -/
theorem weightAll_le {w : Nat} : ∀ {ds : List PyData}, (∀ d ∈ ds, d.weight ≤ w) → PyData.weightAll ds ≤ ds.length * (w + 1)
  | [], _ => Nat.zero_le _
  | d :: ds, h => by
    have h1 := h d List.mem_cons_self
    have h2 := weightAll_le (ds := ds) fun x hx => h x (List.mem_cons_of_mem _ hx)
    rw [PyData.weightAll, List.length_cons, Nat.succ_mul]
    omega
theorem key_weight {k : Key} (h : KeyB 100 k) : (keyD k).weight ≤ 101 := by
  cases k with
  | inl i =>
    have hi := h.1 i rfl
    show (if (i == 0) = true then 0 else i.natAbs.log2 + 1) ≤ 101
    split
    · exact Nat.zero_le _
    · rename_i c
      have hn : i.natAbs ≠ 0 := fun z => c (by rw [Int.natAbs_eq_zero.mp z]; rfl)
      have := (Nat.log2_lt hn).mpr hi
      omega
  | inr z => exact Nat.le_trans (h.2 z rfl).1 (by decide)
theorem key_short {k : Key} (h : KeyB 100 k) : (keyD k).leavesShort 130 = true := by
  cases k with
  | inl i =>
    have hi := h.1 i rfl
    show decide ((Str.ofString (toString i)).length ≤ 130) = true
    have hl : i.natAbs.log2 < 100 := by
      by_cases c : i.natAbs = 0
      · rw [c]
        decide
      · exact (Nat.log2_lt c).mpr hi
    have := int_text_length_le (k := 100) (by decide) hl
    rw [PySem.ofString_length]
    exact decide_eq_true (by omega)
  | inr z =>
    show (z.cps.toList.all fun c => decide (c < 16 ^ 8)) = true
    rw [List.all_eq_true]
    exact fun c hc => decide_eq_true ((h.2 z rfl).2 c hc)
theorem key_show {k : Key} (h : KeyB 100 k) : (keyD k).showable = true := by
  cases k with
  | inl i =>
    have hi := h.1 i rfl
    show decide (i.natAbs.log2 < 1920) = true
    by_cases c : i.natAbs = 0
    · rw [c]
      decide
    · have := (Nat.log2_lt c).mpr hi
      exact decide_eq_true (by omega)
  | inr z => rfl
theorem all_short {B : Nat} : ∀ {ds : List PyData}, (∀ d ∈ ds, d.leavesShort B = true) → PyData.leavesShortAll B ds = true
  | [], _ => by rw [PyData.leavesShortAll]
  | d :: ds, h => by
    rw [PyData.leavesShortAll, h d List.mem_cons_self, all_short fun x hx => h x (List.mem_cons_of_mem _ hx)]
    rfl
theorem all_show : ∀ {ds : List PyData}, (∀ d ∈ ds, d.showable = true) → PyData.showableAll ds = true
  | [], _ => by rw [PyData.showableAll]
  | d :: ds, h => by
    rw [PyData.showableAll, h d List.mem_cons_self, all_show fun x hx => h x (List.mem_cons_of_mem _ hx)]
    rfl
theorem all_flat : ∀ {ds : List PyData}, (∀ d ∈ ds, d.hasDict = false) → PyData.hasDictAll ds = false
  | [], _ => by rw [PyData.hasDictAll]
  | d :: ds, h => by
    rw [PyData.hasDictAll, h d List.mem_cons_self, all_flat fun x hx => h x (List.mem_cons_of_mem _ hx)]
    rfl
theorem row_flat (r : List Key) : (rowD r).hasDict = false := by
  show PyData.hasDictAll (r.map keyD) = false
  refine all_flat fun d hd => ?_
  obtain ⟨k, _, rfl⟩ := List.mem_map.mp hd
  cases k <;> rfl
theorem rows_flat (rs : List (List Key)) : (PyData.list (rs.map rowD)).hasDict = false := by
  show PyData.hasDictAll (rs.map rowD) = false
  refine all_flat fun d hd => ?_
  obtain ⟨r, _, rfl⟩ := List.mem_map.mp hd
  exact row_flat r
section
variable {p : Str × List (List Key)}
theorem RowsB1.row (h : RowsB1 p) : ∀ r ∈ p.2, (rowD r).showable = true ∧ (rowD r).leavesShort 130 = true ∧ (rowD r).weight ≤ 306 := by
  obtain ⟨n, hn, _, hr⟩ := h
  have n3 : n ≤ 3 := by rcases hn with ⟨_, rfl⟩ | ⟨_, rfl⟩ | ⟨_, rfl⟩ <;> decide
  intro r hm
  obtain ⟨lr, hk⟩ := hr r hm
  refine ⟨?_, ?_, ?_⟩
  · show PyData.showableAll (r.map keyD) = true
    refine all_show fun d hd => ?_
    obtain ⟨k, hk2, rfl⟩ := List.mem_map.mp hd
    exact key_show (hk k hk2)
  · show PyData.leavesShortAll 130 (r.map keyD) = true
    refine all_short fun d hd => ?_
    obtain ⟨k, hk2, rfl⟩ := List.mem_map.mp hd
    exact key_short (hk k hk2)
  · show PyData.weightAll (r.map keyD) ≤ 306
    have := weightAll_le (w := 101) (ds := r.map keyD) fun d hd => by
      obtain ⟨k, hk2, rfl⟩ := List.mem_map.mp hd
      exact key_weight (hk k hk2)
    rw [List.length_map, lr] at this
    have h2 : n * (101 + 1) ≤ 3 * (101 + 1) := Nat.mul_le_mul_right _ n3
    omega
theorem RowsB1.rows (h : RowsB1 p) : (PyData.list (p.2.map rowD)).showable = true ∧ (PyData.list (p.2.map rowD)).leavesShort 130 = true ∧ (PyData.list (p.2.map rowD)).weight ≤ 1535 := by
  have hr := h.row
  obtain ⟨n, _, h5, _⟩ := h
  refine ⟨?_, ?_, ?_⟩
  · show PyData.showableAll (p.2.map rowD) = true
    refine all_show fun d hd => ?_
    obtain ⟨k, hk2, rfl⟩ := List.mem_map.mp hd
    exact (hr k hk2).1
  · show PyData.leavesShortAll 130 (p.2.map rowD) = true
    refine all_short fun d hd => ?_
    obtain ⟨k, hk2, rfl⟩ := List.mem_map.mp hd
    exact (hr k hk2).2.1
  · show PyData.weightAll (p.2.map rowD) ≤ 1535
    have := weightAll_le (w := 306) (ds := p.2.map rowD) fun d hd => by
      obtain ⟨k, hk2, rfl⟩ := List.mem_map.mp hd
      exact (hr k hk2).2.2
    rw [List.length_map] at this
    have h2 : p.2.length * (306 + 1) ≤ 5 * (306 + 1) := Nat.mul_le_mul_right _ h5
    omega
theorem RowsB1.name (h : RowsB1 p) : (PyData.str p.1).leavesShort 130 = true ∧ (PyData.str p.1).weight ≤ 1 := by
  obtain ⟨n, hn, _⟩ := h
  rcases hn with ⟨e, _⟩ | ⟨e, _⟩ | ⟨e, _⟩ <;> rw [e] <;> exact ⟨by decide +kernel, by decide +kernel⟩
end
theorem rws_facts : ∀ {R : Rws}, (∀ p ∈ R, RowsB1 p) → (rwsD R).showable = true ∧ (rwsD R).leavesShort 130 = true ∧ (rwsD R).weight ≤ R.length * 1538
  | [], _ => ⟨rfl, rfl, Nat.zero_le _⟩
  | p :: R, h => by
    obtain ⟨h1, h2, h3⟩ := (h p List.mem_cons_self).rows
    obtain ⟨n1, n2⟩ := (h p List.mem_cons_self).name
    obtain ⟨i1, i2, i3⟩ := rws_facts (R := R) fun x hx => h x (List.mem_cons_of_mem _ hx)
    refine ⟨?_, ?_, ?_⟩
    · show ((PyData.str p.1).showable && (PyData.list (p.2.map rowD)).showable && (rwsD R).showable) = true
      rw [h1, i1]
      rfl
    · show ((PyData.str p.1).leavesShort 130 && (PyData.list (p.2.map rowD)).leavesShort 130 && (rwsD R).leavesShort 130) = true
      rw [n1, h2, i2]
      rfl
    · show (PyData.str p.1).weight + (PyData.list (p.2.map rowD)).weight + 2 + (rwsD R).weight ≤ (R.length + 1) * 1538
      rw [Nat.succ_mul]
      omega
theorem RowsB.len {R : Rws} (h : RowsB R) : R.length = 3 := by
  have := congrArg List.length h.names
  rw [List.length_map] at this
  exact this
theorem both_len {R0 R : Rws} (h0 : RowsB R0) (h : RowsB R) : (bothD R0 R).shown.length ≤ sizeLine := by
  obtain ⟨_, a2, a3⟩ := rws_facts h0.each
  obtain ⟨_, b2, b3⟩ := rws_facts h.each
  rw [h0.len] at a3
  rw [h.len] at b3
  have hs : (bothD R0 R).leavesShort 130 = true := by
    show ((rwsD R0).leavesShort 130 && ((rwsD R).leavesShort 130 && true)) = true
    rw [a2, b2]
    rfl
  have := PyData.shown_le 130 (by decide) (bothD R0 R) hs
  have hw : (bothD R0 R).weight ≤ 9240 := by
    show (rwsD R0).weight + 1 + ((rwsD R).weight + 1 + 0) ≤ 9240
    omega
  have h2 : (130 + 2) * (bothD R0 R).weight ≤ (130 + 2) * 9240 := Nat.mul_le_mul_left _ hw
  rw [sizeLine_eq]
  omega
/-! ### reads -/
section
variable {X : Cx} {pins : List (Addr × Obj)} {σ : L2.St} {H : Hp} {s : Shared} {F : Addr → Prop}
theorem ents_reads (I : Inv X pins σ H s) {kvs : List (Key × V)} {R : Rws} (en : Ents F H kvs R) : ∀ {es : List DictEntry} {vs : List (Key × Value)}, KV kvs vs → Pairs (mixKind X.prog X.w) es vs →
    (∃ as, ReadsAll s.heap (es.map (·.key)) (R.map fun p => PyData.str p.1) as) ∧ ∃ bs, ReadsAll s.heap (es.map (·.val)) (R.map fun p => PyData.list (p.2.map rowD)) bs := by
  induction en with
  | nil =>
    intro es vs r q
    cases r
    cases q
    exact ⟨⟨_, .nil⟩, _, .nil⟩
  | @cons r l xs rows kvs R f e t _ ih =>
    intro es vs rr q
    cases rr with
    | @cons pp qq ps qs h1 h2 =>
      cases q with
      | @cons en0 kv es' kvs' h3 h4 h5 =>
        obtain ⟨⟨as, ha⟩, bs, hb⟩ := ih h2 h5
        have e1 : qq.1 = Sum.inr r := h1.1.symm
        rw [e1] at h3
        have hv : RelV (.ref l) qq.2 := h1.2
        obtain ⟨a1, r1⟩ := Dp.reads I (.list (rows.map rowD)) (.ref l) qq.2 (.lst (SqL.of e) t.dp) hv
        rw [← h4] at r1
        rcases keyIs_shape (show keyIs (Sum.inr r) en0.key = true from h3) with ⟨i, tk, z, _⟩ | ⟨y, tk, z, ek⟩
        · cases z
        · injection z with z
          subst z
          have hk2 : ReadsAll s.heap ((en0 :: es').map (·.key)) (((r, rows) :: R).map fun p => PyData.str p.1) ([] ++ as) := by
            show ReadsAll s.heap (en0.key :: _) _ _
            rw [ek]
            exact .cons (.str r tk) ha
          exact ⟨⟨_, hk2⟩, _, .cons r1 hb⟩
theorem dict_shows (I : Inv X pins σ H s) {a : Addr} {kvs : List (Key × V)} {R : Rws} (e : H a = some (.dK kvs)) (en : Ents F H kvs R) (rb : ∀ p ∈ R, RowsB1 p) (hz : (rwsD R).shown.length ≤ sizeLine) :
    ∃ as bs, Reads s.heap (.ref a) (rwsD R) as ∧ ReadAtMost s.heap (rwsD R).depth bs ∧ ReprK X.prog X.w bs s.heap (rwsD R).depth (.ref a) (rwsD R).shown := by
  obtain ⟨z, hsys, vs, rel, o, es, ep, ho, hc, hd, hk, hp, hn⟩ := dk_of I.hok e
  obtain ⟨⟨ka, hka⟩, va, hva⟩ := ents_reads I en rel hp
  have e1 : (R.map fun p => (PyData.str p.1, PyData.list (p.2.map rowD))).map (·.1) = R.map fun p => PyData.str p.1 := by rw [List.map_map]; rfl
  have e2 : (R.map fun p => (PyData.str p.1, PyData.list (p.2.map rowD))).map (·.2) = R.map fun p => PyData.list (p.2.map rowD) := by rw [List.map_map]; rfl
  have rd : Reads s.heap (.ref a) (rwsD R) (a :: ka ++ va) := .dict ho hc.1 hd (by rw [e1]; exact hka) (by rw [e2]; exact hva)
  have hz' : (dictText (PyData.shownKv (R.map fun p => (PyData.str p.1, PyData.list (p.2.map rowD))))).length ≤ sizeLine := hz
  obtain ⟨b1, hb1, k1⟩ := ReprAllK.of_readsAll (prog := X.prog) (w := X.w) hka (all_show fun d hd => by
      obtain ⟨p, _, rfl⟩ := List.mem_map.mp hd
      rfl) (fun hx => by rw [all_flat (fun d hd => by obtain ⟨p, _, rfl⟩ := List.mem_map.mp hd; rfl)] at hx; cases hx)
    (fun t ht => by
      rw [← e1] at ht
      obtain ⟨q, hq, hl⟩ := PyData.shownKv_key_le _ t ht
      exact Nat.le_trans hl (Nat.le_trans (dictText_mem_le hq) hz'))
  obtain ⟨b2, hb2, k2⟩ := ReprAllK.of_readsAll (prog := X.prog) (w := X.w) hva (all_show fun d hd => by
      obtain ⟨p, hp2, rfl⟩ := List.mem_map.mp hd
      exact (rb p hp2).rows.1) (fun hx => by rw [all_flat (fun d hd => by obtain ⟨p, _, rfl⟩ := List.mem_map.mp hd; exact rows_flat p.2)] at hx; cases hx)
    (fun t ht => by
      rw [← e2] at ht
      obtain ⟨q, hq, hl⟩ := PyData.shownKv_val_le _ t ht
      exact Nat.le_trans hl (Nat.le_trans (dictText_mem_le hq) hz'))
  have l1 := PyData.depthAll_keys_le (R.map fun p => (PyData.str p.1, PyData.list (p.2.map rowD)))
  have l2 := PyData.depthAll_vals_le (R.map fun p => (PyData.str p.1, PyData.list (p.2.map rowD)))
  rw [e1] at l1
  rw [e2] at l2
  have dd : (rwsD R).depth = PyData.depthKv (R.map fun p => (PyData.str p.1, PyData.list (p.2.map rowD))) + 1 := rfl
  have hb := (hb1.mono l1).append (hb2.mono l2)
  have hna : a ∉ b1 ++ b2 := not_mem_of_deeper rd (by omega) hb
  refine ⟨_, a :: (b1 ++ b2), rd, ReadAtMost.cons rd (by omega) hb, ?_⟩
  rw [dd]
  show ReprK _ _ _ _ _ _ (dictText (PyData.shownKv _))
  rw [PyData.shownKv_eq, e1, e2]
  exact ReprK.dict ho hc.1 hd hsys hna (ReprEntriesK.of_two es.toList _ _ (k1.more_le (fun b hb => List.mem_append_left _ hb) l1) (k2.more_le (fun b hb => List.mem_append_right _ hb) l2))
theorem rows_depth (rs : List (List Key)) : (PyData.list (rs.map rowD)).depth ≤ 2 := by
  show PyData.depthAll (rs.map rowD) + 1 ≤ 2
  have : PyData.depthAll (rs.map rowD) ≤ 1 := by
    induction rs with
    | nil => exact Nat.zero_le _
    | cons r rs ih =>
      rw [List.map_cons, PyData.depthAll]
      have := rowD_depth r
      omega
  omega
theorem rws_depth : ∀ R : Rws, PyData.depthKv (R.map fun p => (PyData.str p.1, PyData.list (p.2.map rowD))) ≤ 2
  | [] => Nat.zero_le _
  | p :: R => by
    have h1 := rows_depth p.2
    have h2 := rws_depth R
    show max (max (PyData.str p.1).depth (PyData.list (p.2.map rowD)).depth) _ ≤ 2
    have h3 : (PyData.str p.1).depth = 0 := rfl
    omega
def rReprB : List V → Hp → VK → Prop := fun xs H Q => ∃ (p a b : Addr) (kv0 kv1 : List (Key × V)) (R0 R : Rws) (F0 F1 : Addr → Prop), xs = [.ref p] ∧ H p = some (.lst [.ref a, .ref b]) ∧ H a = some (.dK kv0) ∧ Ents F0 H kv0 R0 ∧ H b = some (.dK kv1) ∧ Ents F1 H kv1 R ∧ RowsB R0 ∧ RowsB R ∧ Q (.str (bothD R0 R).shown) H
theorem call_reprB (hg : X.A.guards = some []) (hu : X.A.units + 64 < cLine) : CallR X (.builtin "repr") rReprB := by
  intro pins s σ H xs us Q I r h
  obtain ⟨p, a, b, kv0, kv1, R0, R, F0, F1, rfl, ep, ea, en0, eb, en1, r0, r1, q⟩ := h
  obtain ⟨u, rfl, ru⟩ := vals1 r
  obtain rfl : u = Value.ref p := ru
  obtain ⟨z, its, n, rv, _, ho⟩ := I.lstM ep
  obtain ⟨x, y, rfl, rx, ry⟩ := vals2 rv
  obtain rfl : x = Value.ref a := rx
  obtain rfl : y = Value.ref b := ry
  have hz : (listText [(rwsD R0).shown, (rwsD R).shown]).length ≤ sizeLine := both_len r0 r1
  obtain ⟨as0, bs0, d0, m0, k0⟩ := dict_shows I ea en0 r0.each (Nat.le_trans (listText_mem_le List.mem_cons_self) hz)
  obtain ⟨as1, bs1, d1, m1, k1⟩ := dict_shows I eb en1 r1.each (Nat.le_trans (listText_mem_le (List.mem_cons_of_mem _ List.mem_cons_self)) hz)
  have rd : Reads s.heap (.ref p) (bothD R0 R) _ := .list ho rfl rfl (.cons d0 (.cons d1 .nil))
  have e0 : (rwsD R0).depth ≤ 3 := Nat.succ_le_succ (rws_depth R0)
  have e1 : (rwsD R).depth ≤ 3 := Nat.succ_le_succ (rws_depth R)
  have dep : (bothD R0 R).depth = max (rwsD R0).depth (max (rwsD R).depth 0) + 1 := rfl
  have hb : ReadAtMost s.heap (max (rwsD R0).depth (max (rwsD R).depth 0)) (bs0 ++ bs1) := (m0.mono (by omega)).append (m1.mono (by omega))
  have hna : p ∉ bs0 ++ bs1 := not_mem_of_deeper rd (by omega) hb
  refine call_repr_slot (by omega) ⟨_, ho, rfl⟩ PySem.F.slot_list_repr.toG (call_list_reprK ho rfl rfl hna rfl (d := max (rwsD R0).depth (max (rwsD R).depth 0)) (fun i y e => ?_) hg (fun b _ => Clear.nil b) (by show X.A.units + 1 + _ < cLine; omega) (fun _ _ e => e) (fun h' u tk hk => ⟨_, _, rfl, .str _, H, I.kept (t' := tk) hk, ⟨u, rfl⟩, q⟩) hz)
  match i, e with
  | 0, e =>
    cases e
    exact ⟨_, rfl, (k0.more fun b hb => List.mem_append_left _ hb).level_le (by omega)⟩
  | 1, e =>
    cases e
    exact ⟨_, rfl, (k1.more fun b hb => List.mem_append_right _ hb).level_le (by omega)⟩
  | i + 2, e => simp at e
end
end KC

/-! A law whose def calls repr: the def is asked at the claim's own call alone, where no repr is under way. -/
namespace KC
open PySem PySem.Spec PyProof.Rows L2 KA
section
variable {P : Program} {w : World} {K : PySem.W.Frag} {mg mb : Str → Option Value} {base : Heap}
abbrev noE : XK := fun _ _ _ => False
/-- what the claim's own call of the def at fa keeps -/
def LawRun (P : Program) (w : World) (K : PySem.W.Frag) (mg : Str → Option Value) (base : Heap) (fa : Addr) (sp : Sp) : Prop :=
  ∀ (s : Shared) (H : Hp) (u : Value) (v : V) (Q : VK), Env0 P w K mg base callerA [] s H → RelV v u → sp [v] H Q noE → codeAny (model P w) callerA (.call (.ref fa) ⟨[u], []⟩) (CR CX0 [] P w H s Q noE) s
theorem one_kind {sc : Scope} {x : Str} {u : Value} {n : Addr} (h : sc.names.lookup x = some .local) :
    ∀ y ∈ [(x, u)], sc.names.lookup y.1 = some .local ∨ (sc.names.lookup y.1 = some .cell ∧ ((cellsFrom n sc.names []).lookup y.1).isSome = true) := fun y hy => by
  rw [List.mem_singleton.mp hy]
  exact .inl h
theorem lawRun_of {st : Stmt} {fa : Addr} {fd : FuncData} {N : List Str} {x qual : Str} {sp : Sp} (F : Fun K x qual st fa fd) (S : FnScope N ["script"] (defScope st)) (loc : (defScope st).names.lookup ("script" : Str) = some NameKind.local)
    (bind : ∀ (s : Shared) (u : Value), BindsTo s fd ⟨[u], []⟩ [("script", u)])
    (body : ∀ (cdv : Value) (s : Shared) (H : Hp) (v : V) (Q : VK), sp [v] H Q noE → ∃ t, PSs (cxOf CX0 P w K mg base N qual (defScope st) fa cdv callerA [] s H noE).nox (defBody st) t ∧ t { nx := fun _ H' => Q .non H', rt := Q } (start N [v]) H) :
    LawRun P w K mg base fa sp := by
  intro s H u v Q env rv hs
  obtain ⟨oc, od, kV, doc, pm, an, cdv, ct, osl, rfl, found, code⟩ := F.ex
  obtain ⟨t, walk, ask⟩ := body cdv s H v Q hs
  have older : ∀ b o, base.get? b = some o → s.heap.get? b = some o := fun b o e => (env.bs b o e).1
  have inK : K.In s.heap := env.mod.kin.keeps older
  have vals : Vals [v] [u] := .cons rv .nil
  have room : (callerA).depth < recursionLimit := by decide
  refine codeAny_call_function room (inK _ _ found) rfl S.co S.gen rfl (PySem.W.codeRec_of inK code) (bind s u _ _ _ _ ?_)
  refine wpAny_newFunctionEnv_cells S.kind (one_kind loc) ?_
  intro e2 he s2 fresh
  subst he
  constructor
  · exact (env.mod.nolimit.keeps older).keeps fresh.toInCall.keep
  · have J := inv_start (CX := CX0) (E := noE) (N := N) (ps := ["script"]) S (show (callerA).handled = none from rfl) env (show [v].length = (["script"] : List Str).length from rfl) vals fresh
    refine codeAny_func (wpAny_mono (walk.nox.run [] s2 (start N [v]) H _ J ask) ?_ fun _ _ z => z)
    intro fl s3 done
    have close : ∀ (σ : L2.St) (H3 : Hp) (v3 : V) (u3 : Value), Inv (cxOf CX0 P w K mg base N qual (defScope st) fa cdv callerA [] s H noE) [] σ H3 s3 → RelV v3 u3 → Q v3 H3 → CE [] P w H s Q u3 s3 := fun σ H3 v3 u3 I3 r3 q3 => by
      exact ⟨v3, H3, I3.os, I3.bare, I3.base, I3.hok, r3, q3⟩
    match fl, done with
    | .next, ⟨σ3, H3, I3, q3⟩ => exact close σ3 H3 .non .none I3 rfl q3
    | .ret u3, ⟨v3, σ3, H3, I3, r3, q3⟩ => exact close σ3 H3 v3 u3 I3 r3 q3
    | .brk, ⟨_, _, _, q3⟩ => exact q3.elim
    | .cont, ⟨_, _, _, q3⟩ => exact q3.elim
/-- the script as the only thing that is tracked -/
structure Script (P : Program) (w : World) (K : PySem.W.Frag) (h : Heap) (a : Addr) (xs : List V) (H : Hp) : Prop where
  only : Only H
  sq : SqL K H a xs
  ok : HOk P w H h
  one : ∀ b, H b ≠ none → b = a
  own : H a ≠ none → K.lookup a = none
theorem script_at {h : Heap} {a : Addr} {vs : List Value} {ns : List Int} (KX : K.In h) (ha : h.get? a = some { cls := .type "list", data := .seq vs.toArray }) (hi : Vals (ns.map V.int) vs) (hl : ns.length ≤ sizeLine) :
    ∃ H : Hp, Script P w K h a (ns.map V.int) H := by
  have hlen : vs.length = ns.length := by
    have := hi.length
    rw [List.length_map] at this
    exact this.symm
  cases c : K.lookup a with
  | some o =>
    have e : o = { cls := .type "list", data := .seq vs.toArray } := Option.some.inj ((KX a o c).symm.trans ha)
    subst e
    refine ⟨fun _ => none, fun _ => .inl rfl, .inr ⟨_, vs.toArray, _, c, rfl, rfl, rfl, ?_, by simpa using hi⟩, (fun b u z => nomatch (show (none : Option HO) = some u from z)), (fun b z => absurd rfl z), fun z => absurd rfl z⟩
    rw [List.size_toArray, hlen]
    exact hl
  | none =>
    let Hs : Hp := fun b => if b = a then some (.frz { cls := .type "list", data := .seq vs.toArray } (.lst (ns.map V.int))) else none
    have at_ : Hs a = some (.frz { cls := .type "list", data := .seq vs.toArray } (.lst (ns.map V.int))) := if_pos rfl
    have off : ∀ b, b ≠ a → Hs b = none := fun b n => if_neg n
    have all : ∀ b, Hs b ≠ none → b = a := fun b z => Classical.byContradiction fun n => z (off b n)
    refine ⟨Hs, fun b => ?_, .inl (.inr ⟨_, at_⟩), fun b u z => ?_, all, fun _ => c⟩
    · by_cases n : b = a
      · rw [n]
        exact .inr ⟨_, _, at_⟩
      · exact .inl (off b n)
    · have n := all b (by rw [z]; exact fun y => nomatch y)
      subst n
      rw [at_] at z
      cases z
      exact ⟨ha, by rw [List.length_map]; exact hl, vs, _, hi, ha⟩
/-- behind the call -/
theorem said_true {H : Hp} {s s' : Shared} {u : Value} (only : Only H) (ok : HOk P w H s.heap) (c : CE [] P w H s (fun v _ => v = .bl true) u s') : u = .bool true ∧ OldK s.heap s'.heap ∧ s'.os = s.os ∧ AllBare s'.gens := by
  obtain ⟨v, H2, hos, hbare, un, ok2, rv, hv⟩ := c
  have hv : v = .bl true := hv
  subst hv
  refine ⟨rv, OldK.of_keep ?_, hos, hbare⟩
  intro b o e
  rcases only b with n | ⟨ob, xs, t⟩
  · exact un.keep b o e n (fun z => nomatch z) (fun z => nomatch z)
  · have o1 := (ok b _ t).1
    have o2 := (ok2 b _ (un.frzs b ob _ t)).1
    rw [e] at o1
    cases o1
    exact o2
theorem claim_of {l : PySem.W.OpenLaw} {n : Nat} {q : Program} {loose : List Str} {XP : (Str → Option Value) → Heap → Prop} {YP : World → Heap → Prop} {d : DefRec} {KK : Params → PySem.W.Frag} {sp : World → Sp}
    (hn : l.most = some n) (hn2 : n ≤ sizeLine) (hdf : d.params.defaults = []) (hY : ∀ (w : World) (h : Heap), YP w h → (KK w.params).In h)
    (F : ∀ (w : World) (mg : Str → Option Value) (fa : Addr) (h : Heap), (KK w.params).In h → h.Ns mainGlobals mg → mg d.name = some (.ref fa) →
      ∀ base : Heap, (KK w.params).In base → base.Ns mainGlobals mg → LawRun l.prog w (KK w.params) mg base fa (sp w))
    (start : ∀ (w : World) (H : Hp) (a : Addr) (ns : List Int), ns.length ≤ n → SqL (KK w.params) H a (ns.map V.int) → sp w [.ref a] H (fun v _ => v = .bl true) noE) :
    PySem.W.WalkO q loose XP YP l.row.toRowW d [] (fun f vs => PySem.call f vs) := by
  refine Att.attach_call hn hdf ?_
  intro w s₀ s₁ mg mb fa o pm cd doc a vs ns G Y ho hd hcd hmg hobj hints hlen hgens
  have inK := hY w _ Y
  obtain ⟨H, sc⟩ := script_at (P := l.prog) (w := w) inK hobj (vals_ints hints) (Nat.le_trans hlen hn2)
  have stays : ∀ b o, s₁.heap.get? b = some o → H b = none → (hidT s₁.heap H).get? b = some o := fun b o => hidT_get
  have spaces : ∀ (b : Addr) (m : Str → Option Value), s₁.heap.Ns b m → (hidT s₁.heap H).Ns b m := by
    rintro b m ⟨ob, es, ep, e1, e2, e3⟩
    refine ⟨ob, es, ep, stays b ob e1 ?_, e2, e3⟩
    cases t : H b with
    | none => rfl
    | some z =>
      have := sc.one b (by rw [t]; exact fun y => nomatch y)
      subst this
      rw [hobj] at e1
      cases e1
      exact nomatch (show Data.seq vs.toArray _ = Data.dict es ep from e2)
  have inB : (KK w.params).In (hidT s₁.heap H) := by
    intro b ob e
    refine stays b ob (inK b ob e) ?_
    cases t : H b with
    | none => rfl
    | some z =>
      have n := sc.one b (by rw [t]; exact fun y => nomatch y)
      subst n
      rw [sc.own (by rw [t]; exact fun y => nomatch y)] at e
      cases e
  have md : Mod (KK w.params) mg (hidT s₁.heap H) := by
    refine ⟨inB, spaces _ _ G.T.g, ⟨mb, spaces _ _ G.T.b, G.T.builtins⟩, ?_⟩
    obtain ⟨mc, c1, c2⟩ := G.T.nolimit
    exact ⟨mc, spaces _ _ c1, c2⟩
  have env : Env0 l.prog w (KK w.params) mg (hidT s₁.heap H) callerA [] s₁ H := by
    refine ⟨rfl, md, fun b ob e => of_hidT e, Nat.le_of_eq (hidT_size _ _), trivial, (fun b hb => nomatch hb), sc.ok, .of_eq hgens⟩
  refine codeAny_mono (F w mg fa _ inK G.T.g hmg _ inB (spaces _ _ G.T.g) s₁ H (.ref a) (.ref a) _ env rfl (start w H a ns hlen sc.sq)) ?_
  intro r s2 res
  match r, res with
  | .ok (.ret u), res =>
    obtain ⟨e1, e2⟩ := said_true sc.only sc.ok res
    subst e1
    exact ⟨rfl, e2⟩
  | .ok .next, res => exact False.elim res
  | .ok .brk, res => exact False.elim res
  | .ok .cont, res => exact False.elim res
  | .error e, res => exact False.elim res
end
end KC

/-! A drawn body over drawn rows: few ways, values of few bits. -/
namespace KC
open PySem PySem.Spec PyProof.Rows L2 KA
theorem KeyB.mono {n m : Nat} {k : Key} (h : KeyB n k) (l : n ≤ m) : KeyB m k := ⟨fun i e => Nat.lt_of_lt_of_le (h.1 i e) (Nat.pow_le_pow_right (by decide) l), h.2⟩
theorem rel_one {r : Str} {n m : Nat} (a : RelB r n) (b : RelB r m) : n = m := by
  have e1 : ¬ (("p" : Str) = "q") := by decide +kernel
  have e2 : ¬ (("p" : Str) = "r") := by decide +kernel
  have e3 : ¬ (("q" : Str) = "r") := by decide +kernel
  rcases a with ⟨h1, h2⟩ | ⟨h1, h2⟩ | ⟨h1, h2⟩ <;> rcases b with ⟨h3, h4⟩ | ⟨h3, h4⟩ | ⟨h3, h4⟩
  · rw [h2, h4]
  · exact absurd (h1.symm.trans h3) e1
  · exact absurd (h1.symm.trans h3) e2
  · exact absurd (h3.symm.trans h1) e1
  · rw [h2, h4]
  · exact absurd (h1.symm.trans h3) e3
  · exact absurd (h3.symm.trans h1) e2
  · exact absurd (h3.symm.trans h1) e3
  · rw [h2, h4]
theorem rel_mem {r : Str} {n : Nat} (a : RelB r n) : r ∈ (["p", "q", "r"] : List Str) ∧ n ≤ 3 := by
  rcases a with ⟨h1, h2⟩ | ⟨h1, h2⟩ | ⟨h1, h2⟩
  · rw [h1, h2]
    exact ⟨by simp, by decide⟩
  · rw [h1, h2]
    exact ⟨by simp, by decide⟩
  · rw [h1, h2]
    exact ⟨by simp, by decide⟩
theorem rows_in {R : Rws} {r : Str} {n : Nat} (h : RowsB R) (a : RelB r n) : (R.any fun p => decide (p.1 = r)) = true ∧ (rowsOf R r).length ≤ 5 ∧ ∀ row ∈ rowsOf R r, row.length = n ∧ ∀ k ∈ row, KeyB 100 k := by
  have hm : r ∈ R.map (·.1) := by
    rw [h.names]
    exact (rel_mem a).1
  obtain ⟨p, hp, e⟩ := List.mem_map.mp hm
  have hany : (R.any fun p => decide (p.1 = r)) = true := List.any_eq_true.mpr ⟨p, hp, decide_eq_true e⟩
  refine ⟨hany, ?_⟩
  unfold rowsOf
  cases c : R.find? fun p => decide (p.1 = r) with
  | none => exact ⟨Nat.zero_le _, fun row hr => by cases hr⟩
  | some q =>
    have e3 := List.find?_some c
    have e2 : q.1 = r := of_decide_eq_true (p := q.1 = r) e3
    obtain ⟨m, hm, h5, hr⟩ := h.each q (List.mem_of_find?_eq_some c)
    rw [e2] at hm
    obtain rfl := rel_one a hm
    exact ⟨h5, hr⟩
/-! ### what a row binds -/
theorem met_dom : ∀ {ts : List T} {row : List Key} {e e' : Env1}, ts.length = row.length → metE ts row e = some e' → ∀ x, (look e' x).isSome = ((look e x).isSome || decide (T.var x ∈ ts))
  | [], [], e, e', _, h, x => by
    cases h
    simp
  | [], _ :: _, _, _, hl, _, _ => nomatch hl
  | _ :: _, [], _, _, hl, _, _ => nomatch hl
  | .any :: ts, v :: r, e, e', hl, h, x => by
    rw [met_dom (ts := ts) (row := r) (e := e) (by simpa using hl) h x]
    simp
  | .val k :: ts, v :: r, e, e', hl, h, x => by
    have h : (if k = v then metE ts r e else none) = some e' := h
    by_cases c : k = v
    · rw [if_pos c] at h
      rw [met_dom (ts := ts) (row := r) (e := e) (by simpa using hl) h x]
      simp
    · rw [if_neg c] at h
      cases h
  | .var y :: ts, v :: r, e, e', hl, h, x => by
    have h : (match look e y with | some u => if u = v then metE ts r e else none | none => metE ts r (e ++ [(y, v)])) = some e' := h
    cases cy : look e y with
    | some u =>
      rw [cy] at h
      have h : (if u = v then metE ts r e else none) = some e' := h
      by_cases c : u = v
      · rw [if_pos c] at h
        rw [met_dom (ts := ts) (row := r) (e := e) (by simpa using hl) h x]
        by_cases z : x = y
        · rw [z, cy]
          simp
        · simp [z]
      · rw [if_neg c] at h
        cases h
    | none =>
      rw [cy] at h
      rw [met_dom (ts := ts) (row := r) (e := e ++ [(y, v)]) (by simpa using hl) h x, look_snoc]
      by_cases z : y = x
      · subst z
        rw [cy]
        simp
      · have z2 : ¬ x = y := fun q => z q.symm
        cases look e x with
        | some u => simp
        | none => simp [z, z2]
theorem met_val : ∀ {ts : List T} {row : List Key} {e e' : Env1}, metE ts row e = some e' → ∀ x k, look e' x = some k → look e x = some k ∨ k ∈ row
  | [], _, e, e', h, x, k, hk => by
    cases h
    exact .inl hk
  | _ :: _, [], _, _, h, _, _, _ => nomatch h
  | .any :: ts, v :: r, e, e', h, x, k, hk => by
    rcases met_val (ts := ts) (row := r) (e := e) h x k hk with z | z
    · exact .inl z
    · exact .inr (List.mem_cons_of_mem _ z)
  | .val k0 :: ts, v :: r, e, e', h, x, k, hk => by
    have h : (if k0 = v then metE ts r e else none) = some e' := h
    by_cases c : k0 = v
    · rw [if_pos c] at h
      rcases met_val (ts := ts) (row := r) (e := e) h x k hk with z | z
      · exact .inl z
      · exact .inr (List.mem_cons_of_mem _ z)
    · rw [if_neg c] at h
      cases h
  | .var y :: ts, v :: r, e, e', h, x, k, hk => by
    have h : (match look e y with | some u => if u = v then metE ts r e else none | none => metE ts r (e ++ [(y, v)])) = some e' := h
    cases cy : look e y with
    | some u =>
      rw [cy] at h
      have h : (if u = v then metE ts r e else none) = some e' := h
      by_cases c : u = v
      · rw [if_pos c] at h
        rcases met_val (ts := ts) (row := r) (e := e) h x k hk with z | z
        · exact .inl z
        · exact .inr (List.mem_cons_of_mem _ z)
      · rw [if_neg c] at h
        cases h
    | none =>
      rw [cy] at h
      rcases met_val (ts := ts) (row := r) (e := e ++ [(y, v)]) h x k hk with z | z
      · rw [look_snoc] at z
        cases ce : look e x with
        | some u =>
          rw [ce] at z
          exact .inl z
        | none =>
          rw [ce] at z
          have z : (if y = x then some v else none) = some k := z
          by_cases q : y = x
          · rw [if_pos q] at z
            cases z
            exact .inr List.mem_cons_self
          · rw [if_neg q] at z
            cases z
      · exact .inr (List.mem_cons_of_mem _ z)
theorem bind_facts {e e' : Env1} {x : Str} {v : Key} (h : bindE e x v = some e') : (∀ y, (look e' y).isSome = ((look e y).isSome || decide (y = x))) ∧ ∀ y k, look e' y = some k → look e y = some k ∨ k = v := by
  unfold bindE at h
  cases cx : look e x with
  | some u =>
    rw [cx] at h
    have h : (if u = v then some e else none) = some e' := h
    by_cases c : u = v
    · rw [if_pos c] at h
      cases h
      refine ⟨fun y => ?_, fun y k hk => .inl hk⟩
      by_cases z : y = x
      · rw [z, cx]
        simp
      · simp [z]
    · rw [if_neg c] at h
      cases h
  | none =>
    rw [cx] at h
    cases h
    refine ⟨fun y => ?_, fun y k hk => ?_⟩
    · rw [look_snoc]
      by_cases z : x = y
      · subst z
        rw [cx]
        simp
      · have z2 : ¬ y = x := fun q => z q.symm
        cases look e y with
        | some u => simp
        | none => simp [z, z2]
    · rw [look_snoc] at hk
      cases ce : look e y with
      | some u =>
        rw [ce] at hk
        exact .inl hk
      | none =>
        rw [ce] at hk
        have hk : (if x = y then some v else none) = some k := hk
        by_cases q : x = y
        · rw [if_pos q] at hk
          cases hk
          exact .inr rfl
        · rw [if_neg q] at hk
          cases hk
theorem addN_mem {bs xs : List Str} {x : Str} : x ∈ addN bs xs ↔ x ∈ bs ∨ x ∈ xs := by
  unfold addN
  rw [List.mem_append, List.mem_filter]
  constructor
  · rintro (h | h)
    · exact .inl h
    · exact .inr h.1
  · rintro (h | h)
    · exact .inl h
    · by_cases c : x ∈ bs
      · exact .inl c
      · exact .inr ⟨h, by rw [decide_eq_false c]; rfl⟩
/-! ### the ways behind some literals -/
structure Wi (bs : List Str) (b m : Nat) (ws : List Way) : Prop where
  dom : ∀ w ∈ ws, ∀ x, (look w.1 x).isSome = decide (x ∈ bs)
  val : ∀ w ∈ ws, ∀ x k, look w.1 x = some k → KeyB b k
  len : ws.length ≤ m
def mul5 (l : KC.L) (m : Nat) : Nat := match l with
  | .fact _ _ => m * 5
  | _ => m
theorem worth_some {bs : List Str} {b : Nat} {e : Env1} {t : T} (d : ∀ x, (look e x).isSome = decide (x ∈ bs)) (v : ∀ x k, look e x = some k → KeyB b k) (hb : 100 ≤ b) (i : InB bs t) (t2 : TermB t) : ∃ k, worthE t e = some k ∧ KeyB b k := by
  cases t with
  | any => exact absurd rfl i.1
  | val k => exact ⟨k, rfl, KeyB.mono t2 hb⟩
  | var x =>
    have hx := d x
    rw [decide_eq_true (i.2 x rfl)] at hx
    obtain ⟨k, hk⟩ := Option.isSome_iff_exists.mp hx
    exact ⟨k, hk, v x k hk⟩
theorem op_bits {op : Str} {b : Nat} {x y z : Key} (h1 : KeyB b x) (h2 : KeyB b y) (hb : 1 ≤ b) (h : isK op x y = some z) : KeyB (2 * b) z := by
  cases x with
  | inr s => cases h
  | inl i => cases y with
    | inr s => cases h
    | inl j =>
      have h : some (Sum.inl (opK op i j)) = some z := h
      cases h
      refine ⟨fun n e => ?_, fun s e => by cases e⟩
      cases e
      have a := h1.1 i rfl
      have c := h2.1 j rfl
      have p2 : 2 ^ (2 * b) = 2 ^ b * 2 ^ b := by rw [Nat.two_mul, Nat.pow_add]
      have p1 : 2 ≤ 2 ^ b := Nat.le_trans (by decide : 2 ≤ 2 ^ 1) (Nat.pow_le_pow_right (by decide) hb)
      have p3 : 2 * 2 ^ b ≤ 2 ^ b * 2 ^ b := Nat.mul_le_mul_right _ p1
      unfold opK
      by_cases c1 : op = "+"
      · rw [if_pos c1]
        omega
      · rw [if_neg c1]
        by_cases c2 : op = "-"
        · rw [if_pos c2]
          omega
        · rw [if_neg c2, Int.natAbs_mul, p2]
          exact Nat.mul_lt_mul'' a c
theorem Wi.step {R0 R : Rws} {l : KC.L} {bs : List Str} {b m : Nat} {ws : List Way} (h0 : RowsB R0) (h : RowsB R) (hb : 100 ≤ b) (lb : LitB bs l) (w : Wi bs b m ws) : Wi (addN bs (bindsL l)) (2 * b) (mul5 l m) (goAll R0 R l ws) := by
  have up : ∀ {k : Key}, KeyB b k → KeyB (2 * b) k := fun h => h.mono (by omega)
  have dec : ∀ {P Q : Prop} [Decidable P] [Decidable Q], (P ↔ Q) → decide P = decide Q := fun h => by
    rw [decide_eq_decide]
    exact h
  have same : bindsL l = [] → (∀ w' ∈ goAll R0 R l ws, w' ∈ ws) → (goAll R0 R l ws).length ≤ ws.length → mul5 l m = m → Wi (addN bs (bindsL l)) (2 * b) (mul5 l m) (goAll R0 R l ws) := fun e1 e2 e3 e4 => by
    refine ⟨fun w' hw x => ?_, fun w' hw x k hk => up (w.val w' (e2 w' hw) x k hk), by rw [e4]; exact Nat.le_trans e3 w.len⟩
    rw [w.dom w' (e2 w' hw) x, e1]
    refine dec ?_
    rw [addN_mem]
    simp
  have one : (∀ r ts, l ≠ .fact r ts) → (goAll R0 R l ws).length ≤ ws.length := fun nf => by
    unfold goAll
    clear w same
    induction ws with
    | nil => exact Nat.le_refl _
    | cons a r ih =>
      rw [List.flatMap_cons, List.length_append, List.length_cons, goOn_goE R0 R l a nf, List.length_map]
      have := goE_len R l a.1
      omega
  cases l with
  | fact r ts =>
    obtain ⟨hr, ht⟩ := lb
    obtain ⟨a1, a2, a3⟩ := rows_in h0 hr
    have mem : ∀ w' ∈ goAll R0 R (.fact r ts) ws, ∃ w0 ∈ ws, ∃ row ∈ rowsOf R0 r, metE ts row w0.1 = some w'.1 := fun w' hw => by
      obtain ⟨w0, m0, hw⟩ := List.mem_flatMap.mp hw
      obtain ⟨row, mr, hw⟩ := List.mem_filterMap.mp hw
      obtain ⟨e, he, hw⟩ := Option.map_eq_some_iff.mp hw
      exact ⟨w0, m0, row, mr, by rw [← hw]; exact he⟩
    refine ⟨fun w' hw x => ?_, fun w' hw x k hk => ?_, ?_⟩
    · obtain ⟨w0, m0, row, mr, he⟩ := mem w' hw
      rw [met_dom (a3 row mr).1.symm he x, w.dom w0 m0 x, Bool.eq_iff_iff, Bool.or_eq_true, decide_eq_true_iff, decide_eq_true_iff, decide_eq_true_iff, addN_mem]
      show _ ↔ _ ∨ x ∈ varsOf ts
      rw [varsOf_mem]
    · obtain ⟨w0, m0, row, mr, he⟩ := mem w' hw
      rcases met_val he x k hk with z | z
      · exact up (w.val w0 m0 x k z)
      · exact ((a3 row mr).2 k z).mono (by omega)
    · show _ ≤ m * 5
      refine Nat.le_trans ?_ (Nat.mul_le_mul_right 5 w.len)
      unfold goAll
      clear w same one mem
      induction ws with
      | nil => simp
      | cons a q ih =>
        rw [List.flatMap_cons, List.length_append, List.length_cons, Nat.succ_mul]
        have : (goOn R0 R (.fact r ts) a).length ≤ (rowsOf R0 r).length := List.length_filterMap_le _ _
        omega
  | notl r ts =>
    refine same rfl (fun w' hw => ?_) (one fun _ _ z => by cases z) rfl
    rw [goAll_not] at hw
    exact (List.mem_filter.mp hw).1
  | cmp op a c =>
    refine same rfl (fun w' hw => ?_) (one fun _ _ z => by cases z) rfl
    rw [goAll_cmp] at hw
    exact (List.mem_filter.mp hw).1
  | isl x op a c =>
    obtain ⟨hx, hop, ta, tc, ia, ic⟩ := lb
    have mem : ∀ w' ∈ goAll R0 R (.isl x op a c) ws, ∃ w0 ∈ ws, ∃ z, bindE w0.1 x z = some w'.1 ∧ KeyB (2 * b) z := fun w' hw => by
      obtain ⟨w0, m0, hw⟩ := List.mem_flatMap.mp hw
      obtain ⟨u, hu, bu⟩ := worth_some (w.dom w0 m0) (w.val w0 m0) hb ia ta
      obtain ⟨v, hv, bv⟩ := worth_some (w.dom w0 m0) (w.val w0 m0) hb ic tc
      unfold goOn at hw
      dsimp only at hw
      rw [hu, hv] at hw
      dsimp only at hw
      cases ez : isK op u v with
      | none =>
        rw [ez] at hw
        cases hw
      | some z =>
        rw [ez] at hw
        obtain ⟨e, he, hw⟩ := List.mem_map.mp hw
        exact ⟨w0, m0, z, by rw [← hw]; exact Option.mem_toList.mp he, op_bits bu bv (by omega) ez⟩
    refine ⟨fun w' hw y => ?_, fun w' hw y k hk => ?_, Nat.le_trans (one fun _ _ z => by cases z) w.len⟩
    · obtain ⟨w0, m0, z, hz, bz⟩ := mem w' hw
      rw [(bind_facts hz).1 y, w.dom w0 m0 y, Bool.eq_iff_iff, Bool.or_eq_true, decide_eq_true_iff, decide_eq_true_iff, decide_eq_true_iff, addN_mem]
      show _ ↔ _ ∨ y ∈ [x]
      rw [List.mem_singleton]
    · obtain ⟨w0, m0, z, hz, bz⟩ := mem w' hw
      rcases (bind_facts hz).2 y k hk with q | q
      · exact up (w.val w0 m0 y k q)
      · rw [q]
        exact bz
  | cnt x r ts =>
    obtain ⟨hx, hr, ht⟩ := lb
    obtain ⟨a1, a2, a3⟩ := rows_in h hr
    have mem : ∀ w' ∈ goAll R0 R (.cnt x r ts) ws, ∃ w0 ∈ ws, ∃ z, bindE w0.1 x z = some w'.1 ∧ KeyB (2 * b) z := fun w' hw => by
      obtain ⟨w0, m0, hw⟩ := List.mem_flatMap.mp hw
      obtain ⟨e, he, hw⟩ := List.mem_map.mp hw
      refine ⟨w0, m0, _, by rw [← hw]; exact Option.mem_toList.mp he, fun i ei => ?_, fun s es => by cases es⟩
      cases ei
      have l5 : ((rowsOf R r).filter fun row => (metE ts row w0.1).isSome).length ≤ 5 := Nat.le_trans (List.length_filter_le _ _) a2
      have p : 2 ^ 100 ≤ 2 ^ (2 * b) := Nat.pow_le_pow_right (by decide) (by omega)
      have p2 : 5 < 2 ^ 100 := by decide
      show (((((rowsOf R r).filter fun row => (metE ts row w0.1).isSome).length : Nat) : Int)).natAbs < _
      rw [Int.natAbs_natCast]
      omega
    refine ⟨fun w' hw y => ?_, fun w' hw y k hk => ?_, Nat.le_trans (one fun _ _ z => by cases z) w.len⟩
    · obtain ⟨w0, m0, z, hz, bz⟩ := mem w' hw
      rw [(bind_facts hz).1 y, w.dom w0 m0 y, Bool.eq_iff_iff, Bool.or_eq_true, decide_eq_true_iff, decide_eq_true_iff, decide_eq_true_iff, addN_mem]
      show _ ↔ _ ∨ y ∈ [x]
      rw [List.mem_singleton]
    · obtain ⟨w0, m0, z, hz, bz⟩ := mem w' hw
      rcases (bind_facts hz).2 y k hk with q | q
      · exact up (w.val w0 m0 y k q)
      · rw [q]
        exact bz
theorem wi_start : Wi (boundOf []) 100 1 way00 := by
  refine ⟨fun w hw x => ?_, fun w hw x k hk => ?_, Nat.le_refl _⟩
  · rw [List.mem_singleton.mp hw]
    rfl
  · rw [List.mem_singleton.mp hw] at hk
    cases hk
theorem mul5_pow (ls : List KC.L) (l : KC.L) : mul5 l (5 ^ (factsOf ls).length) = 5 ^ (factsOf (ls ++ [l])).length := by
  rw [facts_snoc]
  by_cases c : litName l = "fact"
  · obtain ⟨r, ts, rfl⟩ := lit_name_fact.mp c
    rw [if_pos c, Nat.pow_succ]
    rfl
  · rw [if_neg c, Nat.add_zero]
    cases l with
    | fact r ts => exact absurd rfl c
    | _ => rfl
theorem run_inv {ls : List KC.L} {R0 R : Rws} (hB : ∀ (j : Nat) (l : KC.L), ls[j]? = some l → LitB (boundOf (ls.take j)) l) (h0 : RowsB R0) (h : RowsB R) : ∀ i, i ≤ ls.length → Wi (boundOf (ls.take i)) (100 * 2 ^ i) (5 ^ (factsOf (ls.take i)).length) (run R0 R (ls.take i) way00)
  | 0, _ => wi_start
  | i + 1, hi => by
    have ih := run_inv hB h0 h i (by omega)
    have hl : i < ls.length := by omega
    have el : ls[i]? = some ls[i] := List.getElem?_eq_getElem hl
    have st := ih.step h0 h (by have := Nat.two_pow_pos i; omega) (hB i _ el)
    have e1 : boundOf (ls.take (i + 1)) = addN (boundOf (ls.take i)) (bindsL ls[i]) := by rw [take_next el, boundOf_snoc]
    have e2 : 100 * 2 ^ (i + 1) = 2 * (100 * 2 ^ i) := by rw [Nat.pow_succ]; omega
    have e3 : 5 ^ (factsOf (ls.take (i + 1))).length = mul5 ls[i] (5 ^ (factsOf (ls.take i)).length) := by rw [take_next el, mul5_pow]
    have e4 : run R0 R (ls.take (i + 1)) way00 = goAll R0 R ls[i] (run R0 R (ls.take i) way00) := by rw [take_next el, run_snoc]
    rw [e1, e2, e3, e4]
    exact st
theorem ops_of {bs : List Str} {l : KC.L} (h : LitB bs l) : OpsOk l := by
  cases l with
  | cmp op a b => exact h.1
  | isl x op a b => exact h.2.1
  | fact r ts => trivial
  | notl r ts => trivial
  | cnt x r ts => trivial
theorem facts_mono (ls : List KC.L) (i : Nat) : (factsOf (ls.take i)).length ≤ (factsOf ls).length := by
  have e : ls = ls.take i ++ ls.drop i := (List.take_append_drop i ls).symm
  have := congrArg (fun l => (factsOf l).length) e
  rw [factsOf_append, List.length_append] at this
  omega
theorem body_ok {ls : List KC.L} {R0 R : Rws} (g : BodyG ls) (h0 : RowsB R0) (h : RowsB R) : BodyOk R0 R ls := by
  refine ⟨fun i l e => ?_, Nat.le_trans g.len (by decide)⟩
  have hi := (List.getElem?_eq_some_iff.mp e).1
  have wi := run_inv g.lit h0 h i (Nat.le_of_lt hi)
  have lb := g.lit i l e
  have hf := facts_mono ls i
  have g3 := g.facts
  have l6 := g.len
  have p125 : 5 ^ (factsOf (ls.take i)).length ≤ 5 ^ 3 := Nat.pow_le_pow_right (by decide) (by omega)
  have hb : 100 * 2 ^ i ≤ 100 * 2 ^ 6 := Nat.mul_le_mul_left _ (Nat.pow_le_pow_right (by decide) (by omega))
  have hb1 : 100 ≤ 100 * 2 ^ i := by have := Nat.two_pow_pos i; omega
  have lw := wi.len
  refine ⟨fun w m w' m' x => ?_, by omega, ?_⟩
  · rw [wi.dom w m x, wi.dom w' m' x]
  · cases l with
    | fact r ts =>
      obtain ⟨hr, ht⟩ := lb
      obtain ⟨a1, a2, a3⟩ := rows_in h0 hr
      refine ⟨⟨a1, fun row hm => (a3 row hm).1, Nat.le_trans (rel_mem hr).2 (by decide), by omega⟩, ?_⟩
      exact Nat.le_trans (Nat.mul_le_mul (Nat.le_trans lw p125) a2) (by decide)
    | notl r ts =>
      obtain ⟨hr, ht⟩ := lb
      obtain ⟨a1, a2, a3⟩ := rows_in h hr
      exact ⟨a1, fun row hm => (a3 row hm).1, Nat.le_trans (rel_mem hr).2 (by decide), by omega⟩
    | cmp op a b =>
      obtain ⟨_, ta, tb, ia, ib⟩ := lb
      intro w m
      obtain ⟨u, hu, _⟩ := worth_some (wi.dom w m) (wi.val w m) hb1 ia ta
      obtain ⟨v, hv, _⟩ := worth_some (wi.dom w m) (wi.val w m) hb1 ib tb
      exact ⟨u, v, hu, hv⟩
    | isl x op a b =>
      obtain ⟨_, _, ta, tb, ia, ib⟩ := lb
      intro w m
      obtain ⟨u, hu, bu⟩ := worth_some (wi.dom w m) (wi.val w m) hb1 ia ta
      obtain ⟨v, hv, bv⟩ := worth_some (wi.dom w m) (wi.val w m) hb1 ib tb
      exact ⟨u, v, hu, hv, fun i' j' e1 e2 => wide_mul (bu.1 i' e1) (bv.1 j' e2) (by omega) (by omega) (by omega)⟩
    | cnt x r ts =>
      obtain ⟨_, hr, ht⟩ := lb
      obtain ⟨a1, a2, a3⟩ := rows_in h hr
      exact ⟨a1, fun row hm => (a3 row hm).1, Nat.le_trans (rel_mem hr).2 (by decide), by omega⟩
theorem body_ops {ls : List KC.L} (g : BodyG ls) : ∀ l ∈ ls, OpsOk l := fun l hl => by
  obtain ⟨i, hi, e⟩ := List.getElem_of_mem hl
  exact ops_of (g.lit i l (by rw [List.getElem?_eq_getElem hi, e]))
theorem body_facts {ls : List KC.L} {R0 : Rws} (g : BodyG ls) (h0 : RowsB R0) : ∀ r ∈ factsOf ls, (R0.any fun p => decide (p.1 = r)) = true := by
  have gen : ∀ (us : List KC.L), (∀ l ∈ us, ∃ bs, LitB bs l) → ∀ r ∈ factsOf us, (R0.any fun p => decide (p.1 = r)) = true := fun us => by
    induction us with
    | nil => exact fun _ r hr => by cases hr
    | cons l us ih =>
      intro h r hr
      have ih := ih fun l hl => h l (List.mem_cons_of_mem _ hl)
      cases l with
      | fact r2 ts =>
        rcases List.mem_cons.mp hr with e | hr
        · obtain ⟨bs, hb⟩ := h _ List.mem_cons_self
          rw [e]
          exact (rows_in h0 hb.1).1
        · exact ih r hr
      | notl _ _ => exact ih r hr
      | cmp _ _ _ => exact ih r hr
      | isl _ _ _ _ => exact ih r hr
      | cnt _ _ _ => exact ih r hr
  refine gen ls fun l hl => ?_
  obtain ⟨i, hi, e⟩ := List.getElem_of_mem hl
  exact ⟨_, g.lit i l (by rw [List.getElem?_eq_getElem hi, e])⟩
/-- the last ways: their number -/
theorem body_len {ls : List KC.L} {R0 R : Rws} (g : BodyG ls) (h0 : RowsB R0) (h : RowsB R) : (run R0 R ls way00).length ≤ 125 := by
  have wi := run_inv g.lit h0 h ls.length (Nat.le_refl _)
  rw [List.take_length] at wi
  have p125 : 5 ^ (factsOf ls).length ≤ 5 ^ 3 := Nat.pow_le_pow_right (by decide) g.facts
  exact Nat.le_trans wi.len p125
end KC

namespace KC
open PySem PySem.Spec PyProof.Rows L2 KA
theorem env_keys {ks : List (Key × V)} {e : Env1} (a : EnvOf ks e) (k : Key) : k ∈ ks.map (·.1) ↔ ∃ x, k = Sum.inr x ∧ (look e x).isSome = true := by
  constructor
  · intro h
    obtain ⟨p, hp, e1⟩ := List.mem_map.mp h
    obtain ⟨x, hx⟩ := a.ks p.1 p.2 hp
    refine ⟨x, by rw [← e1, hx], ?_⟩
    have h2 : (ks.any fun kv => decide (kv.1 = Sum.inr x)) = true := List.any_eq_true.mpr ⟨p, hp, decide_eq_true hx⟩
    rw [valV_any, a.at_, Option.isSome_map] at h2
    exact h2
  · rintro ⟨x, rfl, h⟩
    have h2 : (ks.any fun kv => decide (kv.1 = Sum.inr x)) = true := by
      rw [valV_any, a.at_, Option.isSome_map]
      exact h
    obtain ⟨p, hp, e1⟩ := List.any_eq_true.mp h2
    exact List.mem_map.mpr ⟨p, hp, of_decide_eq_true e1⟩
theorem env_len {ks ls : List (Key × V)} {e : Env1} (a : EnvOf ks e) (b : EnvOf ls e) : ks.length = ls.length := by
  have p := (List.perm_ext_iff_of_nodup a.nd b.nd).mpr fun k => (env_keys a k).trans (env_keys b k).symm
  have := p.length_eq
  rwa [List.length_map, List.length_map] at this
theorem mem_val {κ : Type} [DecidableEq κ] {kvs : List (κ × V)} (h : (kvs.map (·.1)).Nodup) {k : κ} {v : V} : valV kvs k = some v ↔ (k, v) ∈ kvs := by
  induction kvs with
  | nil => exact ⟨fun z => by simp [valV] at z, fun z => by cases z⟩
  | cons p r ih =>
    have h1 : p.1 ∉ r.map (·.1) ∧ (r.map (·.1)).Nodup := List.nodup_cons.mp h
    by_cases e : p.1 = k
    · rw [valV_pos e]
      constructor
      · intro z
        have z := Option.some.inj z
        rw [← z, ← e]
        exact List.mem_cons_self
      · intro z
        rcases List.mem_cons.mp z with z | z
        · rw [← z]
        · exact absurd (List.mem_map.mpr ⟨_, z, rfl⟩) (by rw [← e]; exact h1.1)
    · rw [valV_neg e, ih h1.2]
      constructor
      · exact fun z => List.mem_cons_of_mem _ z
      · intro z
        rcases List.mem_cons.mp z with z | z
        · exact absurd (by rw [← z]) e
        · exact z
theorem env_mem {ks : List (Key × V)} {e : Env1} (a : EnvOf ks e) {k : Key} {u : V} (m : (k, u) ∈ ks) : ∃ x v, k = Sum.inr x ∧ look e x = some v ∧ u = kV v ∧ valV ks (Sum.inr x) = some (kV v) := by
  obtain ⟨x, rfl⟩ := a.ks k u m
  have hv := (mem_val a.nd).mpr m
  rw [a.at_] at hv
  obtain ⟨v, h1, h2⟩ := Option.map_eq_some_iff.mp hv
  exact ⟨x, v, rfl, h1, h2.symm, by rw [a.at_, h1]; rfl⟩
theorem len_sub {α : Type} [DecidableEq α] : ∀ {l m : List α}, l.Nodup → (∀ x ∈ l, x ∈ m) → l.length ≤ m.length
  | [], _, _, _ => Nat.zero_le _
  | a :: l, m, nd, h => by
    obtain ⟨n1, n2⟩ := List.nodup_cons.mp nd
    have hm := h a List.mem_cons_self
    have ih := len_sub (l := l) (m := m.erase a) n2 fun x hx => (List.mem_erase_of_ne (fun z => n1 (by rw [← z]; exact hx))).mpr (h x (List.mem_cons_of_mem _ hx))
    have l1 := List.length_erase_of_mem hm
    have l2 := List.length_pos_of_mem hm
    rw [List.length_cons]
    omega
theorem bound_vars {ls : List KC.L} (h : ∀ (j : Nat) (l : KC.L), ls[j]? = some l → LitB (boundOf (ls.take j)) l) : ∀ x ∈ boundOf ls, x ∈ vars4 := by
  have gen : ∀ i, i ≤ ls.length → ∀ x ∈ boundOf (ls.take i), x ∈ vars4 := fun i => by
    induction i with
    | zero => exact fun _ x hx => by rw [List.take_zero] at hx; cases hx
    | succ i ih =>
      intro hi x hx
      have el : ls[i]? = some ls[i] := List.getElem?_eq_getElem (by omega)
      rw [take_next el, boundOf_snoc] at hx
      rcases addN_mem.mp hx with hx | hx
      · exact ih (by omega) x hx
      · exact (binds_len (h i _ el)).2.2 x hx
  have := gen ls.length (Nat.le_refl _)
  rwa [List.take_length] at this
/-- the names of a way -/
theorem way_names {ls : List KC.L} {R0 R : Rws} (g : BodyG ls) (h0 : RowsB R0) (h : RowsB R) {w : Way} (hw : w ∈ run R0 R ls way00) {kvs : List (Key × V)} (en : EnvOf kvs w.1) : kvs.length ≤ 4 ∧ ∃ xs : List Str, kvs.map (fun kv => kV kv.1) = xs.map V.str ∧ xs.length ≤ 4 ∧ ∀ x ∈ xs, ∃ k, look w.1 x = some k ∧ KeyB 6400 k := by
  have wi := run_inv g.lit h0 h ls.length (Nat.le_refl _)
  rw [List.take_length] at wi
  have l4 : kvs.length ≤ 4 := by
    have := len_sub (l := kvs.map (·.1)) (m := vars4.map fun x => (Sum.inr x : Key)) en.nd fun k hk => by
      obtain ⟨x, rfl, hx⟩ := (env_keys en k).mp hk
      rw [wi.dom w hw x] at hx
      exact List.mem_map.mpr ⟨x, bound_vars g.lit x (of_decide_eq_true hx), rfl⟩
    rw [List.length_map, List.length_map] at this
    exact this
  have gen : ∀ us : List (Key × V), (∀ p ∈ us, ∃ x : Str, p.1 = Sum.inr x ∧ ∃ k, look w.1 x = some k ∧ KeyB 6400 k) → ∃ xs : List Str, us.map (fun kv => kV kv.1) = xs.map V.str ∧ xs.length = us.length ∧ ∀ x ∈ xs, ∃ k, look w.1 x = some k ∧ KeyB 6400 k := fun us => by
    induction us with
    | nil => exact fun _ => ⟨[], rfl, rfl, fun x hx => by cases hx⟩
    | cons p us ih =>
      intro hp
      obtain ⟨xs, h1, h2, h3⟩ := ih fun q hq => hp q (List.mem_cons_of_mem _ hq)
      obtain ⟨x, e1, k, e2, e3⟩ := hp p List.mem_cons_self
      refine ⟨x :: xs, ?_, by rw [List.length_cons, List.length_cons, h2], fun y hy => ?_⟩
      · rw [List.map_cons, List.map_cons, h1, e1]
        rfl
      · rcases List.mem_cons.mp hy with rfl | hy
        · exact ⟨k, e2, e3⟩
        · exact h3 y hy
  obtain ⟨xs, h1, h2, h3⟩ := gen kvs fun p hp => by
    obtain ⟨x, v, e1, e2, _, _⟩ := env_mem en (k := p.1) (u := p.2) hp
    have l6 := g.len
    have p6 : 2 ^ ls.length ≤ 2 ^ 6 := Nat.pow_le_pow_right (by decide) l6
    exact ⟨x, e1, v, e2, (wi.val w hw x v e2).mono (by omega)⟩
  exact ⟨l4, xs, h1, by omega, h3⟩
section
variable {P : Program} {w : World} {K : PySem.W.Frag} {mg : Str → Option Value} {base : Heap}
/-! ### _law_is_dict -/
abbrev sID : Stmt := topS 36
abbrev nID : List Str := ["actual", "expected", "key"]
theorem scID : FnScope nID ["actual", "expected"] (defScope sID) := ⟨rfl, rfl, rfl, by decide +kernel, rfl, by decide +kernel, by decide +kernel⟩
def spID : Sp := fun vs H Q _ => ∃ (a b : Addr) (ks ls : List (Key × V)) (e : Env1), vs = [.ref a, .ref b] ∧ H a = some (.dK ks) ∧ H b = some (.dK ls) ∧ EnvOf ks e ∧ EnvOf ls e ∧ ls.length ≤ 900 ∧ ∀ H', Same H H' → Q (.bl true) H'
theorem ok_id {f0 : Addr} {fd : FuncData} (F0 : Fun K "_law_is_dict" "_law_is_dict" sID f0 fd) (B : Bt mg) (hdi : mg "dict" = none) (DS : dSM0 P w K mg base) : FnOk P w K mg base CX0 2 f0 fd ["actual", "expected"] spID := by
  refine F0.ok scID (fun vs H Q E h => ?_) (fun cdv A outer s H vs Q E hr h => ?_)
  · obtain ⟨_, _, _, _, _, rfl, _⟩ := h
    rfl
  · obtain ⟨a, b, ks, ls, e, rfl, ea, eb, ena, enb, l900, q⟩ := h
    have hu := hu_of hr
    have hl := env_len ena enb
    refine ⟨_, pss_cons (ps_if (PW.pt (pw_or (pt_not (pt_val (pe_callB call_isi (by rfl) B.isi (by decide +kernel) (pa_cons (pv 0) (pa_cons (pe_bltn (v := .ty "dict") (u := .type "dict") (by rfl) hdi (by decide +kernel) rfl) pa_nil)))))
          (pw_or1 (pt_cmpR op_ne (pe_callB call_lenD (by rfl) B.len PySem.boot_len (pa_cons (pv 0) pa_nil)) (pe_callB call_lenD (by rfl) B.len PySem.boot_len (pa_cons (pv 1) pa_nil)) (nomark _))))) (pss_one (ps_ret pe_bl)) pss_nil)
      (pss_one (ps_ret (pe_cmpR op_notIn_seq pe_bl (pe_lock (pe_lc (own := [("key", 2)]) (g := gName 2) (tt := tYes) (by rfl) scID.nd (pi_keys (pv 1)) (blkOk_by (own := [("key", 2)]) (N := nID) (sc := defScope sID) (by decide +kernel))
        (fun _ _ _ _ _ => pg_name (i := 2) scID.nd rfl (Or.inl rfl)) (fun _ _ _ _ _ => pts_nil)
        (fun _ _ _ _ _ => pe_and (pe_cmp (pc_din hu (pv 2) (pv 0))) (pe_one (pe_def DS hr (by rfl) (pa_cons (pe_dget hu (pv 0) (pv 2) (fun _ _ => rfl)) (pa_cons (pe_dget hu (pv 1) (pv 2) (fun _ _ => rfl)) pa_nil))))))) rfl))), ?_⟩
    refine ⟨.ref a, rfl, .ref a, .ty "dict", _, _, true, rfl, .ty "dict", .base (.dK ea), kit_ty (by decide +kernel), true, rfl, iteF ?_⟩
    refine ⟨.ref a, rfl, a, ks, rfl, ea, .ref b, rfl, b, ls, rfl, eb, rfl, _, rfl, ?_⟩
    rw [hl]
    refine iteNS rfl ?_
    refine ⟨b, _, eb, trivial, fun od => ?_⟩
    refine ⟨.ref b, rfl, b, od, rfl, .inl ⟨ls, upd_same, fun D nD => ?_⟩⟩
    have nDb : D ≠ b := fun z => by rw [z, upd_same] at nD; cases nD
    have nDH : H D = none := by rw [upd_ne nDb] at nD; exact nD
    refine lc_it walk_keys (fun i H' => H' b = some (.frz od (.dK ls)) ∧ (∀ c o, c ≠ b → H c = some o → H' c = some o) ∧ H' D = some (.lst (List.replicate i (.bl true)))) ⟨?_, ?_, upd_same⟩ (fun i H' _ hP => hP.1) (fun i x H' H2 hi hP hY => ?_) (fun H2 hP => ?_)
    · rw [upd_ne nDb.symm]
      exact upd_same
    · intro c o n h
      rw [upd_ne (ne_of_none h nDH), upd_ne n]
      exact h
    · obtain ⟨rfl, k, u, ek, rfl⟩ := hY
      obtain ⟨h1, h2, eD⟩ := hP
      have mk := List.mem_of_getElem? ek
      obtain ⟨x, v, rfl, lv, rfl, vl⟩ := env_mem enb mk
      have va : valV ks (Sum.inr x) = some (kV v) := by rw [ena.at_, lv]; rfl
      have ra : Rd H2 a (.dK ks) := by
        by_cases z : a = b
        · subst z
          rw [ea] at eb
          cases eb
          exact .inr ⟨od, h1⟩
        · exact .inl (h2 a _ z ea)
      refine ⟨rfl, ?_⟩
      refine iteT (B := True) ?_
      refine ⟨.str x, rfl, .ref a, rfl, a, some (kV v), rfl, .inl ⟨ks, Sum.inr x, ra, rfl, va.symm⟩, ?_⟩
      refine ⟨true, rfl, iteT ?_⟩
      refine ⟨.ref a, rfl, .str x, rfl, a, kV v, rfl, .inl ⟨ks, Sum.inr x, ra, rfl, va.symm⟩, .ref b, rfl, .str x, rfl, b, kV v, rfl, .inl ⟨ls, Sum.inr x, .inr ⟨od, h1⟩, rfl, vl.symm⟩, ?_⟩
      refine ⟨kV v, kV v, keyD v, keyD v, rfl, keyD_tp v, keyD_tp v, keyD_nice v, keyD_nice v, Nat.le_of_eq (keyD_depth v), ?_⟩
      rw [eqv_key, decide_eq_true rfl]
      refine ⟨_, eD, small1000 (by rw [List.length_replicate]; omega), ?_, fun c o n h => ?_, ?_⟩
      · rw [upd_ne nDb.symm]
        exact h1
      · rw [upd_ne (ne_of_none h nDH)]
        exact h2 c o n h
      · rw [upd_same, List.replicate_succ']
    · obtain ⟨h1, h2, eD⟩ := hP
      refine ⟨h1, ?_⟩
      refine ⟨D, _, rfl, .inl (SqL.of (by rw [upd_ne nDb]; exact eD)), rfl, ?_, ?_⟩
      · rw [List.all_eq_true]
        intro x hx
        rw [List.eq_of_mem_replicate hx]
        rfl
      · have e : inV (.bl false) (List.replicate ls.length (.bl true)) = false := by
          unfold inV
          rw [List.any_eq_false]
          intro x hx
          rw [List.eq_of_mem_replicate hx]
          decide
        rw [e]
        refine q _ fun c o h => ?_
        by_cases z : c = b
        · rw [z, eb] at h
          rw [z, upd_same, ← h]
        · rw [upd_ne z]
          exact h2 c o z h
end
end KC

namespace KC
open PySem PySem.Spec PyProof.Rows L2 KA
/-! ### sorted names -/
theorem str_lt {x y : Str} (h : ltCps x.cps.toList y.cps.toList = false) (n : x ≠ y) : y.cps.toList < x.cps.toList := by
  rw [ltCps_eq] at h
  have h1 := of_decide_eq_false h
  rcases Classical.em (y.cps.toList < x.cps.toList) with z | z
  · exact z
  · exact absurd (str_eq (List.le_antisymm z h1)) n
theorem rising_pw : ∀ {r : List Str} {x : Str}, risingS x r = true → (x :: r).Nodup → (x :: r).Pairwise fun a b => a.cps.toList < b.cps.toList
  | [], x, _, _ => List.pairwise_singleton _ _
  | y :: r, x, h, n => by
    have h1 : (!ltCps y.cps.toList x.cps.toList && risingS y r) = true := h
    rw [Bool.and_eq_true] at h1
    obtain ⟨n1, n2⟩ := List.nodup_cons.mp n
    have ih := rising_pw h1.2 n2
    have xy : x.cps.toList < y.cps.toList := str_lt (by simpa using h1.1) (fun z => n1 (by rw [z]; exact List.mem_cons_self))
    rw [List.pairwise_cons]
    refine ⟨fun z hz => ?_, ih⟩
    rcases List.mem_cons.mp hz with e | hz
    · rw [e]
      exact xy
    · exact List.lt_trans xy ((List.pairwise_cons.mp ih).1 z hz)
theorem sorted_pw {ys : List Str} (h : sortedS ys = true) (n : ys.Nodup) : ys.Pairwise fun a b => a.cps.toList < b.cps.toList := by
  cases ys with
  | nil => exact List.Pairwise.nil
  | cons x r => exact rising_pw h n
theorem pw_uniq : ∀ {l m : List Str}, l.Pairwise (fun a b => a.cps.toList < b.cps.toList) → m.Pairwise (fun a b => a.cps.toList < b.cps.toList) → (∀ x, x ∈ l ↔ x ∈ m) → l = m
  | [], [], _, _, _ => rfl
  | [], x :: m, _, _, h => absurd ((h x).mpr List.mem_cons_self) (fun z => by cases z)
  | x :: l, [], _, _, h => absurd ((h x).mp List.mem_cons_self) (fun z => by cases z)
  | x :: l, y :: m, sl, sm, h => by
    obtain ⟨x1, x2⟩ := List.pairwise_cons.mp sl
    obtain ⟨y1, y2⟩ := List.pairwise_cons.mp sm
    have irr : ∀ z : Str, ¬ z.cps.toList < z.cps.toList := fun z => List.lt_irrefl _
    have exy : x = y := by
      rcases List.mem_cons.mp ((h x).mp List.mem_cons_self) with e | e
      · exact e
      · rcases List.mem_cons.mp ((h y).mpr List.mem_cons_self) with e2 | e2
        · exact e2.symm
        · exact absurd (List.lt_trans (x1 y e2) (y1 x e)) (irr x)
    subst exy
    congr 1
    refine pw_uniq x2 y2 fun i => ?_
    constructor
    · intro hi
      rcases List.mem_cons.mp ((h i).mp (List.mem_cons_of_mem _ hi)) with e | e
      · rw [e] at hi
        exact absurd (x1 x hi) (irr x)
      · exact e
    · intro hi
      rcases List.mem_cons.mp ((h i).mpr (List.mem_cons_of_mem _ hi)) with e | e
      · rw [e] at hi
        exact absurd (y1 x hi) (irr x)
      · exact e
theorem sorted_uniq {xs ys zs : List Str} (nd : xs.Nodup) (p1 : ys.Perm xs) (s1 : sortedS ys = true) (p2 : zs.Perm xs) (s2 : sortedS zs = true) : ys = zs :=
  pw_uniq (sorted_pw s1 (p1.nodup_iff.mpr nd)) (sorted_pw s2 (p2.nodup_iff.mpr nd)) fun x => p1.mem_iff.trans p2.mem_iff.symm
theorem names_nodup {kvs : List (Key × V)} {e : Env1} {xs : List Str} (en : EnvOf kvs e) (h : kvs.map (fun kv => kV kv.1) = xs.map V.str) : xs.Nodup := by
  have h2 : (kvs.map fun kv => kV kv.1).Nodup := by
    have := en.nd
    rw [List.Nodup, List.pairwise_map] at this ⊢
    exact this.imp fun h z => h (kV_inj.mp z)
  rw [h, List.Nodup, List.pairwise_map] at h2
  exact h2.imp fun h z => h (by rw [z])
/-! ### the rows that were chosen are short -/
theorem rowsOf_short {R : Rws} (h : RowsB R) (r : Str) : ∀ row ∈ rowsOf R r, row.length ≤ 3 := by
  unfold rowsOf
  cases c : R.find? fun p => decide (p.1 = r) with
  | none => exact fun row hr => by cases hr
  | some q =>
    obtain ⟨m, hm, _, hr⟩ := h.each q (List.mem_of_find?_eq_some c)
    intro row hrow
    rw [(hr row hrow).1]
    exact (rel_mem hm).2
theorem run_taken {R0 R : Rws} (h0 : RowsB R0) : ∀ (ls : List KC.L) (ws : List Way), (∀ w ∈ ws, ∀ row ∈ w.2, row.length ≤ 3) → ∀ w ∈ run R0 R ls ws, ∀ row ∈ w.2, row.length ≤ 3
  | [], ws, h => h
  | l :: ls, ws, h => by
    refine run_taken h0 ls (goAll R0 R l ws) fun w hw => ?_
    obtain ⟨w0, m0, hw⟩ := List.mem_flatMap.mp hw
    by_cases cf : ∃ r ts, l = .fact r ts
    · obtain ⟨r, ts, rfl⟩ := cf
      obtain ⟨row, mr, hw⟩ := List.mem_filterMap.mp hw
      obtain ⟨e, _, hw⟩ := Option.map_eq_some_iff.mp hw
      rw [← hw]
      intro q hq
      rcases List.mem_append.mp hq with hq | hq
      · exact h w0 m0 q hq
      · rw [List.mem_singleton.mp hq]
        exact rowsOf_short h0 r row mr
    · rw [goOn_goE R0 R l w0 fun r ts z => cf ⟨r, ts, z⟩] at hw
      obtain ⟨e, _, hw⟩ := List.mem_map.mp hw
      rw [← hw]
      exact h w0 m0
theorem taken_nice {w : Way} (h : ∀ row ∈ w.2, row.length ≤ 3) (l : w.2.length ≤ 1000) : nice (.tuple (w.2.map rowD)) ∧ (PyData.tuple (w.2.map rowD)).depth ≤ 2 := by
  constructor
  · refine nice_tup (niceAll_of fun d hd => ?_) (by rw [List.length_map]; exact l)
    obtain ⟨r, hr, rfl⟩ := List.mem_map.mp hd
    refine nice_tup (niceAll_of fun d hd => ?_) (by rw [List.length_map]; exact Nat.le_trans (h r hr) (by decide))
    obtain ⟨k, _, rfl⟩ := List.mem_map.mp hd
    exact keyD_nice k
  · show PyData.depthAll (w.2.map rowD) + 1 ≤ 2
    have : PyData.depthAll (w.2.map rowD) ≤ 1 := by
      generalize w.2 = rs
      induction rs with
      | nil => exact Nat.zero_le _
      | cons r rs ih =>
        rw [List.map_cons, PyData.depthAll]
        have := rowD_depth r
        omega
    omega
theorem rowD_nice {r : List Key} (l : r.length ≤ 1000) : nice (rowD r) := by
  refine nice_tup (niceAll_of fun d hd => ?_) (by rw [List.length_map]; exact l)
  obtain ⟨k, _, rfl⟩ := List.mem_map.mp hd
  exact keyD_nice k
theorem cut_mem {xs : List V} {lo hi : Option Int} {v : V} (h : v ∈ cutV xs lo hi) : v ∈ xs := by
  unfold cutV at h
  exact List.mem_of_mem_drop (List.mem_of_mem_take h)
theorem Dr.keeps {st L : Addr} {H H' : Hp} (g : Good st L H) (d : Dr st L H H') : Keep H H' := fun a o h n => by
  refine d.at_ (fun z => ?_) h
  obtain ⟨_, _, _, _, e, _⟩ := g
  rw [z, e] at h
  exact n _ (Option.some.inj h).symm
/-- the values of the names -/
theorem name_vals {e : Env1} : ∀ {ys : List Str}, (∀ x ∈ ys, ∃ k, look e x = some k ∧ KeyB 6400 k) → ∃ ks : List Key, ys.map (fun x => look e x) = ks.map some
  | [], _ => ⟨[], rfl⟩
  | y :: ys, h => by
    obtain ⟨ks, hk⟩ := name_vals (ys := ys) fun x hx => h x (List.mem_cons_of_mem _ hx)
    obtain ⟨k, e1, _⟩ := h y List.mem_cons_self
    exact ⟨k :: ks, by rw [List.map_cons, List.map_cons, e1, hk]⟩
end KC

namespace KC
open PySem PySem.Spec PyProof.Rows L2 KA
section
variable {P : Program} {w : World} {K : PySem.W.Frag} {mg : Str → Option Value} {base : Heap}
abbrev sLaw : Stmt := topS 37
abbrev nLaw : List Str := ["script", "state", "widths", "k", "rows", "lookups", "body", "due", "before", "told", "j", "way", "taken", "terms", "row", "name"]
theorem scLaw : FnScope nLaw ["script"] (defScope sLaw) := ⟨rfl, rfl, rfl, by decide +kernel, rfl, by decide +kernel, by decide +kernel⟩
def spLaw (K : PySem.W.Frag) : Sp := fun vs H Q _ => ∃ (a : Addr) (ns : List Int), vs = [.ref a] ∧ SqL K H a (ns.map V.int) ∧ ∀ H', Q (.bl true) H'
/-- the defs that the law calls -/
structure Ds (P : Program) (w : World) (K : PySem.W.Frag) (mg : Str → Option Value) (base : Heap) : Prop where
  next : dNext P w K mg base
  lr : Def P w K mg base "_law_rows" 3 ["state", "widths"] spLr
  lb : Def P w K mg base "_law_body" 5 ["state", "widths", "careful", "most"] spLb
  ly : Def P w K mg base "_law_ways" 4 ["body", "rows", "lookups"] spLy
  ws : Def P w K mg base "ways" 7 ["body", "rows", "lookups"] spWs
  id_ : Def P w K mg base "_law_is_dict" 2 ["actual", "expected"] spID
  sm : Def P w K mg base "_law_same" 3 ["actual", "expected"] (spSM 2)
  lw : dLw P w K mg base
  hd : Def P w K mg base "head_row" 2 ["terms", "values"] spHR
theorem run_law {f0 : Addr} {fd : FuncData} (F0 : Fun K "law" "law" sLaw f0 fd) (bind : ∀ (s : Shared) (u : Value), BindsTo s fd ⟨[u], []⟩ [("script", u)]) (B : Bt mg) (hso : mg "sorted" = none) (hre : mg "repr" = none) (D : Ds P w K mg base) : LawRun P w K mg base f0 (spLaw K) := by
  refine lawRun_of F0 scLaw rfl bind (fun cdv s H v Q h => ?_)
  obtain ⟨sc, ns, h1, hS, q⟩ := h
  injection h1 with h1 _
  subst h1
  have hr : Room 7 (cxOf CX0 P w K mg base nLaw "law" (defScope sLaw) f0 cdv callerA [] s H noE).nox.A := (show Room 8 callerA from ⟨rfl, by decide, by decide⟩).deeper _
  have hu := hr.units
  have hu1 := hu_of hr
  have r1 : Room 1 _ := hr.mono (by decide)
  have r2 : Room 2 _ := hr.mono (by decide)
  have r3 : Room 3 _ := hr.mono (by decide)
  have r4 : Room 4 _ := hr.mono (by decide)
  have r5 : Room 5 _ := hr.mono (by decide)
  have hgd : (cxOf CX0 P w K mg base nLaw "law" (defScope sLaw) f0 cdv callerA [] s H noE).nox.A.guards = some [] := rfl
  refine ⟨_, pss_cons (ps_set (i := 1) scLaw.nd rfl (.inl rfl) (pe_lst (pa_cons (pe_callTy call_list_of (by rfl) B.lst (by decide +kernel) (pa_cons (pv 0) pa_nil)) (pa_cons pe_int (pa_cons pe_int (pa_cons pe_int pa_nil))))))
    (pss_cons (ps_set (i := 2) scLaw.nd rfl (.inl rfl) (pe_disp (pps_cons pe_str pe_int (pps_cons pe_str pe_int (pps_cons pe_str pe_int pps_nil))) (by rfl) (by rfl) (fun z => by cases z) (by decide)))
    (pss_cons (ps_for PassesOwn.never rfl (pi_range1 (by rfl) B.rng (pa_cons pe_int pa_nil)) (pg_name (i := 3) scLaw.nd rfl (.inl rfl))
      (pss_cons (ps_set (i := 4) scLaw.nd rfl (.inl rfl) (pe_def D.lr r3 (by rfl) (pa_cons (pv 1) (pa_cons (pv 2) pa_nil))))
      (pss_cons (ps_set (i := 5) scLaw.nd rfl (.inl rfl) (pe_ix ix_list (pe_lst (pa_cons (pv 4) (pa_cons (pe_def D.lr r3 (by rfl) (pa_cons (pv 1) (pa_cons (pv 2) pa_nil))) pa_nil))) (pe_def D.next r1 (by rfl) (pa_cons (pv 1) (pa_cons pe_int pa_nil))) (fun _ _ => rfl)))
      (pss_cons (ps_set (i := 6) scLaw.nd rfl (.inl rfl) (pe_def D.lb r5 (by rfl) (pa_cons (pv 1) (pa_cons (pv 2) (pa_cons pe_bl (pa_cons pe_int pa_nil))))))
      (pss_cons (ps_set (i := 7) scLaw.nd rfl (.inl rfl) (pe_def D.ly r4 (by rfl) (pa_cons (pv 6) (pa_cons (pv 4) (pa_cons (pv 5) pa_nil)))))
      (pss_cons (ps_set (i := 8) scLaw.nd rfl (.inl rfl) (pe_callB (call_reprB hgd hu) (by rfl) hre (by decide +kernel) (pa_cons (pe_lst (pa_cons (pv 4) (pa_cons (pv 5) pa_nil))) pa_nil)))
      (pss_cons (ps_set (i := 9) scLaw.nd rfl (.inl rfl) (pe_def D.ws hr (by rfl) (pa_cons (pv 6) (pa_cons (pv 4) (pa_cons (pv 5) pa_nil)))))
      (pss_cons (ps_if (PW.pt (pw_or (pt_not (pt_val (pe_callB call_isi (by rfl) B.isi (by decide +kernel) (pa_cons (pv 9) (pa_cons (pe_bltn (v := .ty "list") (u := .type "list") (by rfl) B.lst (by decide +kernel) rfl) pa_nil)))))
          (pw_or (pt_cmpR op_ne (pe_callB call_len_seq (by rfl) B.len PySem.boot_len (pa_cons (pv 9) pa_nil)) (pe_callB call_len_seq (by rfl) B.len PySem.boot_len (pa_cons (pv 7) pa_nil)) (nomark _))
          (pw_or1 (pt_cmpR op_ne (pe_callB (call_reprB hgd hu) (by rfl) hre (by decide +kernel) (pa_cons (pe_lst (pa_cons (pv 4) (pa_cons (pv 5) pa_nil))) pa_nil)) (pv 8) (nomark _)))))) (pss_one (ps_ret pe_bl)) pss_nil)
      (pss_cons (ps_for PassesOwn.never rfl (pi_range1 (by rfl) B.rng (pa_cons (pe_callB call_len_seq (by rfl) B.len PySem.boot_len (pa_cons (pv 7) pa_nil)) pa_nil)) (pg_name (i := 10) scLaw.nd rfl (.inl rfl))
        (pss_cons (ps_if (PW.pt (pw_or (pt_not (pt_val (pe_callB call_isi (by rfl) B.isi (by decide +kernel) (pa_cons (pe_ix ix_list (pv 9) (pv 10) (fun _ _ => rfl)) (pa_cons (pe_bltn (v := .ty "tuple") (u := .type "tuple") (by rfl) B.tup (by decide +kernel) rfl) pa_nil)))))
            (pw_or (pt_cmpR op_ne (pe_callB call_len_seq (by rfl) B.len PySem.boot_len (pa_cons (pe_ix ix_list (pv 9) (pv 10) (fun _ _ => rfl)) pa_nil)) pe_int (nomark _))
            (pw_or1 (pt_not (pt_val (pe_def D.id_ r2 (by rfl) (pa_cons (pe_ix ix_tup (pe_ix ix_list (pv 9) (pv 10) (fun _ _ => rfl)) pe_int (fun _ _ => rfl)) (pa_cons (pe_ix ix_tup (pe_ix ix_list (pv 7) (pv 10) (fun _ _ => rfl)) pe_int (fun _ _ => rfl)) pa_nil))))))))) (pss_one (ps_ret pe_bl)) pss_nil)
        (pss_one (ps_if (pt_not (pt_val (pe_def D.sm r3 (by rfl) (pa_cons (pe_ix ix_tup (pe_ix ix_list (pv 9) (pv 10) (fun _ _ => rfl)) pe_int (fun _ _ => rfl)) (pa_cons (pe_ix ix_tup (pe_ix ix_list (pv 7) (pv 10) (fun _ _ => rfl)) pe_int (fun _ _ => rfl)) pa_nil))))) (pss_one (ps_ret pe_bl)) pss_nil))))
      (pss_one (ps_for PassesOwn.never rfl (pi_list (pe_slice sl_list (pv 7) po_none (po_some pe_int))) (pg_tup rfl (pgs_cons (pg_name (i := 11) scLaw.nd rfl (.inr rfl)) (pgs_cons (pg_name (i := 12) scLaw.nd rfl (.inl rfl)) pgs_nil)))
        (pss_cons (ps_set (i := 13) scLaw.nd rfl (.inl rfl) (pe_op op_cat
          (pe_lc (own := [("name", 15)]) (g := gName 15) (tt := tYes) (te := tTup (tCons (tC (.str "variable")) (tCons (tVar 15) tNil))) rfl scLaw.nd (pi_list (pe_callB cr_sortedS (by rfl) hso boot_sorted (pa_cons (pe_callTy (call_listD rfl) (by rfl) B.lst (by decide +kernel) (pa_cons (pv 11) pa_nil)) pa_nil))) (blkOk_by (own := [("name", 15)]) (N := nLaw) (sc := defScope sLaw) (by decide +kernel))
            (fun _ _ _ _ _ => pg_name (i := 15) scLaw.nd rfl (Or.inl rfl)) (fun _ _ _ _ _ => pts_nil) (fun _ _ _ _ _ => pe_tup (pa_cons pe_str (pa_cons (pv 15) pa_nil))))
          (pe_lst (pa_cons (pe_tup (pa_cons pe_str (pa_cons (pe_def D.lw r2 (by rfl) (pa_cons (pv 1) pa_nil)) pa_nil))) pa_nil))))
        (pss_cons (ps_set (i := 14) scLaw.nd rfl (.inl rfl) (pe_op op_catA
          (pe_callTy call_tuple_of (by rfl) B.tup (by decide +kernel) (pa_cons (pe_lc (own := [("name", 15)]) (g := gName 15) (tt := tYes) (te := tDGet (tVar 11) (tVar 15)) rfl scLaw.nd (pi_list (pe_callB cr_sortedS (by rfl) hso boot_sorted (pa_cons (pe_callTy (call_listD rfl) (by rfl) B.lst (by decide +kernel) (pa_cons (pv 11) pa_nil)) pa_nil))) (blkOk_by (own := [("name", 15)]) (N := nLaw) (sc := defScope sLaw) (by decide +kernel))
            (fun _ _ _ _ _ => pg_name (i := 15) scLaw.nd rfl (Or.inl rfl)) (fun _ _ _ _ _ => pts_nil) (fun _ _ _ _ _ => pe_dget hu1 (pv 11) (pv 15) (fun _ _ => rfl))) pa_nil))
          (pe_tup (pa_cons (pe_ix ix_tup (pe_ix ix_list (pv 13) (pe_op op_sub (pe_callB call_len_seq (by rfl) B.len PySem.boot_len (pa_cons (pv 13) pa_nil)) pe_int) (fun _ _ => rfl)) pe_int (fun _ _ => rfl)) pa_nil))))
        (pss_one (ps_if (pt_not (pt_val (pe_def D.sm r3 (by rfl) (pa_cons (pe_def D.hd r2 (by rfl) (pa_cons (pe_callTy call_tuple_of (by rfl) B.tup (by decide +kernel) (pa_cons (pv 13) pa_nil)) (pa_cons (pv 11) pa_nil))) (pa_cons (pv 14) pa_nil))))) (pss_one (ps_ret pe_bl)) pss_nil)))))))))))))))
    (pss_one (ps_ret pe_bl)))), ?_⟩
  have sne : ∀ {x y : Str}, x ≠ y → V.str x ≠ V.str y := fun n z => n (by injection z)
  -- the state
  refine ⟨.ref sc, rfl, sc, ns.map V.int, rfl, .inl hS, fun L nL => ⟨(by show 4 ≤ sizeLine; decide), fun st nst => ?_⟩⟩
  have nLs : L ≠ st := ne_of_none upd_same nst
  have g0 : Good st L (upd (upd H L (.lst (ns.map V.int))) st (.lst [.ref L, .int 0, .int 0, .int 1])) := ⟨ns, 0, 0, 1, upd_same, by
    rw [upd_ne nLs]
    exact upd_same, by decide, by decide⟩
  revert g0
  generalize upd (upd H L (.lst (ns.map V.int))) st (.lst [.ref L, .int 0, .int 0, .int 1]) = H0
  intro g0
  -- widths
  intro wd nwd
  refine ⟨upd_same, wK, rfl, (by show 3 ≤ 15; decide), ?_⟩
  have g1 : Good st L (upd (upd H0 wd (.dK [])) wd (.dK (mergeK [] wK))) := ((Dr.new g0 nwd).put g0 nwd).good
  have ew : (upd (upd H0 wd (.dK [])) wd (.dK (mergeK [] wK))) wd = some (.dK wK) := upd_same
  revert g1 ew
  generalize (upd (upd H0 wd (.dK [])) wd (.dK (mergeK [] wK))) = H1
  intro g1 ew
  refine ⟨2, rfl, by decide, by decide, ?_⟩
  refine for_range (lo := 0) (n := 2) (fun i σ H' => (∃ x3 x4 x5 x6 x7 x8 x9 x10 x11 x12 x13 x14 x15 : Option V, σ = [some (.ref sc), some (.ref st), some (.ref wd), x3, x4, x5, x6, x7, x8, x9, x10, x11, x12, x13, x14, x15]) ∧ Good st L H' ∧ H' wd = some (.dK wK))
    ⟨⟨_, _, _, _, _, _, _, _, _, _, _, _, _, rfl⟩, g1, ew⟩ (fun i σ H0 hi hP => ?_) (fun σ H' hP => ?_)
  · obtain ⟨⟨x3, x4, x5, x6, x7, x8, x9, x10, x11, x12, x13, x14, x15, rfl⟩, g, ew⟩ := hP
    have nwst : wd ≠ st := fun z => by
      obtain ⟨_, _, _, _, e, _⟩ := g
      rw [z, e] at ew
      cases ew
    -- rows, lookups
    refine ⟨.ref st, rfl, .ref wd, rfl, st, L, wd, rfl, g, ew, fun p R0 H1 d1 rd0 rb0 => ?_⟩
    have ew1 := d1.at_ nwst ew
    refine ⟨.ref p, rfl, .ref st, rfl, .ref wd, rfl, st, L, wd, rfl, d1.good, ew1, fun p2 R2 H2 d2 rd2 rb2 => ⟨(by show 2 ≤ sizeLine; decide), fun l nl => ?_⟩⟩
    have d3 : Dr st L H2 (upd H2 l (.lst [.ref p, .ref p2])) := Dr.new d2.good nl
    refine ⟨.ref st, rfl, st, L, 2, rfl, d3.good, by decide, by decide, fun v H3 d4 v0 v1 => ?_⟩
    have d34 := d3.trans d4
    have el : H3 l = some (.lst [.ref p, .ref p2]) := Dr.keep d2.good nl d4
    have rd03 := (rd0.dr d1.good d2).dr d2.good d34
    have rd23 := rd2.dr d2.good d34
    have dA := (d1.trans d2).trans d34
    obtain ⟨qa, R, eqa, rdq, rbq⟩ : ∃ (qa : Addr) (R : Rws), atI ([.ref p, .ref p2] : List V) v = some (.ref qa) ∧ RowsD st H3 qa R ∧ RowsB R := by
      rcases (show v = 0 ∨ v = 1 by omega) with rfl | rfl
      · exact ⟨p, R0, rfl, rd03, rb0⟩
      · exact ⟨p2, R2, rfl, rd23, rb2⟩
    refine ⟨l, _, v, .ref qa, rfl, rfl, SqL.of el, eqa, ?_⟩
    have ew3 := dA.at_ nwst ew
    clear d1 d2 d3 d4 d34 el rd0 rd2 rd23 ew1 eqa v0 v1
    -- body, due
    refine ⟨.ref st, rfl, .ref wd, rfl, st, L, wd, rfl, dA.good, ew3, fun bp us ls H4 d5 ebp tus bg => ?_⟩
    have rd04 := rd03.dr dA.good d5
    have rdq4 := rdq.dr dA.good d5
    have g4 := d5.good
    have ew4 := d5.at_ nwst ew3
    have bo := body_ok bg rb0 rbq
    have l125 := body_len bg rb0 rbq
    refine ⟨.ref bp, rfl, .ref p, rfl, .ref qa, rfl, bp, p, qa, us, ls, R0, R, rfl, ebp, tus, rd04.lk, rdq4.lk, bo, body_ops bg, fun Ld zd H5 s5 eLd wdue => ?_⟩
    clear dA d5 rd03 rdq ew3
    -- before
    have rd05 := rd04.dr g4 (Dr.same g4 s5)
    have rdq5 := rdq4.dr g4 (Dr.same g4 s5)
    have g5 := (Dr.same g4 s5).good
    have reprs : ∀ {Ha Hb : Hp}, Good st L Ha → RowsD st Ha p R0 → RowsD st Ha qa R → Same Ha Hb → ∃ kv0 kv1, Hb p = some (.dK kv0) ∧ Ents (fun a => a ≠ st) Hb kv0 R0 ∧ Hb qa = some (.dK kv1) ∧ Ents (fun a => a ≠ st) Hb kv1 R := fun {Ha Hb} ga ra rq sm => by
      obtain ⟨kv0, e0, _, en0⟩ := ra.dr ga (Dr.same ga sm)
      obtain ⟨kv1, e1, _, en1⟩ := rq.dr ga (Dr.same ga sm)
      exact ⟨kv0, kv1, e0, en0, e1, en1⟩
    refine ⟨.ref p, rfl, .ref qa, rfl, (by show 2 ≤ sizeLine; decide), fun l2 nl2 => ?_⟩
    obtain ⟨kv0, kv1, f0, f1, f2, f3⟩ := reprs (Hb := upd H5 l2 (.lst [.ref p, .ref qa])) g5 rd05 rdq5 (same_new nl2)
    refine ⟨l2, p, qa, kv0, kv1, R0, R, _, _, rfl, upd_same, f0, f1, f2, f3, rb0, rbq, ?_⟩
    clear f0 f1 f2 f3
    have s6 : Same H5 (upd H5 l2 (.lst [.ref p, .ref qa])) := same_new nl2
    revert s6
    generalize upd H5 l2 (.lst [.ref p, .ref qa]) = H6
    intro s6
    -- told
    have s56 := s5.trans s6
    have d6 := Dr.same g4 s56
    refine ⟨.ref bp, rfl, .ref p, rfl, .ref qa, rfl, bp, p, qa, us, ls, R0, R, rfl, s56 _ _ ebp, tus.mono (Tk.of s56), (rd04.dr g4 d6).lk, body_facts bg rb0, (rdq4.dr g4 d6).lk, bo, fun Lt zt H7 s7 eLt wt => ?_⟩
    have s47 := s56.trans s7
    have d7 := Dr.same g4 s47
    have eLd7 := s7 _ _ (s6 _ _ eLd)
    have wdue := wdue.keep (Keep.of (s6.trans s7))
    have lzt := wt.length
    have lzd := wdue.length
    have lz : zt.length = zd.length := lzt.trans lzd.symm
    refine ⟨.ref Lt, rfl, .ref Lt, .ty "list", _, _, true, rfl, .ty "list", .base (.lst eLt), kit_ty (by decide +kernel), true, rfl, iteF ?_⟩
    refine ⟨.ref Lt, rfl, Lt, zt, rfl, .inl (SqL.of eLt), .ref Ld, rfl, Ld, zd, rfl, .inl (SqL.of eLd7), rfl, _, rfl, ?_⟩
    rw [lz, decide_eq_true rfl]
    refine iteF ?_
    refine ⟨.ref p, rfl, .ref qa, rfl, (by show 2 ≤ sizeLine; decide), fun l3 nl3 => ?_⟩
    obtain ⟨kv2, kv3, f0, f1, f2, f3⟩ := reprs (Hb := upd H7 l3 (.lst [.ref p, .ref qa])) d7.good (rd04.dr g4 d7) (rdq4.dr g4 d7) (same_new nl3)
    refine ⟨l3, p, qa, kv2, kv3, R0, R, _, _, rfl, upd_same, f0, f1, f2, f3, rb0, rbq, ?_⟩
    clear f0 f1 f2 f3
    refine ⟨.str _, rfl, rfl, _, rfl, ?_⟩
    rw [decide_eq_true rfl]
    refine iteF ?_
    have s8 : Same H7 (upd H7 l3 (.lst [.ref p, .ref qa])) := same_new nl3
    revert s8
    generalize upd H7 l3 (.lst [.ref p, .ref qa]) = H8
    intro s8
    have g8 := (Dr.same d7.good s8).good
    have ew8 := s8 _ _ (s47 _ _ ew4)
    have eLt8 := s8 _ _ eLt
    have eLd8 := s8 _ _ eLd7
    have wt := wt.keep (Keep.of s8)
    have wdue := wdue.keep (Keep.of s8)
    have tk3 := run_taken (R := R) rb0 ls way00 fun w hw row hrow => by
      rw [List.mem_singleton.mp hw] at hrow
      cases hrow
    clear rd04 rdq4 rd05 rdq5 reprs d6 d7 s47 s56 s5 s6 s7 s8 eLd eLt eLd7 nl3 nl2 lzt
    -- the ways, one by one
    refine ⟨.ref Ld, rfl, Ld, zd, rfl, .inl (SqL.of eLd8), (zd.length : Nat), rfl, by omega, by omega, ?_⟩
    refine for_range (lo := 0) (n := ((zd.length : Nat) : Int).toNat) (fun j σ H' => (∃ x10 : Option V, σ = [some (.ref sc), some (.ref st), some (.ref wd), some (.int (0 + (i : Int))), some (.ref p), some (.ref qa), some (.ref bp), some (.ref Ld), some (.str (bothD R0 R).shown), some (.ref Lt), x10, x11, x12, x13, x14, x15]) ∧ Same H8 H') ⟨⟨_, rfl⟩, Same.refl _⟩ (fun j σ H9 hj hP => ?_) (fun σ H9 hP => ?_)
    · obtain ⟨⟨x10, rfl⟩, sm⟩ := hP
      rw [Int.toNat_natCast] at hj
      have hz : (0 : Int) + (j : Int) = ((j : Nat) : Int) := by omega
      have hvt : zt[j]? = some zt[j] := List.getElem?_eq_getElem (by omega)
      have hvd : zd[j]? = some zd[j] := List.getElem?_eq_getElem hj
      obtain ⟨w1, ew1, pa, da, ta, kva, xa, ea, XA⟩ := wt.get hvt
      obtain ⟨w2, ew2, pb, db, tb, kvb, xb, eb, XB⟩ := wdue.get hvd
      rw [ew1] at ew2
      cases ew2
      rw [ea] at hvt
      rw [eb] at hvd
      have XA := XA.keep (Keep.of sm)
      have XB := XB.keep (Keep.of sm)
      have TT := SqL.of (K := K) (sm _ _ eLt8)
      have DD := SqL.of (K := K) (sm _ _ eLd8)
      have mw : w1 ∈ run R0 R ls way00 := List.mem_of_getElem? ew1
      have lb := XB.ld
      have lt1 := XA.lt
      obtain ⟨tn, td⟩ := taken_nice (tk3 w1 mw) (by omega)
      refine ⟨.ref Lt, rfl, .int (0 + (j : Int)), rfl, Lt, zt, _, .ref pa, rfl, rfl, TT, (by rw [hz]; exact atI_nat hvt), .ref pa, .ty "tuple", _, _, true, rfl, .ty "tuple", .base (.tup XA.hp), kit_ty (by decide +kernel), true, rfl, iteF ?_⟩
      refine ⟨.ref Lt, rfl, .int (0 + (j : Int)), rfl, Lt, zt, _, .ref pa, rfl, rfl, TT, (by rw [hz]; exact atI_nat hvt), pa, _, rfl, .inr (SqT.of XA.hp), rfl, _, rfl, ?_⟩
      refine iteF ?_
      refine ⟨.ref Lt, rfl, .int (0 + (j : Int)), rfl, Lt, zt, _, .ref pa, rfl, rfl, TT, (by rw [hz]; exact atI_nat hvt), pa, _, 0, .ref da, rfl, rfl, SqT.of XA.hp, rfl, .ref Ld, rfl, .int (0 + (j : Int)), rfl, Ld, zd, _, .ref pb, rfl, rfl, DD, (by rw [hz]; exact atI_nat hvd), pb, _, 0, .ref db, rfl, rfl, SqT.of XB.hp, rfl, ?_⟩
      refine ⟨da, db, kva, kvb, w1.1, rfl, XA.hd, XB.hd, XA.en, XB.en, by omega, fun H10 s10 => ⟨true, rfl, iteF ?_⟩⟩
      have TT := SqL.of (K := K) (s10 _ _ (sm _ _ eLt8))
      have DD := SqL.of (K := K) (s10 _ _ (sm _ _ eLd8))
      refine ⟨.ref Lt, rfl, .int (0 + (j : Int)), rfl, Lt, zt, _, .ref pa, rfl, rfl, TT, (by rw [hz]; exact atI_nat hvt), pa, _, 1, .ref ta, rfl, rfl, SqT.of (s10 _ _ XA.hp), rfl, .ref Ld, rfl, .int (0 + (j : Int)), rfl, Ld, zd, _, .ref pb, rfl, rfl, DD, (by rw [hz]; exact atI_nat hvd), pb, _, 1, .ref tb, rfl, rfl, SqT.of (s10 _ _ XB.hp), rfl, ?_⟩
      refine ⟨.ref ta, .ref tb, .tuple (w1.2.map rowD), .tuple (w1.2.map rowD), rfl, .tup (s10 _ _ XA.ht) (XA.tx.mono (Tk.of s10)), .tup (s10 _ _ XB.ht) (XB.tx.mono (Tk.of s10)), tn, tn, td, true, by rw [nice_plain tn], iteF ?_⟩
      exact ⟨⟨_, rfl⟩, sm.trans s10⟩
    · obtain ⟨⟨x10, rfl⟩, sm⟩ := hP
      have g9 := (Dr.same g8 sm).good
      have ew9 := sm _ _ ew8
      have wdue := wdue.keep (Keep.of sm)
      -- the first five
      refine ⟨.ref Ld, rfl, 5, rfl, Ld, zd, rfl, SqL.of (sm _ _ eLd8), fun sl nsl => ?_⟩
      have lcut := cutV_length zd none (some 5)
      have cut : ∀ v ∈ cutV zd none (some 5), v ∈ zd := fun v h => cut_mem h
      revert lcut cut
      generalize cutV zd none (some 5) = zc
      intro lcut cut
      have d10 : Dr st L H9 (upd H9 sl (.lst zc)) := Dr.new g9 nsl
      have esl : (upd H9 sl (.lst zc)) sl = some (.lst zc) := upd_same
      have nslst : sl ≠ st := fun z => g9.not_none (by rw [← z]; exact nsl)
      have ew10 := d10.at_ nwst ew9
      have wdue := wdue.keep (d10.keeps g9)
      have g10 := d10.good
      clear d10
      revert esl ew10 wdue g10
      generalize (upd H9 sl (.lst zc)) = HS
      intro esl ew10 wdue g10
      refine ⟨sl, rfl, ⟨zc, SqL.of esl⟩, ?_⟩
      refine for_it walk_list (fun j σ H' => (∃ y11 y12 y13 y14 : Option V, σ = [some (.ref sc), some (.ref st), some (.ref wd), some (.int (0 + (i : Int))), some (.ref p), some (.ref qa), some (.ref bp), some (.ref Ld), some (.str (bothD R0 R).shown), some (.ref Lt), x10, y11, y12, y13, y14, x15]) ∧ Dr st L HS H') ⟨⟨_, _, _, _, rfl⟩, Dr.refl g10⟩ (fun j σ H' _ hP => SqL.of (hP.2.at_ nslst esl)) (fun j y σ H' H11 hj hP hY => ?_) (fun σ H' hP => ?_)
      · obtain ⟨rfl, hy⟩ := hY
        obtain ⟨⟨y11, y12, y13, y14, rfl⟩, dr⟩ := hP
        obtain ⟨m, hm⟩ := List.getElem?_of_mem (cut y (List.mem_of_getElem? hy))
        obtain ⟨w1, ew1, pb, db, tb, kvs, xb, rfl, XB⟩ := wdue.get hm
        have XB := XB.keep (dr.keeps g10)
        have mw : w1 ∈ run R0 R ls way00 := List.mem_of_getElem? ew1
        obtain ⟨l4, xs, hxs, lxs, hvals⟩ := way_names bg rb0 rbq mw XB.en
        have ndx := names_nodup XB.en hxs
        have en := XB.en
        have gA := dr.good
        refine ⟨pb, _, rfl, SqT.of XB.hp, rfl, _, _, rfl, _, _, rfl, rfl, ?_⟩
        -- terms
        refine ⟨.ref db, rfl, db, kvs, rfl, .inl XB.hd, fun n0 nn0 => ?_⟩
        rw [hxs]
        have sA : Same H11 (upd H11 n0 (.lst (xs.map V.str))) := same_new nn0
        refine ⟨n0, xs, rfl, SqL.of upd_same, by omega, fun ys pn per srt npn => ?_⟩
        have sB := sA.trans (same_new (o := .lst (ys.map V.str)) npn)
        have epn : (upd (upd H11 n0 (.lst (xs.map V.str))) pn (.lst (ys.map V.str))) pn = some (.lst (ys.map V.str)) := upd_same
        revert sB epn
        clear sA npn
        generalize (upd (upd H11 n0 (.lst (xs.map V.str))) pn (.lst (ys.map V.str))) = HA
        intro sB epn
        have lys : ys.length ≤ 4 := by rw [per.length_eq]; exact lxs
        obtain ⟨ks, hks⟩ := name_vals (e := w1.1) (ys := ys) fun x hx => hvals x (per.mem_iff.mp hx)
        have lks : ks.length = ys.length := by
          have := congrArg List.length hks
          rw [List.length_map, List.length_map] at this
          exact this.symm
        refine ⟨pn, rfl, ⟨_, SqL.of epn⟩, fun D1 nD1 => ?_⟩
        refine lc_tps walk_list ((ys.map T.var).map tD) (by rw [List.length_map, List.length_map, List.length_map]) (by rw [List.length_map]; omega) nD1 (fun H2 sm => SqL.of (sm _ _ epn)) (fun c x H2 H3 Q2 R2 hc sm hY qq => ?_) (fun HB acc smB eacc tacc => ?_)
        · obtain ⟨rfl, hx⟩ := hY
          rw [List.getElem?_map] at hx
          cases ex : ys[c]? with
          | none => rw [ex] at hx; cases hx
          | some nm =>
            rw [ex] at hx
            have hx : V.str nm = x := Option.some.inj hx
            subst hx
            refine ⟨rfl, iteT (B := True) ?_⟩
            refine ⟨.str nm, rfl, (by show 2 ≤ sizeLine; decide), fun pv npv => ?_⟩
            refine qq _ _ (tD (.var nm)) (same_new npv) ?_ (.tup upd_same (.cons (.str _) (.cons (.str _) .nil)))
            rw [List.getElem?_map, List.getElem?_map, ex]
            rfl
        · have s1 := sB.trans smB
          have dB := dr.trans (Dr.same gA s1)
          refine ⟨.ref st, rfl, st, L, rfl, dB.good, fun k HC dC hk => ⟨(by show 2 ≤ sizeLine; decide), fun pv npv => ⟨(by show 1 ≤ sizeLine; decide), fun ll nll => ?_⟩⟩⟩
          have nD1st : D1 ≠ st := fun z => (Dr.same gA sB).good.not_none (by rw [← z]; exact nD1)
          have dD := (dC.add (o := .tup [.str "value", kV k]) npv).add (o := .lst [.ref pv]) nll
          have eacc2 := dD.at_ nD1st eacc
          have epv : (upd (upd HC pv (.tup [.str "value", kV k])) ll (.lst [.ref pv])) pv = some (.tup [.str "value", kV k]) := same_new nll _ _ upd_same
          have ell : (upd (upd HC pv (.tup [.str "value", kV k])) ll (.lst [.ref pv])) ll = some (.lst [.ref pv]) := upd_same
          revert dD eacc2 epv ell
          generalize (upd (upd HC pv (.tup [.str "value", kV k])) ll (.lst [.ref pv])) = HD
          intro dD eacc2 epv ell
          have tacc2 := tacc.mono (dD.tk dB.good)
          have lacc := tacc.length
          rw [List.length_map, List.length_map] at lacc
          have dE := dB.trans dD
          refine ⟨D1, ll, acc, [.ref pv], rfl, rfl, eacc2, ell, Nat.le_of_lt (small1000 (by rw [List.length_singleton]; omega)), fun tl ntl => ?_⟩
          have dF := dE.add (o := .lst (acc ++ [.ref pv])) ntl
          have sF : Same HD (upd HD tl (.lst (acc ++ [.ref pv]))) := same_new ntl
          have etl : (upd HD tl (.lst (acc ++ [.ref pv]))) tl = some (.lst (acc ++ [.ref pv])) := upd_same
          have epv2 := sF _ _ epv
          have tD1 : tD (.val k) = .tuple [.str "value", keyD k] := by cases k <;> rfl
          have tterm : Tps (upd HD tl (.lst (acc ++ [.ref pv]))) (acc ++ [.ref pv]) ((ys.map T.var ++ [T.val k]).map tD) := by
            rw [List.map_append]
            refine (tacc2.mono (Tk.of sF)).append (.cons ?_ .nil)
            rw [tD1]
            exact .tup epv2 (.cons (.str _) (.cons (keyD_tp k) .nil))
          have X2 := XB.keep (((Keep.of s1).trans (dD.keeps dB.good)).trans (Keep.of sF))
          revert dF etl epv2 tterm X2
          clear sF
          generalize (upd HD tl (.lst (acc ++ [.ref pv]))) = HF
          intro dF etl epv2 tterm X2
          clear dE dD eacc2 epv ell tacc2 dC dB s1 smB eacc tacc sB epn nD1 nD1st npv nll nn0
          -- row
          refine ⟨.ref db, rfl, db, kvs, rfl, .inl X2.hd, fun n1 nn1 => ?_⟩
          rw [hxs]
          have sA : Same HF (upd HF n1 (.lst (xs.map V.str))) := same_new nn1
          refine ⟨n1, xs, rfl, SqL.of upd_same, by omega, fun zs pm per2 srt2 npm => ?_⟩
          obtain rfl := sorted_uniq ndx per srt per2 srt2
          have sB := sA.trans (same_new (o := .lst (ys.map V.str)) npm)
          have epm : (upd (upd HF n1 (.lst (xs.map V.str))) pm (.lst (ys.map V.str))) pm = some (.lst (ys.map V.str)) := upd_same
          revert sB epm
          clear sA npm
          generalize (upd (upd HF n1 (.lst (xs.map V.str))) pm (.lst (ys.map V.str))) = HG
          intro sB epm
          refine ⟨pm, rfl, ⟨_, SqL.of epm⟩, fun D2 nD2 => ?_⟩
          refine lc_vals walk_list (ks.map kV) (by rw [List.length_map, List.length_map, lks]) (by rw [List.length_map]; omega) nD2 (fun H2 sm => SqL.of (sm _ _ epm)) (fun c x H2 H3 Q2 R2 hc sm hY qq => ?_) (fun HH smH eD2 => ?_)
          · obtain ⟨rfl, hx⟩ := hY
            rw [List.getElem?_map] at hx
            cases ex : ys[c]? with
            | none => rw [ex] at hx; cases hx
            | some nm =>
              rw [ex] at hx
              have hx : V.str nm = x := Option.some.inj hx
              subst hx
              have hl : (ys.map fun x => look w1.1 x)[c]? = (ks.map some)[c]? := by rw [hks]
              rw [List.getElem?_map, List.getElem?_map, ex] at hl
              cases ek : ks[c]? with
              | none => rw [ek] at hl; cases hl
              | some kk =>
                rw [ek] at hl
                have hl : look w1.1 nm = some kk := Option.some.inj hl
                refine ⟨rfl, iteT (B := True) ?_⟩
                refine ⟨.ref db, rfl, .str nm, rfl, db, kV kk, rfl, .inl ⟨kvs, Sum.inr nm, .inl (sm _ _ (sB _ _ X2.hd)), rfl, (by rw [en.at_, hl]; rfl)⟩, qq _ _ (Same.refl _) ?_⟩
                rw [List.getElem?_map, ek]
                rfl
          · refine ⟨D2, _, rfl, .inl ⟨SqL.of eD2, fun t1 nt1 => ?_⟩⟩
            have s2 := (sB.trans smH).trans (same_new (o := .tup (ks.map kV)) nt1)
            have et1 : (upd HH t1 (.tup (ks.map kV))) t1 = some (.tup (ks.map kV)) := upd_same
            revert s2 et1
            generalize (upd HH t1 (.tup (ks.map kV))) = HI
            intro s2 et1
            have etl2 := s2 _ _ etl
            have epv3 := s2 _ _ epv2
            have lap : (acc ++ [.ref pv] : List V).length = acc.length + 1 := by rw [List.length_append, List.length_singleton]
            have hat : (acc ++ [.ref pv] : List V)[acc.length]? = some (.ref pv) := by rw [List.getElem?_append_right (Nat.le_refl _), Nat.sub_self]; rfl
            refine ⟨.ref tl, rfl, .ref tl, rfl, tl, _, rfl, .inl (SqL.of etl2), _, _, rfl, rfl, tl, _, _, .ref pv, rfl, rfl, SqL.of etl2, (by
              rw [lap]
              have hc : (((acc.length + 1 : Nat) : Int) - 1) = ((acc.length : Nat) : Int) := by omega
              rw [hc]
              exact atI_nat hat), pv, _, 1, kV k, rfl, rfl, SqT.of epv3, rfl, (by show 1 ≤ sizeLine; decide), fun t2 nt2 => ?_⟩
            have s3 := s2.trans (same_new (o := .tup [kV k]) nt2)
            have et2 : (upd HI t2 (.tup [kV k])) t2 = some (.tup [kV k]) := upd_same
            have et1' : (upd HI t2 (.tup [kV k])) t1 = some (.tup (ks.map kV)) := same_new nt2 _ _ et1
            revert s3 et2 et1'
            generalize (upd HI t2 (.tup [kV k])) = HJ
            intro s3 et2 et1'
            -- the row, and the program's
            have rn : nice (rowD (ks ++ [k])) := rowD_nice (by rw [List.length_append, List.length_singleton]; omega)
            have hworth : (ys.map T.var ++ [T.val k]).map (fun t => worthE t w1.1) = (ks ++ [k]).map some := by
              rw [List.map_append, List.map_append, List.map_map]
              have e1 : ys.map ((fun t => worthE t w1.1) ∘ T.var) = ys.map fun x => look w1.1 x := rfl
              rw [e1, hks]
              rfl
            have hlen : (ys.map T.var ++ [T.val k]).length ≤ 1000 := by
              rw [List.length_append, List.length_map, List.length_singleton]
              omega
            have laid : ∀ {HK : Hp} {tp : Addr}, Same HJ HK → HK tp = none → Same HF (upd HK tp (.tup (acc ++ [.ref pv]))) := fun sK ntp => (s3.trans sK).trans (same_new ntp)
            refine ⟨t1, t2, ks.map kV, [kV k], rfl, rfl, SqT.of et1', SqT.of et2, Nat.le_of_lt (small1000 (by rw [List.length_map, List.length_singleton]; omega)), fun e0 => ?_, (fun _ z => (by cases z)), fun ne _ t3 nt3 => ?_⟩
            · have e9 : (ks ++ [k]).map kV = [kV k] := by rw [List.map_append, e0]; rfl
              refine ⟨.ref tl, rfl, tl, _, rfl, .inl ⟨SqL.of (s3 _ _ etl), fun tp ntp => ⟨.ref db, rfl, tp, db, acc ++ [.ref pv], ys.map T.var ++ [T.val k], kvs, w1.1, ks ++ [k], rfl, upd_same, tterm.mono (Tk.of (laid (Same.refl _) ntp)), .inl (laid (Same.refl _) ntp _ _ X2.hd), en, hworth, hlen, fun pr HL sL epr => ?_⟩⟩⟩
              have et3 : HL t2 = some (.tup ((ks ++ [k]).map kV)) := sL _ _ (same_new ntp _ _ (by rw [e9]; exact et2))
              have sM := (laid (Same.refl _) ntp).trans sL
              refine ⟨.ref t2, rfl, .ref pr, .ref t2, rowD (ks ++ [k]), rowD (ks ++ [k]), rfl, row_tp epr, row_tp et3, rn, rn, Nat.le_trans (rowD_depth _) (by decide), true, by rw [nice_plain rn], iteF ?_⟩
              exact ⟨⟨_, _, _, _, rfl⟩, dF.trans (Dr.same dF.good sM)⟩
            · have sK : Same HJ (upd HJ t3 (.tup (ks.map kV ++ [kV k]))) := same_new nt3
              have et3' : (upd HJ t3 (.tup (ks.map kV ++ [kV k]))) t3 = some (.tup ((ks ++ [k]).map kV)) := by
                rw [upd_same, List.map_append]
                rfl
              revert sK et3'
              generalize (upd HJ t3 (.tup (ks.map kV ++ [kV k]))) = HK
              intro sK et3'
              refine ⟨.ref tl, rfl, tl, _, rfl, .inl ⟨SqL.of (sK _ _ (s3 _ _ etl)), fun tp ntp => ⟨.ref db, rfl, tp, db, acc ++ [.ref pv], ys.map T.var ++ [T.val k], kvs, w1.1, ks ++ [k], rfl, upd_same, tterm.mono (Tk.of (laid sK ntp)), .inl (laid sK ntp _ _ X2.hd), en, hworth, hlen, fun pr HL sL epr => ?_⟩⟩⟩
              have et3 : HL t3 = some (.tup ((ks ++ [k]).map kV)) := sL _ _ (same_new ntp _ _ et3')
              have sM := (laid sK ntp).trans sL
              refine ⟨.ref t3, rfl, .ref pr, .ref t3, rowD (ks ++ [k]), rowD (ks ++ [k]), rfl, row_tp epr, row_tp et3, rn, rn, Nat.le_trans (rowD_depth _) (by decide), true, by rw [nice_plain rn], iteF ?_⟩
              exact ⟨⟨_, _, _, _, rfl⟩, dF.trans (Dr.same dF.good sM)⟩
      · obtain ⟨⟨y11, y12, y13, y14, rfl⟩, dr⟩ := hP
        exact ⟨⟨_, _, _, _, _, _, _, _, _, _, _, _, _, rfl⟩, dr.good, dr.at_ nwst ew10⟩
  · obtain ⟨⟨x3, x4, x5, x6, x7, x8, x9, x10, x11, x12, x13, x14, x15, rfl⟩, g, ew⟩ := hP
    exact q H'
end
end KC

namespace KC
open PySem PySem.Spec PyProof.Rows L2 KA
/-- a def of the text stands behind the top under its name -/
def DefAt (K : PySem.W.Frag) (x : Str) (st : Stmt) : Prop :=
  ∃ (f : Addr) (od an : Option Addr) (sl : Array (Option Value)) (oc kV dc pm cd ct : Value),
    PySem.W.nsIn K mainGlobals x = some (some (.ref f)) ∧ K.lookup f = some ⟨oc, od, .func (PySem.W.fnOf x x (defArgs st) (defBody st) (defScope st) .none kV dc pm an cd ct), sl⟩ ∧
    PySem.W.codeIn K cd x = true ∧ PySem.W.keepIn K (.ref f) = true
theorem defAt {K : PySem.W.Frag} {x : Str} {st : Stmt} {f : Addr} {od an : Option Addr} {sl : Array (Option Value)} {oc kV dc pm cd ct : Value} (a : PySem.W.nsIn K mainGlobals x = some (some (.ref f)))
    (l : K.lookup f = some ⟨oc, od, .func (PySem.W.fnOf x x (defArgs st) (defBody st) (defScope st) .none kV dc pm an cd ct), sl⟩) (c : PySem.W.codeIn K cd x = true) (k : PySem.W.keepIn K (.ref f) = true) : DefAt K x st :=
  ⟨f, od, an, sl, oc, kV, dc, pm, cd, ct, a, l, c, k⟩
/-- a method of the class -/
def MethAt (K : PySem.W.Frag) (C : Addr) (x q : Str) (st : Stmt) : Prop :=
  ∃ (f : Addr) (od an : Option Addr) (sl : Array (Option Value)) (oc kV dc pm cd ct : Value),
    PySem.W.findIn K (.ref C) x = some (some (.ref f)) ∧ PySem.W.isFn K (.ref f) = true ∧ K.lookup f = some ⟨oc, od, .func (PySem.W.fnOf x q (defArgs st) (defBody st) (defScope st) .none kV dc pm an cd ct), sl⟩ ∧
    PySem.W.codeIn K cd q = true ∧ PySem.W.keepIn K (.ref f) = true
theorem methAt {K : PySem.W.Frag} {C : Addr} {x q : Str} {st : Stmt} {f : Addr} {od an : Option Addr} {sl : Array (Option Value)} {oc kV dc pm cd ct : Value} (a : PySem.W.findIn K (.ref C) x = some (some (.ref f))) (i : PySem.W.isFn K (.ref f) = true)
    (l : K.lookup f = some ⟨oc, od, .func (PySem.W.fnOf x q (defArgs st) (defBody st) (defScope st) .none kV dc pm an cd ct), sl⟩) (c : PySem.W.codeIn K cd q = true) (k : PySem.W.keepIn K (.ref f) = true) : MethAt K C x q st :=
  ⟨f, od, an, sl, oc, kV, dc, pm, cd, ct, a, i, l, c, k⟩
section
variable {P : Program} {w : World} {K : PySem.W.Frag} {mg : Str → Option Value} {base h : Heap} {C : Addr}
theorem mk_def {x : Str} {st : Stmt} {ps : List Str} {sp : Sp} {k : Nat} (T : DefAt K x st) (X : K.In h) (G : h.Ns mainGlobals mg)
    (bind : ∀ (kV doc pm : Value) (an : Option Addr) (cdv ct : Value) (us : List Value), us.length = ps.length → bindArgs (PySem.W.fnOf x x (defArgs st) (defBody st) (defScope st) .none kV doc pm an cdv ct) ⟨us, []⟩ = pure (ps.zip us))
    (ok : ∀ (f : Addr) (fd : FuncData), Fun K x x st f fd → FnOk P w K mg base CX0 k f fd ps sp) : Def P w K mg base x k ps sp := by
  obtain ⟨f, od, an, sl, oc, kV, dc, pm, cd, ct, a, l, c, kp⟩ := T
  have F := fun_mk l c kp
  exact ⟨f, _, ok f _ F, PySem.W.mg_of X G a, kp, F.binds bind⟩
theorem mk_meth {x q : Str} {st : Stmt} {ps : List Str} {sp : Sp} {k : Nat} (T : MethAt K C x q st)
    (bind : ∀ (kV doc pm : Value) (an : Option Addr) (cdv ct : Value) (us : List Value), us.length = ps.length → bindArgs (PySem.W.fnOf x q (defArgs st) (defBody st) (defScope st) .none kV doc pm an cdv ct) ⟨us, []⟩ = pure (ps.zip us))
    (ok : ∀ (f : Addr) (fd : FuncData), Fun K x q st f fd → FnOk P w K mg base CX0 k f fd ps sp) : MDef P w K mg base C x k ps sp := by
  obtain ⟨f, od, an, sl, oc, kV, dc, pm, cd, ct, a, i, l, c, kp⟩ := T
  have F := fun_mk l c kp
  exact ⟨f, _, ok f _ F, ⟨a, i, kp⟩, F.binds bind⟩
theorem mk_mat (T : MethAt K C "__init__" "Matcher.__init__" sMi) (mkC : PySem.W.makesIn K C = true) (kc : PySem.W.keepIn K (.ref C) = true)
    (ok : ∀ (f : Addr) (fd : FuncData), Fun K "__init__" "Matcher.__init__" sMi f fd → FnOk P w K mg base CX0 2 f fd ["self", "terms", "rows", "values"] (spMi C)) : MkM P w K mg base C := by
  obtain ⟨f, od, an, sl, oc, kV, dc, pm, cd, ct, a, i, l, c, kp⟩ := T
  have F := fun_mk l c kp
  exact ⟨f, _, ⟨mkC, a, i, kc⟩, ok f _ F, F.binds (fun _ _ _ _ _ _ us hl => match us, hl with | [_, _, _, _], _ => rfl)⟩
/-- what the top has written, and the built-in names that it has not -/
structure Top (K : PySem.W.Frag) (C : Addr) : Prop where
  cC : PySem.W.nsIn K mainGlobals "Matcher" = some (some (.ref C))
  vk : DefAt K "value_key" sVK
  wo : DefAt K "worth" sWo
  sp : DefAt K "split_terms" sSp
  cp : DefAt K "compares" sCP
  ro : DefAt K "result_of" sRO
  mw : DefAt K "meeting_ways" sMw
  fw : DefAt K "fact_ways" sFw
  nw : DefAt K "not_ways" sNw
  cw : DefAt K "compare_ways" sCw
  iw : DefAt K "is_ways" sIw
  nt : DefAt K "count_ways" sNt
  wa : DefAt K "ways_after" sWa
  fr : DefAt K "fact_relations" sFr
  ch : DefAt K "chosen_ways" sCh
  ws : DefAt K "ways" sWs
  hr : DefAt K "head_row" sHR
  next : DefAt K "_law_next" sNext
  lw : DefAt K "_law_worth" sLw
  lv : DefAt K "_law_variable" sLv
  lt : DefAt K "_law_term" sLt
  ls : DefAt K "_law_settled" sLs
  ll : DefAt K "_law_literal" sLl
  bi : DefAt K "_law_binds" sBi
  lb : DefAt K "_law_body" sLb
  rk : DefAt K "_law_rank" sRk
  of_ : DefAt K "_law_of" sOf
  lm : DefAt K "_law_met" sLm
  lc : DefAt K "_law_compared" sLc
  go : DefAt K "_law_goes_on" sGo
  ly : DefAt K "_law_ways" sLy
  lr : DefAt K "_law_rows" sLr
  id_ : DefAt K "_law_is_dict" sID
  sm : DefAt K "_law_same" sSM
  law : DefAt K "law" sLaw
  mInit : MethAt K C "__init__" "Matcher.__init__" sMi
  mMet : MethAt K C "met" "Matcher.met" sMet
  mWr : MethAt K C "with_row" "Matcher.with_row" sWr
  pg : PySem.W.plainGet K C Str.empty = true
  hd : PySem.W.hasDictIn K C = true
  pv : PySem.W.plainOver K C = true
  sat : PySem.W.findIn K (.ref C) "__setattr__" = some (some (.builtin "object.__setattr__"))
  mk_ : PySem.W.makesIn K C = true
  kc : PySem.W.keepIn K (.ref C) = true
  nK : PySem.W.findIn K (.ref C) "known" = some none
  nF : PySem.W.findIn K (.ref C) "first" = some none
  nG : PySem.W.findIn K (.ref C) "groups" = some none
  zlen : PySem.W.nsIn K mainGlobals "len" = some none
  zint : PySem.W.nsIn K mainGlobals "int" = some none
  zisi : PySem.W.nsIn K mainGlobals "isinstance" = some none
  zbool : PySem.W.nsIn K mainGlobals "bool" = some none
  zstr : PySem.W.nsIn K mainGlobals "str" = some none
  ztup : PySem.W.nsIn K mainGlobals "tuple" = some none
  zlst : PySem.W.nsIn K mainGlobals "list" = some none
  zrng : PySem.W.nsIn K mainGlobals "range" = some none
  zmin : PySem.W.nsIn K mainGlobals "min" = some none
  zdict : PySem.W.nsIn K mainGlobals "dict" = some none
  zsort : PySem.W.nsIn K mainGlobals "sorted" = some none
  zall : PySem.W.nsIn K mainGlobals "all" = some none
  zenum : PySem.W.nsIn K mainGlobals "enumerate" = some none
  zzip : PySem.W.nsIn K mainGlobals "zip" = some none
  zrepr : PySem.W.nsIn K mainGlobals "repr" = some none
theorem Top.btt (T : Top K C) (X : K.In h) (G : h.Ns mainGlobals mg) : Bt mg :=
  ⟨PySem.W.mg_none_of X G T.zlen, PySem.W.mg_none_of X G T.zint, PySem.W.mg_none_of X G T.zisi, PySem.W.mg_none_of X G T.zbool, PySem.W.mg_none_of X G T.zstr, PySem.W.mg_none_of X G T.ztup,
    PySem.W.mg_none_of X G T.zlst, PySem.W.mg_none_of X G T.zrng, PySem.W.mg_none_of X G T.zmin⟩
theorem Top.cls (T : Top K C) (X : K.In h) (G : h.Ns mainGlobals mg) : Cs K mg C := ⟨⟨T.pg, T.hd, T.pv, T.sat⟩, T.nK, T.nF, T.nG, PySem.W.mg_of X G T.cC⟩
theorem Top.ds (T : Top K C) (X : K.In h) (G : h.Ns mainGlobals mg) : Ds P w K mg base := by
  have B := T.btt X G
  have CC := T.cls X G
  have hdi := PySem.W.mg_none_of X G T.zdict
  have hso := PySem.W.mg_none_of X G T.zsort
  have hal := PySem.W.mg_none_of X G T.zall
  have hen := PySem.W.mg_none_of X G T.zenum
  have hzi := PySem.W.mg_none_of X G T.zzip
  have S0 : dSM0 P w K mg base := mk_def T.sm X G (fun _ _ _ _ _ _ us hl => match us, hl with | [_, _], _ => rfl) fun f fd F => ok_sm F B 0 (.inl rfl)
  have S1 : Def P w K mg base "_law_same" 2 ["actual", "expected"] (spSM 1) := mk_def T.sm X G (fun _ _ _ _ _ _ us hl => match us, hl with | [_, _], _ => rfl) fun f fd F => ok_sm F B 1 (.inr ⟨0, rfl, S0⟩)
  have S2 : Def P w K mg base "_law_same" 3 ["actual", "expected"] (spSM 2) := mk_def T.sm X G (fun _ _ _ _ _ _ us hl => match us, hl with | [_, _], _ => rfl) fun f fd F => ok_sm F B 2 (.inr ⟨1, rfl, S1⟩)
  have VK : dVK P w K mg base := mk_def T.vk X G (fun _ _ _ _ _ _ us hl => match us, hl with | [_], _ => rfl) fun f fd F => ok_vk F B
  have WO : dWo P w K mg base := mk_def T.wo X G (fun _ _ _ _ _ _ us hl => match us, hl with | [_, _], _ => rfl) fun f fd F => ok_wo F
  have SP : dSp P w K mg base := mk_def T.sp X G (fun _ _ _ _ _ _ us hl => match us, hl with | [_, _], _ => rfl) fun f fd F => ok_sp F hen
  have CP : dCP P w K mg base := mk_def T.cp X G (fun _ _ _ _ _ _ us hl => match us, hl with | [_, _, _], _ => rfl) fun f fd F => ok_cp F VK
  have RO : dRO P w K mg base := mk_def T.ro X G (fun _ _ _ _ _ _ us hl => match us, hl with | [_, _, _], _ => rfl) fun f fd F => ok_ro F B
  have MM : MkM P w K mg base C := mk_mat T.mInit T.mk_ T.kc fun f fd F => ok_mi F CC B hal SP
  have MT : KC.mMet P w K mg base C := mk_meth T.mMet (fun _ _ _ _ _ _ us hl => match us, hl with | [_, _], _ => rfl) fun f fd F => ok_met F CC B WO
  have WR : KC.mWr P w K mg base C := mk_meth T.mWr (fun _ _ _ _ _ _ us hl => match us, hl with | [_, _, _], _ => rfl) fun f fd F => ok_wr F CC hdi
  have MW : dMw P w K mg base := mk_def T.mw X G (fun _ _ _ _ _ _ us hl => match us, hl with | [_, _, _], _ => rfl) fun f fd F => ok_mw F hzi
  have FW : Def P w K mg base "fact_ways" 4 ["literal", "found", "rows"] spFw := mk_def T.fw X G (fun _ _ _ _ _ _ us hl => match us, hl with | [_, _, _], _ => rfl) fun f fd F => ok_fw F CC B MM MT WR
  have NW : Def P w K mg base "not_ways" 4 ["literal", "found", "lookups"] spNw := mk_def T.nw X G (fun _ _ _ _ _ _ us hl => match us, hl with | [_, _, _], _ => rfl) fun f fd F => ok_nw F CC B MM MT
  have CW : Def P w K mg base "compare_ways" 3 ["literal", "found"] spCw := mk_def T.cw X G (fun _ _ _ _ _ _ us hl => match us, hl with | [_, _], _ => rfl) fun f fd F => ok_cw F CP WO
  have IW : Def P w K mg base "is_ways" 2 ["literal", "found"] spIw := mk_def T.iw X G (fun _ _ _ _ _ _ us hl => match us, hl with | [_, _], _ => rfl) fun f fd F => ok_iw F RO WO MW
  have NT : Def P w K mg base "count_ways" 4 ["literal", "found", "lookups"] spNt := mk_def T.nt X G (fun _ _ _ _ _ _ us hl => match us, hl with | [_, _, _], _ => rfl) fun f fd F => ok_nt F CC B MM MT MW
  have WA : Def P w K mg base "ways_after" 5 ["literal", "found", "lookups"] spWa := mk_def T.wa X G (fun _ _ _ _ _ _ us hl => match us, hl with | [_, _, _], _ => rfl) fun f fd F => ok_wa F NW CW IW NT
  have FR : Def P w K mg base "fact_relations" 1 ["body"] spFr := mk_def T.fr X G (fun _ _ _ _ _ _ us hl => match us, hl with | [_], _ => rfl) fun f fd F => ok_fr F
  have CH : Def P w K mg base "chosen_ways" 6 ["body", "choices", "lookups"] spCh := mk_def T.ch X G (fun _ _ _ _ _ _ us hl => match us, hl with | [_, _, _], _ => rfl) fun f fd F => ok_ch F FW WA
  have WS : Def P w K mg base "ways" 7 ["body", "rows", "lookups"] spWs := mk_def T.ws X G (fun _ _ _ _ _ _ us hl => match us, hl with | [_, _, _], _ => rfl) fun f fd F => ok_ws F CH FR
  have HR : Def P w K mg base "head_row" 2 ["terms", "values"] spHR := mk_def T.hr X G (fun _ _ _ _ _ _ us hl => match us, hl with | [_, _], _ => rfl) fun f fd F => ok_hr F B WO
  have N : dNext P w K mg base := mk_def T.next X G (fun _ _ _ _ _ _ us hl => match us, hl with | [_, _], _ => rfl) fun f fd F => ok_next F B
  have LW : dLw P w K mg base := mk_def T.lw X G (fun _ _ _ _ _ _ us hl => match us, hl with | [_], _ => rfl) fun f fd F => ok_lw F N
  have LV : dLv P w K mg base := mk_def T.lv X G (fun _ _ _ _ _ _ us hl => match us, hl with | [_], _ => rfl) fun f fd F => ok_lv F N
  have LT : dLt P w K mg base := mk_def T.lt X G (fun _ _ _ _ _ _ us hl => match us, hl with | [_, _], _ => rfl) fun f fd F => ok_lt F B N LV LW
  have LS : dLs P w K mg base := mk_def T.ls X G (fun _ _ _ _ _ _ us hl => match us, hl with | [_, _], _ => rfl) fun f fd F => ok_ls F
  have LL : dLl P w K mg base := mk_def T.ll X G (fun _ _ _ _ _ _ us hl => match us, hl with | [_, _, _, _], _ => rfl) fun f fd F => ok_ll F B hso N LV LT LS
  have BI : dBi P w K mg base := mk_def T.bi X G (fun _ _ _ _ _ _ us hl => match us, hl with | [_], _ => rfl) fun f fd F => ok_bi F
  have LB : Def P w K mg base "_law_body" 5 ["state", "widths", "careful", "most"] spLb := mk_def T.lb X G (fun _ _ _ _ _ _ us hl => match us, hl with | [_, _, _, _], _ => rfl) fun f fd F => ok_lb F B N LL BI
  have RK : dRk P w K mg base := mk_def T.rk X G (fun _ _ _ _ _ _ us hl => match us, hl with | [_], _ => rfl) fun f fd F => ok_rk F B
  have OF : dOf P w K mg base := mk_def T.of_ X G (fun _ _ _ _ _ _ us hl => match us, hl with | [_, _], _ => rfl) fun f fd F => ok_of F
  have LM : dLm P w K mg base := mk_def T.lm X G (fun _ _ _ _ _ _ us hl => match us, hl with | [_, _, _], _ => rfl) fun f fd F => ok_lm F B hdi S0
  have LC : dLc P w K mg base := mk_def T.lc X G (fun _ _ _ _ _ _ us hl => match us, hl with | [_, _, _], _ => rfl) fun f fd F => ok_lc F RK
  have GO : dGo P w K mg base := mk_def T.go X G (fun _ _ _ _ _ _ us hl => match us, hl with | [_, _, _], _ => rfl) fun f fd F => ok_go F B hdi LC OF LM S0
  have LY : Def P w K mg base "_law_ways" 4 ["body", "rows", "lookups"] spLy := mk_def T.ly X G (fun _ _ _ _ _ _ us hl => match us, hl with | [_, _, _], _ => rfl) fun f fd F => ok_ly F GO LM
  have LR : Def P w K mg base "_law_rows" 3 ["state", "widths"] spLr := mk_def T.lr X G (fun _ _ _ _ _ _ us hl => match us, hl with | [_, _], _ => rfl) fun f fd F => ok_lr F B N LW
  have ID : Def P w K mg base "_law_is_dict" 2 ["actual", "expected"] spID := mk_def T.id_ X G (fun _ _ _ _ _ _ us hl => match us, hl with | [_, _], _ => rfl) fun f fd F => ok_id F B hdi S0
  exact ⟨N, LR, LB, LY, WS, ID, S2, LW, HR⟩
theorem all_mk {l : PySem.W.OpenLaw} {fa : Addr} (T : Top K C) (X : K.In h) (G : h.Ns mainGlobals mg) (hfa : mg "law" = some (.ref fa)) : ∀ base : Heap, K.In base → base.Ns mainGlobals mg → LawRun l.prog w K mg base fa (spLaw K) := by
  obtain ⟨f, od, an, sl, oc, kV, dc, pm, cd, ct, a, lk, c, kp⟩ := T.law
  have e := hfa.symm.trans (PySem.W.mg_of X G a)
  cases e
  have F := fun_mk lk c kp
  exact fun base _ _ => run_law F (fun s u => .of_eq rfl) (T.btt X G) (PySem.W.mg_none_of X G T.zsort) (PySem.W.mg_none_of X G T.zrepr) (T.ds X G)
end
end KC
open PySem PySem.W PyProof.Rows
set_option maxHeartbeats 0 in
theorem PySem.Challenge.cw_rulestead_k20_ways_of_bodies_holds : PySem.Challenge.rw_rulestead_k20_ways_of_bodies.Holds := by
  w_on; o_law; k_head; (case hw => w_witness2)
  k_fill
  refine KC.claim_of (l := PySem.Challenge.rw_rulestead_k20_ways_of_bodies) (n := 63) (sp := fun w => KC.spLaw _) rfl (by decide) rfl (fun w h Y => PySem.W.kIn_of Y) ?F (fun _ _ a ns hl hS => ⟨a, ns, rfl, hS, fun _ => rfl⟩)
  case F =>
    intro w mg fa h KX G hmg
    refine' KC.all_mk ?T KX G hmg
    case T =>
      constructor
      all_goals first
        | k_is
        | (refine' KC.defAt ?a ?l ?c ?k; (case a => k_is); (case l => k_is); (case c => k_is); (case k => k_is))
        | (refine' KC.methAt ?a ?i ?l ?c ?k; (case a => k_is); (case i => k_is); (case l => k_is); (case c => k_is); (case k => k_is))
