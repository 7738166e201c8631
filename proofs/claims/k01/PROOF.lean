import PyProof.Rows.All
import Wide.All
import OpenK.AllK
import Wide.FinOn
import HandS.Base
import HandS.Call
import HandS.List
import HandS.Comp
import HandS.Ends
import KE.DataEq
import KE.LtSeq
import HandS.ForMost
import HandS.IsInst
import HandS.Wide
import HandS.TupAny
import HandS.Codes
import PySem.Challenge.RW_rulestead_k01_values_rows_and_keys
set_option Elab.async false
set_option linter.all false
set_option maxRecDepth 100000
set_option maxHeartbeats 4000000
/-! Tuples compared by < and >, where only the first pair that differs need be comparable. -/
namespace KA
open PySem PySem.SeqAt
open PySem.AutoSeq1 (wpAny_loadPart')
open PySem.MeetsSeq PySem.MeetsSeq2 PySem.MeetsSeq3

/-- u op v gives k, nothing changes -/
def Rc (op : CmpOp) (A : Around) (s : Shared) (u v : Value) (k : Bool) : Prop :=
  ∀ (prog : Program) (w : World) (E : Value → Shared → Prop) (Q : Value → Shared → Prop), Q (.bool k) s → wpAny (model prog w) A (richCompare op u v) Q E s
theorem lt_mixed (p q : Addr) (as bs : Array Value) (m m2 : Nat) (da db : Option Addr) (sa sb : Array (Option Value)) (e r : Nat → Bool) :
    Meets (Builtin.«tuple.__lt__» ⟨[.ref p, .ref q], []⟩)
      (fun A R s => s.heap.get? p = some { cls := .type "tuple", dict := da, data := .seq as m, slots := sa } ∧ s.heap.get? q = some { cls := .type "tuple", dict := db, data := .seq bs m2, slots := sb } ∧
        (∀ j (h1 : j < as.size) (h2 : j < bs.size), EqAt A.in1 s as[j] bs[j] (e j)) ∧
        (∀ j (h1 : j < as.size) (h2 : j < bs.size), (∀ i, i < j → e i = true) → e j = false → Rc .Lt A.in1 s as[j] bs[j] (r j)) ∧
        R (.ok (.ret (.bool (firstLt e r (decide (as.size < bs.size)) (List.range (min as.size bs.size)))))) s) :=
  .of_wp fun prog w A R s hyp => by
    obtain ⟨hp, gg, dr, tks, ox⟩ := s
    obtain ⟨gp, gq, heq, hrc, hR0⟩ := hyp
    have isT := AutoSeq1.sub_tuple_tuple
    have zl : (as.toList.zip bs.toList).length = min as.size bs.size := by simp
    wp_walk using wpAny_loadPart' gp, wpAny_loadPart' gq, wpAny_forIn_list _ (fun rem st s' => st.1 = none ∧ s' = ⟨hp, gg, dr, tks, ox⟩ ∧ ∃ i, (∀ x, x < i → e x = true) ∧ rem = (as.toList.zip bs.toList).drop i ∧
      R (.ok (.ret (.bool (firstLt e r (decide (as.size < bs.size)) ((List.range (min as.size bs.size)).drop i))))) ⟨hp, gg, dr, tks, ox⟩) _
    case turn =>
      rintro ⟨u, v⟩ rem st s' ⟨st1, rfl, i, same, hz, hR⟩
      have il : i < (as.toList.zip bs.toList).length := by
        rcases Nat.lt_or_ge i (as.toList.zip bs.toList).length with c | c
        · exact c
        · rw [List.drop_of_length_le c] at hz
          cases hz
      have im : i < min as.size bs.size := zl ▸ il
      have ia : i < as.size := Nat.lt_of_lt_of_le im (Nat.min_le_left _ _)
      have ib : i < bs.size := Nat.lt_of_lt_of_le im (Nat.min_le_right _ _)
      rw [List.drop_eq_getElem_cons il] at hz
      injection hz with huv hrem
      have eu : u = as[i] := by
        have t := congrArg Prod.fst huv
        simpa using t
      have ev : v = bs[i] := by
        have t := congrArg Prod.snd huv
        simpa using t
      subst eu ev
      have hcut : (List.range (min as.size bs.size)).drop i = i :: (List.range (min as.size bs.size)).drop (i + 1) := by
        simp [List.drop_eq_getElem_cons, im]
      rw [hcut] at hR
      refine wpAny_bind (heq i ia ib prog w _ _ ?_)
      cases ei : e i with
      | true =>
        rw [firstLt_yes ei] at hR
        wp_walk
        refine ⟨rfl, rfl, i + 1, fun x hx => ?_, hrem, hR⟩
        rcases Nat.lt_or_ge x i with c | c
        · exact same x c
        · rw [show x = i by omega]
          exact ei
      | false =>
        rw [firstLt_no ei] at hR
        have step := hrc i ia ib same ei prog w
        wp_walk using step
        exact ⟨_, rfl, by simpa using hR⟩
    case fin =>
      rintro ⟨c1, c2⟩ s' ⟨st1, rfl, i, same, hz, hR⟩
      simp only at st1
      subst st1
      have hge : min as.size bs.size ≤ i := by
        rcases Nat.lt_or_ge i (as.toList.zip bs.toList).length with c | c
        · rw [List.drop_eq_getElem_cons c] at hz
          cases hz
        · exact zl ▸ c
      rw [List.drop_of_length_le (by simpa using hge)] at hR
      wp_walk
      exact ⟨_, rfl, by simpa [Builtin.Tuple.tupleCompareSizes, firstLt] using hR⟩
    case h =>
      exact ⟨rfl, rfl, 0, fun x hx => absurd hx (Nat.not_lt_zero x), rfl, by simpa using hR0⟩
theorem gt_mixed (p q : Addr) (as bs : Array Value) (m m2 : Nat) (da db : Option Addr) (sa sb : Array (Option Value)) (e r : Nat → Bool) :
    Meets (Builtin.«tuple.__gt__» ⟨[.ref p, .ref q], []⟩)
      (fun A R s => s.heap.get? p = some { cls := .type "tuple", dict := da, data := .seq as m, slots := sa } ∧ s.heap.get? q = some { cls := .type "tuple", dict := db, data := .seq bs m2, slots := sb } ∧
        (∀ j (h1 : j < as.size) (h2 : j < bs.size), EqAt A.in1 s as[j] bs[j] (e j)) ∧
        (∀ j (h1 : j < as.size) (h2 : j < bs.size), (∀ i, i < j → e i = true) → e j = false → Rc .Gt A.in1 s as[j] bs[j] (r j)) ∧
        R (.ok (.ret (.bool (firstLt e r (decide (as.size > bs.size)) (List.range (min as.size bs.size)))))) s) :=
  .of_wp fun prog w A R s hyp => by
    obtain ⟨hp, gg, dr, tks, ox⟩ := s
    obtain ⟨gp, gq, heq, hrc, hR0⟩ := hyp
    have isT := AutoSeq1.sub_tuple_tuple
    have zl : (as.toList.zip bs.toList).length = min as.size bs.size := by simp
    wp_walk using wpAny_loadPart' gp, wpAny_loadPart' gq, wpAny_forIn_list _ (fun rem st s' => st.1 = none ∧ s' = ⟨hp, gg, dr, tks, ox⟩ ∧ ∃ i, (∀ x, x < i → e x = true) ∧ rem = (as.toList.zip bs.toList).drop i ∧
      R (.ok (.ret (.bool (firstLt e r (decide (as.size > bs.size)) ((List.range (min as.size bs.size)).drop i))))) ⟨hp, gg, dr, tks, ox⟩) _
    case turn =>
      rintro ⟨u, v⟩ rem st s' ⟨st1, rfl, i, same, hz, hR⟩
      have il : i < (as.toList.zip bs.toList).length := by
        rcases Nat.lt_or_ge i (as.toList.zip bs.toList).length with c | c
        · exact c
        · rw [List.drop_of_length_le c] at hz
          cases hz
      have im : i < min as.size bs.size := zl ▸ il
      have ia : i < as.size := Nat.lt_of_lt_of_le im (Nat.min_le_left _ _)
      have ib : i < bs.size := Nat.lt_of_lt_of_le im (Nat.min_le_right _ _)
      rw [List.drop_eq_getElem_cons il] at hz
      injection hz with huv hrem
      have eu : u = as[i] := by
        have t := congrArg Prod.fst huv
        simpa using t
      have ev : v = bs[i] := by
        have t := congrArg Prod.snd huv
        simpa using t
      subst eu ev
      have hcut : (List.range (min as.size bs.size)).drop i = i :: (List.range (min as.size bs.size)).drop (i + 1) := by
        simp [List.drop_eq_getElem_cons, im]
      rw [hcut] at hR
      refine wpAny_bind (heq i ia ib prog w _ _ ?_)
      cases ei : e i with
      | true =>
        rw [firstLt_yes ei] at hR
        wp_walk
        refine ⟨rfl, rfl, i + 1, fun x hx => ?_, hrem, hR⟩
        rcases Nat.lt_or_ge x i with c | c
        · exact same x c
        · rw [show x = i by omega]
          exact ei
      | false =>
        rw [firstLt_no ei] at hR
        have step := hrc i ia ib same ei prog w
        wp_walk using step
        exact ⟨_, rfl, by simpa using hR⟩
    case fin =>
      rintro ⟨c1, c2⟩ s' ⟨st1, rfl, i, same, hz, hR⟩
      simp only at st1
      subst st1
      have hge : min as.size bs.size ≤ i := by
        rcases Nat.lt_or_ge i (as.toList.zip bs.toList).length with c | c
        · rw [List.drop_eq_getElem_cons c] at hz
          cases hz
        · exact zl ▸ c
      rw [List.drop_of_length_le (by simpa using hge)] at hR
      wp_walk
      exact ⟨_, rfl, by simpa [Builtin.Tuple.tupleCompareSizes, firstLt] using hR⟩
    case h =>
      exact ⟨rfl, rfl, 0, fun x hx => absurd hx (Nat.not_lt_zero x), rfl, by simpa using hR0⟩
section
variable {A : Around} {s : Shared} {p q : Addr} {as bs : Array Value} {e r : Nat → Bool}
theorem rc_lt_tups (hp : s.heap.IsTuple p as) (hq : s.heap.IsTuple q bs) (hu : A.units < cLine) (he : ∀ j (h1 : j < as.size) (h2 : j < bs.size), EqAt A.in1 s as[j] bs[j] (e j))
    (hr : ∀ j (h1 : j < as.size) (h2 : j < bs.size), (∀ i, i < j → e i = true) → e j = false → Rc .Lt A.in1 s as[j] bs[j] (r j)) :
    Rc .Lt A s (.ref p) (.ref q) (firstLt e r (decide (as.size < bs.size)) (List.range (min as.size bs.size))) := fun prog w E Q k => by
  obtain ⟨⟨c1, d1, x1, z1⟩, o1, k1, n1, w1⟩ := id hp
  obtain ⟨⟨c2, d2, x2, z2⟩, o2, k2, n2, w2⟩ := id hq
  simp only at k1 w1 k2 w2
  subst k1 w1 k2 w2
  refine richCompare_meets_room (op := .Lt) ⟨_, o1, rfl⟩ ⟨_, o2, rfl⟩ F.slot_tuple_lt F.entry_tuple_lt (F.args_tuple_lt_2 _ _) (lt_mixed p q as bs n1 n2 d1 d2 z1 z2 e r) ?_ hu
  exact ⟨o1, o2, he, hr, ⟨(fun x => nomatch x), k⟩⟩
theorem rc_gt_tups (hp : s.heap.IsTuple p as) (hq : s.heap.IsTuple q bs) (hu : A.units < cLine) (he : ∀ j (h1 : j < as.size) (h2 : j < bs.size), EqAt A.in1 s as[j] bs[j] (e j))
    (hr : ∀ j (h1 : j < as.size) (h2 : j < bs.size), (∀ i, i < j → e i = true) → e j = false → Rc .Gt A.in1 s as[j] bs[j] (r j)) :
    Rc .Gt A s (.ref p) (.ref q) (firstLt e r (decide (as.size > bs.size)) (List.range (min as.size bs.size))) := fun prog w E Q k => by
  obtain ⟨⟨c1, d1, x1, z1⟩, o1, k1, n1, w1⟩ := id hp
  obtain ⟨⟨c2, d2, x2, z2⟩, o2, k2, n2, w2⟩ := id hq
  simp only at k1 w1 k2 w2
  subst k1 w1 k2 w2
  refine richCompare_meets_room (op := .Gt) ⟨_, o1, rfl⟩ ⟨_, o2, rfl⟩ F.slot_tuple_gt F.entry_tuple_gt (F.args_tuple_gt_2 _ _) (gt_mixed p q as bs n1 n2 d1 d2 z1 z2 e r) ?_ hu
  exact ⟨o1, o2, he, hr, ⟨(fun x => nomatch x), k⟩⟩
end
end KA

/-! < and > of data whose items may be of unlike kinds behind the first difference. -/
namespace KA
open PySem PySem.SeqAt
mutual
/-- x < y as Python says; none: not comparable -/
def dlt : PyData → PyData → Option Bool
  | .int a, .int b => some (decide (a < b))
  | .str a, .str b => some (decide (a.cps.toList < b.cps.toList))
  | .tuple xs, .tuple ys => dltAll xs ys
  | _, _ => none
def dltAll : List PyData → List PyData → Option Bool
  | [], [] => some false
  | [], _ :: _ => some true
  | _ :: _, [] => some false
  | x :: xs, y :: ys => if PyData.eqv x y = true then dltAll xs ys else dlt x y
end
mutual
def dgt : PyData → PyData → Option Bool
  | .int a, .int b => some (decide (a > b))
  | .str a, .str b => some (decide (b.cps.toList < a.cps.toList))
  | .tuple xs, .tuple ys => dgtAll xs ys
  | _, _ => none
def dgtAll : List PyData → List PyData → Option Bool
  | [], [] => some false
  | [], _ :: _ => some false
  | _ :: _, [] => some true
  | x :: xs, y :: ys => if PyData.eqv x y = true then dgtAll xs ys else dgt x y
end
/-- what the first unequal pair gives, by place -/
def rAt (f : PyData → PyData → Option Bool) (xs ys : List PyData) (j : Nat) : Bool :=
  match xs[j]?, ys[j]? with
  | some x, some y => (f x y).getD false
  | _, _ => false
theorem scan_succ (e r : Nat → Bool) (z : Bool) : ∀ l : List Nat, firstLt e r z (l.map (· + 1)) = firstLt (fun j => e (j + 1)) (fun j => r (j + 1)) z l
  | [] => rfl
  | j :: t => by
    rw [List.map_cons]
    show (if e (j + 1) = true then firstLt e r z (t.map (· + 1)) else r (j + 1)) = _
    rw [scan_succ e r z t]
    rfl
theorem scan_lt : ∀ (xs ys : List PyData) (k : Bool), dltAll xs ys = some k → firstLt (pairEq xs ys) (rAt dlt xs ys) (decide (xs.length < ys.length)) (List.range (min xs.length ys.length)) = k
  | [], [], k, h => by
    rw [dltAll] at h
    exact (Option.some.inj h)
  | [], y :: ys, k, h => by
    rw [dltAll] at h
    rw [← Option.some.inj h]
    simp [firstLt]
  | x :: xs, [], k, h => by
    rw [dltAll] at h
    rw [← Option.some.inj h]
    simp [firstLt]
  | x :: xs, y :: ys, k, h => by
    rw [dltAll] at h
    have em : min (x :: xs).length (y :: ys).length = min xs.length ys.length + 1 := by
      rw [List.length_cons, List.length_cons]
      omega
    rw [em, List.range_succ_eq_map]
    by_cases hxy : PyData.eqv x y = true
    · rw [if_pos hxy] at h
      rw [firstLt_yes (show pairEq (x :: xs) (y :: ys) 0 = true from hxy), scan_succ, ← scan_lt xs ys k h]
      simp only [List.length_cons, Nat.add_lt_add_iff_right]
      rfl
    · rw [if_neg hxy] at h
      have hf : PyData.eqv x y = false := by
        cases c : PyData.eqv x y
        · rfl
        · exact absurd c hxy
      rw [firstLt_no (show pairEq (x :: xs) (y :: ys) 0 = false from hf)]
      show (dlt x y).getD false = k
      rw [h]
      rfl
theorem scan_gt : ∀ (xs ys : List PyData) (k : Bool), dgtAll xs ys = some k → firstLt (pairEq xs ys) (rAt dgt xs ys) (decide (xs.length > ys.length)) (List.range (min xs.length ys.length)) = k
  | [], [], k, h => by
    rw [dgtAll] at h
    exact (Option.some.inj h)
  | [], y :: ys, k, h => by
    rw [dgtAll] at h
    rw [← Option.some.inj h]
    simp [firstLt]
  | x :: xs, [], k, h => by
    rw [dgtAll] at h
    rw [← Option.some.inj h]
    simp [firstLt]
  | x :: xs, y :: ys, k, h => by
    rw [dgtAll] at h
    have em : min (x :: xs).length (y :: ys).length = min xs.length ys.length + 1 := by
      rw [List.length_cons, List.length_cons]
      omega
    rw [em, List.range_succ_eq_map]
    by_cases hxy : PyData.eqv x y = true
    · rw [if_pos hxy] at h
      rw [firstLt_yes (show pairEq (x :: xs) (y :: ys) 0 = true from hxy), scan_succ, ← scan_gt xs ys k h]
      simp only [List.length_cons, gt_iff_lt, Nat.add_lt_add_iff_right]
      rfl
    · rw [if_neg hxy] at h
      have hf : PyData.eqv x y = false := by
        cases c : PyData.eqv x y
        · rfl
        · exact absurd c hxy
      rw [firstLt_no (show pairEq (x :: xs) (y :: ys) 0 = false from hf)]
      show (dgt x y).getD false = k
      rw [h]
      rfl
mutual
theorem rc_lt : ∀ (d e : PyData) (k : Bool) (A : Around) (s : Shared) (a b : Value) (as bs : List Addr), Reads s.heap a d as → Reads s.heap b e bs → d.plain = true → e.plain = true → dlt d e = some k →
    A.units + min d.depth e.depth < cLine → Rc .Lt A s a b k
  | .int x, e, k, A, s, a, b, as, bs, ra, rb, pd, pe, h, hu => by
    cases e with
    | int y =>
      cases ra
      cases rb
      intro prog w E Q hq
      rw [dlt] at h
      cases h
      exact P.lt_int hq
    | _ => exact absurd h (by simp [dlt])
  | .str x, e, k, A, s, a, b, as, bs, ra, rb, pd, pe, h, hu => by
    cases e with
    | str y =>
      cases ra
      cases rb
      intro prog w E Q hq
      rw [dlt] at h
      cases h
      exact P.lt_str hq
    | _ => exact absurd h (by simp [dlt])
  | .tuple xs, e, k, A, s, a, b, as, bs, ra, rb, pd, pe, h, hu => by
    cases e with
    | tuple ys =>
      rw [dlt] at h
      cases ra with
      | @tuple l o vs n _ as1 h1 h2 h3 h4 =>
        cases rb with
        | @tuple l2 o2 vs2 n2 _ bs1 k1 k2 k3 k4 =>
          have z1 : vs.size = xs.length := by simpa using ReadsAll.length _ _ _ h4
          have z2 : vs2.size = ys.length := by simpa using ReadsAll.length _ _ _ k4
          have px : PyData.plainAll xs = true := pd
          have py : PyData.plainAll ys = true := pe
          have q := rc_lt_tups (A := A) (s := s) (e := pairEq xs ys) (r := rAt dlt xs ys) ⟨_, h1, h2, _, h3⟩ ⟨_, k1, k2, _, k3⟩ (room_here hu) (fun j j1 j2 => by
            have t := eqAt_plainAll xs ys A.in1 s vs.toList vs2.toList _ _ h4 k4 px py (room_in hu) j (by simpa using j1) (by simpa using j2)
            simpa using t) (fun j j1 j2 hb hj => by
            have t := rc_ltAll xs ys k A.in1 s vs.toList vs2.toList _ _ h4 k4 px py h (room_in hu) j (by simpa using j1) (by simpa using j2) hb hj
            simpa using t)
          rw [z1, z2, scan_lt xs ys k h] at q
          exact q
    | _ => exact absurd h (by simp [dlt])
  | .none, e, k, _, _, _, _, _, _, _, _, _, _, h, _ => absurd h (by cases e <;> simp [dlt])
  | .bool _, e, k, _, _, _, _, _, _, _, _, _, _, h, _ => absurd h (by cases e <;> simp [dlt])
  | .list _, e, k, _, _, _, _, _, _, _, _, _, _, h, _ => absurd h (by cases e <;> simp [dlt])
  | .dict _, e, k, _, _, _, _, _, _, _, _, _, _, h, _ => absurd h (by cases e <;> simp [dlt])
theorem rc_ltAll : ∀ (xs ys : List PyData) (k : Bool) (A : Around) (s : Shared) (vs ws : List Value) (as bs : List Addr), ReadsAll s.heap vs xs as → ReadsAll s.heap ws ys bs → PyData.plainAll xs = true → PyData.plainAll ys = true →
    dltAll xs ys = some k → A.units + min (PyData.depthAll xs) (PyData.depthAll ys) < cLine → ∀ j (h1 : j < vs.length) (h2 : j < ws.length), (∀ i, i < j → pairEq xs ys i = true) → pairEq xs ys j = false →
    Rc .Lt A s vs[j] ws[j] (rAt dlt xs ys j)
  | [], _, _, _, _, _, _, _, _, ra, _, _, _, _, _, j, h1, _, _, _ => by
    cases ra
    exact absurd h1 (Nat.not_lt_zero _)
  | _ :: _, [], _, _, _, _, _, _, _, _, rb, _, _, _, _, j, _, h2, _, _ => by
    cases rb
    exact absurd h2 (Nat.not_lt_zero _)
  | x :: xs, y :: ys, k, A, s, _, _, _, _, ra, rb, pa, pb, h, hu, j, h1, h2, hb, hj => by
    have pa2 : x.plain = true ∧ PyData.plainAll xs = true := by simpa [PyData.plainAll] using pa
    have pb2 : y.plain = true ∧ PyData.plainAll ys = true := by simpa [PyData.plainAll] using pb
    rw [dltAll] at h
    cases ra with
    | cons r rs =>
      cases rb with
      | cons t ts =>
        cases j with
        | zero =>
          have hf : PyData.eqv x y = false := hj
          rw [if_neg (by rw [hf]; exact Bool.false_ne_true)] at h
          have q := rc_lt x y k A s _ _ _ _ r t pa2.1 pb2.1 h (room_head hu)
          have ek : rAt dlt (x :: xs) (y :: ys) 0 = k := by
            show (dlt x y).getD false = k
            rw [h]
            rfl
          rw [ek]
          exact q
        | succ j =>
          have ht : PyData.eqv x y = true := hb 0 (Nat.zero_lt_succ j)
          rw [if_pos ht] at h
          exact rc_ltAll xs ys k A s _ _ _ _ rs ts pa2.2 pb2.2 h (room_tail hu) j (Nat.lt_of_succ_lt_succ h1) (Nat.lt_of_succ_lt_succ h2) (fun i hi => hb (i + 1) (Nat.succ_lt_succ hi)) hj
end
mutual
theorem rc_gt : ∀ (d e : PyData) (k : Bool) (A : Around) (s : Shared) (a b : Value) (as bs : List Addr), Reads s.heap a d as → Reads s.heap b e bs → d.plain = true → e.plain = true → dgt d e = some k →
    A.units + min d.depth e.depth < cLine → Rc .Gt A s a b k
  | .int x, e, k, A, s, a, b, as, bs, ra, rb, pd, pe, h, hu => by
    cases e with
    | int y =>
      cases ra
      cases rb
      intro prog w E Q hq
      rw [dgt] at h
      cases h
      exact P.gt_int hq
    | _ => exact absurd h (by simp [dgt])
  | .str x, e, k, A, s, a, b, as, bs, ra, rb, pd, pe, h, hu => by
    cases e with
    | str y =>
      cases ra
      cases rb
      intro prog w E Q hq
      rw [dgt] at h
      cases h
      exact P.gt_str hq
    | _ => exact absurd h (by simp [dgt])
  | .tuple xs, e, k, A, s, a, b, as, bs, ra, rb, pd, pe, h, hu => by
    cases e with
    | tuple ys =>
      rw [dgt] at h
      cases ra with
      | @tuple l o vs n _ as1 h1 h2 h3 h4 =>
        cases rb with
        | @tuple l2 o2 vs2 n2 _ bs1 k1 k2 k3 k4 =>
          have z1 : vs.size = xs.length := by simpa using ReadsAll.length _ _ _ h4
          have z2 : vs2.size = ys.length := by simpa using ReadsAll.length _ _ _ k4
          have px : PyData.plainAll xs = true := pd
          have py : PyData.plainAll ys = true := pe
          have q := rc_gt_tups (A := A) (s := s) (e := pairEq xs ys) (r := rAt dgt xs ys) ⟨_, h1, h2, _, h3⟩ ⟨_, k1, k2, _, k3⟩ (room_here hu) (fun j j1 j2 => by
            have t := eqAt_plainAll xs ys A.in1 s vs.toList vs2.toList _ _ h4 k4 px py (room_in hu) j (by simpa using j1) (by simpa using j2)
            simpa using t) (fun j j1 j2 hb hj => by
            have t := rc_gtAll xs ys k A.in1 s vs.toList vs2.toList _ _ h4 k4 px py h (room_in hu) j (by simpa using j1) (by simpa using j2) hb hj
            simpa using t)
          rw [z1, z2, scan_gt xs ys k h] at q
          exact q
    | _ => exact absurd h (by simp [dgt])
  | .none, e, k, _, _, _, _, _, _, _, _, _, _, h, _ => absurd h (by cases e <;> simp [dgt])
  | .bool _, e, k, _, _, _, _, _, _, _, _, _, _, h, _ => absurd h (by cases e <;> simp [dgt])
  | .list _, e, k, _, _, _, _, _, _, _, _, _, _, h, _ => absurd h (by cases e <;> simp [dgt])
  | .dict _, e, k, _, _, _, _, _, _, _, _, _, _, h, _ => absurd h (by cases e <;> simp [dgt])
theorem rc_gtAll : ∀ (xs ys : List PyData) (k : Bool) (A : Around) (s : Shared) (vs ws : List Value) (as bs : List Addr), ReadsAll s.heap vs xs as → ReadsAll s.heap ws ys bs → PyData.plainAll xs = true → PyData.plainAll ys = true →
    dgtAll xs ys = some k → A.units + min (PyData.depthAll xs) (PyData.depthAll ys) < cLine → ∀ j (h1 : j < vs.length) (h2 : j < ws.length), (∀ i, i < j → pairEq xs ys i = true) → pairEq xs ys j = false →
    Rc .Gt A s vs[j] ws[j] (rAt dgt xs ys j)
  | [], _, _, _, _, _, _, _, _, ra, _, _, _, _, _, j, h1, _, _, _ => by
    cases ra
    exact absurd h1 (Nat.not_lt_zero _)
  | _ :: _, [], _, _, _, _, _, _, _, _, rb, _, _, _, _, j, _, h2, _, _ => by
    cases rb
    exact absurd h2 (Nat.not_lt_zero _)
  | x :: xs, y :: ys, k, A, s, _, _, _, _, ra, rb, pa, pb, h, hu, j, h1, h2, hb, hj => by
    have pa2 : x.plain = true ∧ PyData.plainAll xs = true := by simpa [PyData.plainAll] using pa
    have pb2 : y.plain = true ∧ PyData.plainAll ys = true := by simpa [PyData.plainAll] using pb
    rw [dgtAll] at h
    cases ra with
    | cons r rs =>
      cases rb with
      | cons t ts =>
        cases j with
        | zero =>
          have hf : PyData.eqv x y = false := hj
          rw [if_neg (by rw [hf]; exact Bool.false_ne_true)] at h
          have q := rc_gt x y k A s _ _ _ _ r t pa2.1 pb2.1 h (room_head hu)
          have ek : rAt dgt (x :: xs) (y :: ys) 0 = k := by
            show (dgt x y).getD false = k
            rw [h]
            rfl
          rw [ek]
          exact q
        | succ j =>
          have ht : PyData.eqv x y = true := hb 0 (Nat.zero_lt_succ j)
          rw [if_pos ht] at h
          exact rc_gtAll xs ys k A s _ _ _ _ rs ts pa2.2 pb2.2 h (room_tail hu) j (Nat.lt_of_succ_lt_succ h1) (Nat.lt_of_succ_lt_succ h2) (fun i hi => hb (i + 1) (Nat.succ_lt_succ hi)) hj
end
end KA

/-! Rules over the layer: data of tuples read by values, their comparisons, items of lists. -/
namespace KA
open PySem PySem.Spec PyProof.Rows L2
mutual
/-- a value that reads as data over the tuples that stand at H -/
inductive Tp (H : Hp) : V → PyData → Prop
  | non : Tp H .non .none
  | bl (b : Bool) : Tp H (.bl b) (.bool b)
  | int (i : Int) : Tp H (.int i) (.int i)
  | str (x : Str) : Tp H (.str x) (.str x)
  | tup {a : Addr} {xs : List V} {ds : List PyData} : H a = some (.tup xs) → Tps H xs ds → Tp H (.ref a) (.tuple ds)
inductive Tps (H : Hp) : List V → List PyData → Prop
  | nil : Tps H [] []
  | cons {v : V} {vs : List V} {d : PyData} {ds : List PyData} : Tp H v d → Tps H vs ds → Tps H (v :: vs) (d :: ds)
end
/-- the tuples stay -/
def Tk (H H' : Hp) : Prop := ∀ a xs, H a = some (.tup xs) → H' a = some (.tup xs)
theorem Tk.refl (H : Hp) : Tk H H := fun _ _ h => h
theorem Tk.trans {H H1 H2 : Hp} (a : Tk H H1) (b : Tk H1 H2) : Tk H H2 := fun x o h => b x o (a x o h)
theorem Tk.of {H H' : Hp} (s : Same H H') : Tk H H' := fun a _ h => s a _ h
theorem Tk.new {H : Hp} {p : Addr} {o : HO} (h : H p = none) : Tk H (upd H p o) := fun a xs e => by
  rw [upd_ne (ne_of_none e h)]
  exact e
theorem Tk.lst {H : Hp} {p : Addr} {ys : List V} {o : HO} (h : H p = some (.lst ys)) : Tk H (upd H p o) := fun a xs e => by
  rw [upd_ne (ne_of e h (fun z => by cases z))]
  exact e
mutual
theorem Tp.mono {H H' : Hp} (k : Tk H H') : ∀ {d : PyData} {v : V}, Tp H v d → Tp H' v d
  | .none, _, h => by cases h; exact .non
  | .bool _, _, h => by cases h; exact .bl _
  | .int _, _, h => by cases h; exact .int _
  | .str _, _, h => by cases h; exact .str _
  | .tuple _, _, h => by
    cases h with
    | tup e r => exact .tup (k _ _ e) (Tps.mono k r)
  | .list _, _, h => nomatch h
  | .dict _, _, h => nomatch h
theorem Tps.mono {H H' : Hp} (k : Tk H H') : ∀ {ds : List PyData} {vs : List V}, Tps H vs ds → Tps H' vs ds
  | [], _, h => by cases h; exact .nil
  | _ :: _, _, h => by
    cases h with
    | cons a r => exact .cons (Tp.mono k a) (Tps.mono k r)
end
mutual
theorem Tp.dp {K : PySem.W.Frag} {H : Hp} : ∀ {d : PyData} {v : V}, Tp H v d → Dp K H v d
  | .none, _, h => by cases h; exact .non
  | .bool _, _, h => by cases h; exact .bl _
  | .int _, _, h => by cases h; exact .int _
  | .str _, _, h => by cases h; exact .str _
  | .tuple _, _, h => by
    cases h with
    | tup e r => exact .tup (SqT.of e) (Tps.dp r)
  | .list _, _, h => nomatch h
  | .dict _, _, h => nomatch h
theorem Tps.dp {K : PySem.W.Frag} {H : Hp} : ∀ {ds : List PyData} {vs : List V}, Tps H vs ds → DpAll K H vs ds
  | [], _, h => by cases h; exact .nil
  | _ :: _, _, h => by
    cases h with
    | cons a r => exact .cons (Tp.dp a) (Tps.dp r)
end
mutual
theorem Tp.plain {H : Hp} : ∀ {d : PyData} {v : V}, Tp H v d → d.plain = true
  | .none, _, _ => rfl
  | .bool _, _, _ => rfl
  | .int _, _, _ => rfl
  | .str _, _, _ => rfl
  | .tuple _, _, h => by
    cases h with
    | tup e r => exact Tps.plain r
  | .list _, _, h => nomatch h
  | .dict _, _, h => nomatch h
theorem Tps.plain {H : Hp} : ∀ {ds : List PyData} {vs : List V}, Tps H vs ds → PyData.plainAll ds = true
  | [], _, _ => rfl
  | _ :: _, _, h => by
    cases h with
    | cons a r =>
      rw [PyData.plainAll, Tp.plain a, Tps.plain r]
      rfl
end
theorem Tps.length {H : Hp} : ∀ {ds : List PyData} {vs : List V}, Tps H vs ds → vs.length = ds.length
  | [], _, h => by cases h; rfl
  | _ :: _, _, h => by
    cases h with
    | cons a r => rw [List.length_cons, List.length_cons, Tps.length r]
theorem Tps.get {H : Hp} : ∀ {ds : List PyData} {vs : List V} {i : Nat} {v : V}, Tps H vs ds → vs[i]? = some v → ∃ d, ds[i]? = some d ∧ Tp H v d
  | [], _, _, _, h, e => by
    cases h
    simp at e
  | d :: _, _, 0, _, h, e => by
    cases h with
    | cons a r =>
      cases e
      exact ⟨d, rfl, a⟩
  | _ :: _, _, i + 1, _, h, e => by
    cases h with
    | cons a r => exact Tps.get (i := i) r e
theorem Tps.at_ {H : Hp} : ∀ {ds : List PyData} {vs : List V} {i : Nat} {d : PyData}, Tps H vs ds → ds[i]? = some d → ∃ v, vs[i]? = some v ∧ Tp H v d
  | [], _, _, _, h, e => by
    simp at e
  | d :: _, _, 0, _, h, e => by
    cases h with
    | cons a r =>
      cases e
      exact ⟨_, rfl, a⟩
  | _ :: _, _, i + 1, _, h, e => by
    cases h with
    | cons a r => exact Tps.at_ (i := i) r e
theorem Tps.append {H : Hp} : ∀ {ds es : List PyData} {vs ws : List V}, Tps H vs ds → Tps H ws es → Tps H (vs ++ ws) (ds ++ es)
  | [], _, _, _, h, h2 => by cases h; exact h2
  | _ :: _, _, _, _, h, h2 => by
    cases h with
    | cons a r => exact .cons a (Tps.append r h2)

section
variable {X : Cx}
/-- the room that a comparison of data wants -/
def small (d : PyData) : Prop := d.depth ≤ 64
theorem room_d {X : Cx} {d e : PyData} (hu : X.A.units + 64 < cLine) (sd : small d) : X.A.units + min d.depth e.depth < cLine :=
  Nat.lt_of_le_of_lt (Nat.add_le_add_left (Nat.le_trans (Nat.min_le_left _ _) sd) _) hu
def rEqP : R2 := fun x y H Q => ∃ d e, Tp H x d ∧ Tp H y e ∧ small d ∧ Q (.bl (PyData.eqv d e)) H
def rNeP : R2 := fun x y H Q => ∃ d e, Tp H x d ∧ Tp H y e ∧ small d ∧ Q (.bl (!PyData.eqv d e)) H
def rLtP : R2 := fun x y H Q => ∃ d e k, Tp H x d ∧ Tp H y e ∧ small d ∧ dlt d e = some k ∧ Q (.bl k) H
def rGtP : R2 := fun x y H Q => ∃ d e k, Tp H x d ∧ Tp H y e ∧ small d ∧ dgt d e = some k ∧ Q (.bl k) H
theorem op_eqP (hu : X.A.units + 64 < cLine) : OpR X (compareOp .Eq) rEqP := by
  intro pins s σ H x y v u Q I rx ry h
  obtain ⟨d, e, hd, he, sd, q⟩ := h
  obtain ⟨as, r1⟩ := Dp.reads I d x v hd.dp rx
  obtain ⟨bs, r2⟩ := Dp.reads I e y u he.dp ry
  exact SeqAt.eq_plain r1 r2 hd.plain he.plain (room_d hu sd) ⟨.bl _, H, I, rfl, q⟩
theorem op_neP (hu : X.A.units + 64 < cLine) : OpR X (compareOp .NotEq) rNeP := by
  intro pins s σ H x y v u Q I rx ry h
  obtain ⟨d, e, hd, he, sd, q⟩ := h
  obtain ⟨as, r1⟩ := Dp.reads I d x v hd.dp rx
  obtain ⟨bs, r2⟩ := Dp.reads I e y u he.dp ry
  exact SeqAt.ne_plain r1 r2 hd.plain he.plain (room_d hu sd) ⟨.bl _, H, I, rfl, q⟩
theorem op_ltP (hu : X.A.units + 64 < cLine) : OpR X (compareOp .Lt) rLtP := by
  intro pins s σ H x y v u Q I rx ry h
  obtain ⟨d, e, k, hd, he, sd, hk, q⟩ := h
  obtain ⟨as, r1⟩ := Dp.reads I d x v hd.dp rx
  obtain ⟨bs, r2⟩ := Dp.reads I e y u he.dp ry
  exact rc_lt d e k _ _ _ _ _ _ r1 r2 hd.plain he.plain hk (room_d hu sd) _ _ _ _ ⟨.bl _, H, I, rfl, q⟩
theorem op_gtP (hu : X.A.units + 64 < cLine) : OpR X (compareOp .Gt) rGtP := by
  intro pins s σ H x y v u Q I rx ry h
  obtain ⟨d, e, k, hd, he, sd, hk, q⟩ := h
  obtain ⟨as, r1⟩ := Dp.reads I d x v hd.dp rx
  obtain ⟨bs, r2⟩ := Dp.reads I e y u he.dp ry
  exact rc_gt d e k _ _ _ _ _ _ r1 r2 hd.plain he.plain hk (room_d hu sd) _ _ _ _ ⟨.bl _, H, I, rfl, q⟩
/-- xs[i] of a list, the place not below 0, as an operator's left side asks it -/
def rGetN : V → V → Hp → VK → Prop := fun x y H Q => ∃ p xs, ∃ i : Nat, ∃ v, x = .ref p ∧ y = .int i ∧ H p = some (.lst xs) ∧ xs[i]? = some v ∧ Q v H
theorem get_list : PGet X rGetN := by
  intro pins s σ H o i ov iv Q I ro ri h
  obtain ⟨p, xs, n, v, rfl, rfl, hp, hv, q⟩ := h
  cases ro
  obtain ⟨t, rfl⟩ := ri
  obtain ⟨its, r, pl, hz⟩ := I.list (SqL.of hp)
  obtain ⟨w, ew, rw'⟩ := r.get hv
  have hl := r.length
  have hn := line63
  have hi : n < xs.length := by
    rcases Nat.lt_or_ge n xs.length with c | c
    · exact c
    · rw [List.getElem?_eq_none c] at hv
      cases hv
  exact wpAny_getItem_list pl.isList (by omega) (by omega) (by simpa using ew) ⟨v, H, I, rw', q⟩
end
/-- what a value is, for isinstance -/
theorem Tp.tyx {K : PySem.W.Frag} {H : Hp} {v : V} {d : PyData} (h : Tp H v d) : ∃ n, TyX K H v (.type n) ∧
    n = (match d with | .none => "NoneType" | .bool _ => "bool" | .int _ => "int" | .str _ => "str" | .tuple _ => "tuple" | .list _ => "list" | .dict _ => "dict") := by
  cases h with
  | non => exact ⟨_, .base .non, rfl⟩
  | bl b => exact ⟨_, .base (.bl b), rfl⟩
  | int i => exact ⟨_, .base (.int i), rfl⟩
  | str x => exact ⟨_, .base (.str x), rfl⟩
  | tup e r => exact ⟨_, .base (.tup e), rfl⟩
end KA

namespace KB
open PySem PySem.Spec PyProof.Rows L2 KA
/-! ### the text -/
def topS (i : Nat) : Stmt := PySem.Challenge.pw_rulestead_k01_values_rows_and_keys.main.body.getD i (.Pass ⟨0, 0, 0, 0⟩)
/-- the built-in names that are still the built-in ones -/
structure Bt (mg : Str → Option Value) : Prop where
  len : mg "len" = none
  int : mg "int" = none
  isi : mg "isinstance" = none
  bool : mg "bool" = none
  str : mg "str" = none
  tup : mg "tuple" = none
  lst : mg "list" = none
  rng : mg "range" = none
  min : mg "min" = none
/-! ### the drawing state -/
/-- all that is tracked but the state's own list stays -/
def Kp (st : Addr) (H H' : Hp) : Prop := ∀ a o, a ≠ st → H a = some o → H' a = some o
theorem Kp.refl (st : Addr) (H : Hp) : Kp st H H := fun _ _ _ h => h
theorem Kp.trans {st : Addr} {H H1 H2 : Hp} (a : Kp st H H1) (b : Kp st H1 H2) : Kp st H H2 := fun x o n h => b x o n (a x o n h)
theorem Kp.of {st : Addr} {H H' : Hp} (s : Same H H') : Kp st H H' := fun a o _ h => s a o h
theorem Kp.st {st : Addr} {H : Hp} {o : HO} : Kp st H (upd H st o) := fun a u n h => by
  rw [upd_ne n]
  exact h
theorem Kp.new {st p : Addr} {H : Hp} {o : HO} (h : H p = none) : Kp st H (upd H p o) := fun a u _ e => by
  rw [upd_ne (ne_of_none e h)]
  exact e
/-- the drawing state at st: the script's copy at L, the place, the rest of a great cell, the seed -/
def Good (st L : Addr) (H : Hp) : Prop := ∃ (ns : List Int) (i : Nat) (a b : Int), H st = some (.lst [.ref L, .int i, .int a, .int b]) ∧ H L = some (.lst (ns.map V.int)) ∧ 0 ≤ a ∧ 0 ≤ b
/-- from H on only drawing and new objects -/
structure Dr (st L : Addr) (H H' : Hp) : Prop where
  kp : Kp st H H'
  good : Good st L H'
theorem Dr.refl {st L : Addr} {H : Hp} (g : Good st L H) : Dr st L H H := ⟨Kp.refl st H, g⟩
theorem Dr.trans {st L : Addr} {H H1 H2 : Hp} (a : Dr st L H H1) (b : Dr st L H1 H2) : Dr st L H H2 := ⟨a.kp.trans b.kp, b.good⟩
theorem Good.tk {st L : Addr} {H H' : Hp} (g : Good st L H) (k : Kp st H H') : Tk H H' := fun a xs h => by
  obtain ⟨ns, i, c, b, e, _⟩ := g
  exact k a _ (ne_of h e (fun z => by cases z)) h
theorem Dr.tk {st L : Addr} {H H' : Hp} (d : Dr st L H H') (g : Good st L H) : Tk H H' := g.tk d.kp
/-- an object that H does not know is written -/
theorem Dr.put {st L D : Addr} {H H' : Hp} {o : HO} (d : Dr st L H H') (g : Good st L H) (n : H D = none) : Dr st L H (upd H' D o) := by
  refine ⟨fun a u h1 h2 => ?_, ?_⟩
  · rw [upd_ne (ne_of_none h2 n)]
    exact d.kp a u h1 h2
  · obtain ⟨ns0, i0, a0, b0, e0, l0, _⟩ := g
    obtain ⟨ns, i, a, b, e, l, r⟩ := d.good
    refine ⟨ns, i, a, b, ?_, ?_, r⟩
    · rw [upd_ne (ne_of_none e0 n)]
      exact e
    · rw [upd_ne (ne_of_none l0 n)]
      exact l
theorem Dr.new {st L p : Addr} {H : Hp} {o : HO} (g : Good st L H) (h : H p = none) : Dr st L H (upd H p o) := (Dr.refl g).put g h
theorem Dr.add {st L p : Addr} {H H' : Hp} {o : HO} (d : Dr st L H H') (h : H' p = none) : Dr st L H (upd H' p o) := d.trans (Dr.new d.good h)
theorem Dr.same {st L : Addr} {H H' : Hp} (g : Good st L H) (s : Same H H') : Dr st L H H' := by
  refine ⟨Kp.of s, ?_⟩
  obtain ⟨ns, i, a, b, e, l, r⟩ := g
  exact ⟨ns, i, a, b, s _ _ e, s _ _ l, r⟩
/-- what was there is there -/
theorem Dr.at_ {st L p : Addr} {H H' : Hp} {o : HO} (d : Dr st L H H') (n : p ≠ st) (h : H p = some o) : H' p = some o := d.kp p o n h
theorem Dr.tup {st L p : Addr} {H H' : Hp} {xs : List V} (d : Dr st L H H') (g : Good st L H) (h : H p = some (.tup xs)) : H' p = some (.tup xs) := d.tk g p xs h
/-- an address that is free behind is free ahead -/
theorem Dr.free {st L p : Addr} {H H' : Hp} (d : Dr st L H H') (h : H' p = none) : H p = none := by
  cases c : H p with
  | none => rfl
  | some o =>
    by_cases e : p = st
    · subst e
      obtain ⟨ns, i, a, b, e2, _⟩ := d.good
      rw [e2] at h
      cases h
    · rw [d.kp p o e c] at h
      cases h
theorem ref_ne_ints {L : Addr} {ns : List Int} {r : List V} : HO.lst (.ref L :: r) ≠ HO.lst (ns.map V.int) := by
  cases ns with
  | nil => intro e; cases e
  | cons x xs => intro e; cases e
section
variable {P : Program} {w : World} {K : PySem.W.Frag} {mg : Str → Option Value} {base : Heap}
theorem pM : (0 : Int) < 2147483647 := by decide
/-! ### _law_next -/
abbrev sNext : Stmt := topS 7
theorem scNext : FnScope ["state", "limit", "cell", "value"] ["state", "limit"] (defScope sNext) := ⟨rfl, rfl, rfl, by decide +kernel, rfl, by decide +kernel, by decide +kernel⟩
def spNext : Sp := fun vs H Q _ => ∃ (st L : Addr) (lim : Int), vs = [.ref st, .int lim] ∧ Good st L H ∧ 0 < lim ∧ lim < 2 ^ 200 ∧ ∀ (v : Int) H', Dr st L H H' → 0 ≤ v → v < lim → Q (.int v) H'
theorem ok_next {f : Addr} {fd : FuncData} {k : Nat} (F : Fun K "_law_next" "_law_next" sNext f fd) (B : Bt mg) : FnOk P w K mg base CX0 (k + 1) f fd ["state", "limit"] spNext := by
  refine F.ok scNext (fun vs H Q E h => ?_) (fun cdv A outer s H vs Q E hr h => ?_)
  · obtain ⟨st, L, lim, rfl, _⟩ := h
    rfl
  · obtain ⟨st, L, lim, rfl, g, l0, l1, q⟩ := h
    refine ⟨_, C8.pss_cut (ps_if (PW.pt (pw_and (pt_cmpR op_eq (pe_ix ix_list (pv 0) pe_int (fun _ _ => rfl)) pe_int (nomark _))
          (pw_and1 (pt_cmpR op_lt (pe_ix ix_list (pv 0) pe_int (fun _ _ => rfl)) (pe_callB call_len_seq (by rfl) B.len PySem.boot_len (pa_cons (pe_ix ix_list (pv 0) pe_int (fun _ _ => rfl)) pa_nil)) (nomark _)))))
        (pss_cons (ps_set (i := 2) scNext.nd rfl (.inl rfl) (pe_ix ix_list (pe_ix ix_list (pv 0) pe_int (fun _ _ => rfl)) (pe_ix ix_list (pv 0) pe_int (fun _ _ => rfl)) (fun _ _ => rfl)))
        (pss_cons (ps_augS (pv 0) pe_int get_list pe_int ip_add set_list)
        (pss_one (ps_if (pt_cmpR op_ge (pv 2) (pe_op op_pow pe_int pe_int) (nomark _))
          (pss_one (ps_asg (pv 2) (pg_sub (pv 0) pe_int set_list)))
          (pss_one (ps_asg (pe_op op_mod (pe_callTy call_int1 (by rfl) B.int (by decide +kernel) (pa_cons (pe_op op_add (pe_op op_add (pe_op op_mul (pe_ix ix_list (pv 0) pe_int (fun _ _ => rfl)) pe_int)
              (pe_op op_mod (pe_callTy call_int1 (by rfl) B.int (by decide +kernel) (pa_cons (pv 2) pa_nil)) pe_int)) pe_int) pa_nil)) pe_int) (pg_sub (pv 0) pe_int set_list)))))))
        pss_nil)
      (C8.pss_cut (ps_if (pt_cmpR op_gt (pe_ix ix_list (pv 0) pe_int (fun _ _ => rfl)) pe_int (nomark _))
        (pss_cons (ps_set (i := 3) scNext.nd rfl (.inl rfl) (pe_op op_mod (pe_callTy call_int1 (by rfl) B.int (by decide +kernel) (pa_cons (pe_ix ix_list (pv 0) pe_int (fun _ _ => rfl)) pa_nil)) (pv 1)))
        (pss_cons (ps_asg (pe_op op_fdivW (pe_ix ix_list (pv 0) pe_int (fun _ _ => rfl)) (pv 1)) (pg_sub (pv 0) pe_int set_list))
        (pss_one (ps_ret (pv 3)))))
        pss_nil)
      (pss_cons (ps_asg (pe_op op_mod (pe_callTy call_int1 (by rfl) B.int (by decide +kernel) (pa_cons (pe_op op_add (pe_op op_mul (pe_ix ix_list (pv 0) pe_int (fun _ _ => rfl)) pe_int) pe_int) pa_nil)) pe_int) (pg_sub (pv 0) pe_int set_list))
      (pss_one (ps_ret (pe_op op_mod (pe_callTy call_int1 (by rfl) B.int (by decide +kernel) (pa_cons (pe_op op_fdiv (pe_ix ix_list (pv 0) pe_int (fun _ _ => rfl)) pe_int) pa_nil)) (pv 1)))))), ?_⟩
    obtain ⟨ns, i, a, b, e, eL, a0, b0⟩ := g
    have nL : L ≠ st := fun z => by
      subst z
      rw [e] at eL
      exact ref_ne_ints (Option.some.inj eL)
    have put : ∀ {H1 : Hp} (i' : Nat) (a' b' : Int), Kp st H H1 → 0 ≤ a' → 0 ≤ b' → Dr st L H (upd H1 st (.lst [.ref L, .int i', .int a', .int b'])) := fun i' a' b' k ha hb =>
      ⟨k.trans Kp.st, ns, i', a', b', upd_same, by
        rw [upd_ne nL]
        exact k L _ nL eL, ha, hb⟩
    refine ⟨fun σ' H' => ∃ x2 x3 i' a' b', σ' = [some (.ref st), some (.int lim), x2, x3] ∧ Kp st H H' ∧ H' st = some (.lst [.ref L, .int ((i' : Nat) : Int), .int a', .int b']) ∧ 0 ≤ a' ∧ 0 ≤ b', ?_, ?_⟩
    · -- the first if
      refine ⟨.ref st, rfl, st, _, 2, .int a, rfl, rfl, SqL.of e, rfl, rfl, _, rfl, ite2 (fun z => ?_) (fun z => ?_)⟩
      · refine ⟨.ref st, rfl, st, _, 1, .int (i : Nat), rfl, rfl, SqL.of e, rfl, .ref st, rfl, st, _, 0, .ref L, rfl, rfl, SqL.of e, rfl, L, _, rfl, .inl (SqL.of eL), _, _, rfl, rfl, _, rfl, ite2 (fun hi => ?_) (fun hi => ?_)⟩
        · have hlt : i < ns.length := by
            have t := of_decide_eq_true hi
            rw [List.length_map] at t
            omega
          have gc : (ns.map V.int)[i]? = some (.int ns[i]) := by
            rw [List.getElem?_map, List.getElem?_eq_getElem hlt]
            rfl
          refine ⟨.ref st, rfl, st, _, 0, .ref L, rfl, rfl, SqL.of e, rfl, .ref st, rfl, st, _, 1, .int (i : Nat), rfl, rfl, SqL.of e, rfl, L, _, (i : Nat), .int ns[i], rfl, rfl, SqL.of eL, atI_nat gc, ?_⟩
          refine ⟨.ref st, rfl, st, _, 1, .int (i : Nat), rfl, rfl, e, rfl, _, _, rfl, rfl, st, _, 1, 1, rfl, rfl, e, rfl, ?_⟩
          have e1 : upd H st (.lst (([.ref L, .int (i : Nat), .int a, .int b] : List V).set 1 (.int ((i : Nat) + 1)))) st = some (.lst [.ref L, .int ((i + 1 : Nat) : Int), .int a, .int b]) := upd_same
          have k1 : Kp st H (upd H st (.lst (([.ref L, .int (i : Nat), .int a, .int b] : List V).set 1 (.int ((i : Nat) + 1))))) := Kp.st
          refine ⟨.int ns[i], rfl, 10, 18, rfl, rfl, ⟨by decide, by decide, by decide⟩, _, _, rfl, rfl, _, rfl, ite2 (fun hb => ?_) (fun hb => ?_)⟩
          · have hb2 : (10 : Int) ^ 18 ≤ ns[i] := of_decide_eq_true hb
            refine ⟨.int ns[i], rfl, .ref st, rfl, st, _, 2, 2, rfl, rfl, e1, rfl, ?_⟩
            exact ⟨some (.int ns[i]), none, i + 1, ns[i], b, rfl, k1.trans Kp.st, upd_same, by omega, b0⟩
          · refine ⟨.ref st, rfl, st, _, 3, .int b, rfl, rfl, SqL.of e1, rfl, b, 48271, rfl, rfl, .inr ⟨by decide, by decide⟩, .int ns[i], rfl, .inl ⟨_, rfl, _, _, rfl, rfl, pM, _, _, rfl, rfl, _, _, rfl, rfl, .inl ⟨_, rfl, _, _, rfl, rfl, pM, ?_⟩⟩⟩
            refine ⟨.ref st, rfl, st, _, 3, 3, rfl, rfl, e1, rfl, ?_⟩
            exact ⟨some (.int ns[i]), none, i + 1, a, _, rfl, k1.trans Kp.st, upd_same, a0, Int.emod_nonneg _ (by decide)⟩
        · exact ⟨none, none, i, a, b, rfl, Kp.refl st H, e, a0, b0⟩
      · exact iteF ⟨none, none, i, a, b, rfl, Kp.refl st H, e, a0, b0⟩
    · intro σ' H' hm
      obtain ⟨x2, x3, i', a', b', rfl, k', e', a0', b0'⟩ := hm
      refine ⟨fun σ2 H2 => ∃ x2 x3, σ2 = [some (.ref st), some (.int lim), x2, x3] ∧ H2 = H', ?_, ?_⟩
      · refine ⟨.ref st, rfl, st, _, 2, .int a', rfl, rfl, SqL.of e', rfl, _, _, rfl, rfl, _, rfl, ite2 (fun z => ?_) (fun z => ?_)⟩
        · have z2 : (0 : Int) < a' := of_decide_eq_true z
          refine ⟨.ref st, rfl, st, _, 2, .int a', rfl, rfl, SqL.of e', rfl, .inl ⟨_, rfl, .int lim, rfl, _, _, rfl, rfl, l0, ?_⟩⟩
          refine ⟨.ref st, rfl, st, _, 2, .int a', rfl, rfl, SqL.of e', rfl, .int lim, rfl, _, _, rfl, rfl, wide_div (b := 200) l0 (by omega) (by decide) (by decide), .ref st, rfl, st, _, 2, 2, rfl, rfl, e', rfl, ?_⟩
          refine ⟨.int (a' % lim), rfl, ?_⟩
          exact q _ _ (put i' (a' / lim) b' k' (Int.ediv_nonneg a0' (Int.le_of_lt l0)) b0') (Int.emod_nonneg _ (by omega)) (Int.emod_lt_of_pos _ l0)
        · exact ⟨x2, x3, rfl, rfl⟩
      · intro σ2 H2 hm2
        obtain ⟨y2, y3, rfl, rfl⟩ := hm2
        refine ⟨.ref st, rfl, st, _, 3, .int b', rfl, rfl, SqL.of e', rfl, _, _, rfl, rfl, .inr ⟨by decide, by decide⟩, _, _, rfl, rfl, .inl ⟨_, rfl, _, _, rfl, rfl, pM, ?_⟩⟩
        refine ⟨.ref st, rfl, st, _, 3, 3, rfl, rfl, e', rfl, ?_⟩
        refine ⟨.ref st, rfl, st, _, 3, .int ((b' * 69621 + 12345) % 2147483647), rfl, rfl, SqL.of upd_same, rfl, _, _, rfl, rfl, ⟨by decide, by decide⟩, .inl ⟨_, rfl, .int lim, rfl, _, _, rfl, rfl, l0, ?_⟩⟩
        exact q _ _ (put i' a' _ k' a0' (Int.emod_nonneg _ (by decide))) (Int.emod_nonneg _ (by omega)) (Int.emod_lt_of_pos _ l0)
end
end KB

namespace KB
open PySem PySem.Spec PyProof.Rows L2 KA
/-- a def of the text as its callers know it -/
structure Def (P : Program) (w : World) (K : PySem.W.Frag) (mg : Str → Option Value) (base : Heap) (x : Str) (k : Nat) (ps : List Str) (sp : Sp) : Prop where
  ex : ∃ (f : Addr) (fd : FuncData), FnOk P w K mg base CX0 k f fd ps sp ∧ mg x = some (.ref f) ∧ PySem.W.keepIn K (.ref f) = true ∧ Binds K fd ps []
section
variable {X : Cx} {k : Nat} {x : Str} {ps : List Str} {sp : Sp} {e : Expr} {es : List Expr} {t : TA} {p pos : Pos}
theorem pe_def (D : Def X.prog X.w X.K X.mg X.base x k ps sp) (hr : Room k X.A) (hg : Gl X x) (ha : PA X (e :: es) t) (hdb : (x == ("__debug__" : Str)) = false := by decide)
    (he : starEach (e :: es) X.env = (false, eval e X.env) :: starEach es X.env := by rfl) (hpl : (backTo pos (starEach es X.env)).any (·.1) = false := by rfl) : PE X (.Call (.Name x p) (e :: es) [] pos) (tCall sp [] E0 t) := by
  obtain ⟨f, fd, F, hm, hk, hb⟩ := D.ex
  exact pe_call F hr hg hm hk hb .nil pass0 ha hdb he hpl
theorem pe_def0 (D : Def X.prog X.w X.K X.mg X.base x k ps sp) (hr : Room k X.A) (hg : Gl X x) (hdb : (x == ("__debug__" : Str)) = false := by decide) : PE X (.Call (.Name x p) [] [] pos) (tCall sp [] E0 tNil) := by
  obtain ⟨f, fd, F, hm, hk, hb⟩ := D.ex
  exact pe_call0 F hr hg hm hk hb .nil pass0 hdb
end
section
variable {P : Program} {w : World} {K : PySem.W.Frag} {mg : Str → Option Value} {base : Heap}
abbrev dNext (P : Program) (w : World) (K : PySem.W.Frag) (mg : Str → Option Value) (base : Heap) : Prop := Def P w K mg base "_law_next" 1 ["state", "limit"] spNext
/-! ### _law_characters -/
abbrev sChars : Stmt := topS 9
theorem scChars : FnScope [] [] (defScope sChars) := ⟨rfl, rfl, rfl, by decide +kernel, rfl, by decide +kernel, by decide +kernel⟩
def spChars : Sp := fun vs H Q _ => vs = [] ∧ ∀ z : Str, z.length = 94 → Q (.str z) H
theorem ok_chars {f : Addr} {fd : FuncData} (F : Fun K "_law_characters" "_law_characters" sChars f fd) : FnOk P w K mg base CX0 1 f fd [] spChars := by
  refine F.ok scChars (fun vs H Q E h => ?_) (fun cdv A outer s H vs Q E hr h => ?_)
  · obtain ⟨rfl, _⟩ := h
    rfl
  · obtain ⟨rfl, q⟩ := h
    refine ⟨_, pss_one (ps_ret pe_str), ?_⟩
    exact q _ (by decide +kernel)
/-! ### _law_value -/
/-- an int or a text -/
def Atom (v : V) (d : PyData) : Prop := (∃ i, v = .int i ∧ d = .int i) ∨ ∃ z, v = .str z ∧ d = .str z
def isAtom : PyData → Prop
  | .int _ => True
  | .str _ => True
  | _ => False
abbrev sVal : Stmt := topS 10
theorem scVal : FnScope ["state", "pick", "start", "step", "j"] ["state"] (defScope sVal) := ⟨rfl, rfl, rfl, by decide +kernel, rfl, by decide +kernel, by decide +kernel⟩
def spVal : Sp := fun vs H Q _ => ∃ (st L : Addr), vs = [.ref st] ∧ Good st L H ∧ ∀ (v : V) (d : PyData) H', Dr st L H H' → isAtom d → (∀ H2, Tp H2 v d) → Q v H'
theorem fin_int {st L : Addr} {H H' : Hp} {Q : VK} {i : Int} (q : ∀ (v : V) (d : PyData) H', Dr st L H H' → isAtom d → (∀ H2, Tp H2 v d) → Q v H') (d : Dr st L H H') : Q (.int i) H' := q _ (.int i) _ d trivial (fun _ => .int i)
theorem fin_str {st L : Addr} {H H' : Hp} {Q : VK} {z : Str} (q : ∀ (v : V) (d : PyData) H', Dr st L H H' → isAtom d → (∀ H2, Tp H2 v d) → Q v H') (d : Dr st L H H') : Q (.str z) H' := q _ (.str z) _ d trivial (fun _ => .str z)
theorem nat_of {i : Int} (h : 0 ≤ i) : ∃ n : Nat, i = n := ⟨i.toNat, by omega⟩
theorem lit4 {v : Int} {a b c d : V} (h0 : 0 ≤ v) (h4 : v < 4) : ∃ y, atI [a, b, c, d] v = some y ∧ (y = a ∨ y = b ∨ y = c ∨ y = d) := by
  have c4 : v = 0 ∨ v = 1 ∨ v = 2 ∨ v = 3 := by omega
  rcases c4 with rfl | rfl | rfl | rfl
  · exact ⟨a, rfl, .inl rfl⟩
  · exact ⟨b, rfl, .inr (.inl rfl)⟩
  · exact ⟨c, rfl, .inr (.inr (.inl rfl))⟩
  · exact ⟨d, rfl, .inr (.inr (.inr rfl))⟩
theorem ok_val {f : Addr} {fd : FuncData} (F : Fun K "_law_value" "_law_value" sVal f fd) (B : Bt mg) (DN : dNext P w K mg base) (DC : Def P w K mg base "_law_characters" 1 [] spChars) : FnOk P w K mg base CX0 2 f fd ["state"] spVal := by
  refine F.ok scVal (fun vs H Q E h => ?_) (fun cdv A outer s H vs Q E hr h => ?_)
  · obtain ⟨st, L, rfl, _⟩ := h
    rfl
  · obtain ⟨st, L, rfl, g, q⟩ := h
    refine ⟨_, pss_cons (ps_set (i := 1) scVal.nd rfl (.inl rfl) (pe_def DN hr (by rfl) (pa_cons (pv 0) (pa_cons pe_int pa_nil))))
      (pss_cons (ps_if (pt_cmpR op_lt (pv 1) pe_int (nomark _)) (pss_one (ps_ret (pe_ix ix_list (pe_lst (pa_cons pe_int (pa_cons pe_int (pa_cons pe_int (pa_cons (pe_un un_neg pe_int) pa_nil))))) (pv 1) (fun _ _ => rfl)))) pss_nil)
      (pss_cons (ps_if (pt_cmpR op_eq (pv 1) pe_int (nomark _)) (pss_one (ps_ret (pe_op op_mul (pe_op op_sub pe_int (pe_op op_mul pe_int (pe_def DN hr (by rfl) (pa_cons (pv 0) (pa_cons pe_int pa_nil)))))
          (pe_op op_sub (pe_op op_sub (pe_op op_pow pe_int pe_int) pe_int) (pe_def DN hr (by rfl) (pa_cons (pv 0) (pa_cons pe_int pa_nil))))))) pss_nil)
      (pss_cons (ps_if (pt_cmpR op_eq (pv 1) pe_int (nomark _)) (pss_one (ps_ret (pe_op op_mul (pe_op op_sub pe_int (pe_op op_mul pe_int (pe_def DN hr (by rfl) (pa_cons (pv 0) (pa_cons pe_int pa_nil)))))
          (pe_ix ix_list (pe_lst (pa_cons pe_int (pa_cons pe_int (pa_cons pe_int (pa_cons pe_int (pa_cons (pe_def DN hr (by rfl) (pa_cons (pv 0) (pa_cons (pe_op op_pow pe_int pe_int) pa_nil))) pa_nil)))))) (pe_def DN hr (by rfl) (pa_cons (pv 0) (pa_cons pe_int pa_nil))) (fun _ _ => rfl))))) pss_nil)
      (pss_cons (ps_if (pt_cmpR op_lt (pv 1) pe_int (nomark _)) (pss_one (ps_ret (pe_ix ix_list (pe_lst (pa_cons pe_str (pa_cons pe_str (pa_cons pe_str (pa_cons pe_str pa_nil))))) (pe_op op_sub (pv 1) pe_int) (fun _ _ => rfl)))) pss_nil)
      (pss_cons (ps_set (i := 2) scVal.nd rfl (.inr rfl) (pe_def DN hr (by rfl) (pa_cons (pv 0) (pa_cons pe_int pa_nil))))
      (pss_cons (ps_set (i := 3) scVal.nd rfl (.inr rfl) (pe_def DN hr (by rfl) (pa_cons (pv 0) (pa_cons pe_int pa_nil))))
      (pss_one (ps_ret (pe_join pe_str (pe_lc (own := [("j", 4)]) (g := gName 4) (tt := tYes) rfl scVal.nd (pi_range1 (by rfl) B.rng (pa_cons (pe_def DN hr (by rfl) (pa_cons (pv 0) (pa_cons pe_int pa_nil))) pa_nil))
        (blkOk_by (own := [("j", 4)]) (N := ["state", "pick", "start", "step", "j"]) (sc := defScope sVal) (by decide +kernel)) (fun _ _ _ _ _ => pg_name (i := 4) scVal.nd rfl (Or.inl rfl)) (fun _ _ _ _ _ => pts_nil)
        (fun _ _ _ _ _ => pe_ix ix_str (pe_def0 DC hr (by rfl)) (pe_op op_mod (pe_op op_add (pv 2) (pe_op op_mul (pv 3) (pv 4))) pe_int) (fun _ _ => rfl)))))))))))), ?_⟩
    -- pick
    refine ⟨.ref st, rfl, st, L, 12, rfl, g, by decide, by decide, fun pick H1 d1 p0 p1 => ?_⟩
    refine ⟨.int pick, rfl, pick, 4, rfl, rfl, _, rfl, ite2 (fun c => ?_) (fun c => ?_)⟩
    · have c4 : pick < 4 := of_decide_eq_true c
      obtain ⟨y, ey, cy⟩ := lit4 (a := .int 0) (b := .int 1) (c := .int 2) (d := .int (-1)) p0 c4
      refine ⟨1, rfl, (by show 4 ≤ sizeLine; decide), fun p np => ⟨.int pick, rfl, p, _, pick, y, rfl, rfl, SqL.of upd_same, ey, ?_⟩⟩
      have d2 := d1.add (o := .lst [.int 0, .int 1, .int 2, .int (-1)]) np
      rcases cy with rfl | rfl | rfl | rfl
      · exact fin_int q d2
      · exact fin_int q d2
      · exact fin_int q d2
      · exact fin_int q d2
    have n4 : ¬ pick < 4 := fun z => c (decide_eq_true z)
    refine ⟨.int pick, rfl, rfl, _, rfl, ite2 (fun c => ?_) (fun n4e => ?_)⟩
    · refine ⟨.ref st, rfl, st, L, 2, rfl, d1.good, by decide, by decide, fun v2 H2 d2 v0 v1 => ?_⟩
      refine ⟨2, v2, rfl, rfl, .inl ⟨by decide, by decide⟩, 1, 2 * v2, rfl, rfl, 10, 30, rfl, rfl, ⟨by decide, by decide, by decide⟩, _, 1, rfl, rfl, ?_⟩
      refine ⟨.ref st, rfl, st, L, 3, rfl, d2.good, by decide, by decide, fun v3 H3 d3 w0 w1 => ?_⟩
      exact ⟨_, v3, rfl, rfl, 1 - 2 * v2, _, rfl, rfl, .inl ⟨by omega, by omega⟩, fin_int q ((d1.trans d2).trans d3)⟩
    refine ⟨.int pick, rfl, rfl, _, rfl, ite2 (fun c => ?_) (fun n5e => ?_)⟩
    · refine ⟨.ref st, rfl, st, L, 2, rfl, d1.good, by decide, by decide, fun v2 H2 d2 v0 v1 => ?_⟩
      refine ⟨2, v2, rfl, rfl, .inl ⟨by decide, by decide⟩, 1, 2 * v2, rfl, rfl, ?_⟩
      refine ⟨.ref st, rfl, 10, 30, rfl, rfl, ⟨by decide, by decide, by decide⟩, st, L, _, rfl, d2.good, by decide, by decide, fun v3 H3 d3 w0 w1 => ?_⟩
      refine ⟨(by show 5 ≤ sizeLine; decide), fun p np => ?_⟩
      have d4 := ((d1.trans d2).trans d3).add (o := .lst [.int 127, .int 128, .int 16383, .int 16384, .int v3]) np
      refine ⟨.ref st, rfl, st, L, 5, rfl, d4.good, by decide, by decide, fun v5 H5 d5 x0 x1 => ?_⟩
      have ep : H5 p = some (.lst [.int 127, .int 128, .int 16383, .int 16384, .int v3]) := d5.at_ (fun z => by
        subst z
        exact absurd (((d1.trans d2).trans d3).free np) (by
          obtain ⟨_, _, _, _, e, _⟩ := g
          rw [e]
          exact fun z => nomatch z)) upd_same
      obtain ⟨y, ey, i5, e5⟩ : ∃ y, atI [V.int 127, .int 128, .int 16383, .int 16384, .int v3] v5 = some y ∧ ∃ j, y = .int j := by
        have c5 : v5 = 0 ∨ v5 = 1 ∨ v5 = 2 ∨ v5 = 3 ∨ v5 = 4 := by omega
        rcases c5 with rfl | rfl | rfl | rfl | rfl <;> exact ⟨_, rfl, _, rfl⟩
      subst e5
      exact ⟨p, _, v5, .int i5, rfl, rfl, SqL.of ep, ey, 1 - 2 * v2, i5, rfl, rfl, .inl ⟨by omega, by omega⟩, fin_int q (d4.trans d5)⟩
    refine ⟨.int pick, rfl, pick, 10, rfl, rfl, _, rfl, ite2 (fun c => ?_) (fun c => ?_)⟩
    · have c10 : pick < 10 := of_decide_eq_true c
      have m4 : pick ≠ 4 := fun z => n4e (decide_eq_true (congrArg V.int z))
      have m5 : pick ≠ 5 := fun z => n5e (decide_eq_true (congrArg V.int z))
      refine ⟨(by show 4 ≤ sizeLine; decide), fun p np => ?_⟩
      refine ⟨.int pick, rfl, pick, 6, rfl, rfl, ?_⟩
      have d2 := d1.add (o := .lst [.str "", .str "a", .str "ab", .str "1"]) np
      obtain ⟨y, ey, cy⟩ := lit4 (v := pick - 6) (a := .str "") (b := .str "a") (c := .str "ab") (d := .str "1") (by omega) (by omega)
      refine ⟨p, _, pick - 6, y, rfl, rfl, SqL.of upd_same, ey, ?_⟩
      rcases cy with rfl | rfl | rfl | rfl
      · exact fin_str q d2
      · exact fin_str q d2
      · exact fin_str q d2
      · exact fin_str q d2
    refine ⟨.ref st, rfl, st, L, 94, rfl, d1.good, by decide, by decide, fun va H2 d2 a0 a1 => ?_⟩
    refine ⟨.ref st, rfl, st, L, 94, rfl, d2.good, by decide, by decide, fun vb H3 d3 b0 b1 => ?_⟩
    refine ⟨⟨_, rfl⟩, ?_⟩
    refine ⟨.ref st, rfl, st, L, 31, rfl, d3.good, by decide, by decide, fun n H4 d4 n0 n1 => ?_⟩
    refine ⟨n, rfl, by omega, by omega, fun D nD => ?_⟩
    refine lc_range (lo := 0) (n := n.toNat) (fun i H' => Dr st L H4 H' ∧ ∃ ys : List Str, H' D = some (.lst (ys.map V.str)) ∧ ys.length = i ∧ ∀ y ∈ ys, y.length = 1) ⟨Dr.new d4.good nD, [], upd_same, rfl, fun y hy => by cases hy⟩ (fun i H' hi hP => ?_) (fun H' hP => ?_)
    · obtain ⟨dd, ys, eD, ly, hy⟩ := hP
      refine ⟨rfl, ?_⟩
      refine iteT (B := True) ?_
      refine ⟨rfl, fun z hz => ?_⟩
      refine ⟨.int va, rfl, .int vb, rfl, .int (0 + i), rfl, vb, 0 + i, rfl, rfl, .inl ⟨by omega, by omega⟩, va, _, rfl, rfl, _, 94, rfl, rfl, (by show (0 : Int) < 94; decide), ?_⟩
      have m0 : 0 ≤ (va + vb * (0 + (i : Int))) % 94 := Int.emod_nonneg _ (by decide)
      have m1 : (va + vb * (0 + (i : Int))) % 94 < 94 := Int.emod_lt_of_pos _ (by decide)
      obtain ⟨m, em⟩ := nat_of m0
      have hm : m < z.cps.toList.length := by
        have t : z.cps.toList.length = 94 := hz
        omega
      refine ⟨z, (va + vb * (0 + (i : Int))) % 94, z.cps.toList[m], rfl, rfl, (by rw [hz]; decide), (by rw [em]; exact atI_nat (List.getElem?_eq_getElem hm)), ys.map V.str, eD, ?_, dd.put d4.good nD, ys ++ [⟨#[z.cps.toList[m]]⟩], ?_, ?_, ?_⟩
      · rw [List.length_map, ly]
        exact small1000 (by omega)
      · rw [upd_same, List.map_append]
        rfl
      · rw [List.length_append, ly]
        rfl
      · intro y hy2
        rcases List.mem_append.mp hy2 with h1 | h1
        · exact hy y h1
        · rw [List.mem_singleton.mp h1]
          rfl
    · obtain ⟨dd, ys, eD, ly, hy⟩ := hP
      have hs : (ys.map (·.length)).sum = ys.length := by
        clear eD ly
        induction ys with
        | nil => rfl
        | cons y r ih =>
          rw [List.map_cons, List.sum_cons, hy y List.mem_cons_self, ih (fun x hx => hy x (List.mem_cons_of_mem _ hx)), List.length_cons]
          omega
      refine ⟨_, D, ys, rfl, rfl, .inl (SqL.of eD), ?_, fin_str q (((d1.trans d2).trans (d3.trans d4)).trans dd)⟩
      rw [hs, ly]
      show n.toNat + ys.length * 0 ≤ 16777216
      omega
end
end KB

namespace KB
open PySem PySem.Spec PyProof.Rows L2 KA
theorem Good.not_none {st L : Addr} {H : Hp} (g : Good st L H) : H st ≠ none := by
  obtain ⟨_, _, _, _, e, _⟩ := g
  rw [e]
  exact fun z => nomatch z
theorem Dr.keep {st L p : Addr} {H H' : Hp} {o : HO} (g : Good st L H) (n : H p = none) (d : Dr st L (upd H p o) H') : H' p = some o :=
  d.at_ (fun z => g.not_none (by rw [← z]; exact n)) upd_same
theorem lit_str {zs : List Str} {v : Int} (h0 : 0 ≤ v) (h1 : v < zs.length) : ∃ z, atI (zs.map V.str) v = some (.str z) := by
  obtain ⟨m, em⟩ := nat_of h0
  have hm : m < zs.length := by omega
  refine ⟨zs[m], ?_⟩
  rw [em]
  refine atI_nat ?_
  rw [List.getElem?_map, List.getElem?_eq_getElem hm]
  rfl
section
variable {P : Program} {w : World} {K : PySem.W.Frag} {mg : Str → Option Value} {base : Heap}
abbrev dVal (P : Program) (w : World) (K : PySem.W.Frag) (mg : Str → Option Value) (base : Heap) : Prop := Def P w K mg base "_law_value" 2 ["state"] spVal
/-! ### _law_row -/
abbrev sRow : Stmt := topS 11
theorem scRow : FnScope ["state", "width", "k"] ["state", "width"] (defScope sRow) := ⟨rfl, rfl, rfl, by decide +kernel, rfl, by decide +kernel, by decide +kernel⟩
def spRow : Sp := fun vs H Q _ => ∃ (st L : Addr) (n : Int), vs = [.ref st, .int n] ∧ Good st L H ∧ 0 ≤ n ∧ n ≤ 1000 ∧
  ∀ (p : Addr) (ds : List PyData) H', Dr st L H H' → Tp H' (.ref p) (.tuple ds) → (∀ d ∈ ds, isAtom d) → ds.length = n.toNat → Q (.ref p) H'
theorem Tps.snoc_all {ys : List V} {ds : List PyData} {v : V} {d : PyData} (h : ∀ H2, Tps H2 ys ds) (h2 : ∀ H2, Tp H2 v d) : ∀ H2, Tps H2 (ys ++ [v]) (ds ++ [d]) := fun H2 => (h H2).append (.cons (h2 H2) .nil)
theorem ok_row {f : Addr} {fd : FuncData} (F : Fun K "_law_row" "_law_row" sRow f fd) (B : Bt mg) (DV : dVal P w K mg base) : FnOk P w K mg base CX0 3 f fd ["state", "width"] spRow := by
  refine F.ok scRow (fun vs H Q E h => ?_) (fun cdv A outer s H vs Q E hr h => ?_)
  · obtain ⟨st, L, n, rfl, _⟩ := h
    rfl
  · obtain ⟨st, L, n, rfl, g, n0, n1, q⟩ := h
    refine ⟨_, pss_one (ps_ret (pe_callTy call_tuple_of (by rfl) B.tup (by decide +kernel) (pa_cons (pe_lc (own := [("k", 2)]) (g := gName 2) (tt := tYes) rfl scRow.nd (pi_range1 (by rfl) B.rng (pa_cons (pv 1) pa_nil))
      (blkOk_by (own := [("k", 2)]) (N := ["state", "width", "k"]) (sc := defScope sRow) (by decide +kernel)) (fun _ _ _ _ _ => pg_name (i := 2) scRow.nd rfl (Or.inl rfl)) (fun _ _ _ _ _ => pts_nil)
      (fun _ _ _ _ _ => pe_def DV hr (by rfl) (pa_cons (pv 0) pa_nil))) pa_nil))), ?_⟩
    refine ⟨.int n, rfl, n, rfl, by omega, by omega, fun D nD => ?_⟩
    refine lc_range (lo := 0) (n := n.toNat) (fun i H' => Dr st L H H' ∧ ∃ ys ds, H' D = some (.lst ys) ∧ (∀ H2, Tps H2 ys ds) ∧ ds.length = i ∧ ∀ d ∈ ds, isAtom d) ⟨Dr.new g nD, [], [], upd_same, fun _ => .nil, rfl, fun y hy => by cases hy⟩ (fun i H' hi hP => ?_) (fun H' hP => ?_)
    · obtain ⟨dd, ys, ds, eD, ht, ly, ha⟩ := hP
      refine ⟨rfl, ?_⟩
      refine iteT (B := True) ?_
      refine ⟨.ref st, rfl, st, L, rfl, dd.good, fun v d H2 d2 at2 tp2 => ?_⟩
      have lD : ys.length = i := by rw [(ht H2).length, ly]
      have nst : D ≠ st := fun z => g.not_none (by rw [← z]; exact nD)
      refine ⟨ys, d2.at_ nst eD, small1000 (by omega), (dd.trans d2).put g nD, ys ++ [v], ds ++ [d], upd_same, Tps.snoc_all ht tp2, ?_, ?_⟩
      · rw [List.length_append, ly]
        rfl
      · intro y hy2
        rcases List.mem_append.mp hy2 with h1 | h1
        · exact ha y h1
        · rw [List.mem_singleton.mp h1]
          exact at2
    · obtain ⟨dd, ys, ds, eD, ht, ly, ha⟩ := hP
      refine ⟨D, ys, rfl, .inl ⟨SqL.of eD, fun p np => ?_⟩⟩
      exact q p ds _ (dd.add np) (.tup upd_same (ht _)) ha ly
/-! ### _law_name -/
abbrev sName : Stmt := topS 12
theorem scName : FnScope ["state"] ["state"] (defScope sName) := ⟨rfl, rfl, rfl, by decide +kernel, rfl, by decide +kernel, by decide +kernel⟩
def spName : Sp := fun vs H Q _ => ∃ (st L : Addr), vs = [.ref st] ∧ Good st L H ∧ ∀ (z : Str) H', Dr st L H H' → Q (.str z) H'
abbrev dName (P : Program) (w : World) (K : PySem.W.Frag) (mg : Str → Option Value) (base : Heap) : Prop := Def P w K mg base "_law_name" 2 ["state"] spName
theorem ok_name {f : Addr} {fd : FuncData} (F : Fun K "_law_name" "_law_name" sName f fd) (DN : dNext P w K mg base) : FnOk P w K mg base CX0 2 f fd ["state"] spName := by
  refine F.ok scName (fun vs H Q E h => ?_) (fun cdv A outer s H vs Q E hr h => ?_)
  · obtain ⟨st, L, rfl, _⟩ := h
    rfl
  · obtain ⟨st, L, rfl, g, q⟩ := h
    refine ⟨_, pss_one (ps_ret (pe_ix ix_list (pe_lst (pa_cons pe_str (pa_cons pe_str (pa_cons pe_str (pa_cons pe_str (pa_cons pe_str (pa_cons pe_str (pa_cons pe_str (pa_cons pe_str pa_nil))))))))) (pe_def DN hr (by rfl) (pa_cons (pv 0) (pa_cons pe_int pa_nil))) (fun _ _ => rfl))), ?_⟩
    refine ⟨(by show 8 ≤ sizeLine; decide), fun p np => ?_⟩
    have d1 := Dr.new (o := .lst ((["r", "r1", "r_", "longest_name", "longest_namf", "a", "ab", "r1x"] : List Str).map V.str)) g np
    refine ⟨.ref st, rfl, st, L, 8, rfl, d1.good, by decide, by decide, fun v H2 d2 v0 v1 => ?_⟩
    obtain ⟨z, ez⟩ := lit_str (zs := ["r", "r1", "r_", "longest_name", "longest_namf", "a", "ab", "r1x"]) v0 v1
    exact ⟨p, _, v, .str z, rfl, rfl, SqL.of (Dr.keep g np d2), ez, q z _ (d1.trans d2)⟩
/-! ### terms, bodies: what is in them is not looked at -/
def spAny : Sp := fun vs H Q _ => ∃ (st L : Addr), vs = [.ref st] ∧ Good st L H ∧ ∀ (v : V) H', Dr st L H H' → Q v H'
abbrev sTerm : Stmt := topS 13
theorem scTerm : FnScope ["state", "pick"] ["state"] (defScope sTerm) := ⟨rfl, rfl, rfl, by decide +kernel, rfl, by decide +kernel, by decide +kernel⟩
abbrev dTerm (P : Program) (w : World) (K : PySem.W.Frag) (mg : Str → Option Value) (base : Heap) : Prop := Def P w K mg base "_law_term" 3 ["state"] spAny
theorem ok_term {f : Addr} {fd : FuncData} (F : Fun K "_law_term" "_law_term" sTerm f fd) (DN : dNext P w K mg base) (DV : dVal P w K mg base) (DM : dName P w K mg base) : FnOk P w K mg base CX0 3 f fd ["state"] spAny := by
  refine F.ok scTerm (fun vs H Q E h => ?_) (fun cdv A outer s H vs Q E hr h => ?_)
  · obtain ⟨st, L, rfl, _⟩ := h
    rfl
  · obtain ⟨st, L, rfl, g, q⟩ := h
    refine ⟨_, pss_cons (ps_set (i := 1) scTerm.nd rfl (.inl rfl) (pe_def DN (hr.mono (by decide)) (by rfl) (pa_cons (pv 0) (pa_cons pe_int pa_nil))))
      (pss_cons (ps_if (pt_cmpR op_eq (pv 1) pe_int (nomark _)) (pss_one (ps_ret (pe_tup (pa_cons pe_str pa_nil)))) pss_nil)
      (pss_cons (ps_if (pt_cmpR op_eq (pv 1) pe_int (nomark _)) (pss_one (ps_ret (pe_tup (pa_cons pe_str (pa_cons (pe_def DV hr (by rfl) (pa_cons (pv 0) pa_nil)) pa_nil))))) pss_nil)
      (pss_one (ps_ret (pe_tup (pa_cons pe_str (pa_cons (pe_def DM hr (by rfl) (pa_cons (pv 0) pa_nil)) pa_nil))))))), ?_⟩
    refine ⟨.ref st, rfl, st, L, 4, rfl, g, by decide, by decide, fun pick H1 d1 p0 p1 => ?_⟩
    refine ⟨.int pick, rfl, rfl, _, rfl, ite2 (fun c => ?_) (fun c => ?_)⟩
    · exact ⟨(by show 1 ≤ sizeLine; decide), fun p np => q _ _ (d1.add np)⟩
    refine ⟨.int pick, rfl, rfl, _, rfl, ite2 (fun c => ?_) (fun c => ?_)⟩
    · refine ⟨.ref st, rfl, st, L, rfl, d1.good, fun v d H2 d2 _ _ => ?_⟩
      exact ⟨(by show 2 ≤ sizeLine; decide), fun p np => q _ _ ((d1.trans d2).add np)⟩
    · refine ⟨.ref st, rfl, st, L, rfl, d1.good, fun z H2 d2 => ?_⟩
      exact ⟨(by show 2 ≤ sizeLine; decide), fun p np => q _ _ ((d1.trans d2).add np)⟩
abbrev sTerms : Stmt := topS 14
theorem scTerms : FnScope ["state", "k"] ["state"] (defScope sTerms) := ⟨rfl, rfl, rfl, by decide +kernel, rfl, by decide +kernel, by decide +kernel⟩
abbrev dTerms (P : Program) (w : World) (K : PySem.W.Frag) (mg : Str → Option Value) (base : Heap) : Prop := Def P w K mg base "_law_terms" 4 ["state"] spAny
theorem ok_terms {f : Addr} {fd : FuncData} (F : Fun K "_law_terms" "_law_terms" sTerms f fd) (B : Bt mg) (DN : dNext P w K mg base) (DT : dTerm P w K mg base) : FnOk P w K mg base CX0 4 f fd ["state"] spAny := by
  refine F.ok scTerms (fun vs H Q E h => ?_) (fun cdv A outer s H vs Q E hr h => ?_)
  · obtain ⟨st, L, rfl, _⟩ := h
    rfl
  · obtain ⟨st, L, rfl, g, q⟩ := h
    refine ⟨_, pss_one (ps_ret (pe_callTy call_tuple_of (by rfl) B.tup (by decide +kernel) (pa_cons (pe_lc (own := [("k", 1)]) (g := gName 1) (tt := tYes) rfl scTerms.nd (pi_range1 (by rfl) B.rng (pa_cons (pe_def DN (hr.mono (by decide)) (by rfl) (pa_cons (pv 0) (pa_cons pe_int pa_nil))) pa_nil))
      (blkOk_by (own := [("k", 1)]) (N := ["state", "k"]) (sc := defScope sTerms) (by decide +kernel)) (fun _ _ _ _ _ => pg_name (i := 1) scTerms.nd rfl (Or.inl rfl)) (fun _ _ _ _ _ => pts_nil)
      (fun _ _ _ _ _ => pe_def DT hr (by rfl) (pa_cons (pv 0) pa_nil))) pa_nil))), ?_⟩
    refine ⟨.ref st, rfl, st, L, 5, rfl, g, by decide, by decide, fun n H1 d1 n0 n1 => ?_⟩
    refine ⟨n, rfl, by omega, by omega, fun D nD => ?_⟩
    refine lc_range (lo := 0) (n := n.toNat) (fun i H' => Dr st L H1 H' ∧ ∃ ys, H' D = some (.lst ys) ∧ ys.length = i) ⟨Dr.new d1.good nD, [], upd_same, rfl⟩ (fun i H' hi hP => ?_) (fun H' hP => ?_)
    · obtain ⟨dd, ys, eD, ly⟩ := hP
      refine ⟨rfl, ?_⟩
      refine iteT (B := True) ?_
      refine ⟨.ref st, rfl, st, L, rfl, dd.good, fun v H2 d2 => ?_⟩
      have nst : D ≠ st := fun z => d1.good.not_none (by rw [← z]; exact nD)
      refine ⟨ys, d2.at_ nst eD, small1000 (by omega), (dd.trans d2).put d1.good nD, ys ++ [v], upd_same, ?_⟩
      rw [List.length_append, ly]
      rfl
    · obtain ⟨dd, ys, eD, ly⟩ := hP
      exact ⟨D, ys, rfl, .inl ⟨SqL.of eD, fun p np => q _ _ ((d1.trans dd).add np)⟩⟩
abbrev sLit : Stmt := topS 15
theorem scLit : FnScope ["state", "form", "operator"] ["state"] (defScope sLit) := ⟨rfl, rfl, rfl, by decide +kernel, rfl, by decide +kernel, by decide +kernel⟩
abbrev dLit (P : Program) (w : World) (K : PySem.W.Frag) (mg : Str → Option Value) (base : Heap) : Prop := Def P w K mg base "_law_literal" 5 ["state"] spAny
theorem ok_lit {f : Addr} {fd : FuncData} (F : Fun K "_law_literal" "_law_literal" sLit f fd) (DN : dNext P w K mg base) (DT : dTerm P w K mg base) (DM : dName P w K mg base) (DS : dTerms P w K mg base) : FnOk P w K mg base CX0 5 f fd ["state"] spAny := by
  refine F.ok scLit (fun vs H Q E h => ?_) (fun cdv A outer s H vs Q E hr h => ?_)
  · obtain ⟨st, L, rfl, _⟩ := h
    rfl
  · obtain ⟨st, L, rfl, g, q⟩ := h
    refine ⟨_, pss_cons (ps_set (i := 1) scLit.nd rfl (.inl rfl) (pe_ix ix_list (pe_lst (pa_cons pe_str (pa_cons pe_str (pa_cons pe_str (pa_cons pe_str (pa_cons pe_str (pa_cons pe_str pa_nil))))))) (pe_def DN (hr.mono (by decide)) (by rfl) (pa_cons (pv 0) (pa_cons pe_int pa_nil))) (fun _ _ => rfl)))
      (pss_cons (ps_if (pt_cmpR op_eq (pv 1) pe_str (nomark _)) (pss_cons (ps_set (i := 2) scLit.nd rfl (.inl rfl) (pe_ix ix_list (pe_lst (pa_cons pe_str (pa_cons pe_str (pa_cons pe_str (pa_cons pe_str (pa_cons pe_str (pa_cons pe_str pa_nil))))))) (pe_def DN (hr.mono (by decide)) (by rfl) (pa_cons (pv 0) (pa_cons pe_int pa_nil))) (fun _ _ => rfl)))
          (pss_one (ps_ret (pe_tup (pa_cons (pv 1) (pa_cons (pv 2) (pa_cons (pe_def DT (hr.mono (by decide)) (by rfl) (pa_cons (pv 0) pa_nil)) (pa_cons (pe_def DT (hr.mono (by decide)) (by rfl) (pa_cons (pv 0) pa_nil)) pa_nil)))))))) pss_nil)
      (pss_cons (ps_if (pt_cmpR op_eq (pv 1) pe_str (nomark _)) (pss_one (ps_ret (pe_tup (pa_cons (pv 1) (pa_cons (pe_def DM (hr.mono (by decide)) (by rfl) (pa_cons (pv 0) pa_nil))
          (pa_cons (pe_ix ix_list (pe_lst (pa_cons pe_str (pa_cons pe_str (pa_cons pe_str pa_nil)))) (pe_def DN (hr.mono (by decide)) (by rfl) (pa_cons (pv 0) (pa_cons pe_int pa_nil))) (fun _ _ => rfl))
          (pa_cons (pe_def DT (hr.mono (by decide)) (by rfl) (pa_cons (pv 0) pa_nil)) (pa_cons (pe_def DT (hr.mono (by decide)) (by rfl) (pa_cons (pv 0) pa_nil)) pa_nil)))))))) pss_nil)
      (pss_cons (ps_if (pt_cmpR op_eq (pv 1) pe_str (nomark _)) (pss_one (ps_ret (pe_tup (pa_cons (pv 1) (pa_cons (pe_def DM (hr.mono (by decide)) (by rfl) (pa_cons (pv 0) pa_nil)) (pa_cons (pe_def DM (hr.mono (by decide)) (by rfl) (pa_cons (pv 0) pa_nil)) (pa_cons (pe_def DS hr (by rfl) (pa_cons (pv 0) pa_nil)) pa_nil))))))) pss_nil)
      (pss_one (ps_ret (pe_tup (pa_cons (pv 1) (pa_cons (pe_def DM (hr.mono (by decide)) (by rfl) (pa_cons (pv 0) pa_nil)) (pa_cons (pe_def DS hr (by rfl) (pa_cons (pv 0) pa_nil)) pa_nil))))))))), ?_⟩
    refine ⟨(by show 6 ≤ sizeLine; decide), fun p np => ?_⟩
    have d0 := Dr.new (o := .lst ((["fact", "fact", "not", "compare", "is", "count"] : List Str).map V.str)) g np
    refine ⟨.ref st, rfl, st, L, 6, rfl, d0.good, by decide, by decide, fun v H1 dv v0 v1 => ?_⟩
    obtain ⟨fm, ef⟩ := lit_str (zs := ["fact", "fact", "not", "compare", "is", "count"]) v0 v1
    have d1 := d0.trans dv
    refine ⟨p, _, v, .str fm, rfl, rfl, SqL.of (Dr.keep g np dv), ef, ?_⟩
    refine ⟨.str fm, rfl, rfl, _, rfl, ite2 (fun c => ?_) (fun c => ?_)⟩
    · refine ⟨(by show 6 ≤ sizeLine; decide), fun p2 np2 => ?_⟩
      have d2 := Dr.new (o := .lst ((["=", "<>", "<", "<=", ">", ">="] : List Str).map V.str)) d1.good np2
      refine ⟨.ref st, rfl, st, L, 6, rfl, d2.good, by decide, by decide, fun u H2 du u0 u1 => ?_⟩
      obtain ⟨op, eo⟩ := lit_str (zs := ["=", "<>", "<", "<=", ">", ">="]) u0 u1
      refine ⟨p2, _, u, .str op, rfl, rfl, SqL.of (Dr.keep d1.good np2 du), eo, ?_⟩
      refine ⟨.str fm, rfl, .str op, rfl, .ref st, rfl, st, L, rfl, du.good, fun a H3 d3 => ⟨.ref st, rfl, st, L, rfl, d3.good, fun b H4 d4 => ⟨(by show 4 ≤ sizeLine; decide), fun t nt => ?_⟩⟩⟩
      exact q _ _ ((((d1.trans d2).trans du).trans (d3.trans d4)).add nt)
    refine ⟨.str fm, rfl, rfl, _, rfl, ite2 (fun c => ?_) (fun c => ?_)⟩
    · refine ⟨.str fm, rfl, .ref st, rfl, st, L, rfl, d1.good, fun nm H2 d2 => ⟨(by show 3 ≤ sizeLine; decide), fun p2 np2 => ?_⟩⟩
      have d3 := Dr.new (o := .lst ((["+", "-", "*"] : List Str).map V.str)) d2.good np2
      refine ⟨.ref st, rfl, st, L, 3, rfl, d3.good, by decide, by decide, fun u H3 du u0 u1 => ?_⟩
      obtain ⟨op, eo⟩ := lit_str (zs := ["+", "-", "*"]) u0 u1
      refine ⟨p2, _, u, .str op, rfl, rfl, SqL.of (Dr.keep d2.good np2 du), eo, ?_⟩
      refine ⟨.ref st, rfl, st, L, rfl, du.good, fun a H4 d4 => ⟨.ref st, rfl, st, L, rfl, d4.good, fun b H5 d5 => ⟨(by show 5 ≤ sizeLine; decide), fun t nt => ?_⟩⟩⟩
      exact q _ _ ((((d1.trans d2).trans (d3.trans du)).trans (d4.trans d5)).add nt)
    refine ⟨.str fm, rfl, rfl, _, rfl, ite2 (fun c => ?_) (fun c => ?_)⟩
    · refine ⟨.str fm, rfl, .ref st, rfl, st, L, rfl, d1.good, fun nm H2 d2 => ⟨.ref st, rfl, st, L, rfl, d2.good, fun nm2 H3 d3 => ⟨.ref st, rfl, st, L, rfl, d3.good, fun b H4 d4 => ⟨(by show 4 ≤ sizeLine; decide), fun t nt => ?_⟩⟩⟩⟩
      exact q _ _ (((d1.trans d2).trans (d3.trans d4)).add nt)
    · refine ⟨.str fm, rfl, .ref st, rfl, st, L, rfl, d1.good, fun nm H2 d2 => ⟨.ref st, rfl, st, L, rfl, d2.good, fun b H3 d3 => ⟨(by show 3 ≤ sizeLine; decide), fun t nt => ?_⟩⟩⟩
      exact q _ _ ((d1.trans (d2.trans d3)).add nt)
abbrev sBody : Stmt := topS 16
theorem scBody : FnScope ["state", "k"] ["state"] (defScope sBody) := ⟨rfl, rfl, rfl, by decide +kernel, rfl, by decide +kernel, by decide +kernel⟩
abbrev dBody (P : Program) (w : World) (K : PySem.W.Frag) (mg : Str → Option Value) (base : Heap) : Prop := Def P w K mg base "_law_body" 6 ["state"] spAny
theorem ok_body {f : Addr} {fd : FuncData} (F : Fun K "_law_body" "_law_body" sBody f fd) (B : Bt mg) (DN : dNext P w K mg base) (DT : dLit P w K mg base) : FnOk P w K mg base CX0 6 f fd ["state"] spAny := by
  refine F.ok scBody (fun vs H Q E h => ?_) (fun cdv A outer s H vs Q E hr h => ?_)
  · obtain ⟨st, L, rfl, _⟩ := h
    rfl
  · obtain ⟨st, L, rfl, g, q⟩ := h
    refine ⟨_, pss_one (ps_ret (pe_callTy call_tuple_of (by rfl) B.tup (by decide +kernel) (pa_cons (pe_lc (own := [("k", 1)]) (g := gName 1) (tt := tYes) rfl scBody.nd (pi_range1 (by rfl) B.rng (pa_cons (pe_def DN (hr.mono (by decide)) (by rfl) (pa_cons (pv 0) (pa_cons pe_int pa_nil))) pa_nil))
      (blkOk_by (own := [("k", 1)]) (N := ["state", "k"]) (sc := defScope sBody) (by decide +kernel)) (fun _ _ _ _ _ => pg_name (i := 1) scBody.nd rfl (Or.inl rfl)) (fun _ _ _ _ _ => pts_nil)
      (fun _ _ _ _ _ => pe_def DT hr (by rfl) (pa_cons (pv 0) pa_nil))) pa_nil))), ?_⟩
    refine ⟨.ref st, rfl, st, L, 5, rfl, g, by decide, by decide, fun n H1 d1 n0 n1 => ?_⟩
    refine ⟨n, rfl, by omega, by omega, fun D nD => ?_⟩
    refine lc_range (lo := 0) (n := n.toNat) (fun i H' => Dr st L H1 H' ∧ ∃ ys, H' D = some (.lst ys) ∧ ys.length = i) ⟨Dr.new d1.good nD, [], upd_same, rfl⟩ (fun i H' hi hP => ?_) (fun H' hP => ?_)
    · obtain ⟨dd, ys, eD, ly⟩ := hP
      refine ⟨rfl, ?_⟩
      refine iteT (B := True) ?_
      refine ⟨.ref st, rfl, st, L, rfl, dd.good, fun v H2 d2 => ?_⟩
      have nst : D ≠ st := fun z => d1.good.not_none (by rw [← z]; exact nD)
      refine ⟨ys, d2.at_ nst eD, small1000 (by omega), (dd.trans d2).put d1.good nD, ys ++ [v], upd_same, ?_⟩
      rw [List.length_append, ly]
      rfl
    · obtain ⟨dd, ys, eD, ly⟩ := hP
      exact ⟨D, ys, rfl, .inl ⟨SqL.of eD, fun p np => q _ _ ((d1.trans dd).add np)⟩⟩
end
end KB

namespace KB
open PySem PySem.Spec PyProof.Rows L2 KA
/-! ### data: keys, orders -/
def vk : PyData → PyData
  | .str z => .tuple [.int 1, .str z]
  | d => .tuple [.int 0, d]
def kd (s : Int) (nm : Str) (ds : List PyData) : PyData := .tuple [.int s, .str nm, .tuple ds]
def bf : PyData → PyData → Bool
  | .int a, .int b => decide (a < b)
  | .str a, .str b => decide (a.cps.toList < b.cps.toList)
  | .int _, .str _ => true
  | _, _ => false
def rord : List PyData → List PyData → Int
  | [], [] => 0
  | [], _ :: _ => -1
  | _ :: _, [] => 1
  | x :: xs, y :: ys => if bf x y = true then -1 else if bf y x = true then 1 else rord xs ys
def plt (s : Int) (nm : Str) (s2 : Int) (nm2 : Str) : Bool := if s = s2 then decide (nm.cps.toList < nm2.cps.toList) else decide (s < s2)
def kord (s : Int) (nm : Str) (ds : List PyData) (s2 : Int) (nm2 : Str) (es : List PyData) : Int := if s = s2 ∧ nm = nm2 then rord ds es else 1 - 2 * (if plt s nm s2 nm2 = true then 1 else 0)
abbrev Atoms (ds : List PyData) : Prop := ∀ d ∈ ds, isAtom d
inductive ItemK (H : Hp) (p : Addr) : PyData → Prop
  | rel (nm : Str) (n : V) : H p = some (.tup [.str "relation", .str nm, n]) → ItemK H p (kd 0 nm [])
  | fact (nm : Str) (q : Addr) (ds : List PyData) : H p = some (.tup [.str "fact", .str nm, .ref q]) → Tp H (.ref q) (.tuple ds) → Atoms ds → ds.length ≤ 1000 → ItemK H p (kd 1 nm ds)
  | rule (nm : Str) (a b c : V) : H p = some (.tup [.str "rule", .str nm, a, b, c]) → ItemK H p (kd 2 nm [])
  | den (nm : Str) (b : V) : H p = some (.tup [.str "denial", .str nm, b]) → ItemK H p (kd 3 nm [])
theorem ItemK.mono {H H' : Hp} {p : Addr} {d : PyData} (k : Tk H H') (h : ItemK H p d) : ItemK H' p d := by
  cases h with
  | rel nm n e => exact .rel nm n (k _ _ e)
  | fact nm q ds e t a l => exact .fact nm q ds (k _ _ e) (t.mono k) a l
  | rule nm a b c e => exact .rule nm a b c (k _ _ e)
  | den nm b e => exact .den nm b (k _ _ e)
theorem ItemK.is_kd {H : Hp} {p : Addr} {d : PyData} (h : ItemK H p d) : ∃ s nm ds, d = kd s nm ds ∧ Atoms ds ∧ ds.length ≤ 1000 := by
  cases h with
  | rel nm n e => exact ⟨_, _, _, rfl, (fun x hx => by cases hx), by decide⟩
  | fact nm q ds e t a l => exact ⟨_, _, _, rfl, a, l⟩
  | rule nm a b c e => exact ⟨_, _, _, rfl, (fun x hx => by cases hx), by decide⟩
  | den nm b e => exact ⟨_, _, _, rfl, (fun x hx => by cases hx), by decide⟩
theorem atom_depth {d : PyData} (h : isAtom d) : d.depth = 0 := by
  cases d with
  | int _ => rfl
  | str _ => rfl
  | _ => exact h.elim
theorem vk_depth {d : PyData} (h : isAtom d) : (vk d).depth = 1 := by
  cases d with
  | int _ => rfl
  | str _ => rfl
  | _ => exact h.elim
theorem atoms_depth : ∀ {ds : List PyData}, Atoms ds → PyData.depthAll ds = 0
  | [], _ => rfl
  | d :: r, h => by
    rw [PyData.depthAll, atom_depth (h d List.mem_cons_self), atoms_depth (fun x hx => h x (List.mem_cons_of_mem _ hx))]
    rfl
theorem vks_depth : ∀ {ds : List PyData}, Atoms ds → PyData.depthAll (ds.map vk) ≤ 1
  | [], _ => Nat.zero_le _
  | d :: r, h => by
    rw [List.map_cons, PyData.depthAll, vk_depth (h d List.mem_cons_self)]
    have t := vks_depth (ds := r) (fun x hx => h x (List.mem_cons_of_mem _ hx))
    exact Nat.max_le.mpr ⟨Nat.le_refl 1, t⟩
theorem small_row {ds : List PyData} (h : Atoms ds) : small (.tuple (ds.map vk)) := by
  show PyData.depthAll (ds.map vk) + 1 ≤ 64
  have t := vks_depth h
  omega
theorem same_new {H : Hp} {p : Addr} {o : HO} (h : H p = none) : Same H (upd H p o) := fun a u e => by
  rw [upd_ne (ne_of_none e h)]
  exact e
theorem same_add {H H' : Hp} {p : Addr} {o : HO} (s : Same H H') (h : H' p = none) : Same H (upd H' p o) := s.trans (same_new h)
theorem same_put {H H' : Hp} {p : Addr} {o : HO} (s : Same H H') (h : H p = none) : Same H (upd H' p o) := fun a u e => by
  rw [upd_ne (ne_of_none e h)]
  exact s a u e
section
variable {P : Program} {w : World} {K : PySem.W.Frag} {mg : Str → Option Value} {base : Heap}
abbrev dRow (P : Program) (w : World) (K : PySem.W.Frag) (mg : Str → Option Value) (base : Heap) : Prop := Def P w K mg base "_law_row" 3 ["state", "width"] spRow
/-! ### _law_item -/
abbrev sItem : Stmt := topS 17
theorem scItem : FnScope ["state", "pick", "name"] ["state"] (defScope sItem) := ⟨rfl, rfl, rfl, by decide +kernel, rfl, by decide +kernel, by decide +kernel⟩
def spItem : Sp := fun vs H Q _ => ∃ (st L : Addr), vs = [.ref st] ∧ Good st L H ∧ ∀ (p : Addr) (d : PyData) H', Dr st L H H' → ItemK H' p d → Q (.ref p) H'
theorem ok_item {f : Addr} {fd : FuncData} (F : Fun K "_law_item" "_law_item" sItem f fd) (DN : dNext P w K mg base) (DR : dRow P w K mg base) (DM : dName P w K mg base) (DS : dTerms P w K mg base) (DB : dBody P w K mg base) : FnOk P w K mg base CX0 7 f fd ["state"] spItem := by
  refine F.ok scItem (fun vs H Q E h => ?_) (fun cdv A outer s H vs Q E hr h => ?_)
  · obtain ⟨st, L, rfl, _⟩ := h
    rfl
  · obtain ⟨st, L, rfl, g, q⟩ := h
    refine ⟨_, pss_cons (ps_set (i := 1) scItem.nd rfl (.inl rfl) (pe_def DN (hr.mono (by decide)) (by rfl) (pa_cons (pv 0) (pa_cons pe_int pa_nil))))
      (pss_cons (ps_set (i := 2) scItem.nd rfl (.inl rfl) (pe_def DM (hr.mono (by decide)) (by rfl) (pa_cons (pv 0) pa_nil)))
      (pss_cons (ps_if (pt_cmpR op_lt (pv 1) pe_int (nomark _)) (pss_one (ps_ret (pe_tup (pa_cons pe_str (pa_cons (pv 2) (pa_cons (pe_op op_add pe_int (pe_def DN (hr.mono (by decide)) (by rfl) (pa_cons (pv 0) (pa_cons pe_int pa_nil)))) pa_nil)))))) pss_nil)
      (pss_cons (ps_if (pt_cmpR op_lt (pv 1) pe_int (nomark _)) (pss_one (ps_ret (pe_tup (pa_cons pe_str (pa_cons (pv 2) (pa_cons (pe_def DR (hr.mono (by decide)) (by rfl) (pa_cons (pv 0) (pa_cons (pe_op op_add pe_int (pe_def DN (hr.mono (by decide)) (by rfl) (pa_cons (pv 0) (pa_cons pe_int pa_nil)))) pa_nil))) pa_nil)))))) pss_nil)
      (pss_cons (ps_if (pt_cmpR op_lt (pv 1) pe_int (nomark _)) (pss_one (ps_ret (pe_tup (pa_cons pe_str (pa_cons (pv 2) (pa_cons (pe_def DM (hr.mono (by decide)) (by rfl) (pa_cons (pv 0) pa_nil)) (pa_cons (pe_def DS (hr.mono (by decide)) (by rfl) (pa_cons (pv 0) pa_nil)) (pa_cons (pe_def DB hr (by rfl) (pa_cons (pv 0) pa_nil)) pa_nil)))))))) pss_nil)
      (pss_one (ps_ret (pe_tup (pa_cons pe_str (pa_cons (pv 2) (pa_cons (pe_def DB hr (by rfl) (pa_cons (pv 0) pa_nil)) pa_nil)))))))))), ?_⟩
    refine ⟨.ref st, rfl, st, L, 8, rfl, g, by decide, by decide, fun pick H1 d1 p0 p1 => ?_⟩
    refine ⟨.ref st, rfl, st, L, rfl, d1.good, fun nm H2 d2 => ?_⟩
    have d12 := d1.trans d2
    refine ⟨.int pick, rfl, pick, 2, rfl, rfl, _, rfl, ite2 (fun c => ?_) (fun c => ?_)⟩
    · refine ⟨.str nm, rfl, .ref st, rfl, st, L, 4, rfl, d2.good, by decide, by decide, fun n H3 d3 n0 n1 => ⟨1, n, rfl, rfl, (by show 3 ≤ sizeLine; decide), fun p np => ?_⟩⟩
      exact q p _ _ ((d12.trans d3).add np) (.rel nm (.int (1 + n)) upd_same)
    refine ⟨.int pick, rfl, pick, 5, rfl, rfl, _, rfl, ite2 (fun c => ?_) (fun c => ?_)⟩
    · refine ⟨.str nm, rfl, .ref st, rfl, .ref st, rfl, st, L, 4, rfl, d2.good, by decide, by decide, fun n H3 d3 n0 n1 => ⟨1, n, rfl, rfl, st, L, 1 + n, rfl, d3.good, by omega, by omega, fun r ds H4 d4 tr ar lr => ⟨(by show 3 ≤ sizeLine; decide), fun p np => ?_⟩⟩⟩
      exact q p _ _ ((d12.trans (d3.trans d4)).add np) (.fact nm r ds upd_same (tr.mono (Tk.new np)) ar (by omega))
    refine ⟨.int pick, rfl, pick, 7, rfl, rfl, _, rfl, ite2 (fun c => ?_) (fun c => ?_)⟩
    · refine ⟨.str nm, rfl, .ref st, rfl, st, L, rfl, d2.good, fun nm2 H3 d3 => ⟨.ref st, rfl, st, L, rfl, d3.good, fun b H4 d4 => ⟨.ref st, rfl, st, L, rfl, d4.good, fun b2 H5 d5 => ⟨(by show 5 ≤ sizeLine; decide), fun p np => ?_⟩⟩⟩⟩
      exact q p _ _ ((d12.trans (d3.trans (d4.trans d5))).add np) (.rule nm (.str nm2) b b2 upd_same)
    · refine ⟨.str nm, rfl, .ref st, rfl, st, L, rfl, d2.good, fun b H3 d3 => ⟨(by show 3 ≤ sizeLine; decide), fun p np => ?_⟩⟩
      exact q p _ _ ((d12.trans d3).add np) (.den nm b upd_same)
/-! ### value_key, row_key, same_row -/
abbrev sVK : Stmt := topS 1
theorem scVK : FnScope ["value"] ["value"] (defScope sVK) := ⟨rfl, rfl, rfl, by decide +kernel, rfl, by decide +kernel, by decide +kernel⟩
def spVK : Sp := fun vs H Q _ => ∃ (v : V) (d : PyData), vs = [v] ∧ Tp H v d ∧ isAtom d ∧ ∀ (p : Addr) H', Same H H' → Tp H' (.ref p) (vk d) → Q (.ref p) H'
theorem ok_vk {f : Addr} {fd : FuncData} (F : Fun K "value_key" "value_key" sVK f fd) (B : Bt mg) : FnOk P w K mg base CX0 1 f fd ["value"] spVK := by
  refine F.ok scVK (fun vs H Q E h => ?_) (fun cdv A outer s H vs Q E hr h => ?_)
  · obtain ⟨v, d, rfl, _⟩ := h
    rfl
  · obtain ⟨v, d, rfl, tv, ad, q⟩ := h
    refine ⟨_, pss_cons (ps_if (pt_val (pe_callB call_isi (by rfl) B.isi (by decide +kernel) (pa_cons (pv 0) (pa_cons (pe_bltn (v := .ty "str") (u := .type "str") (by rfl) B.str (by decide +kernel) rfl) pa_nil)))) (pss_one (ps_ret (pe_tup (pa_cons pe_int (pa_cons (pv 0) pa_nil))))) pss_nil)
      (pss_one (ps_ret (pe_tup (pa_cons pe_int (pa_cons (pv 0) pa_nil))))), ?_⟩
    cases tv with
    | int i =>
      refine ⟨.int i, rfl, .int i, .ty "str", _, _, false, rfl, .ty "str", .base (.int i), kit_ty (by decide +kernel), _, rfl, iteF ?_⟩
      exact ⟨.int i, rfl, (by show 2 ≤ sizeLine; decide), fun p np => q p _ (same_new np) (.tup upd_same (.cons (.int 0) (.cons (.int i) .nil)))⟩
    | str z =>
      refine ⟨.str z, rfl, .str z, .ty "str", _, _, true, rfl, .ty "str", .base (.str z), kit_ty (by decide +kernel), _, rfl, iteT ?_⟩
      exact ⟨.str z, rfl, (by show 2 ≤ sizeLine; decide), fun p np => q p _ (same_new np) (.tup upd_same (.cons (.int 1) (.cons (.str z) .nil)))⟩
    | non => exact ad.elim
    | bl b => exact ad.elim
    | tup e r => exact ad.elim
abbrev sRK : Stmt := topS 2
theorem scRK : FnScope ["row", "value"] ["row"] (defScope sRK) := ⟨rfl, rfl, rfl, by decide +kernel, rfl, by decide +kernel, by decide +kernel⟩
def spRK : Sp := fun vs H Q _ => ∃ (v : V) (ds : List PyData), vs = [v] ∧ Tp H v (.tuple ds) ∧ Atoms ds ∧ ds.length ≤ 1000 ∧ ∀ (p : Addr) H', Same H H' → Tp H' (.ref p) (.tuple (ds.map vk)) → Q (.ref p) H'
theorem ok_rk {f : Addr} {fd : FuncData} (F : Fun K "row_key" "row_key" sRK f fd) (B : Bt mg) (DV : Def P w K mg base "value_key" 1 ["value"] spVK) : FnOk P w K mg base CX0 2 f fd ["row"] spRK := by
  refine F.ok scRK (fun vs H Q E h => ?_) (fun cdv A outer s H vs Q E hr h => ?_)
  · obtain ⟨v, d, rfl, _⟩ := h
    rfl
  · obtain ⟨v, ds, rfl, tv, ad, ld, q⟩ := h
    refine ⟨_, pss_one (ps_ret (pe_callTy call_tuple_of (by rfl) B.tup (by decide +kernel) (pa_cons (pe_lc (own := [("value", 1)]) (g := gName 1) (tt := tYes) rfl scRK.nd (pi_tup (pv 0))
      (blkOk_by (own := [("value", 1)]) (N := ["row", "value"]) (sc := defScope sRK) (by decide +kernel)) (fun _ _ _ _ _ => pg_name (i := 1) scRK.nd rfl (Or.inl rfl)) (fun _ _ _ _ _ => pts_nil)
      (fun _ _ _ _ _ => pe_def DV hr (by rfl) (pa_cons (pv 1) pa_nil))) pa_nil))), ?_⟩
    cases tv with
    | @tup a xs _ e r =>
      have lx := r.length
      refine ⟨.ref a, rfl, a, rfl, ⟨xs, SqT.of e⟩, fun D nD => ?_⟩
      refine lc_tup (K := K) (a := a) (xs := xs) (fun i H' => Same H H' ∧ ∃ ys, H' D = some (.lst ys) ∧ Tps H' ys ((ds.take i).map vk)) ⟨same_new nD, [], upd_same, .nil⟩ (fun i H' _ hP => SqT.of (hP.1 _ _ e)) (fun i x H' hx hP => ?_) (fun H' hP => ?_)
      · obtain ⟨sm, ys, eD, ht⟩ := hP
        obtain ⟨d, ed, td⟩ := r.get hx
        have hi : i < xs.length := by
          rcases Nat.lt_or_ge i xs.length with c | c
          · exact c
          · rw [List.getElem?_eq_none c] at hx
            cases hx
        refine ⟨rfl, ?_⟩
        refine iteT (B := True) ?_
        refine ⟨x, rfl, x, d, rfl, td.mono (Tk.of sm), ad d (List.mem_of_getElem? ed), fun p H2 s2 tp => ?_⟩
        have ly : ys.length ≤ 1000 := by
          rw [ht.length, List.length_map, List.length_take]
          omega
        have eD2 := s2 _ _ eD
        have kk : Tk H2 (upd H2 D (.lst (ys ++ [.ref p]))) := Tk.lst eD2
        refine ⟨ys, eD2, small1000 ly, same_put (sm.trans s2) nD, ys ++ [.ref p], upd_same, ?_⟩
        rw [List.take_add_one, ed, List.map_append]
        exact ((ht.mono (Tk.of s2)).mono kk).append (.cons (tp.mono kk) .nil)
      · obtain ⟨sm, ys, eD, ht⟩ := hP
        rw [List.take_of_length_le (by omega)] at ht
        exact ⟨D, ys, rfl, .inl ⟨SqL.of eD, fun p np => q p _ (same_add sm np) (.tup upd_same (ht.mono (Tk.new np)))⟩⟩
abbrev dRK (P : Program) (w : World) (K : PySem.W.Frag) (mg : Str → Option Value) (base : Heap) : Prop := Def P w K mg base "row_key" 2 ["row"] spRK
abbrev sSR : Stmt := topS 3
theorem scSR : FnScope ["first", "second"] ["first", "second"] (defScope sSR) := ⟨rfl, rfl, rfl, by decide +kernel, rfl, by decide +kernel, by decide +kernel⟩
def spSR : Sp := fun vs H Q _ => ∃ (v u : V) (ds es : List PyData), vs = [v, u] ∧ Tp H v (.tuple ds) ∧ Tp H u (.tuple es) ∧ Atoms ds ∧ Atoms es ∧ ds.length ≤ 1000 ∧ es.length ≤ 1000 ∧
  ∀ H', Same H H' → Q (.bl (PyData.eqv (.tuple (ds.map vk)) (.tuple (es.map vk)))) H'
theorem ok_sr {f : Addr} {fd : FuncData} (F : Fun K "same_row" "same_row" sSR f fd) (DR : dRK P w K mg base) : FnOk P w K mg base CX0 3 f fd ["first", "second"] spSR := by
  refine F.ok scSR (fun vs H Q E h => ?_) (fun cdv A outer s H vs Q E hr h => ?_)
  · obtain ⟨v, u, ds, es, rfl, _⟩ := h
    rfl
  · obtain ⟨v, u, ds, es, rfl, tv, tu, ad, ae, ld, le, q⟩ := h
    refine ⟨_, pss_one (ps_ret (pe_cmpR (op_eqP hr.units) (pe_def DR hr (by rfl) (pa_cons (pv 0) pa_nil)) (pe_def DR hr (by rfl) (pa_cons (pv 1) pa_nil)) (nomark _))), ?_⟩
    refine ⟨v, rfl, v, ds, rfl, tv, ad, ld, fun p H1 s1 t1 => ⟨u, rfl, u, es, rfl, tu.mono (Tk.of s1), ae, le, fun p2 H2 s2 t2 => ?_⟩⟩
    exact ⟨_, _, t1.mono (Tk.of s2), t2, small_row ad, q _ (s1.trans s2)⟩
/-! ### key_of, key_order -/
abbrev sKO : Stmt := topS 4
theorem scKO : FnScope ["item"] ["item"] (defScope sKO) := ⟨rfl, rfl, rfl, by decide +kernel, rfl, by decide +kernel, by decide +kernel⟩
def spKO : Sp := fun vs H Q _ => ∃ (p : Addr) (d : PyData), vs = [.ref p] ∧ ItemK H p d ∧ ∀ (r : Addr) H', Same H H' → Tp H' (.ref r) d → Q (.ref r) H'
theorem yes_if {A B : Prop} {x : V} (h : A) : if decide (x = x) = true then A else B := by
  rw [decide_eq_true rfl]
  exact iteT h
theorem no_if {A B : Prop} {x y : V} (n : x ≠ y) (h : B) : if decide (x = y) = true then A else B := by
  rw [decide_eq_false n]
  exact iteF h
theorem ok_ko {f : Addr} {fd : FuncData} (F : Fun K "key_of" "key_of" sKO f fd) : FnOk P w K mg base CX0 1 f fd ["item"] spKO := by
  refine F.ok scKO (fun vs H Q E h => ?_) (fun cdv A outer s H vs Q E hr h => ?_)
  · obtain ⟨p, d, rfl, _⟩ := h
    rfl
  · obtain ⟨p, d, rfl, ik, q⟩ := h
    refine ⟨_, pss_cons (ps_if (pt_cmpR op_eq (pe_ix ix_tup (pv 0) pe_int (fun _ _ => rfl)) pe_str (nomark _)) (pss_one (ps_ret (pe_tup (pa_cons pe_int (pa_cons (pe_ix ix_tup (pv 0) pe_int (fun _ _ => rfl)) (pa_cons (pe_tup pa_nil) pa_nil)))))) pss_nil)
      (pss_cons (ps_if (pt_cmpR op_eq (pe_ix ix_tup (pv 0) pe_int (fun _ _ => rfl)) pe_str (nomark _)) (pss_one (ps_ret (pe_tup (pa_cons pe_int (pa_cons (pe_ix ix_tup (pv 0) pe_int (fun _ _ => rfl)) (pa_cons (pe_ix ix_tup (pv 0) pe_int (fun _ _ => rfl)) pa_nil)))))) pss_nil)
      (pss_cons (ps_if (pt_cmpR op_eq (pe_ix ix_tup (pv 0) pe_int (fun _ _ => rfl)) pe_str (nomark _)) (pss_one (ps_ret (pe_tup (pa_cons pe_int (pa_cons (pe_ix ix_tup (pv 0) pe_int (fun _ _ => rfl)) (pa_cons (pe_tup pa_nil) pa_nil)))))) pss_nil)
      (pss_one (ps_ret (pe_tup (pa_cons pe_int (pa_cons (pe_ix ix_tup (pv 0) pe_int (fun _ _ => rfl)) (pa_cons (pe_tup pa_nil) pa_nil)))))))), ?_⟩
    have s3 : 3 ≤ sizeLine := by decide
    cases ik with
    | rel nm n e =>
      refine ⟨.ref p, rfl, p, _, 0, .str "relation", rfl, rfl, SqT.of e, rfl, rfl, _, rfl, yes_if ?_⟩
      refine ⟨.ref p, rfl, p, _, 1, .str nm, rfl, rfl, SqT.of e, rfl, Nat.zero_le _, fun t nt => ⟨s3, fun r nr => ?_⟩⟩
      exact q r _ (same_add (same_new nt) nr) (.tup upd_same (.cons (.int 0) (.cons (.str nm) (.cons (.tup (by rw [upd_ne (ne_of_none upd_same nr)]; exact upd_same) .nil) .nil))))
    | fact nm qa ds e tq aq _ =>
      refine ⟨.ref p, rfl, p, _, 0, .str "fact", rfl, rfl, SqT.of e, rfl, rfl, _, rfl, no_if (by decide +kernel) ?_⟩
      refine ⟨.ref p, rfl, p, _, 0, .str "fact", rfl, rfl, SqT.of e, rfl, rfl, _, rfl, yes_if ?_⟩
      refine ⟨.ref p, rfl, p, _, 1, .str nm, rfl, rfl, SqT.of e, rfl, .ref p, rfl, p, _, 2, .ref qa, rfl, rfl, SqT.of e, rfl, s3, fun r nr => ?_⟩
      exact q r _ (same_new nr) (.tup upd_same (.cons (.int 1) (.cons (.str nm) (.cons (tq.mono (Tk.new nr)) .nil))))
    | rule nm a b c e =>
      refine ⟨.ref p, rfl, p, _, 0, .str "rule", rfl, rfl, SqT.of e, rfl, rfl, _, rfl, no_if (by decide +kernel) ?_⟩
      refine ⟨.ref p, rfl, p, _, 0, .str "rule", rfl, rfl, SqT.of e, rfl, rfl, _, rfl, no_if (by decide +kernel) ?_⟩
      refine ⟨.ref p, rfl, p, _, 0, .str "rule", rfl, rfl, SqT.of e, rfl, rfl, _, rfl, yes_if ?_⟩
      refine ⟨.ref p, rfl, p, _, 1, .str nm, rfl, rfl, SqT.of e, rfl, Nat.zero_le _, fun t nt => ⟨s3, fun r nr => ?_⟩⟩
      exact q r _ (same_add (same_new nt) nr) (.tup upd_same (.cons (.int 2) (.cons (.str nm) (.cons (.tup (by rw [upd_ne (ne_of_none upd_same nr)]; exact upd_same) .nil) .nil))))
    | den nm b e =>
      refine ⟨.ref p, rfl, p, _, 0, .str "denial", rfl, rfl, SqT.of e, rfl, rfl, _, rfl, no_if (by decide +kernel) ?_⟩
      refine ⟨.ref p, rfl, p, _, 0, .str "denial", rfl, rfl, SqT.of e, rfl, rfl, _, rfl, no_if (by decide +kernel) ?_⟩
      refine ⟨.ref p, rfl, p, _, 0, .str "denial", rfl, rfl, SqT.of e, rfl, rfl, _, rfl, no_if (by decide +kernel) ?_⟩
      refine ⟨.ref p, rfl, p, _, 1, .str nm, rfl, rfl, SqT.of e, rfl, Nat.zero_le _, fun t nt => ⟨s3, fun r nr => ?_⟩⟩
      exact q r _ (same_add (same_new nt) nr) (.tup upd_same (.cons (.int 3) (.cons (.str nm) (.cons (.tup (by rw [upd_ne (ne_of_none upd_same nr)]; exact upd_same) .nil) .nil))))
abbrev sKY : Stmt := topS 5
theorem scKY : FnScope ["key", "sort", "name", "row"] ["key"] (defScope sKY) := ⟨rfl, rfl, rfl, by decide +kernel, rfl, by decide +kernel, by decide +kernel⟩
def spKY : Sp := fun vs H Q _ => ∃ (v : V) (sn : Int) (nm : Str) (ds : List PyData), vs = [v] ∧ Tp H v (kd sn nm ds) ∧ Atoms ds ∧ ds.length ≤ 1000 ∧ ∀ (p : Addr) H', Same H H' → Tp H' (.ref p) (kd sn nm (ds.map vk)) → Q (.ref p) H'
theorem ok_ky {f : Addr} {fd : FuncData} (F : Fun K "key_order" "key_order" sKY f fd) (DR : dRK P w K mg base) : FnOk P w K mg base CX0 3 f fd ["key"] spKY := by
  refine F.ok scKY (fun vs H Q E h => ?_) (fun cdv A outer s H vs Q E hr h => ?_)
  · obtain ⟨v, sn, nm, ds, rfl, _⟩ := h
    rfl
  · obtain ⟨v, sn, nm, ds, rfl, tv, ad, ld, q⟩ := h
    refine ⟨_, pss_cons (ps_asg (pv 0) (pg_tup rfl (pgs_cons (pg_name (i := 1) scKY.nd rfl (.inl rfl)) (pgs_cons (pg_name (i := 2) scKY.nd rfl (.inl rfl)) (pgs_cons (pg_name (i := 3) scKY.nd rfl (.inl rfl)) pgs_nil)))))
      (pss_one (ps_ret (pe_tup (pa_cons (pv 1) (pa_cons (pv 2) (pa_cons (pe_def DR hr (by rfl) (pa_cons (pv 3) pa_nil)) pa_nil)))))), ?_⟩
    cases tv with
    | @tup a xs _ e r =>
      cases r with
      | cons h1 r =>
        cases r with
        | cons h2 r =>
          cases r with
          | cons h3 r =>
            cases r
            cases h1
            cases h2
            refine ⟨.ref a, rfl, a, _, rfl, SqT.of e, rfl, _, _, rfl, _, _, rfl, _, _, rfl, rfl, ?_⟩
            refine ⟨_, rfl, _, rfl, _, rfl, _, ds, rfl, h3, ad, ld, fun p H1 s1 t1 => ⟨(by show 3 ≤ sizeLine; decide), fun t nt => ?_⟩⟩
            exact q t _ (same_add s1 nt) (.tup upd_same (.cons (.int sn) (.cons (.str nm) (.cons (t1.mono (Tk.new nt)) .nil))))
end
end KB

namespace KB
open PySem PySem.Spec PyProof.Rows L2 KA
section
variable {P : Program} {w : World} {K : PySem.W.Frag} {mg : Str → Option Value} {base : Heap}
/-! ### _law_before, _law_order -/
abbrev sBF : Stmt := topS 18
theorem scBF : FnScope ["first", "second"] ["first", "second"] (defScope sBF) := ⟨rfl, rfl, rfl, by decide +kernel, rfl, by decide +kernel, by decide +kernel⟩
def spBF : Sp := fun vs H Q _ => ∃ (v u : V) (d e : PyData), vs = [v, u] ∧ Tp H v d ∧ Tp H u e ∧ isAtom d ∧ isAtom e ∧ Q (.bl (bf d e)) H
theorem ok_bf {f : Addr} {fd : FuncData} (F : Fun K "_law_before" "_law_before" sBF f fd) (B : Bt mg) : FnOk P w K mg base CX0 1 f fd ["first", "second"] spBF := by
  refine F.ok scBF (fun vs H Q E h => ?_) (fun cdv A outer s H vs Q E hr h => ?_)
  · obtain ⟨v, u, d, e, rfl, _⟩ := h
    rfl
  · obtain ⟨v, u, d, e, rfl, tv, tu, ad, ae, q⟩ := h
    refine ⟨_, pss_cons (ps_if (pt_cmpR op_ne (pe_callB call_isi (by rfl) B.isi (by decide +kernel) (pa_cons (pv 0) (pa_cons (pe_bltn (v := .ty "str") (u := .type "str") (by rfl) B.str (by decide +kernel) rfl) pa_nil)))
          (pe_callB call_isi (by rfl) B.isi (by decide +kernel) (pa_cons (pv 1) (pa_cons (pe_bltn (v := .ty "str") (u := .type "str") (by rfl) B.str (by decide +kernel) rfl) pa_nil))) (nomark _))
        (pss_one (ps_ret (pe_callB call_isi (by rfl) B.isi (by decide +kernel) (pa_cons (pv 1) (pa_cons (pe_bltn (v := .ty "str") (u := .type "str") (by rfl) B.str (by decide +kernel) rfl) pa_nil))))) pss_nil)
      (pss_one (ps_ret (pe_cmpR (op_ltP hr.units) (pv 0) (pv 1) (nomark _)))), ?_⟩
    cases tv with
    | int i =>
      cases tu with
      | int j =>
        refine ⟨.int i, rfl, .int i, .ty "str", _, _, false, rfl, .ty "str", .base (.int i), kit_ty (by decide +kernel), .int j, rfl, .int j, .ty "str", _, _, false, rfl, .ty "str", .base (.int j), kit_ty (by decide +kernel), rfl, _, rfl, iteF ?_⟩
        exact ⟨_, rfl, _, rfl, .int i, .int j, _, .int i, .int j, Nat.zero_le _, rfl, q⟩
      | str z =>
        refine ⟨.int i, rfl, .int i, .ty "str", _, _, false, rfl, .ty "str", .base (.int i), kit_ty (by decide +kernel), .str z, rfl, .str z, .ty "str", _, _, true, rfl, .ty "str", .base (.str z), kit_ty (by decide +kernel), rfl, _, rfl, iteT ?_⟩
        exact ⟨.str z, rfl, .str z, .ty "str", _, _, true, rfl, .ty "str", .base (.str z), kit_ty (by decide +kernel), q⟩
      | non => exact ae.elim
      | bl b => exact ae.elim
      | tup e r => exact ae.elim
    | str y =>
      cases tu with
      | int j =>
        refine ⟨.str y, rfl, .str y, .ty "str", _, _, true, rfl, .ty "str", .base (.str y), kit_ty (by decide +kernel), .int j, rfl, .int j, .ty "str", _, _, false, rfl, .ty "str", .base (.int j), kit_ty (by decide +kernel), rfl, _, rfl, iteT ?_⟩
        exact ⟨.int j, rfl, .int j, .ty "str", _, _, false, rfl, .ty "str", .base (.int j), kit_ty (by decide +kernel), q⟩
      | str z =>
        refine ⟨.str y, rfl, .str y, .ty "str", _, _, true, rfl, .ty "str", .base (.str y), kit_ty (by decide +kernel), .str z, rfl, .str z, .ty "str", _, _, true, rfl, .ty "str", .base (.str z), kit_ty (by decide +kernel), rfl, _, rfl, iteF ?_⟩
        exact ⟨_, rfl, _, rfl, .str y, .str z, _, .str y, .str z, Nat.zero_le _, rfl, q⟩
      | non => exact ae.elim
      | bl b => exact ae.elim
      | tup e r => exact ae.elim
    | non => exact ad.elim
    | bl b => exact ad.elim
    | tup e r => exact ad.elim
abbrev dBF (P : Program) (w : World) (K : PySem.W.Frag) (mg : Str → Option Value) (base : Heap) : Prop := Def P w K mg base "_law_before" 1 ["first", "second"] spBF
abbrev sOR : Stmt := topS 19
theorem scOR : FnScope ["first", "second", "k"] ["first", "second"] (defScope sOR) := ⟨rfl, rfl, rfl, by decide +kernel, rfl, by decide +kernel, by decide +kernel⟩
def spOR : Sp := fun vs H Q _ => ∃ (v u : V) (ds es : List PyData), vs = [v, u] ∧ Tp H v (.tuple ds) ∧ Tp H u (.tuple es) ∧ Atoms ds ∧ Atoms es ∧ ds.length ≤ 1000 ∧ es.length ≤ 1000 ∧ Q (.int (rord ds es)) H
theorem rord_end : ∀ {ds es : List PyData}, min ds.length es.length = 0 → rord ds es = (if es.length < ds.length then (1 : Int) else 0) - (if ds.length < es.length then (1 : Int) else 0)
  | [], [], _ => rfl
  | [], e :: r, _ => by
    rw [rord, if_neg (by simp), if_pos (by simp)]
    rfl
  | d :: r, [], _ => by
    rw [rord, if_pos (by simp), if_neg (by simp)]
    rfl
  | d :: r, e :: t, h => by
    simp only [List.length_cons] at h
    omega
theorem drop_get {α : Type} {l : List α} {i : Nat} {x : α} (h : l[i]? = some x) : l.drop i = x :: l.drop (i + 1) := by
  obtain ⟨h1, h2⟩ := List.getElem?_eq_some_iff.mp h
  rw [List.drop_eq_getElem_cons h1, h2]
theorem ok_or {f : Addr} {fd : FuncData} (F : Fun K "_law_order" "_law_order" sOR f fd) (B : Bt mg) (DB : dBF P w K mg base) : FnOk P w K mg base CX0 2 f fd ["first", "second"] spOR := by
  refine F.ok scOR (fun vs H Q E h => ?_) (fun cdv A outer s H vs Q E hr h => ?_)
  · obtain ⟨v, u, d, e, rfl, _⟩ := h
    rfl
  · obtain ⟨v, u, ds, es, rfl, tv, tu, ad, ae, ld, le, q⟩ := h
    refine ⟨_, pss_cons (ps_for PassesOwn.never rfl (pi_range1 (by rfl) B.rng (pa_cons (pe_callB (call_min2 rfl) (by rfl) B.min (by decide +kernel) (pa_cons (pe_callB call_len_seq (by rfl) B.len PySem.boot_len (pa_cons (pv 0) pa_nil)) (pa_cons (pe_callB call_len_seq (by rfl) B.len PySem.boot_len (pa_cons (pv 1) pa_nil)) pa_nil))) pa_nil))
          (pg_name (i := 2) scOR.nd rfl (.inl rfl))
          (pss_cons (ps_if (pt_val (pe_def DB hr (by rfl) (pa_cons (pe_ix ix_tup (pv 0) (pv 2) (fun _ _ => rfl)) (pa_cons (pe_ix ix_tup (pv 1) (pv 2) (fun _ _ => rfl)) pa_nil)))) (pss_one (ps_ret (pe_un un_neg pe_int))) pss_nil)
          (pss_one (ps_if (pt_val (pe_def DB hr (by rfl) (pa_cons (pe_ix ix_tup (pv 1) (pv 2) (fun _ _ => rfl)) (pa_cons (pe_ix ix_tup (pv 0) (pv 2) (fun _ _ => rfl)) pa_nil)))) (pss_one (ps_ret pe_int)) pss_nil))))
      (pss_one (ps_ret (pe_op op_sub (pe_callTy call_int1 (by rfl) B.int (by decide +kernel) (pa_cons (pe_cmpR op_gt (pe_callB call_len_seq (by rfl) B.len PySem.boot_len (pa_cons (pv 0) pa_nil)) (pe_callB call_len_seq (by rfl) B.len PySem.boot_len (pa_cons (pv 1) pa_nil)) (nomark _)) pa_nil))
        (pe_callTy call_int1 (by rfl) B.int (by decide +kernel) (pa_cons (pe_cmpR op_lt (pe_callB call_len_seq (by rfl) B.len PySem.boot_len (pa_cons (pv 0) pa_nil)) (pe_callB call_len_seq (by rfl) B.len PySem.boot_len (pa_cons (pv 1) pa_nil)) (nomark _)) pa_nil))))), ?_⟩
    cases tv with
    | @tup a xs _ ea ra =>
      cases tu with
      | @tup b ys _ eb rb =>
        have lx := ra.length
        have ly := rb.length
        refine ⟨.ref a, rfl, a, xs, rfl, .inr (SqT.of ea), .ref b, rfl, b, ys, rfl, .inr (SqT.of eb), (xs.length : Int), (ys.length : Int), rfl, ?_⟩
        have em : (if (ys.length : Int) < (xs.length : Int) then (ys.length : Int) else (xs.length : Int)) = ((min ds.length es.length : Nat) : Int) := by
          rw [lx, ly]
          by_cases c : es.length < ds.length
          · rw [if_pos (by omega), Nat.min_eq_right (by omega)]
          · rw [if_neg (by omega), Nat.min_eq_left (by omega)]
        refine ⟨_, rfl, by rw [em]; omega, by rw [em]; omega, ?_⟩
        rw [em]
        refine for_range (lo := 0) (n := (((min ds.length es.length : Nat) : Int)).toNat) (fun i σ H' => H' = H ∧ rord ds es = rord (ds.drop i) (es.drop i) ∧ ∃ x2, σ = [some (.ref a), some (.ref b), x2]) ⟨rfl, rfl, none, rfl⟩ (fun i σ H' hi hP => ?_) (fun σ H' hP => ?_)
        · obtain ⟨rfl, ro, x2, rfl⟩ := hP
          rw [Int.toNat_natCast] at hi
          have i1 : i < ds.length := by omega
          have i2 : i < es.length := by omega
          have g1 := List.getElem?_eq_getElem i1
          have g2 := List.getElem?_eq_getElem i2
          obtain ⟨x, ex, tx⟩ := ra.at_ g1
          obtain ⟨y, ey, ty⟩ := rb.at_ g2
          have ax := ad _ (List.mem_of_getElem? g1)
          have ay := ae _ (List.mem_of_getElem? g2)
          have e0 : (0 : Int) + (i : Int) = ((i : Nat) : Int) := Int.zero_add _
          rw [drop_get g1, drop_get g2, rord] at ro
          refine ⟨.ref a, rfl, .int (0 + i), rfl, a, xs, 0 + i, x, rfl, rfl, SqT.of ea, at_of e0 ex, .ref b, rfl, .int (0 + i), rfl, b, ys, 0 + i, y, rfl, rfl, SqT.of eb, at_of e0 ey, x, y, _, _, rfl, tx, ty, ax, ay, _, rfl, ite2 (fun c => ?_) (fun c => ?_)⟩
          · rw [if_pos c] at ro
            rw [ro] at q
            exact ⟨1, rfl, q⟩
          · rw [if_neg c] at ro
            refine ⟨.ref b, rfl, .int (0 + i), rfl, b, ys, 0 + i, y, rfl, rfl, SqT.of eb, at_of e0 ey, .ref a, rfl, .int (0 + i), rfl, a, xs, 0 + i, x, rfl, rfl, SqT.of ea, at_of e0 ex, y, x, _, _, rfl, ty, tx, ay, ax, _, rfl, ite2 (fun c2 => ?_) (fun c2 => ?_)⟩
            · rw [if_pos c2] at ro
              rw [ro] at q
              exact q
            · rw [if_neg c2] at ro
              exact ⟨rfl, ro, _, rfl⟩
        · obtain ⟨rfl, ro, x2, rfl⟩ := hP
          rw [Int.toNat_natCast] at ro
          have re := rord_end (ds := ds.drop (min ds.length es.length)) (es := es.drop (min ds.length es.length)) (by
            rw [List.length_drop, List.length_drop]
            omega)
          rw [← ro] at re
          have q2 : (if es.length < ds.length then (1 : Int) else 0) - (if ds.length < es.length then (1 : Int) else 0) = rord ds es := by
            rw [re, List.length_drop, List.length_drop]
            clear re ro em
            (repeat' split) <;> omega
          refine ⟨.ref a, rfl, a, xs, rfl, .inr (SqT.of ea), .ref b, rfl, b, ys, rfl, .inr (SqT.of eb), _, _, rfl, rfl, .inr ⟨_, rfl, ?_⟩⟩
          refine ⟨.ref a, rfl, a, xs, rfl, .inr (SqT.of ea), .ref b, rfl, b, ys, rfl, .inr (SqT.of eb), _, _, rfl, rfl, .inr ⟨_, rfl, ?_⟩⟩
          refine ⟨_, _, rfl, rfl, ?_⟩
          have e1 : (if decide ((ys.length : Int) < (xs.length : Int)) = true then (1 : Int) else 0) = (if es.length < ds.length then (1 : Int) else 0) := by
            rw [lx, ly]
            by_cases c : es.length < ds.length
            · rw [if_pos c, decide_eq_true (show (es.length : Int) < ds.length by omega), if_pos rfl]
            · rw [if_neg c, decide_eq_false (show ¬ (es.length : Int) < ds.length by omega), if_neg Bool.false_ne_true]
          have e2 : (if decide ((xs.length : Int) < (ys.length : Int)) = true then (1 : Int) else 0) = (if ds.length < es.length then (1 : Int) else 0) := by
            rw [lx, ly]
            by_cases c : ds.length < es.length
            · rw [if_pos c, decide_eq_true (show (ds.length : Int) < es.length by omega), if_pos rfl]
            · rw [if_neg c, decide_eq_false (show ¬ (ds.length : Int) < es.length by omega), if_neg Bool.false_ne_true]
          rw [e1, e2]
          rw [← q2] at q
          exact q
abbrev dOR (P : Program) (w : World) (K : PySem.W.Frag) (mg : Str → Option Value) (base : Heap) : Prop := Def P w K mg base "_law_order" 2 ["first", "second"] spOR
/-! ### _law_key -/
abbrev sLK : Stmt := topS 20
theorem scLK : FnScope ["item", "sort"] ["item"] (defScope sLK) := ⟨rfl, rfl, rfl, by decide +kernel, rfl, by decide +kernel, by decide +kernel⟩
theorem ok_lk {f : Addr} {fd : FuncData} (F : Fun K "_law_key" "_law_key" sLK f fd) : FnOk P w K mg base CX0 1 f fd ["item"] spKO := by
  refine F.ok scLK (fun vs H Q E h => ?_) (fun cdv A outer s H vs Q E hr h => ?_)
  · obtain ⟨p, d, rfl, _⟩ := h
    rfl
  · obtain ⟨p, d, rfl, ik, q⟩ := h
    refine ⟨_, pss_cons (ps_set (i := 1) scLK.nd rfl (.inl rfl) (pe_bm PySem.F.plainAttrs_list PySem.F.slot_list_index PySem.F.type_list_index mt_index (pe_lst (pa_cons pe_str (pa_cons pe_str (pa_cons pe_str (pa_cons pe_str pa_nil))))) (pa_cons (pe_ix ix_tup (pv 0) pe_int (fun _ _ => rfl)) pa_nil)))
      (pss_cons (ps_if (pt_cmpR op_eq (pv 1) pe_int (nomark _)) (pss_one (ps_ret (pe_tup (pa_cons pe_int (pa_cons (pe_ix ix_tup (pv 0) pe_int (fun _ _ => rfl)) (pa_cons (pe_ix ix_tup (pv 0) pe_int (fun _ _ => rfl)) pa_nil)))))) pss_nil)
      (pss_one (ps_ret (pe_tup (pa_cons (pv 1) (pa_cons (pe_ix ix_tup (pv 0) pe_int (fun _ _ => rfl)) (pa_cons (pe_tup pa_nil) pa_nil))))))), ?_⟩
    have s3 : 3 ≤ sizeLine := by decide
    have s4 : 4 ≤ sizeLine := by decide
    refine ⟨s4, fun l nl => ⟨.inl ⟨rfl, _, SqL.of upd_same⟩, ?_⟩⟩
    have k1 : Tk H (upd H l (.lst [.str "relation", .str "fact", .str "rule", .str "denial"])) := Tk.new nl
    have s1 : Same H (upd H l (.lst [.str "relation", .str "fact", .str "rule", .str "denial"])) := same_new nl
    cases ik with
    | rel nm n e =>
      have e1 := k1 _ _ e
      refine ⟨.ref p, rfl, p, _, 0, .str "relation", rfl, rfl, SqT.of e1, rfl, l, _, _, 0, .str "relation", rfl, rfl, SqL.of upd_same, rfl, rfl, rfl, by decide +kernel, fun m z hm hz => absurd hm (Nat.not_lt_zero m), ?_⟩
      refine ⟨_, rfl, rfl, _, rfl, no_if (by decide +kernel) ?_⟩
      refine ⟨_, rfl, .ref p, rfl, p, _, 1, .str nm, rfl, rfl, SqT.of e1, rfl, Nat.zero_le _, fun t nt => ⟨s3, fun r nr => ?_⟩⟩
      exact q r _ (same_add (same_add s1 nt) nr) (.tup upd_same (.cons (.int 0) (.cons (.str nm) (.cons (.tup (by rw [upd_ne (ne_of_none upd_same nr)]; exact upd_same) .nil) .nil))))
    | fact nm qa ds e tq aq _ =>
      have e1 := k1 _ _ e
      refine ⟨.ref p, rfl, p, _, 0, .str "fact", rfl, rfl, SqT.of e1, rfl, l, _, _, 1, .str "fact", rfl, rfl, SqL.of upd_same, rfl, rfl, rfl, by decide +kernel, fun m z hm hz => ?_, ?_⟩
      · match m, hm with
        | 0, _ =>
          cases hz
          decide +kernel
      refine ⟨_, rfl, rfl, _, rfl, yes_if ?_⟩
      refine ⟨.ref p, rfl, p, _, 1, .str nm, rfl, rfl, SqT.of e1, rfl, .ref p, rfl, p, _, 2, .ref qa, rfl, rfl, SqT.of e1, rfl, s3, fun r nr => ?_⟩
      exact q r _ (same_add s1 nr) (.tup upd_same (.cons (.int 1) (.cons (.str nm) (.cons ((tq.mono k1).mono (Tk.new nr)) .nil))))
    | rule nm a b c e =>
      have e1 := k1 _ _ e
      refine ⟨.ref p, rfl, p, _, 0, .str "rule", rfl, rfl, SqT.of e1, rfl, l, _, _, 2, .str "rule", rfl, rfl, SqL.of upd_same, rfl, rfl, rfl, by decide +kernel, fun m z hm hz => ?_, ?_⟩
      · match m, hm with
        | 0, _ =>
          cases hz
          decide +kernel
        | 1, _ =>
          cases hz
          decide +kernel
      refine ⟨_, rfl, rfl, _, rfl, no_if (by decide +kernel) ?_⟩
      refine ⟨_, rfl, .ref p, rfl, p, _, 1, .str nm, rfl, rfl, SqT.of e1, rfl, Nat.zero_le _, fun t nt => ⟨s3, fun r nr => ?_⟩⟩
      exact q r _ (same_add (same_add s1 nt) nr) (.tup upd_same (.cons (.int 2) (.cons (.str nm) (.cons (.tup (by rw [upd_ne (ne_of_none upd_same nr)]; exact upd_same) .nil) .nil))))
    | den nm b e =>
      have e1 := k1 _ _ e
      refine ⟨.ref p, rfl, p, _, 0, .str "denial", rfl, rfl, SqT.of e1, rfl, l, _, _, 3, .str "denial", rfl, rfl, SqL.of upd_same, rfl, rfl, rfl, by decide +kernel, fun m z hm hz => ?_, ?_⟩
      · match m, hm with
        | 0, _ =>
          cases hz
          decide +kernel
        | 1, _ =>
          cases hz
          decide +kernel
        | 2, _ =>
          cases hz
          decide +kernel
      refine ⟨_, rfl, rfl, _, rfl, no_if (by decide +kernel) ?_⟩
      refine ⟨_, rfl, .ref p, rfl, p, _, 1, .str nm, rfl, rfl, SqT.of e1, rfl, Nat.zero_le _, fun t nt => ⟨s3, fun r nr => ?_⟩⟩
      exact q r _ (same_add (same_add s1 nt) nr) (.tup upd_same (.cons (.int 3) (.cons (.str nm) (.cons (.tup (by rw [upd_ne (ne_of_none upd_same nr)]; exact upd_same) .nil) .nil))))
end
end KB

namespace KB
open PySem PySem.Spec PyProof.Rows L2 KA
/-! ### the mathematics of the orders -/
theorem eqv_str (x y : Str) : PyData.eqv (.str x) (.str y) = decide (x = y) := by
  show (x == y) = decide (x = y)
  rw [← dec_str]
  by_cases c : x = y
  · subst c
    rw [decide_eq_true rfl, decide_eq_true rfl]
  · rw [decide_eq_false c, decide_eq_false (fun z => c (V.str.inj z))]
theorem eqv_int (x y : Int) : PyData.eqv (.int x) (.int y) = decide (x = y) := by
  show (x == y) = decide (x = y)
  rfl
theorem str_eq {x y : Str} (h : x.cps.toList = y.cps.toList) : x = y := by
  have hc : x.cps = y.cps := Array.toList_inj.mp h
  cases x
  cases y
  exact congrArg Str.mk hc
theorem str_tri (x y : Str) : (x.cps.toList < y.cps.toList ∧ ¬ y.cps.toList < x.cps.toList ∧ x ≠ y) ∨ (¬ x.cps.toList < y.cps.toList ∧ y.cps.toList < x.cps.toList ∧ x ≠ y) ∨ (x = y ∧ ¬ x.cps.toList < y.cps.toList ∧ ¬ y.cps.toList < x.cps.toList) := by
  by_cases h1 : x.cps.toList < y.cps.toList
  · refine .inl ⟨h1, List.lt_asymm h1, fun z => ?_⟩
    subst z
    exact List.lt_irrefl _ h1
  · by_cases h2 : y.cps.toList < x.cps.toList
    · refine .inr (.inl ⟨h1, h2, fun z => ?_⟩)
      subst z
      exact List.lt_irrefl _ h2
    · exact .inr (.inr ⟨str_eq (List.le_antisymm (List.not_lt.mp h2) (List.not_lt.mp h1)), h1, h2⟩)
/-- two atoms: less, greater, the same; and their keys -/
theorem atom_cmp : ∀ {d e : PyData}, isAtom d → isAtom e →
    (bf d e = true ∧ bf e d = false ∧ PyData.eqv (vk d) (vk e) = false ∧ dlt (vk d) (vk e) = some true ∧ dgt (vk d) (vk e) = some false) ∨
    (bf d e = false ∧ bf e d = true ∧ PyData.eqv (vk d) (vk e) = false ∧ dlt (vk d) (vk e) = some false ∧ dgt (vk d) (vk e) = some true) ∨
    (bf d e = false ∧ bf e d = false ∧ PyData.eqv (vk d) (vk e) = true ∧ dlt (vk d) (vk e) = some false ∧ dgt (vk d) (vk e) = some false)
  | .int a, .int b, _, _ => by
    rcases Int.lt_trichotomy a b with c | c | c
    · refine .inl ⟨decide_eq_true c, decide_eq_false (by omega), ?_, ?_, ?_⟩
      · simp [vk, PyData.eqv, PyData.eqvAll]
        omega
      · have n : ¬ a = b := by omega
        simp [vk, dlt, dltAll, PyData.eqv, c, n]
      · have n : ¬ a = b := by omega
        have n2 : ¬ b < a := by omega
        simp [vk, dgt, dgtAll, PyData.eqv, n, n2]
    · subst c
      refine .inr (.inr ⟨decide_eq_false (by omega), decide_eq_false (by omega), ?_, ?_, ?_⟩)
      · simp [vk, PyData.eqv, PyData.eqvAll]
      · simp [vk, dlt, dltAll, PyData.eqv]
      · simp [vk, dgt, dgtAll, PyData.eqv]
    · refine .inr (.inl ⟨decide_eq_false (by omega), decide_eq_true c, ?_, ?_, ?_⟩)
      · simp [vk, PyData.eqv, PyData.eqvAll]
        omega
      · have n : ¬ a = b := by omega
        have n2 : ¬ a < b := by omega
        simp [vk, dlt, dltAll, PyData.eqv, n, n2]
      · have n : ¬ a = b := by omega
        simp [vk, dgt, dgtAll, PyData.eqv, n, c]
  | .int a, .str z, _, _ => .inl ⟨rfl, rfl, by simp [vk, PyData.eqv, PyData.eqvAll], by simp [vk, dlt, dltAll, PyData.eqv], by simp [vk, dgt, dgtAll, PyData.eqv]⟩
  | .str z, .int a, _, _ => .inr (.inl ⟨rfl, rfl, by simp [vk, PyData.eqv, PyData.eqvAll], by simp [vk, dlt, dltAll, PyData.eqv], by simp [vk, dgt, dgtAll, PyData.eqv]⟩)
  | .str x, .str y, _, _ => by
    rcases str_tri x y with ⟨h1, h2, h3⟩ | ⟨h1, h2, h3⟩ | ⟨h3, h1, h2⟩
    · refine .inl ⟨decide_eq_true h1, decide_eq_false h2, ?_, ?_, ?_⟩
      · simp only [vk, PyData.eqv, PyData.eqvAll]
        rw [show (x == y) = false from (eqv_str x y).trans (decide_eq_false h3)]
        rfl
      · simp only [vk, dlt, dltAll, eqv_str, eqv_int, decide_eq_false h3, decide_eq_true h1]
        rfl
      · simp only [vk, dgt, dgtAll, eqv_str, eqv_int, decide_eq_false h3, decide_eq_false h2]
        rfl
    · refine .inr (.inl ⟨decide_eq_false h1, decide_eq_true h2, ?_, ?_, ?_⟩)
      · simp only [vk, PyData.eqv, PyData.eqvAll]
        rw [show (x == y) = false from (eqv_str x y).trans (decide_eq_false h3)]
        rfl
      · simp only [vk, dlt, dltAll, eqv_str, eqv_int, decide_eq_false h3, decide_eq_false h1]
        rfl
      · simp only [vk, dgt, dgtAll, eqv_str, eqv_int, decide_eq_false h3, decide_eq_true h2]
        rfl
    · subst h3
      refine .inr (.inr ⟨decide_eq_false h1, decide_eq_false h1, ?_, ?_, ?_⟩)
      · simp only [vk, PyData.eqv, PyData.eqvAll]
        rw [show (x == x) = true from (eqv_str x x).trans (decide_eq_true rfl)]
        rfl
      · simp only [vk, dlt, dltAll, eqv_str, eqv_int, decide_true]
        rfl
      · simp only [vk, dgt, dgtAll, eqv_str, eqv_int, decide_true]
        rfl
/-- what _law_agrees asks of two keys and a number -/
def Agree (d e : PyData) (o : Int) : Prop := dlt d e = some (decide (o < 0)) ∧ PyData.eqv d e = decide (o = 0) ∧ dgt d e = some (decide (0 < o))
theorem atom_agree {d e : PyData} (hd : isAtom d) (he : isAtom e) : Agree (vk d) (vk e) (rord [d] [e]) := by
  rcases atom_cmp hd he with ⟨h1, h2, h3, h4, h5⟩ | ⟨h1, h2, h3, h4, h5⟩ | ⟨h1, h2, h3, h4, h5⟩
  · have o : rord [d] [e] = -1 := by rw [rord, if_pos h1]
    rw [o]
    exact ⟨h4, h3, h5⟩
  · have o : rord [d] [e] = 1 := by rw [rord, if_neg (by rw [h1]; exact Bool.false_ne_true), if_pos h2]
    rw [o]
    exact ⟨h4, h3, h5⟩
  · have o : rord [d] [e] = 0 := by
      rw [rord, if_neg (by rw [h1]; exact Bool.false_ne_true), if_neg (by rw [h2]; exact Bool.false_ne_true)]
      rfl
    rw [o]
    exact ⟨h4, h3, h5⟩
theorem row_agree_all : ∀ {ds es : List PyData}, Atoms ds → Atoms es → dltAll (ds.map vk) (es.map vk) = some (decide (rord ds es < 0)) ∧ PyData.eqvAll (ds.map vk) (es.map vk) = decide (rord ds es = 0) ∧ dgtAll (ds.map vk) (es.map vk) = some (decide (0 < rord ds es))
  | [], [], _, _ => by
    refine ⟨?_, ?_, ?_⟩
    · rw [List.map_nil, dltAll]; rfl
    · rfl
    · rw [List.map_nil, dgtAll]; rfl
  | [], e :: r, _, _ => by
    refine ⟨?_, ?_, ?_⟩
    · rw [List.map_nil, List.map_cons, dltAll]; rfl
    · rfl
    · rw [List.map_nil, List.map_cons, dgtAll]; rfl
  | d :: r, [], _, _ => by
    refine ⟨?_, ?_, ?_⟩
    · rw [List.map_nil, List.map_cons, dltAll]; rfl
    · rfl
    · rw [List.map_nil, List.map_cons, dgtAll]; rfl
  | d :: r, e :: t, hd, he => by
    have ih := row_agree_all (ds := r) (es := t) (fun x hx => hd x (List.mem_cons_of_mem _ hx)) (fun x hx => he x (List.mem_cons_of_mem _ hx))
    rw [List.map_cons, List.map_cons, dltAll, dgtAll, PyData.eqvAll, rord]
    rcases atom_cmp (hd d List.mem_cons_self) (he e List.mem_cons_self) with ⟨h1, h2, h3, h4, h5⟩ | ⟨h1, h2, h3, h4, h5⟩ | ⟨h1, h2, h3, h4, h5⟩
    · rw [h1, h3, h4, h5]
      exact ⟨rfl, rfl, rfl⟩
    · rw [h1, h2, h3, h4, h5]
      exact ⟨rfl, rfl, rfl⟩
    · rw [h1, h2, h3, if_neg Bool.false_ne_true, if_neg Bool.false_ne_true, if_pos rfl, if_pos rfl, Bool.true_and]
      exact ih
theorem row_agree {ds es : List PyData} (hd : Atoms ds) (he : Atoms es) : Agree (.tuple (ds.map vk)) (.tuple (es.map vk)) (rord ds es) := by
  obtain ⟨h1, h2, h3⟩ := row_agree_all hd he
  refine ⟨?_, ?_, ?_⟩
  · rw [dlt]
    exact h1
  · exact h2
  · rw [dgt]
    exact h3
theorem pair_eqv (s : Int) (nm : Str) (s2 : Int) (nm2 : Str) : PyData.eqv (.tuple [.int s, .str nm]) (.tuple [.int s2, .str nm2]) = decide (s = s2 ∧ nm = nm2) := by
  show (PyData.eqv (.int s) (.int s2) && (PyData.eqv (.str nm) (.str nm2) && true)) = _
  rw [eqv_int, eqv_str, Bool.and_true, Bool.decide_and]
theorem pair_dlt {s : Int} {nm : Str} {s2 : Int} {nm2 : Str} (h : ¬ (s = s2 ∧ nm = nm2)) : dlt (.tuple [.int s, .str nm]) (.tuple [.int s2, .str nm2]) = some (plt s nm s2 nm2) := by
  rw [dlt, dltAll, dltAll, eqv_int, eqv_str, plt]
  by_cases c : s = s2
  · have n : nm ≠ nm2 := fun z => h ⟨c, z⟩
    rw [decide_eq_true c, decide_eq_false n, if_pos rfl, if_neg Bool.false_ne_true, if_pos c, dlt]
  · rw [decide_eq_false c, if_neg Bool.false_ne_true, if_neg c, dlt]
theorem key_agree {s : Int} {nm : Str} {ds : List PyData} {s2 : Int} {nm2 : Str} {es : List PyData} (hd : Atoms ds) (he : Atoms es) : Agree (kd s nm (ds.map vk)) (kd s2 nm2 (es.map vk)) (kord s nm ds s2 nm2 es) := by
  obtain ⟨h1, h2, h3⟩ := row_agree hd he
  unfold kord
  by_cases c : s = s2
  · subst c
    by_cases n : nm = nm2
    · subst n
      rw [if_pos ⟨rfl, rfl⟩]
      refine ⟨?_, ?_, ?_⟩
      · unfold kd
        rw [dlt, dltAll, dltAll, dltAll, dltAll, eqv_int, eqv_str, decide_eq_true rfl, decide_eq_true rfl, if_pos rfl, if_pos rfl, h1, h2]
        by_cases z : rord ds es = 0
        · rw [decide_eq_true z, if_pos rfl, z]
          rfl
        · rw [decide_eq_false z, if_neg Bool.false_ne_true]
      · show (PyData.eqv (.int s) (.int s) && (PyData.eqv (.str nm) (.str nm) && (PyData.eqv (.tuple (ds.map vk)) (.tuple (es.map vk)) && true))) = _
        rw [eqv_int, eqv_str, decide_eq_true rfl, decide_eq_true rfl, h2, Bool.true_and, Bool.true_and, Bool.and_true]
      · unfold kd
        rw [dgt, dgtAll, dgtAll, dgtAll, dgtAll, eqv_int, eqv_str, decide_eq_true rfl, decide_eq_true rfl, if_pos rfl, if_pos rfl, h3, h2]
        by_cases z : rord ds es = 0
        · rw [decide_eq_true z, if_pos rfl, z]
          rfl
        · rw [decide_eq_false z, if_neg Bool.false_ne_true]
    · rw [if_neg (fun z => n z.2)]
      have dn := decide_eq_false n
      rcases str_tri nm nm2 with ⟨g1, g2, g3⟩ | ⟨g1, g2, g3⟩ | ⟨g3, g1, g2⟩
      · have pl : plt s nm s nm2 = true := by rw [plt, if_pos rfl, decide_eq_true g1]
        rw [pl, if_pos rfl]
        refine ⟨?_, ?_, ?_⟩
        · unfold kd
          rw [dlt, dltAll, dltAll, eqv_int, eqv_str, decide_eq_true rfl, dn, if_pos rfl, if_neg Bool.false_ne_true, dlt, decide_eq_true g1]
          rfl
        · show (PyData.eqv (.int s) (.int s) && (PyData.eqv (.str nm) (.str nm2) && (PyData.eqv (.tuple (ds.map vk)) (.tuple (es.map vk)) && true))) = _
          rw [eqv_str, dn, Bool.false_and, Bool.and_false]
          rfl
        · unfold kd
          rw [dgt, dgtAll, dgtAll, eqv_int, eqv_str, decide_eq_true rfl, dn, if_pos rfl, if_neg Bool.false_ne_true, dgt, decide_eq_false g2]
          rfl
      · have pl : plt s nm s nm2 = false := by rw [plt, if_pos rfl, decide_eq_false g1]
        rw [pl, if_neg Bool.false_ne_true]
        refine ⟨?_, ?_, ?_⟩
        · unfold kd
          rw [dlt, dltAll, dltAll, eqv_int, eqv_str, decide_eq_true rfl, dn, if_pos rfl, if_neg Bool.false_ne_true, dlt, decide_eq_false g1]
          rfl
        · show (PyData.eqv (.int s) (.int s) && (PyData.eqv (.str nm) (.str nm2) && (PyData.eqv (.tuple (ds.map vk)) (.tuple (es.map vk)) && true))) = _
          rw [eqv_str, dn, Bool.false_and, Bool.and_false]
          rfl
        · unfold kd
          rw [dgt, dgtAll, dgtAll, eqv_int, eqv_str, decide_eq_true rfl, dn, if_pos rfl, if_neg Bool.false_ne_true, dgt, decide_eq_true g2]
          rfl
      · exact absurd g3 n
  · rw [if_neg (fun z => c z.1)]
    have dc := decide_eq_false c
    rcases Int.lt_or_gt_of_ne c with g1 | g1
    · have pl : plt s nm s2 nm2 = true := by rw [plt, if_neg c, decide_eq_true g1]
      rw [pl, if_pos rfl]
      refine ⟨?_, ?_, ?_⟩
      · unfold kd
        rw [dlt, dltAll, eqv_int, dc, if_neg Bool.false_ne_true, dlt, decide_eq_true g1]
        rfl
      · show (PyData.eqv (.int s) (.int s2) && (PyData.eqv (.str nm) (.str nm2) && (PyData.eqv (.tuple (ds.map vk)) (.tuple (es.map vk)) && true))) = _
        rw [eqv_int, dc, Bool.false_and]
        rfl
      · unfold kd
        rw [dgt, dgtAll, eqv_int, dc, if_neg Bool.false_ne_true, dgt, decide_eq_false (by omega)]
        rfl
    · have pl : plt s nm s2 nm2 = false := by rw [plt, if_neg c, decide_eq_false (by omega)]
      rw [pl, if_neg Bool.false_ne_true]
      refine ⟨?_, ?_, ?_⟩
      · unfold kd
        rw [dlt, dltAll, eqv_int, dc, if_neg Bool.false_ne_true, dlt, decide_eq_false (by omega)]
        rfl
      · show (PyData.eqv (.int s) (.int s2) && (PyData.eqv (.str nm) (.str nm2) && (PyData.eqv (.tuple (ds.map vk)) (.tuple (es.map vk)) && true))) = _
        rw [eqv_int, dc, Bool.false_and]
        rfl
      · unfold kd
        rw [dgt, dgtAll, eqv_int, dc, if_neg Bool.false_ne_true, dgt, decide_eq_true (show s > s2 from g1)]
        rfl
end KB

namespace KB
open PySem PySem.Spec PyProof.Rows L2 KA
mutual
/-- tuples of at most 1000 items, nested -/
def fit : PyData → Prop
  | .tuple ds => ds.length ≤ 1000 ∧ fitAll ds
  | _ => True
def fitAll : List PyData → Prop
  | [] => True
  | d :: r => fit d ∧ fitAll r
end
theorem fitAll_at : ∀ {ds : List PyData} {i : Nat} {d : PyData}, fitAll ds → ds[i]? = some d → fit d
  | [], _, _, _, e => by simp at e
  | _ :: _, 0, _, h, e => by
    rw [fitAll] at h
    cases e
    exact h.1
  | _ :: _, i + 1, _, h, e => by
    rw [fitAll] at h
    exact fitAll_at (i := i) h.2 e
theorem depth_at : ∀ {ds : List PyData} {i : Nat} {d : PyData}, ds[i]? = some d → d.depth ≤ PyData.depthAll ds
  | [], _, _, e => by simp at e
  | _ :: _, 0, _, e => by
    cases e
    rw [PyData.depthAll]
    exact Nat.le_max_left _ _
  | _ :: _, i + 1, _, e => by
    rw [PyData.depthAll]
    exact Nat.le_trans (depth_at (i := i) e) (Nat.le_max_right _ _)
theorem fitAll_atoms : ∀ {ds : List PyData}, Atoms ds → fitAll ds
  | [], _ => by
    rw [fitAll]
    trivial
  | d :: r, h => by
    rw [fitAll]
    refine ⟨?_, fitAll_atoms (fun x hx => h x (List.mem_cons_of_mem _ hx))⟩
    have a := h d List.mem_cons_self
    cases d with
    | int _ =>
      rw [fit]
      · trivial
      · intro ds z
        cases z
    | str _ =>
      rw [fit]
      · trivial
      · intro ds z
        cases z
    | _ => exact a.elim
section
variable {P : Program} {w : World} {K : PySem.W.Frag} {mg : Str → Option Value} {base : Heap}
theorem cut3 : ¬ (HT.sIx 3 0 none = 0 ∧ HT.sIx 3 3 (some 2) = 3) := by decide
theorem small_pair (a : Int) (z : Str) : small (.tuple [.int a, .str z]) := by
  show max 0 (max 0 0) + 1 ≤ 64
  decide
/-! ### _law_key_order -/
abbrev sLO : Stmt := topS 21
theorem scLO : FnScope ["first", "second"] ["first", "second"] (defScope sLO) := ⟨rfl, rfl, rfl, by decide +kernel, rfl, by decide +kernel, by decide +kernel⟩
def spLO : Sp := fun vs H Q _ => ∃ (v u : V) (s : Int) (nm : Str) (ds : List PyData) (s2 : Int) (nm2 : Str) (es : List PyData), vs = [v, u] ∧ Tp H v (kd s nm ds) ∧ Tp H u (kd s2 nm2 es) ∧ Atoms ds ∧ Atoms es ∧ ds.length ≤ 1000 ∧ es.length ≤ 1000 ∧
  ∀ H', Same H H' → Q (.int (kord s nm ds s2 nm2 es)) H'
theorem ok_lo {f : Addr} {fd : FuncData} (F : Fun K "_law_key_order" "_law_key_order" sLO f fd) (B : Bt mg) (DO : dOR P w K mg base) : FnOk P w K mg base CX0 3 f fd ["first", "second"] spLO := by
  refine F.ok scLO (fun vs H Q E h => ?_) (fun cdv A outer s H vs Q E hr h => ?_)
  · obtain ⟨v, u, _, _, _, _, _, _, rfl, _⟩ := h
    rfl
  · obtain ⟨v, u, a, nm, ds, b, nm2, es, rfl, tv, tu, ad, ae, ld, le, q⟩ := h
    refine ⟨_, pss_cons (ps_if (pt_cmpR (op_neP hr.units) (pe_slice sl_tup (pv 0) po_none (po_some pe_int)) (pe_slice sl_tup (pv 1) po_none (po_some pe_int)) (nomark _))
        (pss_one (ps_ret (pe_op op_sub pe_int (pe_op op_mul pe_int (pe_callTy call_int1 (by rfl) B.int (by decide +kernel) (pa_cons (pe_cmpR (op_ltP hr.units) (pe_slice sl_tup (pv 0) po_none (po_some pe_int)) (pe_slice sl_tup (pv 1) po_none (po_some pe_int)) (nomark _)) pa_nil)))))) pss_nil)
      (pss_one (ps_ret (pe_def DO hr (by rfl) (pa_cons (pe_ix ix_tup (pv 0) pe_int (fun _ _ => rfl)) (pa_cons (pe_ix ix_tup (pv 1) pe_int (fun _ _ => rfl)) pa_nil))))), ?_⟩
    cases tv with
    | @tup p xs _ e r =>
      cases r with
      | cons h1 r => cases r with
        | cons h2 r => cases r with
          | cons h3 r =>
            cases r
            cases h1
            cases h2
            cases tu with
            | @tup p2 xs2 _ e2 r =>
              cases r with
              | cons g1 r => cases r with
                | cons g2 r => cases r with
                  | cons g3 r =>
                    cases r
                    cases g1
                    cases g2
                    refine ⟨.ref p, rfl, 2, rfl, p, _, rfl, SqT.of e, cut3, fun t nt => ?_⟩
                    refine ⟨.ref p2, rfl, 2, rfl, p2, _, rfl, SqT.of (same_new nt _ _ e2), cut3, fun t2 nt2 => ?_⟩
                    have s2 := same_add (o := .tup [.int b, .str nm2]) (same_new (o := .tup [.int a, .str nm]) nt) nt2
                    refine ⟨.tuple [.int a, .str nm], .tuple [.int b, .str nm2], .tup (by rw [upd_ne (ne_of_none upd_same nt2)]; exact upd_same) (.cons (.int a) (.cons (.str nm) .nil)), .tup upd_same (.cons (.int b) (.cons (.str nm2) .nil)), small_pair a nm, _, rfl, ?_⟩
                    rw [pair_eqv]
                    by_cases c : a = b ∧ nm = nm2
                    · rw [decide_eq_true c]
                      refine iteF ?_
                      have o : kord a nm ds b nm2 es = rord ds es := by rw [kord, if_pos c]
                      refine ⟨.ref p, rfl, p, _, 2, _, rfl, rfl, SqT.of (s2 _ _ e), rfl, .ref p2, rfl, p2, _, 2, _, rfl, rfl, SqT.of (s2 _ _ e2), rfl, ?_⟩
                      refine ⟨_, _, ds, es, rfl, h3.mono (Tk.of s2), g3.mono (Tk.of s2), ad, ae, ld, le, ?_⟩
                      rw [← o]
                      exact q _ s2
                    · rw [decide_eq_false c]
                      refine iteT ?_
                      refine ⟨.ref p, rfl, 2, rfl, p, _, rfl, SqT.of (s2 _ _ e), cut3, fun t3 nt3 => ?_⟩
                      have s3 := same_add (o := .tup [.int a, .str nm]) s2 nt3
                      refine ⟨.ref p2, rfl, 2, rfl, p2, _, rfl, SqT.of (s3 _ _ e2), cut3, fun t4 nt4 => ?_⟩
                      have s4 := same_add (o := .tup [.int b, .str nm2]) s3 nt4
                      refine ⟨.tuple [.int a, .str nm], .tuple [.int b, .str nm2], _, .tup (by rw [upd_ne (ne_of_none upd_same nt4)]; exact upd_same) (.cons (.int a) (.cons (.str nm) .nil)), .tup upd_same (.cons (.int b) (.cons (.str nm2) .nil)), small_pair a nm, pair_dlt c, ?_⟩
                      refine .inr ⟨_, rfl, 2, _, rfl, rfl, .inl ⟨by decide, by decide⟩, 1, _, rfl, rfl, ?_⟩
                      have o : kord a nm ds b nm2 es = 1 - 2 * (if plt a nm b nm2 = true then 1 else 0) := by rw [kord, if_neg c]
                      have q2 := q _ s4
                      rw [o] at q2
                      exact q2
/-! ### _law_agrees -/
abbrev sAG : Stmt := topS 22
theorem scAG : FnScope ["left", "right", "order"] ["left", "right", "order"] (defScope sAG) := ⟨rfl, rfl, rfl, by decide +kernel, rfl, by decide +kernel, by decide +kernel⟩
def spAG : Sp := fun vs H Q _ => ∃ (v u : V) (ds es : List PyData) (o : Int), vs = [v, u, .int o] ∧ Tp H v (.tuple ds) ∧ Tp H u (.tuple es) ∧ small (.tuple ds) ∧ Agree (.tuple ds) (.tuple es) o ∧ ∀ H', Same H H' → Q (.bl true) H'
theorem eqv3 (a b c : Bool) : PyData.eqv (.list [.bool a, .bool b, .bool c]) (.list [.bool a, .bool b, .bool c]) = true := by
  cases a <;> cases b <;> cases c <;> rfl
theorem ok_ag {f : Addr} {fd : FuncData} (F : Fun K "_law_agrees" "_law_agrees" sAG f fd) (B : Bt mg) : FnOk P w K mg base CX0 1 f fd ["left", "right", "order"] spAG := by
  refine F.ok scAG (fun vs H Q E h => ?_) (fun cdv A outer s H vs Q E hr h => ?_)
  · obtain ⟨v, u, _, _, _, rfl, _⟩ := h
    rfl
  · obtain ⟨v, u, ds, es, o, rfl, tv, tu, sd, ⟨a1, a2, a3⟩, q⟩ := h
    refine ⟨_, pss_cons (ps_if (PW.pt (pw_or (pt_not (pt_val (pe_callB call_isi (by rfl) B.isi (by decide +kernel) (pa_cons (pv 0) (pa_cons (pe_bltn (v := .ty "tuple") (u := .type "tuple") (by rfl) B.tup (by decide +kernel) rfl) pa_nil)))))
          (pw_or1 (pt_not (pt_val (pe_callB call_isi (by rfl) B.isi (by decide +kernel) (pa_cons (pv 1) (pa_cons (pe_bltn (v := .ty "tuple") (u := .type "tuple") (by rfl) B.tup (by decide +kernel) rfl) pa_nil))))))))
        (pss_one (ps_ret pe_bl)) pss_nil)
      (pss_one (ps_ret (pe_cmpR (op_eqD hr.units) (pe_lst (pa_cons (pe_cmpR (op_ltP hr.units) (pv 0) (pv 1) (nomark _)) (pa_cons (pe_cmpR (op_eqP hr.units) (pv 0) (pv 1) (nomark _)) (pa_cons (pe_cmpR (op_gtP hr.units) (pv 0) (pv 1) (nomark _)) pa_nil))))
        (pe_lst (pa_cons (pe_cmpR op_lt (pv 2) pe_int (nomark _)) (pa_cons (pe_cmpR op_eq (pv 2) pe_int (nomark _)) (pa_cons (pe_cmpR op_gt (pv 2) pe_int (nomark _)) pa_nil)))) (nomark _)))), ?_⟩
    have tv2 := tv
    have tu2 := tu
    cases tv2 with
    | @tup p xs _ e r =>
      cases tu2 with
      | @tup p2 xs2 _ e2 r2 =>
        refine ⟨.ref p, rfl, .ref p, .ty "tuple", _, _, true, rfl, .ty "tuple", .base (.tup e), kit_ty (by decide +kernel), _, rfl, iteF ?_⟩
        refine ⟨.ref p2, rfl, .ref p2, .ty "tuple", _, _, true, rfl, .ty "tuple", .base (.tup e2), kit_ty (by decide +kernel), _, rfl, iteF ?_⟩
        have s3 : 3 ≤ sizeLine := by decide
        refine ⟨_, rfl, _, rfl, _, _, _, tv, tu, sd, a1, _, rfl, _, rfl, _, _, tv, tu, sd, _, rfl, _, rfl, _, _, _, tv, tu, sd, a3, s3, fun l nl => ?_⟩
        refine ⟨_, rfl, _, _, rfl, rfl, _, rfl, rfl, _, rfl, _, _, rfl, rfl, s3, fun m nm => ?_⟩
        refine ⟨_, _, .lst (SqL.of (by rw [upd_ne (ne_of_none upd_same nm)]; exact upd_same)) (.cons (.bl _) (.cons (.bl _) (.cons (.bl _) .nil))), .lst (SqL.of upd_same) (.cons (.bl _) (.cons (.bl _) (.cons (.bl _) .nil))), rfl, rfl, ?_⟩
        have e0 : decide (V.int o = V.int 0) = decide (o = 0) := by
          rw [dec_int]
          rfl
        have ev : PyData.eqv (.list [.bool (decide (o < 0)), .bool (PyData.eqv (.tuple ds) (.tuple es)), .bool (decide (0 < o))]) (.list [.bool (decide (o < 0)), .bool (decide (V.int o = V.int 0)), .bool (decide (0 < o))]) = true := by
          rw [a2, e0]
          exact eqv3 _ _ _
        rw [ev]
        exact q _ (same_add (same_new nl) nm)
/-! ### _law_same, of two values that read as one datum -/
abbrev sSM : Stmt := topS 8
theorem scSM : FnScope ["actual", "expected", "k"] ["actual", "expected"] (defScope sSM) := ⟨rfl, rfl, rfl, by decide +kernel, rfl, by decide +kernel, by decide +kernel⟩
def spSM (n : Nat) : Sp := fun vs H Q _ => ∃ (v u : V) (d : PyData), vs = [v, u] ∧ Tp H v d ∧ Tp H u d ∧ d.depth ≤ n ∧ fit d ∧ Q (.bl true) H
theorem eqv_refl {H : Hp} {v : V} {d : PyData} (t : Tp H v d) : PyData.eqv d d = true := SeqAt.eqv_refl_plain d t.plain
end
end KB

namespace KB
open PySem PySem.Spec PyProof.Rows L2 KA
section
variable {P : Program} {w : World} {K : PySem.W.Frag} {mg : Str → Option Value} {base : Heap}
theorem isi_no {x : V} {t c : String} {H : Hp} {A B : Prop} (ty : TyX K H x (.type t)) (k : kitB t c = some false) (h : B) :
    ∃ (y d : V) (s u : Value) (b : Bool), [x, V.ty c] = [y, d] ∧ ClsV d u ∧ TyX K H y s ∧ PySem.W.kitOne K s u = some b ∧ ∃ z, V.bl b = .bl z ∧ if z = true then A else B :=
  ⟨x, .ty c, _, _, false, rfl, .ty c, ty, kit_ty k, false, rfl, iteF h⟩
theorem isi_yes {x : V} {t c : String} {H : Hp} {A B : Prop} (ty : TyX K H x (.type t)) (k : kitB t c = some true) (h : A) :
    ∃ (y d : V) (s u : Value) (b : Bool), [x, V.ty c] = [y, d] ∧ ClsV d u ∧ TyX K H y s ∧ PySem.W.kitOne K s u = some b ∧ ∃ z, V.bl b = .bl z ∧ if z = true then A else B :=
  ⟨x, .ty c, _, _, true, rfl, .ty c, ty, kit_ty k, true, rfl, iteT h⟩
theorem ok_sm {f : Addr} {fd : FuncData} (F : Fun K "_law_same" "_law_same" sSM f fd) (B : Bt mg) (n : Nat) (DS : n = 0 ∨ ∃ m, n = m + 1 ∧ Def P w K mg base "_law_same" (m + 1) ["actual", "expected"] (spSM m)) :
    FnOk P w K mg base CX0 (n + 1) f fd ["actual", "expected"] (spSM n) := by
  refine F.ok scSM (fun vs H Q E h => ?_) (fun cdv A outer s H vs Q E hr h => ?_)
  · obtain ⟨v, u, _, rfl, _⟩ := h
    rfl
  · obtain ⟨v, u, d, rfl, tv, tu, dn, ft, q⟩ := h
    cases tv with
    | non =>
      cases tu
      refine ⟨_, pss_cons (ps_if (pt_cmpR op_isN (pv 1) pe_non (nomark _)) (pss_one (ps_ret (pe_cmpR op_isN (pv 0) pe_non (nomark _)))) pss_nil) pss_never, ?_⟩
      exact ⟨.non, rfl, rfl, _, rfl, yes_if ⟨.non, rfl, rfl, q⟩⟩
    | bl b =>
      cases tu
      refine ⟨_, pss_cons (ps_if (pt_cmpR op_isN (pv 1) pe_non (nomark _)) pss_never pss_nil)
        (pss_cons (ps_if (pt_val (pe_callB call_isi (by rfl) B.isi (by decide +kernel) (pa_cons (pv 1) (pa_cons (pe_bltn (v := .ty "bool") (u := .type "bool") (by rfl) B.bool (by decide +kernel) rfl) pa_nil))))
          (pss_one (ps_ret (pe_and (pe_callB call_isi (by rfl) B.isi (by decide +kernel) (pa_cons (pv 0) (pa_cons (pe_bltn (v := .ty "bool") (u := .type "bool") (by rfl) B.bool (by decide +kernel) rfl) pa_nil))) (pe_one (pe_cmpR (op_eqP hr.units) (pv 0) (pv 1) (nomark _)))))) pss_nil) pss_never), ?_⟩
      refine ⟨.bl b, rfl, rfl, _, rfl, no_if (fun z => nomatch z) ?_⟩
      refine ⟨.bl b, rfl, isi_yes (.base (.bl b)) (by decide +kernel) ?_⟩
      refine ⟨.bl b, rfl, isi_yes (.base (.bl b)) (by decide +kernel) ?_⟩
      refine ⟨.bl b, rfl, .bl b, rfl, _, _, .bl b, .bl b, Nat.zero_le _, ?_⟩
      rw [eqv_refl (Tp.bl (H := H) b)]
      exact q
    | int i =>
      cases tu
      refine ⟨_, pss_cons (ps_if (pt_cmpR op_isN (pv 1) pe_non (nomark _)) pss_never pss_nil)
        (pss_cons (ps_if (pt_val (pe_callB call_isi (by rfl) B.isi (by decide +kernel) (pa_cons (pv 1) (pa_cons (pe_bltn (v := .ty "bool") (u := .type "bool") (by rfl) B.bool (by decide +kernel) rfl) pa_nil)))) pss_never pss_nil)
        (pss_cons (ps_if (pt_val (pe_callB call_isi (by rfl) B.isi (by decide +kernel) (pa_cons (pv 1) (pa_cons (pe_bltn (v := .ty "int") (u := .type "int") (by rfl) B.int (by decide +kernel) rfl) pa_nil))))
          (pss_one (ps_ret (pe_and (pe_callB call_isi (by rfl) B.isi (by decide +kernel) (pa_cons (pv 0) (pa_cons (pe_bltn (v := .ty "int") (u := .type "int") (by rfl) B.int (by decide +kernel) rfl) pa_nil)))
            (pe_and (pe_not (pe_callB call_isi (by rfl) B.isi (by decide +kernel) (pa_cons (pv 0) (pa_cons (pe_bltn (v := .ty "bool") (u := .type "bool") (by rfl) B.bool (by decide +kernel) rfl) pa_nil)))) (pe_one (pe_cmpR (op_eqP hr.units) (pv 0) (pv 1) (nomark _))))))) pss_nil) pss_never)), ?_⟩
      refine ⟨.int i, rfl, rfl, _, rfl, no_if (fun z => nomatch z) ?_⟩
      refine ⟨.int i, rfl, isi_no (.base (.int i)) (by decide +kernel) ?_⟩
      refine ⟨.int i, rfl, isi_yes (.base (.int i)) (by decide +kernel) ?_⟩
      refine ⟨.int i, rfl, isi_yes (.base (.int i)) (by decide +kernel) ?_⟩
      refine ⟨.int i, rfl, .int i, .ty "bool", _, _, false, rfl, .ty "bool", .base (.int i), kit_ty (by decide +kernel), false, rfl, true, rfl, iteT ?_⟩
      refine ⟨.int i, rfl, .int i, rfl, _, _, .int i, .int i, Nat.zero_le _, ?_⟩
      rw [eqv_refl (Tp.int (H := H) i)]
      exact q
    | str z =>
      cases tu
      refine ⟨_, pss_cons (ps_if (pt_cmpR op_isN (pv 1) pe_non (nomark _)) pss_never pss_nil)
        (pss_cons (ps_if (pt_val (pe_callB call_isi (by rfl) B.isi (by decide +kernel) (pa_cons (pv 1) (pa_cons (pe_bltn (v := .ty "bool") (u := .type "bool") (by rfl) B.bool (by decide +kernel) rfl) pa_nil)))) pss_never pss_nil)
        (pss_cons (ps_if (pt_val (pe_callB call_isi (by rfl) B.isi (by decide +kernel) (pa_cons (pv 1) (pa_cons (pe_bltn (v := .ty "int") (u := .type "int") (by rfl) B.int (by decide +kernel) rfl) pa_nil)))) pss_never pss_nil)
        (pss_cons (ps_if (pt_val (pe_callB call_isi (by rfl) B.isi (by decide +kernel) (pa_cons (pv 1) (pa_cons (pe_bltn (v := .ty "str") (u := .type "str") (by rfl) B.str (by decide +kernel) rfl) pa_nil))))
          (pss_one (ps_ret (pe_and (pe_callB call_isi (by rfl) B.isi (by decide +kernel) (pa_cons (pv 0) (pa_cons (pe_bltn (v := .ty "str") (u := .type "str") (by rfl) B.str (by decide +kernel) rfl) pa_nil))) (pe_one (pe_cmpR (op_eqP hr.units) (pv 0) (pv 1) (nomark _)))))) pss_nil) pss_never))), ?_⟩
      refine ⟨.str z, rfl, rfl, _, rfl, no_if (fun z => nomatch z) ?_⟩
      refine ⟨.str z, rfl, isi_no (.base (.str z)) (by decide +kernel) ?_⟩
      refine ⟨.str z, rfl, isi_no (.base (.str z)) (by decide +kernel) ?_⟩
      refine ⟨.str z, rfl, isi_yes (.base (.str z)) (by decide +kernel) ?_⟩
      refine ⟨.str z, rfl, isi_yes (.base (.str z)) (by decide +kernel) ?_⟩
      refine ⟨.str z, rfl, .str z, rfl, _, _, .str z, .str z, Nat.zero_le _, ?_⟩
      rw [eqv_refl (Tp.str (H := H) z)]
      exact q
    | @tup a xs ds e r =>
      cases tu with
      | @tup b ys _ e2 r2 =>
        rcases DS with rfl | ⟨m, rfl, DS⟩
        · exact absurd dn (by
            show ¬ PyData.depthAll ds + 1 ≤ 0
            omega)
        have lx := r.length
        have ly := r2.length
        rw [fit] at ft
        have dm : PyData.depthAll ds ≤ m := by
          have t : PyData.depthAll ds + 1 ≤ m + 1 := dn
          omega
        refine ⟨_, pss_cons (ps_if (pt_cmpR op_isN (pv 1) pe_non (nomark _)) pss_never pss_nil)
          (pss_cons (ps_if (pt_val (pe_callB call_isi (by rfl) B.isi (by decide +kernel) (pa_cons (pv 1) (pa_cons (pe_bltn (v := .ty "bool") (u := .type "bool") (by rfl) B.bool (by decide +kernel) rfl) pa_nil)))) pss_never pss_nil)
          (pss_cons (ps_if (pt_val (pe_callB call_isi (by rfl) B.isi (by decide +kernel) (pa_cons (pv 1) (pa_cons (pe_bltn (v := .ty "int") (u := .type "int") (by rfl) B.int (by decide +kernel) rfl) pa_nil)))) pss_never pss_nil)
          (pss_cons (ps_if (pt_val (pe_callB call_isi (by rfl) B.isi (by decide +kernel) (pa_cons (pv 1) (pa_cons (pe_bltn (v := .ty "str") (u := .type "str") (by rfl) B.str (by decide +kernel) rfl) pa_nil)))) pss_never pss_nil)
          (pss_cons (ps_if (PW.pt (pw_and (pt_val (pe_callB call_isi (by rfl) B.isi (by decide +kernel) (pa_cons (pv 1) (pa_cons (pe_bltn (v := .ty "tuple") (u := .type "tuple") (by rfl) B.tup (by decide +kernel) rfl) pa_nil))))
            (pw_and1 (pt_not (pt_val (pe_callB call_isi (by rfl) B.isi (by decide +kernel) (pa_cons (pv 0) (pa_cons (pe_bltn (v := .ty "tuple") (u := .type "tuple") (by rfl) B.tup (by decide +kernel) rfl) pa_nil)))))))) pss_never pss_nil)
          (pss_cons (ps_if (PW.pt (pw_and (pt_val (pe_callB call_isi (by rfl) B.isi (by decide +kernel) (pa_cons (pv 1) (pa_cons (pe_bltn (v := .ty "list") (u := .type "list") (by rfl) B.lst (by decide +kernel) rfl) pa_nil))))
            (pw_and1 (pt_not (pt_val (pe_callB call_isi (by rfl) B.isi (by decide +kernel) (pa_cons (pv 0) (pa_cons (pe_bltn (v := .ty "list") (u := .type "list") (by rfl) B.lst (by decide +kernel) rfl) pa_nil)))))))) pss_never pss_nil)
          (pss_cons (ps_if (pt_cmpR op_ne (pe_callB call_len_seq (by rfl) B.len PySem.boot_len (pa_cons (pv 0) pa_nil)) (pe_callB call_len_seq (by rfl) B.len PySem.boot_len (pa_cons (pv 1) pa_nil)) (nomark _)) pss_never pss_nil)
          (pss_cons (ps_for PassesOwn.never rfl (pi_range1 (by rfl) B.rng (pa_cons (pe_callB call_len_seq (by rfl) B.len PySem.boot_len (pa_cons (pv 1) pa_nil)) pa_nil)) (pg_name (i := 2) scSM.nd rfl (.inl rfl))
            (pss_one (ps_if (pt_not (pt_val (pe_def DS hr (by rfl) (pa_cons (pe_ix ix_tup (pv 0) (pv 2) (fun _ _ => rfl)) (pa_cons (pe_ix ix_tup (pv 1) (pv 2) (fun _ _ => rfl)) pa_nil))))) pss_never pss_nil)))
          (pss_one (ps_ret pe_bl))))))))), ?_⟩
        refine ⟨.ref b, rfl, rfl, _, rfl, no_if (fun z => nomatch z) ?_⟩
        refine ⟨.ref b, rfl, isi_no (.base (.tup e2)) (by decide +kernel) ?_⟩
        refine ⟨.ref b, rfl, isi_no (.base (.tup e2)) (by decide +kernel) ?_⟩
        refine ⟨.ref b, rfl, isi_no (.base (.tup e2)) (by decide +kernel) ?_⟩
        refine ⟨.ref b, rfl, isi_yes (.base (.tup e2)) (by decide +kernel) ?_⟩
        refine ⟨.ref a, rfl, .ref a, .ty "tuple", _, _, true, rfl, .ty "tuple", .base (.tup e), kit_ty (by decide +kernel), true, rfl, iteF ?_⟩
        refine ⟨.ref b, rfl, .ref b, .ty "list", _, _, false, rfl, .ty "list", .base (.tup e2), kit_ty (by decide +kernel), false, rfl, iteF (iteF ?_)⟩
        refine ⟨.ref a, rfl, a, xs, rfl, .inr (SqT.of e), .ref b, rfl, b, ys, rfl, .inr (SqT.of e2), rfl, _, rfl, ?_⟩
        rw [lx, ly, decide_eq_true rfl]
        refine iteF ?_
        refine ⟨.ref b, rfl, b, ys, rfl, .inr (SqT.of e2), _, rfl, by omega, by omega, ?_⟩
        rw [ly, Int.toNat_natCast]
        refine for_range (lo := 0) (n := ds.length) (fun i σ H' => H' = H ∧ ∃ x2, σ = [some (.ref a), some (.ref b), x2]) ⟨rfl, none, rfl⟩ (fun i σ H' hi hP => ?_) (fun σ H' hP => ?_)
        · obtain ⟨rfl, x2, rfl⟩ := hP
          have g1 := List.getElem?_eq_getElem hi
          obtain ⟨x, ex, tx⟩ := r.at_ g1
          obtain ⟨y, ey, ty⟩ := r2.at_ g1
          have e0 : (0 : Int) + (i : Int) = ((i : Nat) : Int) := Int.zero_add _
          refine ⟨.ref a, rfl, .int (0 + i), rfl, a, xs, 0 + i, x, rfl, rfl, SqT.of e, at_of e0 ex, .ref b, rfl, .int (0 + i), rfl, b, ys, 0 + i, y, rfl, rfl, SqT.of e2, at_of e0 ey, ?_⟩
          exact ⟨x, y, _, rfl, tx, ty, Nat.le_trans (depth_at g1) dm, fitAll_at ft.2 g1, true, rfl, iteF ⟨rfl, _, rfl⟩⟩
        · obtain ⟨rfl, x2, rfl⟩ := hP
          exact q
end
end KB

namespace KB
open PySem PySem.Spec PyProof.Rows L2 KA
theorem vk_tup (d : PyData) : ∃ l, vk d = .tuple l := by
  cases d <;> exact ⟨_, rfl⟩
theorem fit_int (i : Int) : fit (.int i) := by
  rw [fit]
  · trivial
  · intro ds z
    cases z
theorem fit_str (x : Str) : fit (.str x) := by
  rw [fit]
  · trivial
  · intro ds z
    cases z
theorem fit_bool (b : Bool) : fit (.bool b) := by
  rw [fit]
  · trivial
  · intro ds z
    cases z
theorem fit_kd {s : Int} {nm : Str} {ds : List PyData} (a : Atoms ds) (l : ds.length ≤ 1000) : fit (kd s nm ds) := by
  unfold kd
  rw [fit, fitAll, fitAll, fitAll, fitAll, fit.eq_1 ds]
  exact ⟨(by show 3 ≤ 1000; decide), fit_int s, fit_str nm, ⟨l, fitAll_atoms a⟩, trivial⟩
theorem depth_kd {s : Int} {nm : Str} {ds : List PyData} (a : Atoms ds) : (kd s nm ds).depth ≤ 2 := by
  show max 0 (max 0 (max (PyData.depthAll ds + 1) 0)) + 1 ≤ 2
  rw [atoms_depth a]
  decide
theorem small_kd {s : Int} {nm : Str} {ds : List PyData} (a : Atoms ds) : small (kd s nm (ds.map vk)) := by
  have t := vks_depth a
  show max 0 (max 0 (max (PyData.depthAll (ds.map vk) + 1) 0)) + 1 ≤ 64
  rw [Nat.zero_max, Nat.zero_max, Nat.max_zero]
  omega
theorem small_vk {d : PyData} (a : isAtom d) : small (vk d) := by
  show (vk d).depth ≤ 64
  rw [vk_depth a]
  decide
/-- the slots of the law behind its first lines -/
abbrev sgm (sc st Dv R : Addr) (xk x5 x6 x7 x8 x9 : Option V) : L2.St := [some (.ref sc), some (.ref st), xk, some (.ref Dv), some (.ref R), x5, x6, x7, x8, x9]
section
variable {P : Program} {w : World} {K : PySem.W.Frag} {mg : Str → Option Value} {base : Heap}
abbrev sLaw : Stmt := topS 23
abbrev nLaw : List Str := ["script", "state", "k", "values", "rows", "first", "second", "order", "keys", "item"]
theorem scLaw : FnScope nLaw ["script"] (defScope sLaw) := ⟨rfl, rfl, rfl, by decide +kernel, rfl, by decide +kernel, by decide +kernel⟩
def spLaw (K : PySem.W.Frag) : Sp := fun vs H Q _ => ∃ (a : Addr) (ns : List Int), vs = [.ref a] ∧ SqL K H a (ns.map V.int) ∧ ns.length ≤ 63 ∧ ∀ H', Q (.bl true) H'
/-- the defs that the law calls -/
structure Ds (P : Program) (w : World) (K : PySem.W.Frag) (mg : Str → Option Value) (base : Heap) : Prop where
  next : dNext P w K mg base
  val : dVal P w K mg base
  row : dRow P w K mg base
  item : Def P w K mg base "_law_item" 7 ["state"] spItem
  vk : Def P w K mg base "value_key" 1 ["value"] spVK
  rk : dRK P w K mg base
  sr : Def P w K mg base "same_row" 3 ["first", "second"] spSR
  ko : Def P w K mg base "key_of" 1 ["item"] spKO
  ky : Def P w K mg base "key_order" 3 ["key"] spKY
  or_ : dOR P w K mg base
  lk : Def P w K mg base "_law_key" 1 ["item"] spKO
  lo : Def P w K mg base "_law_key_order" 3 ["first", "second"] spLO
  ag : Def P w K mg base "_law_agrees" 1 ["left", "right", "order"] spAG
  sm : Def P w K mg base "_law_same" 3 ["actual", "expected"] (spSM 2)
theorem ok_law {f : Addr} {fd : FuncData} (F : Fun K "law" "law" sLaw f fd) (B : Bt mg) (D : Ds P w K mg base) : FnOk P w K mg base CX0 8 f fd ["script"] (spLaw K) := by
  refine F.ok scLaw (fun vs H Q E h => ?_) (fun cdv A outer s H vs Q E hr h => ?_)
  · obtain ⟨a, ns, rfl, _⟩ := h
    rfl
  · obtain ⟨sc, ns, rfl, hS, hlen, q⟩ := h
    have r1 : Room 1 _ := hr.mono (by decide)
    have r2 : Room 2 _ := hr.mono (by decide)
    have r3 : Room 3 _ := hr.mono (by decide)
    refine ⟨_, pss_cons (ps_set (i := 1) scLaw.nd rfl (.inr rfl) (pe_lst (pa_cons (pe_callTy call_list_of (by rfl) B.lst (by decide +kernel) (pa_cons (pv 0) pa_nil)) (pa_cons pe_int (pa_cons pe_int (pa_cons pe_int pa_nil))))))
      (pss_cons (ps_setLc (i := 3) (own := [("k", 2)]) (g := gName 2) (tt := tYes) (by rfl) scLaw.nd rfl rfl (sw_true rfl rfl rfl (by decide +kernel)) (pi_range1 (by rfl) B.rng (pa_cons (pe_def D.next r1 (by rfl) (pa_cons (pv 1) (pa_cons pe_int pa_nil))) pa_nil))
        (blkOk_by (own := [("k", 2)]) (N := nLaw) (sc := defScope sLaw) (by decide +kernel)) (fun _ _ _ _ _ => pg_name (i := 2) scLaw.nd rfl (Or.inl rfl)) (fun _ _ _ _ _ => pts_nil) (fun _ _ _ _ _ => pe_def D.val r2 (by rfl) (pa_cons (pv 1) pa_nil)))
      (pss_cons (ps_setLc (i := 4) (own := [("k", 2)]) (g := gName 2) (tt := tYes) (by rfl) scLaw.nd rfl rfl (sw_true rfl rfl rfl (by decide +kernel)) (pi_range1 (by rfl) B.rng (pa_cons (pe_def D.next r1 (by rfl) (pa_cons (pv 1) (pa_cons pe_int pa_nil))) pa_nil))
        (blkOk_by (own := [("k", 2)]) (N := nLaw) (sc := defScope sLaw) (by decide +kernel)) (fun _ _ _ _ _ => pg_name (i := 2) scLaw.nd rfl (Or.inl rfl)) (fun _ _ _ _ _ => pts_nil) (fun _ _ _ _ _ => pe_def D.row r3 (by rfl) (pa_cons (pv 1) (pa_cons (pe_def D.next r1 (by rfl) (pa_cons (pv 1) (pa_cons pe_int pa_nil))) pa_nil))))
      (C8.pss_cut (ps_if (pt_cmpR op_gt (pe_callB call_len_seq (by rfl) B.len PySem.boot_len (pa_cons (pv 4) pa_nil)) pe_int (nomark _))
        (pss_one (ps_asg (pe_op op_catA (pe_ix ix_list (pv 4) pe_int (fun _ _ => rfl)) (pe_def D.row r3 (by rfl) (pa_cons (pv 1) (pa_cons (pe_def D.next r1 (by rfl) (pa_cons (pv 1) (pa_cons pe_int pa_nil))) pa_nil)))) (pg_sub (pv 4) pe_int set_list))) pss_nil)
      (C8.pss_cut (ps_for PassesOwn.never rfl (pi_list (pv 3)) (pg_name (i := 5) scLaw.nd rfl (.inl rfl)) (pss_one (ps_for PassesOwn.never rfl (pi_list (pv 3)) (pg_name (i := 6) scLaw.nd rfl (.inl rfl)) (pss_one
        (ps_if (pt_not (pt_val (pe_def D.ag r1 (by rfl) (pa_cons (pe_def D.vk r1 (by rfl) (pa_cons (pv 5) pa_nil)) (pa_cons (pe_def D.vk r1 (by rfl) (pa_cons (pv 6) pa_nil))
          (pa_cons (pe_def D.or_ r2 (by rfl) (pa_cons (pe_tup (pa_cons (pv 5) pa_nil)) (pa_cons (pe_tup (pa_cons (pv 6) pa_nil)) pa_nil))) pa_nil)))))) pss_never pss_nil)))))
      (C8.pss_cut (ps_for PassesOwn.never rfl (pi_list (pv 4)) (pg_name (i := 5) scLaw.nd rfl (.inl rfl)) (pss_one (ps_for PassesOwn.never rfl (pi_list (pv 4)) (pg_name (i := 6) scLaw.nd rfl (.inl rfl))
        (pss_cons (ps_set (i := 7) scLaw.nd rfl (.inl rfl) (pe_def D.or_ r2 (by rfl) (pa_cons (pv 5) (pa_cons (pv 6) pa_nil))))
        (pss_one (ps_if (PW.pt (pw_or (pt_not (pt_val (pe_def D.ag r1 (by rfl) (pa_cons (pe_def D.rk r2 (by rfl) (pa_cons (pv 5) pa_nil)) (pa_cons (pe_def D.rk r2 (by rfl) (pa_cons (pv 6) pa_nil)) (pa_cons (pv 7) pa_nil))))))
          (pw_or1 (pt_not (pt_val (pe_def D.sm r3 (by rfl) (pa_cons (pe_def D.sr r3 (by rfl) (pa_cons (pv 5) (pa_cons (pv 6) pa_nil))) (pa_cons (pe_cmpR op_eq (pv 7) pe_int (nomark _)) pa_nil)))))))) pss_never pss_nil))))))
      (pss_cons (ps_set (i := 8) scLaw.nd rfl (.inl rfl) (pe_lst pa_nil))
      (C8.pss_cut (ps_for PassesOwn.never rfl (pi_range1 (by rfl) B.rng (pa_cons (pe_def D.next r1 (by rfl) (pa_cons (pv 1) (pa_cons pe_int pa_nil))) pa_nil)) (pg_name (i := 2) scLaw.nd rfl (.inl rfl))
        (pss_cons (ps_set (i := 9) scLaw.nd rfl (.inl rfl) (pe_def D.item hr (by rfl) (pa_cons (pv 1) pa_nil)))
        (pss_cons (ps_if (pt_not (pt_val (pe_def D.sm r3 (by rfl) (pa_cons (pe_def D.ko r1 (by rfl) (pa_cons (pv 9) pa_nil)) (pa_cons (pe_def D.lk r1 (by rfl) (pa_cons (pv 9) pa_nil)) pa_nil))))) pss_never pss_nil)
        (pss_one (ps_expr (pe_bm PySem.F.plainAttrs_list PySem.F.slot_list_append PySem.F.type_list_append mt_append (pv 8) (pa_cons (pe_def D.lk r1 (by rfl) (pa_cons (pv 9) pa_nil)) pa_nil)))))))
      (C8.pss_cut (ps_for PassesOwn.never rfl (pi_list (pv 8)) (pg_name (i := 5) scLaw.nd rfl (.inl rfl)) (pss_one (ps_for PassesOwn.never rfl (pi_list (pv 8)) (pg_name (i := 6) scLaw.nd rfl (.inl rfl)) (pss_one
        (ps_if (pt_not (pt_val (pe_def D.ag r1 (by rfl) (pa_cons (pe_def D.ky r3 (by rfl) (pa_cons (pv 5) pa_nil)) (pa_cons (pe_def D.ky r3 (by rfl) (pa_cons (pv 6) pa_nil))
          (pa_cons (pe_def D.lo r3 (by rfl) (pa_cons (pv 5) (pa_cons (pv 6) pa_nil))) pa_nil)))))) pss_never pss_nil)))))
      (pss_one (ps_ret pe_bl)))))))))), ?_⟩
    -- the state
    refine ⟨.ref sc, rfl, sc, ns.map V.int, rfl, .inl hS, fun L nL => ⟨(by show 4 ≤ sizeLine; decide), fun st nst => ?_⟩⟩
    have nLs : L ≠ st := ne_of_none upd_same nst
    have g1 : Good st L (upd (upd H L (.lst (ns.map V.int))) st (.lst [.ref L, .int 0, .int 0, .int 1])) := ⟨ns, 0, 0, 1, upd_same, by
      rw [upd_ne nLs]
      exact upd_same, by decide, by decide⟩
    revert g1
    generalize upd (upd H L (.lst (ns.map V.int))) st (.lst [.ref L, .int 0, .int 0, .int 1]) = H1
    intro g1
    -- values
    refine ⟨.ref st, rfl, st, L, 7, rfl, g1, by decide, by decide, fun n H2 d2 n0 n1 => ⟨n, rfl, by omega, by omega, fun Dv nD => ?_⟩⟩
    have nDs : Dv ≠ st := fun z => d2.good.not_none (by rw [← z]; exact nD)
    refine lc_range (lo := 0) (n := n.toNat) (fun i H' => Dr st L H2 H' ∧ ∃ ys ds, H' Dv = some (.lst ys) ∧ (∀ H3, Tps H3 ys ds) ∧ ds.length = i ∧ Atoms ds) ⟨Dr.new d2.good nD, [], [], upd_same, fun _ => .nil, rfl, fun y hy => by cases hy⟩ (fun i H' hi hP => ?_) (fun H3 hP => ?_)
    · obtain ⟨dd, ys, ds, eD, ht, ly, ha⟩ := hP
      refine ⟨rfl, ?_⟩
      refine iteT (B := True) ?_
      refine ⟨.ref st, rfl, st, L, rfl, dd.good, fun v d H4 d4 at4 tp4 => ?_⟩
      have lD : ys.length = i := by rw [(ht H4).length, ly]
      refine ⟨ys, d4.at_ nDs eD, small1000 (by omega), (dd.trans d4).put d2.good nD, ys ++ [v], ds ++ [d], upd_same, Tps.snoc_all ht tp4, ?_, ?_⟩
      · rw [List.length_append, ly]
        rfl
      · intro y hy2
        rcases List.mem_append.mp hy2 with h1 | h1
        · exact ha y h1
        · rw [List.mem_singleton.mp h1]
          exact at4
    obtain ⟨d3, vals, vds, eD3, tv, lv, av⟩ := hP
    have lvals : vals.length = vds.length := (tv H3).length
    -- rows
    refine ⟨.ref st, rfl, st, L, 7, rfl, d3.good, by decide, by decide, fun m H4 d4 m0 m1 => ⟨m, rfl, by omega, by omega, fun R nR => ?_⟩⟩
    have nRs : R ≠ st := fun z => d4.good.not_none (by rw [← z]; exact nR)
    have eD4 : H4 Dv = some (.lst vals) := d4.at_ nDs eD3
    refine lc_range (lo := 0) (n := m.toNat) (fun i H' => Dr st L H4 H' ∧ ∃ ys, ∃ rs : List (List PyData), H' R = some (.lst ys) ∧ Tps H' ys (rs.map PyData.tuple) ∧ rs.length = i ∧ ∀ r ∈ rs, Atoms r ∧ r.length ≤ 8)
      ⟨Dr.new d4.good nR, [], [], upd_same, .nil, rfl, fun y hy => by cases hy⟩ (fun i H' hi hP => ?_) (fun H5 hP => ?_)
    · obtain ⟨dd, ys, rs, eR, ht, ly, ha⟩ := hP
      refine ⟨rfl, ?_⟩
      refine iteT (B := True) ?_
      refine ⟨.ref st, rfl, .ref st, rfl, st, L, 5, rfl, dd.good, by decide, by decide, fun wd H6 d6 w0 w1 => ⟨st, L, wd, rfl, d6.good, w0, by omega, fun p ds H7 d7 tp at7 lp => ?_⟩⟩
      have lR : ys.length = i := by rw [ht.length, List.length_map, ly]
      have eR7 : H7 R = some (.lst ys) := (d6.trans d7).at_ nRs eR
      have kk : Tk H7 (upd H7 R (.lst (ys ++ [.ref p]))) := Tk.lst eR7
      refine ⟨ys, eR7, small1000 (by omega), (dd.trans (d6.trans d7)).put d4.good nR, ys ++ [.ref p], rs ++ [ds], upd_same, ?_, ?_, ?_⟩
      · rw [List.map_append]
        exact (ht.mono (((d6.trans d7).tk dd.good).trans kk)).append (.cons (tp.mono kk) .nil)
      · rw [List.length_append, ly]
        rfl
      · intro y hy2
        rcases List.mem_append.mp hy2 with h1 | h1
        · exact ha y h1
        · rw [List.mem_singleton.mp h1]
          exact ⟨at7, by omega⟩
    obtain ⟨d5, ys, rs, eR5, tr, lr, ar⟩ := hP
    have eD5 : H5 Dv = some (.lst vals) := d5.at_ nDs eD4
    -- rows[1]
    refine ⟨fun σ' H' => σ' = sgm sc st Dv R none none none none none none ∧ Dr st L H4 H' ∧ H' Dv = some (.lst vals) ∧ ∃ ys, ∃ rs : List (List PyData), H' R = some (.lst ys) ∧ Tps H' ys (rs.map PyData.tuple) ∧ ∀ r ∈ rs, Atoms r ∧ r.length ≤ 16, ?_, ?_⟩
    · refine ⟨.ref R, rfl, R, ys, rfl, .inl (SqL.of eR5), _, _, rfl, rfl, _, rfl, ite2 (fun c => ?_) (fun c => ?_)⟩
      · have c1 : (1 : Int) < (ys.length : Int) := of_decide_eq_true c
        have lR : ys.length = rs.length := by rw [tr.length, List.length_map]
        match rs, ys, tr, eR5, ar, lR, c1 with
        | [], ys, tr, eR5, ar, lR, c1 => exact absurd c1 (by rw [lR]; decide)
        | [r0], ys, tr, eR5, ar, lR, c1 => exact absurd c1 (by
          rw [lR]
          show ¬ (1 : Int) < ((1 : Nat) : Int)
          decide)
        | r0 :: r1 :: rr, ys, tr, eR5, ar, lR, c1 =>
          cases tr with
          | @cons y0 yr _ _ t0 tr1 =>
            cases tr1 with
            | @cons y1 yrr _ _ t1 tr2 =>
              cases t0 with
              | @tup a0 xs0 _ e0 tx0 =>
                refine ⟨.ref R, rfl, R, _, 0, .ref a0, rfl, rfl, SqL.of eR5, atI_nat (j := 0) rfl, .ref st, rfl, .ref st, rfl, st, L, 2, rfl, d5.good, by decide, by decide, fun wd H6 d6 w0 w1 => ⟨st, L, wd, rfl, d6.good, w0, by omega, fun p ds H7 d7 tp at7 lp => ?_⟩⟩
                have d57 := d6.trans d7
                have eR7 : H7 R = some (.lst (.ref a0 :: y1 :: yrr)) := d57.at_ nRs eR5
                have k57 : Tk H5 H7 := d57.tk d5.good
                cases tp with
                | @tup pa xsp _ ep txp =>
                  have e07 := k57 _ _ e0
                  have tx07 := tx0.mono k57
                  have fin : ∀ (v : V) (H8 : Hp), Same H7 H8 → Tp H8 v (.tuple (r0 ++ ds)) → ∃ pp xs k j, V.ref R = .ref pp ∧ V.int 1 = .int k ∧ H8 pp = some (.lst xs) ∧ ixN xs.length k = some j ∧
                      (sgm sc st Dv R none none none none none none = sgm sc st Dv R none none none none none none ∧ Dr st L H4 (upd H8 pp (.lst (xs.set j v))) ∧ (upd H8 pp (.lst (xs.set j v))) Dv = some (.lst vals) ∧
                        ∃ ys, ∃ rs : List (List PyData), (upd H8 pp (.lst (xs.set j v))) R = some (.lst ys) ∧ Tps (upd H8 pp (.lst (xs.set j v))) ys (rs.map PyData.tuple) ∧ ∀ r ∈ rs, Atoms r ∧ r.length ≤ 16) := fun v H8 s8 t8 => by
                    have eR8 := s8 _ _ eR7
                    have kk : Tk H8 (upd H8 R (.lst ((V.ref a0 :: y1 :: yrr).set 1 v))) := Tk.lst eR8
                    have nDR : Dv ≠ R := ne_of_none eD4 nR
                    refine ⟨R, _, 1, 1, rfl, rfl, eR8, ?_, rfl, (d5.trans (d57.trans (Dr.same d57.good s8))).put d4.good nR, ?_, _, r0 :: (r0 ++ ds) :: rr, upd_same, ?_, ?_⟩
                    · show (if (0 : Int) ≤ 1 then (if (1 : Int) < ((yrr.length + 1 + 1 : Nat) : Int) then some (1 : Int).toNat else none) else _) = some 1
                      rw [if_pos (by decide), if_pos (by omega)]
                      rfl
                    · rw [upd_ne nDR]
                      exact s8 _ _ (d57.at_ nDs eD5)
                    · exact .cons (.tup (kk _ _ (s8 _ _ e07)) ((tx07.mono (Tk.of s8)).mono kk)) (.cons (t8.mono kk) (((tr2.mono k57).mono (Tk.of s8)).mono kk))
                    · intro r hr2
                      have a0' := ar r0 List.mem_cons_self
                      rcases List.mem_cons.mp hr2 with h1 | h1
                      · rw [h1]
                        exact ⟨a0'.1, by omega⟩
                      · rcases List.mem_cons.mp h1 with h1 | h1
                        · rw [h1]
                          refine ⟨fun x hx => ?_, ?_⟩
                          · rcases List.mem_append.mp hx with z | z
                            · exact a0'.1 x z
                            · exact at7 x z
                          · rw [List.length_append]
                            omega
                        · have t := ar r (List.mem_cons_of_mem _ (List.mem_cons_of_mem _ h1))
                          exact ⟨t.1, by omega⟩
                  refine ⟨a0, _, xs0, xsp, rfl, rfl, SqT.of e07, SqT.of ep, ?_, fun z => ?_, fun z z2 => ?_, fun z z2 t nt => ?_⟩
                  · rw [tx0.length, txp.length]
                    have t := (ar r0 List.mem_cons_self).2
                    exact Nat.le_of_lt (small1000 (by omega))
                  · subst z
                    have e1 : r0 = [] := by cases tx0; rfl
                    rw [e1] at fin
                    exact ⟨.ref R, rfl, fin (.ref p) H7 (Same.refl H7) (.tup ep txp)⟩
                  · subst z2
                    have e1 : ds = [] := by cases txp; rfl
                    rw [e1, List.append_nil] at fin
                    exact ⟨.ref R, rfl, fin (.ref a0) H7 (Same.refl H7) (.tup e07 tx07)⟩
                  · exact ⟨.ref R, rfl, fin (.ref t) _ (same_new nt) (.tup upd_same ((tx07.append txp).mono (Tk.new nt)))⟩
      · exact ⟨rfl, d5, eD5, ys, rs, eR5, tr, fun r hr2 => ⟨(ar r hr2).1, by have := (ar r hr2).2; omega⟩⟩
    clear d5 eR5 tr lr ar eD5
    intro σ6 H6 hm
    obtain ⟨rfl, d6, eD6, ys, rs, eR6, tr, ar⟩ := hm
    have z1 : 1 ≤ sizeLine := by decide
    -- each two values
    refine ⟨fun σ' H' => (∃ x5 x6, σ' = sgm sc st Dv R none x5 x6 none none none) ∧ Same H6 H', ?_, ?_⟩
    · refine ⟨.ref Dv, rfl, Dv, rfl, ⟨vals, SqL.of eD6⟩, ?_⟩
      refine for_list (K := K) (a := Dv) (xs := vals) (fun _ σ H' => (∃ x5 x6, σ = sgm sc st Dv R none x5 x6 none none none) ∧ Same H6 H') ⟨⟨none, none, rfl⟩, Same.refl _⟩ (fun i σ H' _ hP => SqL.of (hP.2 _ _ eD6)) (fun i x σ H' hx hP => ?_) (fun σ H' hP => hP)
      obtain ⟨⟨x5, x6, rfl⟩, sm⟩ := hP
      refine ⟨.ref Dv, rfl, Dv, rfl, ⟨vals, SqL.of (sm _ _ eD6)⟩, ?_⟩
      refine for_list (K := K) (a := Dv) (xs := vals) (fun _ σ H2 => (∃ x6, σ = sgm sc st Dv R none (some x) x6 none none none) ∧ Same H6 H2) ⟨⟨x6, rfl⟩, sm⟩ (fun i σ H' _ hP => SqL.of (hP.2 _ _ eD6)) (fun j y σ H2 hy hQ => ?_) (fun σ H2 hQ => ⟨⟨_, hQ.1⟩, hQ.2⟩)
      obtain ⟨⟨x6, rfl⟩, sm2⟩ := hQ
      obtain ⟨d, ed, _⟩ := (tv H2).get hx
      obtain ⟨e, ee, _⟩ := (tv H2).get hy
      have tx : ∀ H3, Tp H3 x d := fun H3 => by
        obtain ⟨d', e', t'⟩ := (tv H3).get hx
        rw [ed] at e'
        cases e'
        exact t'
      have ty : ∀ H3, Tp H3 y e := fun H3 => by
        obtain ⟨d', e', t'⟩ := (tv H3).get hy
        rw [ee] at e'
        cases e'
        exact t'
      have ad := av d (List.mem_of_getElem? ed)
      have ae := av e (List.mem_of_getElem? ee)
      obtain ⟨l1, q1⟩ := vk_tup d
      obtain ⟨l2, q2⟩ := vk_tup e
      have ag := atom_agree ad ae
      have sv := small_vk ad
      rw [q1, q2] at ag
      rw [q1] at sv
      refine ⟨x, rfl, x, d, rfl, tx _, ad, fun p Ha sa ta => ⟨y, rfl, y, e, rfl, ty _, ae, fun p2 Hb sb tb => ⟨x, rfl, z1, fun t nt => ⟨y, rfl, z1, fun t2 nt2 => ?_⟩⟩⟩⟩
      rw [q1] at ta
      rw [q2] at tb
      have s2 := same_add (o := .tup [y]) (same_new (o := .tup [x]) nt) nt2
      refine ⟨.ref t, .ref t2, [d], [e], rfl, .tup (by rw [upd_ne (ne_of_none upd_same nt2)]; exact upd_same) (.cons (tx _) .nil), .tup upd_same (.cons (ty _) .nil), (fun z hz => by rw [List.mem_singleton.mp hz]; exact ad), (fun z hz => by rw [List.mem_singleton.mp hz]; exact ae), (by show 1 ≤ 1000; decide), (by show 1 ≤ 1000; decide), ?_⟩
      refine ⟨.ref p, .ref p2, l1, l2, _, rfl, (ta.mono (Tk.of sb)).mono (Tk.of s2), tb.mono (Tk.of s2), sv, ag, fun Hc sc' => ⟨true, rfl, iteF ⟨⟨_, rfl⟩, ?_⟩⟩⟩
      exact (((sm2.trans sa).trans sb).trans s2).trans sc'
    intro σ7 H7 hm
    obtain ⟨⟨x5, x6, rfl⟩, s67⟩ := hm
    -- each two rows
    have eR7 := s67 _ _ eR6
    have tr7 := tr.mono (Tk.of s67)
    refine ⟨fun σ' H' => (∃ x5 x6 x7, σ' = sgm sc st Dv R none x5 x6 x7 none none) ∧ Same H7 H', ?_, ?_⟩
    · refine ⟨.ref R, rfl, R, rfl, ⟨ys, SqL.of eR7⟩, ?_⟩
      refine for_list (K := K) (a := R) (xs := ys) (fun _ σ H' => (∃ x5 x6 x7, σ = sgm sc st Dv R none x5 x6 x7 none none) ∧ Same H7 H') ⟨⟨x5, x6, none, rfl⟩, Same.refl _⟩ (fun i σ H' _ hP => SqL.of (hP.2 _ _ eR7)) (fun i x σ H' hx hP => ?_) (fun σ H' hP => hP)
      obtain ⟨⟨x5, x6, x7, rfl⟩, sm⟩ := hP
      refine ⟨.ref R, rfl, R, rfl, ⟨ys, SqL.of (sm _ _ eR7)⟩, ?_⟩
      refine for_list (K := K) (a := R) (xs := ys) (fun _ σ H2 => (∃ x6 x7, σ = sgm sc st Dv R none (some x) x6 x7 none none) ∧ Same H7 H2) ⟨⟨x6, x7, rfl⟩, sm⟩ (fun i σ H' _ hP => SqL.of (hP.2 _ _ eR7)) (fun j y σ H2 hy hQ => ?_) (fun σ H2 hQ => ?_)
      · obtain ⟨⟨x6, x7, rfl⟩, sm2⟩ := hQ
        obtain ⟨d, ed, tx⟩ := tr7.get hx
        obtain ⟨e, ee, ty⟩ := tr7.get hy
        rw [List.getElem?_map] at ed ee
        obtain ⟨r1', f1, rfl⟩ := Option.map_eq_some_iff.mp ed
        obtain ⟨r2', f2, rfl⟩ := Option.map_eq_some_iff.mp ee
        obtain ⟨a1, b1⟩ := ar r1' (List.mem_of_getElem? f1)
        obtain ⟨a2, b2⟩ := ar r2' (List.mem_of_getElem? f2)
        have c1 : r1'.length ≤ 1000 := by omega
        have c2 : r2'.length ≤ 1000 := by omega
        have k2 := Tk.of sm2
        refine ⟨x, rfl, y, rfl, x, y, r1', r2', rfl, tx.mono k2, ty.mono k2, a1, a2, c1, c2, ?_⟩
        refine ⟨x, rfl, x, r1', rfl, tx.mono k2, a1, c1, fun p Ha sa ta => ⟨y, rfl, y, r2', rfl, ty.mono (k2.trans (Tk.of sa)), a2, c2, fun p2 Hb sb tb => ⟨_, rfl, .ref p, .ref p2, _, _, _, rfl, ta.mono (Tk.of sb), tb, small_row a1, row_agree a1 a2, fun Hc sc' => ⟨true, rfl, iteF ?_⟩⟩⟩⟩
        have k3 : Tk H7 Hc := Tk.of (((sm2.trans sa).trans sb).trans sc')
        refine ⟨x, rfl, y, rfl, x, y, r1', r2', rfl, tx.mono k3, ty.mono k3, a1, a2, c1, c2, fun Hd sd => ⟨_, rfl, rfl, ?_⟩⟩
        have eqb : decide (V.int (rord r1' r2') = V.int 0) = PyData.eqv (.tuple (r1'.map vk)) (.tuple (r2'.map vk)) := by
          rw [(row_agree a1 a2).2.1, dec_int]
          rfl
        refine ⟨_, _, .bool (PyData.eqv (.tuple (r1'.map vk)) (.tuple (r2'.map vk))), rfl, .bl _, (by rw [eqb]; exact .bl _), Nat.zero_le _, fit_bool _, true, rfl, iteF ⟨⟨_, _, rfl⟩, ?_⟩⟩
        exact ((((sm2.trans sa).trans sb).trans sc').trans sd)
      · obtain ⟨⟨x6, x7, e⟩, sm2⟩ := hQ
        exact ⟨⟨_, x6, x7, e⟩, sm2⟩
    intro σ8 H8 hm
    obtain ⟨⟨x5, x6, x7, rfl⟩, s78⟩ := hm
    have d8 : Dr st L H6 H8 := Dr.same d6.good (s67.trans s78)
    clear tr7 eR7 s67 s78 tr ar eR6
    -- keys
    refine ⟨Nat.zero_le _, fun Kk nK => ?_⟩
    have nKs : Kk ≠ st := fun z => d8.good.not_none (by rw [← z]; exact nK)
    refine ⟨fun σ' H' => (∃ xk x9, σ' = sgm sc st Dv R xk x5 x6 x7 (some (.ref Kk)) x9) ∧ ∃ ys, ∃ ks : List (Int × Str × List PyData), H' Kk = some (.lst ys) ∧ Tps H' ys (ks.map fun t => kd t.1 t.2.1 t.2.2) ∧ ∀ t ∈ ks, Atoms t.2.2 ∧ t.2.2.length ≤ 1000, ?_, ?_⟩
    · have d9 := Dr.new (o := .lst []) d8.good nK
      refine ⟨.ref st, rfl, st, L, 9, rfl, d9.good, by decide, by decide, fun n9 H9 dn m0 m1 => ⟨n9, rfl, by omega, by omega, ?_⟩⟩
      have eK9 : H9 Kk = some (.lst []) := dn.at_ nKs upd_same
      refine for_range (lo := 0) (n := n9.toNat) (fun i σ H' => (∃ xk x9, σ = sgm sc st Dv R xk x5 x6 x7 (some (.ref Kk)) x9) ∧ Dr st L H8 H' ∧ ∃ ys, ∃ ks : List (Int × Str × List PyData), H' Kk = some (.lst ys) ∧ Tps H' ys (ks.map fun t => kd t.1 t.2.1 t.2.2) ∧ ks.length = i ∧ ∀ t ∈ ks, Atoms t.2.2 ∧ t.2.2.length ≤ 1000)
        ⟨⟨none, none, rfl⟩, d9.trans dn, [], [], eK9, .nil, rfl, fun y hy => by cases hy⟩ (fun i σ H' hi hP => ?_) (fun σ H' hP => ?_)
      · obtain ⟨⟨xk, x9, rfl⟩, dd, ys, ks, eK, tk, lk, ak⟩ := hP
        refine ⟨.ref st, rfl, st, L, rfl, dd.good, fun p d Ha da ik => ?_⟩
        obtain ⟨ss, nm, ds, rfl, ad, ld⟩ := ik.is_kd
        refine ⟨.ref p, rfl, p, _, rfl, ik, fun r Hb sb tb => ⟨.ref p, rfl, p, _, rfl, ik.mono (Tk.of sb), fun r' Hc sc' tc => ?_⟩⟩
        refine ⟨.ref r, .ref r', _, rfl, tb.mono (Tk.of sc'), tc, depth_kd ad, fit_kd ad ld, true, rfl, iteF ?_⟩
        have eKa : Ha Kk = some (.lst ys) := da.at_ nKs eK
        refine ⟨.ref Kk, rfl, .inl ⟨rfl, _, SqL.of (sc' _ _ (sb _ _ eKa))⟩, .ref p, rfl, p, _, rfl, (ik.mono (Tk.of sb)).mono (Tk.of sc'), fun r3 Hd sd td => ?_⟩
        have sad := (sb.trans sc').trans sd
        have eKd := sad _ _ eKa
        have kk : Tk Hd (upd Hd Kk (.lst (ys ++ [.ref r3]))) := Tk.lst eKd
        have ly : ys.length = ks.length := by rw [tk.length, List.length_map]
        refine ⟨Kk, ys, .ref r3, rfl, rfl, eKd, small1000 (by omega), ⟨_, _, rfl⟩, ((dd.trans da).trans (Dr.same da.good sad)).put d8.good nK, ys ++ [.ref r3], ks ++ [(ss, nm, ds)], upd_same, ?_, ?_, ?_⟩
        · rw [List.map_append]
          exact ((tk.mono ((da.tk dd.good).trans (Tk.of sad))).mono kk).append (.cons (td.mono kk) .nil)
        · rw [List.length_append, lk]
          rfl
        · intro t ht
          rcases List.mem_append.mp ht with h1 | h1
          · exact ak t h1
          · rw [List.mem_singleton.mp h1]
            exact ⟨ad, ld⟩
      · obtain ⟨e1, _, ys, ks, eK, tk, _, ak⟩ := hP
        exact ⟨e1, ys, ks, eK, tk, ak⟩
    intro σ10 H10 hm
    obtain ⟨⟨xk, x9, rfl⟩, ys, ks, eK, tk, ak⟩ := hm
    -- each two keys
    refine ⟨fun σ' H' => True, ?_, ?_⟩
    · refine ⟨.ref Kk, rfl, Kk, rfl, ⟨ys, SqL.of eK⟩, ?_⟩
      refine for_list (K := K) (a := Kk) (xs := ys) (fun _ σ H' => (∃ x5 x6, σ = sgm sc st Dv R xk x5 x6 x7 (some (.ref Kk)) x9) ∧ Same H10 H') ⟨⟨x5, x6, rfl⟩, Same.refl _⟩ (fun i σ H' _ hP => SqL.of (hP.2 _ _ eK)) (fun i x σ H' hx hP => ?_) (fun σ H' hP => trivial)
      obtain ⟨⟨x5, x6, rfl⟩, sm⟩ := hP
      refine ⟨.ref Kk, rfl, Kk, rfl, ⟨ys, SqL.of (sm _ _ eK)⟩, ?_⟩
      refine for_list (K := K) (a := Kk) (xs := ys) (fun _ σ H2 => (∃ x6, σ = sgm sc st Dv R xk (some x) x6 x7 (some (.ref Kk)) x9) ∧ Same H10 H2) ⟨⟨x6, rfl⟩, sm⟩ (fun i σ H' _ hP => SqL.of (hP.2 _ _ eK)) (fun j y σ H2 hy hQ => ?_) (fun σ H2 hQ => ⟨⟨_, hQ.1⟩, hQ.2⟩)
      obtain ⟨⟨x6, rfl⟩, sm2⟩ := hQ
      obtain ⟨d, ed, tx⟩ := tk.get hx
      obtain ⟨e, ee, ty⟩ := tk.get hy
      rw [List.getElem?_map] at ed ee
      obtain ⟨⟨k1, m1, t1⟩, f1, rfl⟩ := Option.map_eq_some_iff.mp ed
      obtain ⟨⟨k2, m2, t2⟩, f2, rfl⟩ := Option.map_eq_some_iff.mp ee
      obtain ⟨a1, b1⟩ := ak _ (List.mem_of_getElem? f1)
      obtain ⟨a2, b2⟩ := ak _ (List.mem_of_getElem? f2)
      have kt := Tk.of sm2
      refine ⟨x, rfl, x, k1, m1, t1, rfl, tx.mono kt, a1, b1, fun p Ha sa ta => ⟨y, rfl, y, k2, m2, t2, rfl, ty.mono (kt.trans (Tk.of sa)), a2, b2, fun p2 Hb sb tb => ?_⟩⟩
      have k3 : Tk H10 Hb := Tk.of ((sm2.trans sa).trans sb)
      refine ⟨x, rfl, y, rfl, x, y, k1, m1, t1, k2, m2, t2, rfl, tx.mono k3, ty.mono k3, a1, a2, b1, b2, fun Hc sc' => ?_⟩
      refine ⟨.ref p, .ref p2, _, _, _, rfl, (ta.mono (Tk.of sb)).mono (Tk.of sc'), tb.mono (Tk.of sc'), small_kd a1, key_agree a1 a2, fun Hd sd => ⟨true, rfl, iteF ⟨⟨_, rfl⟩, ?_⟩⟩⟩
      exact (((sm2.trans sa).trans sb).trans sc').trans sd
    intro σ11 H11 _
    exact q H11
end
end KB

namespace KB
open PySem PySem.Spec PyProof.Rows L2 KA
/-- a def of the text stands behind the top under its name -/
def DefAt (K : PySem.W.Frag) (x : Str) (st : Stmt) : Prop :=
  ∃ (f : Addr) (od an : Option Addr) (sl : Array (Option Value)) (oc kV dc pm cd ct : Value),
    PySem.W.nsIn K mainGlobals x = some (some (.ref f)) ∧ K.lookup f = some ⟨oc, od, .func (PySem.W.fnOf x x (defArgs st) (defBody st) (defScope st) .none kV dc pm an cd ct), sl⟩ ∧
    PySem.W.codeIn K cd x = true ∧ PySem.W.keepIn K (.ref f) = true
theorem defAt {K : PySem.W.Frag} {x : Str} {st : Stmt} {f : Addr} {od an : Option Addr} {sl : Array (Option Value)} {oc kV dc pm cd ct : Value} (a : PySem.W.nsIn K mainGlobals x = some (some (.ref f)))
    (l : K.lookup f = some ⟨oc, od, .func (PySem.W.fnOf x x (defArgs st) (defBody st) (defScope st) .none kV dc pm an cd ct), sl⟩) (c : PySem.W.codeIn K cd x = true) (k : PySem.W.keepIn K (.ref f) = true) : DefAt K x st :=
  ⟨f, od, an, sl, oc, kV, dc, pm, cd, ct, a, l, c, k⟩
section
variable {P : Program} {w : World} {K : PySem.W.Frag} {mg : Str → Option Value} {base h : Heap}
theorem mk_def {x : Str} {st : Stmt} {ps : List Str} {sp : Sp} {k : Nat} (T : DefAt K x st) (X : K.In h) (G : h.Ns mainGlobals mg)
    (bind : ∀ (kV doc pm : Value) (an : Option Addr) (cdv ct : Value) (us : List Value), us.length = ps.length → bindArgs (PySem.W.fnOf x x (defArgs st) (defBody st) (defScope st) .none kV doc pm an cdv ct) ⟨us, []⟩ = pure (ps.zip us))
    (ok : ∀ (f : Addr) (fd : FuncData), Fun K x x st f fd → FnOk P w K mg base CX0 k f fd ps sp) : Def P w K mg base x k ps sp := by
  obtain ⟨f, od, an, sl, oc, kV, dc, pm, cd, ct, a, l, c, kp⟩ := T
  have F := fun_mk l c kp
  exact ⟨f, _, ok f _ F, PySem.W.mg_of X G a, kp, F.binds bind⟩
/-- what the top has written, and the built-in names that it has not -/
structure Top (K : PySem.W.Frag) : Prop where
  vk : DefAt K "value_key" sVK
  rk : DefAt K "row_key" sRK
  sr : DefAt K "same_row" sSR
  ko : DefAt K "key_of" sKO
  ky : DefAt K "key_order" sKY
  next : DefAt K "_law_next" sNext
  sm : DefAt K "_law_same" sSM
  chars : DefAt K "_law_characters" sChars
  val : DefAt K "_law_value" sVal
  row : DefAt K "_law_row" sRow
  name : DefAt K "_law_name" sName
  term : DefAt K "_law_term" sTerm
  terms : DefAt K "_law_terms" sTerms
  lit : DefAt K "_law_literal" sLit
  body : DefAt K "_law_body" sBody
  item : DefAt K "_law_item" sItem
  bf : DefAt K "_law_before" sBF
  or_ : DefAt K "_law_order" sOR
  lk : DefAt K "_law_key" sLK
  lo : DefAt K "_law_key_order" sLO
  ag : DefAt K "_law_agrees" sAG
  law : DefAt K "law" sLaw
  zlen : PySem.W.nsIn K mainGlobals "len" = some none
  zint : PySem.W.nsIn K mainGlobals "int" = some none
  zisi : PySem.W.nsIn K mainGlobals "isinstance" = some none
  zbool : PySem.W.nsIn K mainGlobals "bool" = some none
  zstr : PySem.W.nsIn K mainGlobals "str" = some none
  ztup : PySem.W.nsIn K mainGlobals "tuple" = some none
  zlst : PySem.W.nsIn K mainGlobals "list" = some none
  zrng : PySem.W.nsIn K mainGlobals "range" = some none
  zmin : PySem.W.nsIn K mainGlobals "min" = some none
theorem Top.bt (T : Top K) (X : K.In h) (G : h.Ns mainGlobals mg) : Bt mg :=
  ⟨PySem.W.mg_none_of X G T.zlen, PySem.W.mg_none_of X G T.zint, PySem.W.mg_none_of X G T.zisi, PySem.W.mg_none_of X G T.zbool, PySem.W.mg_none_of X G T.zstr, PySem.W.mg_none_of X G T.ztup,
    PySem.W.mg_none_of X G T.zlst, PySem.W.mg_none_of X G T.zrng, PySem.W.mg_none_of X G T.zmin⟩
theorem Top.ds (T : Top K) (X : K.In h) (G : h.Ns mainGlobals mg) : Ds P w K mg base := by
  have B := T.bt X G
  have N : dNext P w K mg base := mk_def T.next X G (fun _ _ _ _ _ _ us hl => match us, hl with | [_, _], _ => rfl) fun f fd F => ok_next F B
  have C : Def P w K mg base "_law_characters" 1 [] spChars := mk_def T.chars X G (fun _ _ _ _ _ _ us hl => match us, hl with | [], _ => rfl) fun f fd F => ok_chars F
  have V : dVal P w K mg base := mk_def T.val X G (fun _ _ _ _ _ _ us hl => match us, hl with | [_], _ => rfl) fun f fd F => ok_val F B N C
  have R : dRow P w K mg base := mk_def T.row X G (fun _ _ _ _ _ _ us hl => match us, hl with | [_, _], _ => rfl) fun f fd F => ok_row F B V
  have M : dName P w K mg base := mk_def T.name X G (fun _ _ _ _ _ _ us hl => match us, hl with | [_], _ => rfl) fun f fd F => ok_name F N
  have Tm : dTerm P w K mg base := mk_def T.term X G (fun _ _ _ _ _ _ us hl => match us, hl with | [_], _ => rfl) fun f fd F => ok_term F N V M
  have Ts : dTerms P w K mg base := mk_def T.terms X G (fun _ _ _ _ _ _ us hl => match us, hl with | [_], _ => rfl) fun f fd F => ok_terms F B N Tm
  have Lt : dLit P w K mg base := mk_def T.lit X G (fun _ _ _ _ _ _ us hl => match us, hl with | [_], _ => rfl) fun f fd F => ok_lit F N Tm M Ts
  have Bd : dBody P w K mg base := mk_def T.body X G (fun _ _ _ _ _ _ us hl => match us, hl with | [_], _ => rfl) fun f fd F => ok_body F B N Lt
  have I : Def P w K mg base "_law_item" 7 ["state"] spItem := mk_def T.item X G (fun _ _ _ _ _ _ us hl => match us, hl with | [_], _ => rfl) fun f fd F => ok_item F N R M Ts Bd
  have VK : Def P w K mg base "value_key" 1 ["value"] spVK := mk_def T.vk X G (fun _ _ _ _ _ _ us hl => match us, hl with | [_], _ => rfl) fun f fd F => ok_vk F B
  have RK : dRK P w K mg base := mk_def T.rk X G (fun _ _ _ _ _ _ us hl => match us, hl with | [_], _ => rfl) fun f fd F => ok_rk F B VK
  have SR : Def P w K mg base "same_row" 3 ["first", "second"] spSR := mk_def T.sr X G (fun _ _ _ _ _ _ us hl => match us, hl with | [_, _], _ => rfl) fun f fd F => ok_sr F RK
  have KO : Def P w K mg base "key_of" 1 ["item"] spKO := mk_def T.ko X G (fun _ _ _ _ _ _ us hl => match us, hl with | [_], _ => rfl) fun f fd F => ok_ko F
  have KY : Def P w K mg base "key_order" 3 ["key"] spKY := mk_def T.ky X G (fun _ _ _ _ _ _ us hl => match us, hl with | [_], _ => rfl) fun f fd F => ok_ky F RK
  have BF : dBF P w K mg base := mk_def T.bf X G (fun _ _ _ _ _ _ us hl => match us, hl with | [_, _], _ => rfl) fun f fd F => ok_bf F B
  have OR : dOR P w K mg base := mk_def T.or_ X G (fun _ _ _ _ _ _ us hl => match us, hl with | [_, _], _ => rfl) fun f fd F => ok_or F B BF
  have LK : Def P w K mg base "_law_key" 1 ["item"] spKO := mk_def T.lk X G (fun _ _ _ _ _ _ us hl => match us, hl with | [_], _ => rfl) fun f fd F => ok_lk F
  have LO : Def P w K mg base "_law_key_order" 3 ["first", "second"] spLO := mk_def T.lo X G (fun _ _ _ _ _ _ us hl => match us, hl with | [_, _], _ => rfl) fun f fd F => ok_lo F B OR
  have AG : Def P w K mg base "_law_agrees" 1 ["left", "right", "order"] spAG := mk_def T.ag X G (fun _ _ _ _ _ _ us hl => match us, hl with | [_, _, _], _ => rfl) fun f fd F => ok_ag F B
  have S0 : Def P w K mg base "_law_same" 1 ["actual", "expected"] (spSM 0) := mk_def T.sm X G (fun _ _ _ _ _ _ us hl => match us, hl with | [_, _], _ => rfl) fun f fd F => ok_sm F B 0 (.inl rfl)
  have S1 : Def P w K mg base "_law_same" 2 ["actual", "expected"] (spSM 1) := mk_def T.sm X G (fun _ _ _ _ _ _ us hl => match us, hl with | [_, _], _ => rfl) fun f fd F => ok_sm F B 1 (.inr ⟨0, rfl, S0⟩)
  have S2 : Def P w K mg base "_law_same" 3 ["actual", "expected"] (spSM 2) := mk_def T.sm X G (fun _ _ _ _ _ _ us hl => match us, hl with | [_, _], _ => rfl) fun f fd F => ok_sm F B 2 (.inr ⟨1, rfl, S1⟩)
  exact ⟨N, V, R, I, VK, RK, SR, KO, KY, OR, LK, LO, AG, S2⟩
theorem all_mk {l : PySem.W.OpenLaw} {fa : Addr} (T : Top K) (X : K.In h) (G : h.Ns mainGlobals mg) (hfa : mg "law" = some (.ref fa)) :
    ∃ fd : FuncData, (∀ (s : Shared) (v : Value), BindsTo s fd ⟨[v], []⟩ [("script", v)]) ∧ ∀ base : Heap, K.In base → base.Ns mainGlobals mg → FnOk l.prog w K mg base CX0 8 fa fd ["script"] (spLaw K) := by
  obtain ⟨f, od, an, sl, oc, kV, dc, pm, cd, ct, a, lk, c, kp⟩ := T.law
  have e := hfa.symm.trans (PySem.W.mg_of X G a)
  cases e
  have F := fun_mk lk c kp
  exact ⟨_, fun s v => .of_eq rfl, fun base _ _ => ok_law F (T.bt X G) (T.ds X G)⟩
end
end KB
open PySem PySem.W PyProof.Rows
set_option maxHeartbeats 0 in
theorem PySem.Challenge.cw_rulestead_k01_values_rows_and_keys_holds : PySem.Challenge.rw_rulestead_k01_values_rows_and_keys.Holds := by
  w_on; o_law; k_head; (case hw => w_witness2)
  k_fill
  refine L2.walk_of (l := PySem.Challenge.rw_rulestead_k01_values_rows_and_keys) (n := 63) (k := 8) (x := "script") (CX := fun _ => L2.CX0) (sp := fun w => KB.spLaw _) rfl (by decide) rfl ⟨rfl, by decide, by decide⟩ (fun w h Y => PySem.W.kIn_of Y) ?F (fun _ _ a ns hl _ hS => ⟨a, ns, rfl, hS, hl, fun _ => rfl⟩) (fun _ _ _ _ _ h => h)
  case F =>
    intro w mg fa h KX G hmg
    refine KB.all_mk ?T KX G hmg
    case T =>
      constructor
      all_goals first | k_is | (refine' KB.defAt ?a ?l ?c ?k; (case a => k_is); (case l => k_is); (case c => k_is); (case k => k_is))

